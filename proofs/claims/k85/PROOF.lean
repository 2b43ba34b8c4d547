import PyProof.Rows.All
import Wide.All
import OpenK.AllK
import Wide.FinOn
import Lean
import PyProof.EqAt
import PyProof.EqKinds
import PyProof.TupleCall
import PyProof.NeKinds
import KE.KIntText
import PyProof.StrCalls
import PyProof.ZipIter
import PyProof.Rows.SetFrom
import PyProof.SetRoads
import PyProof.CompUse
import PyProof.Rows.MinMaxN
import PyProof.Rows.SortStr
import PyProof.Rows.SortWalk
import PyProof.Rows.SeqMore2
import KE.KMinKey
import PyProof.Rows.CallKwBuiltin
import PyProof.TupleOfStr
import PyProof.Draws
import PyProof.Rows.TupIter
import KE.KxText
import PyProof.FString5
import PyProof.DictWalks
import PyProof.CollectStr
import PyProof.FactsAll.set_1
import KE.KDictLaws
import PySem.Challenge.RW_oldhands_k85_kinds_in_words
set_option Elab.async false
set_option linter.all false
set_option maxHeartbeats 4000000
set_option maxRecDepth 100000
namespace L2
open PySem PySem.Spec PyProof.Rows
def a7 (s:Stmt) (j:Nat):Stmt:=match s with
 | .ClassDef _ _ _ body _ _ _ _ _ _ _=>body.getD j (.Pass ⟨0,0,0,0⟩)
 | _=>.Pass ⟨0,0,0,0⟩
def bF (s:Stmt):Arguments:=match s with
 | .FunctionDef _ a _ _ _ _ _ _ _ _=>a
 | _=>{ posonlyargs:=[],args:=[],vararg:=none,kwonlyargs:=[],kw_defaults:=[],kwarg:=none,defaults:=[] }
def bj (s:Stmt):List Stmt:=match s with
 | .FunctionDef _ _ b _ _ _ _ _ _ _=>b
 | _=>[]
def ac (s:Stmt):Scope:=match s with
 | .FunctionDef _ _ _ _ _ _ sc _ _ _=>sc
 | _=>{ kind:=.function,names:=[],isGenerator:=false,isCoroutine:=false }
end L2
namespace K85
open PySem L2 PyProof.Rows
def top (i:Nat):Stmt:=PySem.Challenge.pw_oldhands_k85_kinds_in_words.main.body.getD i (.Pass ⟨0,0,0,0⟩)
noncomputable def hT (t:Nat):Value:=.str "/claim/cut.py" t
noncomputable def hE (P:Params) (x:Str) (t:Nat) (v:Value):DictEntry:={ hash:=PyData.keyHash P x,key:=.str x t,val:=v }
noncomputable def hF (x y m:Str) (st:Stmt) (t c:Nat):Obj:={ cls:=.type "function",data:=.func (PySem.W.fnOf x y (bF st) (bj st) (ac st) .none .none .none (.str m t) none (.ref c) .none) }
noncomputable def hU (x y:Str) (st:Stmt):Obj:={ cls:=.none,data:=.func { name:=x,qualname:=y,params:=bF st,body:=.stmts (bj st),scope:=ac st,globals:=builtinsNs,closure:=[],defaults:=.none,kwdefaults:=.none } }
noncomputable def hC (x y:Str) (t u v:Nat) (r:List Value):Obj:={ cls:=.type "code",data:=.fields (Array.mk (.str x t :: .str y u :: hT v :: r)) }
noncomputable def hS (r:List Value):Obj:={ cls:=.type "tuple",data:=.seq (Array.mk r) }
noncomputable def hN:Obj:={ cls:=.none,data:=.fields (Array.mk []) }
noncomputable def gE:Params→List DictEntry:=fun P =>
 hE P "__doc__" 166 (.none) ::
 hE P "__package__" 167 (.none) ::
 hE P "__loader__" 168 (.builtin "__main__.__loader__#opaque") ::
 hE P "__spec__" 169 (.none) ::
 hE P "__annotations__" 170 (.ref 6) ::
 hE P "__builtins__" 171 (.ref 4) ::
 hE P "__file__" 173 (.str ("/claim/cut.py") 172) ::
 hE P "__cached__" 174 (.none) ::
 hE P "HandError" 206 (.ref 24) ::
 hE P "BadKind" 222 (.ref 37) ::
 hE P "BadText" 238 (.ref 49) ::
 hE P "LETTERS" 242 (.str ("abcdefghijklmnopqrstuvwxyz") 241) ::
 hE P "LONGEST_NAME" 244 (.int 8 243) ::
 hE P "EACH" 246 (.str ("each") 245) ::
 hE P "MOST_SIGNS" 248 (.int 60 247) ::
 hE P "MOST_WORDS" 250 (.int 8 249) ::
 hE P "MOST_FIELDS" 252 (.int 8 251) ::
 hE P "MOST_ITEMS" 254 (.int 8 253) ::
 hE P "MOST_KINDS" 256 (.int 40 255) ::
 hE P "DEEPEST" 258 (.int 5 257) ::
 hE P "PART_COUNTS" 277 (.ref 52) ::
 hE P "is_name" 283 (.ref 57) ::
 hE P "is_whole" 290 (.ref 64) ::
 hE P "is_whole_within" 299 (.ref 71) ::
 hE P "made_kind" 306 (.ref 78) ::
 hE P "is_formed" 315 (.ref 85) ::
 hE P "has_parts" 322 (.ref 92) ::
 hE P "are_bounds" 330 (.ref 99) ::
 hE P "are_words" 336 (.ref 104) ::
 hE P "are_fields" 342 (.ref 109) ::
 hE P "is_field" 350 (.ref 116) ::
 hE P "are_rows" 360 (.ref 123) ::
 hE P "field_kind" 370 (.ref 130) ::
 hE P "item_kind" 377 (.ref 137) ::
 hE P "kinds_within" 383 (.ref 142) ::
 hE P "kind_many" 389 (.ref 147) ::
 hE P "PERCENT" 393 (.int 37 392) ::
 hE P "is_sign" 400 (.ref 154) ::
 hE P "FIGURES" 404 (.str ("0123456789") 403) ::
 hE P "figures_of" 411 (.ref 161) ::
 hE P "number_of" 417 (.ref 166) ::
 hE P "KIND_PARTS" 436 (.ref 167) ::
 hE P "TURN_PARTS" 468 (.ref 172) ::
 hE P "PIECE_PARTS" 520 (.ref 183) ::
 hE P "parts_behind" 528 (.ref 200) ::
 hE P "kind_text" 534 (.ref 205) ::
 hE P "most_exchanged" 542 (.ref 212) ::
 hE P "value_text" 548 (.ref 217) ::
 hE P "turn_text" 554 (.ref 222) ::
 hE P "form_text" 560 (.ref 227) ::
 hE P "part_text" 568 (.ref 234) ::
 hE P "in_brackets" 577 (.ref 241) ::
 hE P "with_commas" 584 (.ref 248) ::
 hE P "pair_text" 592 (.ref 255) ::
 hE P "quoted" 599 (.ref 262) ::
 hE P "BLANK" 603 (.str (" ") 602) ::
 hE P "QUOTE" 605 (.str ("\"") 604) ::
 hE P "MINUS" 607 (.str ("-") 606) ::
 hE P "OPENING" 609 (.str ("([{") 608) ::
 hE P "CLOSING" 611 (.str (")]}") 610) ::
 hE P "MARKS" 613 (.str ("()[]{},:;/") 612) ::
 hE P "MOST_FIGURES" 615 (.int 60 614) ::
 hE P "MOST_BRACKETS" 617 (.int 40 616) ::
 hE P "END" 620 (.ref 263) ::
 hE P "words_of" 630 (.ref 270) ::
 hE P "word_end" 639 (.ref 277) ::
 hE P "run_end" 649 (.ref 284) ::
 hE P "made_word" 655 (.ref 289) ::
 hE P "deepest_brackets" 666 (.ref 296) ::
 hE P "WordRow" 730 (.ref 341) ::
 hE P "PAIR_SORTS" 742 (.ref 346) ::
 hE P "BRACKETED" 755 (.ref 350) ::
 hE P "read_kind" 762 (.ref 357) ::
 hE P "read_all" 772 (.ref 364) ::
 hE P "part_read" 781 (.ref 371) ::
 hE P "pair_read" 790 (.ref 378) ::
 hE P "kind_read" 799 (.ref 385) ::
 hE P "value_read" 810 (.ref 392) ::
 hE P "turn_read" 819 (.ref 399) ::
 hE P "path_read" 827 (.ref 406) ::
 hE P "form_read" 839 (.ref 413) ::
 hE P "list_read" 849 (.ref 420) ::
 hE P "at_least_one" 856 (.ref 427) ::
 hE P "_law_cell_at" 866 (.ref 434) ::
 hE P "_law_mixed" 875 (.ref 441) ::
 hE P "_law_own" 887 (.ref 448) ::
 hE P "_law_digit" 896 (.ref 455) ::
 hE P "_law_names" 902 (.ref 460) ::
 hE P "_law_number_kind" 911 (.ref 467) ::
 hE P "_law_leaf_kind" 920 (.ref 474) ::
 hE P "_law_record_kind" 932 (.ref 481) ::
 hE P "_law_rows_kind" 946 (.ref 488) ::
 hE P "_law_kind" 956 (.ref 495) ::
 hE P "_law_kind_words" 968 (.ref 502) ::
 hE P "_law_tight" 974 (.ref 507) ::
 hE P "_law_loose" 980 (.ref 512) ::
 hE P "law" 993 (.ref 519) ::
 []
noncomputable def gD (P:Params) (x:Str) (t m k:Nat):Obj:={ cls:=.type "dict",data:=.dict (Array.mk (hE P "__name__" 165 (.str x t) :: (gE P).take m)) k }
noncomputable def tE:List Value:=.int 2 0 :: .int 0 0 :: .ref 20 :: .int 4 0 :: .int 0 0 :: .ref 33 :: .int 6 0 :: .int 0 0 :: .ref 45 :: .int 19 0 :: .int 0 0 :: .ref 56 :: .int 23 0 :: .int 0 0 :: .ref 63 :: .int 25 0 :: .int 0 0 :: .ref 70 :: .int 27 0 :: .int 0 0 :: .ref 77 :: .int 33 0 :: .int 0 0 :: .ref 84 :: .int 48 0 :: .int 0 0 :: .ref 91 :: .int 52 0 :: .int 0 0 :: .ref 98 :: .int 56 0 :: .int 0 0 :: .ref 103 :: .int 60 0 :: .int 0 0 :: .ref 108 :: .int 67 0 :: .int 0 0 :: .ref 115 :: .int 71 0 :: .int 0 0 :: .ref 122 :: .int 76 0 :: .int 0 0 :: .ref 129 :: .int 83 0 :: .int 0 0 :: .ref 136 :: .int 89 0 :: .int 0 0 :: .ref 141 :: .int 94 0 :: .int 0 0 :: .ref 146 :: .int 98 0 :: .int 0 0 :: .ref 153 :: .int 102 0 :: .int 0 0 :: .ref 160 :: .int 104 0 :: .int 0 0 :: .ref 165 :: .int 115 0 :: .int 0 0 :: .ref 199 :: .int 121 0 :: .int 0 0 :: .ref 204 :: .int 128 0 :: .int 0 0 :: .ref 211 :: .int 132 0 :: .int 0 0 :: .ref 216 :: .int 144 0 :: .int 0 0 :: .ref 221 :: .int 151 0 :: .int 0 0 :: .ref 226 :: .int 154 0 :: .int 0 0 :: .ref 233 :: .int 162 0 :: .int 0 0 :: .ref 240 :: .int 165 0 :: .int 0 0 :: .ref 247 :: .int 167 0 :: .int 0 0 :: .ref 254 :: .int 169 0 :: .int 0 0 :: .ref 261 :: .int 181 0 :: .int 0 0 :: .ref 269 :: .int 192 0 :: .int 0 0 :: .ref 276 :: .int 203 0 :: .int 0 0 :: .ref 283 :: .int 208 0 :: .int 0 0 :: .ref 288 :: .int 219 0 :: .int 0 0 :: .ref 295 :: .int 229 0 :: .int 0 0 :: .ref 302 :: .int 256 0 :: .int 0 0 :: .ref 356 :: .int 258 0 :: .int 0 0 :: .ref 363 :: .int 264 0 :: .int 0 0 :: .ref 370 :: .int 281 0 :: .int 0 0 :: .ref 377 :: .int 285 0 :: .int 0 0 :: .ref 384 :: .int 295 0 :: .int 0 0 :: .ref 391 :: .int 303 0 :: .int 0 0 :: .ref 398 :: .int 310 0 :: .int 0 0 :: .ref 405 :: .int 319 0 :: .int 0 0 :: .ref 412 :: .int 331 0 :: .int 0 0 :: .ref 419 :: .int 339 0 :: .int 0 0 :: .ref 426 :: .int 344 0 :: .int 0 0 :: .ref 433 :: .int 348 0 :: .int 0 0 :: .ref 440 :: .int 351 0 :: .int 0 0 :: .ref 447 :: .int 359 0 :: .int 0 0 :: .ref 454 :: .int 363 0 :: .int 0 0 :: .ref 459 :: .int 373 0 :: .int 0 0 :: .ref 466 :: .int 377 0 :: .int 0 0 :: .ref 473 :: .int 387 0 :: .int 0 0 :: .ref 480 :: .int 393 0 :: .int 0 0 :: .ref 487 :: .int 405 0 :: .int 0 0 :: .ref 494 :: .int 415 0 :: .int 0 0 :: .ref 501 :: .int 434 0 :: .int 0 0 :: .ref 506 :: .int 436 0 :: .int 0 0 :: .ref 511 :: .int 438 0 :: .int 0 0 :: .ref 518 :: []
noncomputable def tD (m:Nat):Obj:={ cls:=.none,data:=.fields (Array.mk (tE.take m)) }
noncomputable def o0 (P:Params):Obj:=PySem.W.boot_o_0 P
noncomputable def o1 (P:Params):Obj:=PySem.W.boot_o_1 P
noncomputable def o2 (P:Params):Obj:=PySem.W.boot_o_2 P
noncomputable def o3 (P:Params):Obj:={ cls:=.type "dict",data:=.dict (Array.mk (hE P "__name__" 165 (.str ("law_oldhands_k85_kinds_in_words") 857) :: gE P)) 98 }
noncomputable def o4 (P:Params):Obj:=PySem.W.boot_o_4 P
noncomputable def o5 (P:Params):Obj:=PySem.W.boot_o_5 P
noncomputable def o6 (P:Params):Obj:=PySem.W.boot_o_6 P
noncomputable def o7 (P:Params):Obj:=PySem.W.boot_o_7 P
noncomputable def o8 (P:Params):Obj:=PySem.W.boot_o_8 P
noncomputable def o9 (P:Params):Obj:=PySem.W.boot_o_9 P
noncomputable def o10 (P:Params):Obj:=PySem.W.boot_o_10 P
noncomputable def o11 (P:Params):Obj:=hS []
noncomputable def o12 (P:Params):Obj:={ cls:=.none,data:=.fields (Array.mk tE) }
noncomputable def o13 (P:Params):Obj:=hC "<module>" "<module>" 182 183 184 [.int 1 0,.int 0 0,.int 0 0,.int 0 0,.int 0 0,.ref 11,.bool false,.int 181 0,.ref 12,.none,.none,.none,.none,.int 185 0,.int 1 0,hT 186]
noncomputable def o14 (P:Params):Obj:={ cls:=.type "frame",slots:=#[some (.ref 13),some (.ref 3),some (.ref 3),none,some (.str ("__main__") 164),none,some (.ref 0)] }
noncomputable def o15 (P:Params):Obj:=hS [.type "ValueError"]
noncomputable def o16 (P:Params):Obj:={ cls:=.type "builtin_function_or_method",data:=.fields #[.builtin "type.__prepare__",.type "type"] }
noncomputable def o17 (P:Params):Obj:={ cls:=.type "dict",data:=.dict #[hE P "__module__" 196 (.str ("oldhands.errors") 187),hE P "__qualname__" 198 (.str ("HandError") 197),hE P "__firstlineno__" 200 (.int 2 199),hE P "__static_attributes__" 201 (.ref 22)] 4 }
noncomputable def o18 (P:Params):Obj:=hS []
noncomputable def o19 (P:Params):Obj:=hN
noncomputable def o20 (P:Params):Obj:=hC "HandError" "HandError" 191 192 193 [.int 2 0,.int 0 0,.int 0 0,.int 0 0,.int 0 0,.ref 18,.bool false,.int 181 0,.ref 19,.none,.none,.none,.none,.int 194 0,.int 2 0,hT 195]
noncomputable def o21 (P:Params):Obj:={ cls:=.type "frame",slots:=#[some (.ref 20),some (.ref 3),some (.ref 17),none,some (.str ("oldhands.errors") 187),none,some (.ref 0)] }
noncomputable def o22 (P:Params):Obj:=hS []
noncomputable def o23 (P:Params):Obj:={ cls:=.type "dict",data:=.dict #[hE P "__module__" 196 (.str ("oldhands.errors") 187),hE P "__firstlineno__" 200 (.int 2 199),hE P "__static_attributes__" 201 (.ref 22),hE P "__weakref__" 203 (.ref 25),hE P "__doc__" 204 (.none)] 3 }
noncomputable def o24 (P:Params):Obj:={ cls:=.type "type",data:=.cls { name:= "HandError",bases:=[.type "ValueError"],mro:=[.ref 24,.type "ValueError",.type "Exception",.type "BaseException",.type "object"],ns:=23,qualname:= "HandError",subclasses:=[.ref 37,.ref 49] },slots:=#[some (.ref 15),none,some (.str ("HandError") 189),some (.str ("HandError") 197),some (.builtin "ValueError.__new__"),some (.bool true)] }
noncomputable def o25 (P:Params):Obj:={ cls:=.type "getset_descriptor",data:=.fields #[.str ("__weakref__") 202,.ref 24,.builtin "ExceptionGroup.__weakref__",.none] }
noncomputable def o26 (P:Params):Obj:={ cls:=.type "super",data:=.fields #[.ref 24,.ref 24,.ref 24] }
noncomputable def o27 (P:Params):Obj:={ cls:=.type "builtin_function_or_method",data:=.fields #[.builtin "object.__init_subclass__",.ref 24] }
noncomputable def o28 (P:Params):Obj:=hS [.ref 24]
noncomputable def o29 (P:Params):Obj:={ cls:=.type "builtin_function_or_method",data:=.fields #[.builtin "type.__prepare__",.type "type"] }
noncomputable def o30 (P:Params):Obj:={ cls:=.type "dict",data:=.dict #[hE P "__module__" 214 (.str ("oldhands.errors") 187),hE P "__qualname__" 216 (.str ("BadKind") 215),hE P "__firstlineno__" 218 (.int 4 217),hE P "__static_attributes__" 219 (.ref 35)] 4 }
noncomputable def o31 (P:Params):Obj:=hS []
noncomputable def o32 (P:Params):Obj:=hN
noncomputable def o33 (P:Params):Obj:=hC "BadKind" "BadKind" 209 210 211 [.int 4 0,.int 0 0,.int 0 0,.int 0 0,.int 0 0,.ref 31,.bool false,.int 181 0,.ref 32,.none,.none,.none,.none,.int 212 0,.int 4 0,hT 213]
noncomputable def o34 (P:Params):Obj:={ cls:=.type "frame",slots:=#[some (.ref 33),some (.ref 3),some (.ref 30),none,some (.str ("oldhands.errors") 187),none,some (.ref 0)] }
noncomputable def o35 (P:Params):Obj:=hS []
noncomputable def o36 (P:Params):Obj:={ cls:=.type "dict",data:=.dict #[hE P "__module__" 214 (.str ("oldhands.errors") 187),hE P "__firstlineno__" 218 (.int 4 217),hE P "__static_attributes__" 219 (.ref 35),hE P "__doc__" 220 (.none)] 2 }
noncomputable def o37 (P:Params):Obj:={ cls:=.type "type",data:=.cls { name:= "BadKind",bases:=[.ref 24],mro:=[.ref 37,.ref 24,.type "ValueError",.type "Exception",.type "BaseException",.type "object"],ns:=36,qualname:= "BadKind" },slots:=#[some (.ref 28),none,some (.str ("BadKind") 207),some (.str ("BadKind") 215),some (.builtin "ValueError.__new__"),some (.bool true)] }
noncomputable def o38 (P:Params):Obj:={ cls:=.type "super",data:=.fields #[.ref 37,.ref 37,.ref 37] }
noncomputable def o39 (P:Params):Obj:={ cls:=.type "builtin_function_or_method",data:=.fields #[.builtin "object.__init_subclass__",.ref 37] }
noncomputable def o40 (P:Params):Obj:=hS [.ref 24]
noncomputable def o41 (P:Params):Obj:={ cls:=.type "builtin_function_or_method",data:=.fields #[.builtin "type.__prepare__",.type "type"] }
noncomputable def o42 (P:Params):Obj:={ cls:=.type "dict",data:=.dict #[hE P "__module__" 230 (.str ("oldhands.errors") 187),hE P "__qualname__" 232 (.str ("BadText") 231),hE P "__firstlineno__" 234 (.int 6 233),hE P "__static_attributes__" 235 (.ref 47)] 4 }
noncomputable def o43 (P:Params):Obj:=hS []
noncomputable def o44 (P:Params):Obj:=hN
noncomputable def o45 (P:Params):Obj:=hC "BadText" "BadText" 225 226 227 [.int 6 0,.int 0 0,.int 0 0,.int 0 0,.int 0 0,.ref 43,.bool false,.int 181 0,.ref 44,.none,.none,.none,.none,.int 228 0,.int 6 0,hT 229]
noncomputable def o46 (P:Params):Obj:={ cls:=.type "frame",slots:=#[some (.ref 45),some (.ref 3),some (.ref 42),none,some (.str ("oldhands.errors") 187),none,some (.ref 0)] }
noncomputable def o47 (P:Params):Obj:=hS []
noncomputable def o48 (P:Params):Obj:={ cls:=.type "dict",data:=.dict #[hE P "__module__" 230 (.str ("oldhands.errors") 187),hE P "__firstlineno__" 234 (.int 6 233),hE P "__static_attributes__" 235 (.ref 47),hE P "__doc__" 236 (.none)] 2 }
noncomputable def o49 (P:Params):Obj:={ cls:=.type "type",data:=.cls { name:= "BadText",bases:=[.ref 24],mro:=[.ref 49,.ref 24,.type "ValueError",.type "Exception",.type "BaseException",.type "object"],ns:=48,qualname:= "BadText" },slots:=#[some (.ref 40),none,some (.str ("BadText") 223),some (.str ("BadText") 231),some (.builtin "ValueError.__new__"),some (.bool true)] }
noncomputable def o50 (P:Params):Obj:={ cls:=.type "super",data:=.fields #[.ref 49,.ref 49,.ref 49] }
noncomputable def o51 (P:Params):Obj:={ cls:=.type "builtin_function_or_method",data:=.fields #[.builtin "object.__init_subclass__",.ref 49] }
noncomputable def o52 (P:Params):Obj:={ cls:=.type "dict",data:=.dict #[hE P "number" 259 (.int 3 260),hE P "text" 261 (.int 2 262),hE P "choice" 263 (.int 2 264),hE P "list" 265 (.int 3 266),hE P "record" 267 (.int 2 268),hE P "rows" 269 (.int 4 270)] 6 }
noncomputable def o53 (P:Params):Obj:=hS []
noncomputable def o54 (P:Params):Obj:=hN
noncomputable def o55 (P:Params):Obj:=hU "is_name" "is_name" (top 15)
noncomputable def o56 (P:Params):Obj:=hC "is_name" "is_name" 278 279 280 [.int 19 0,.int 1 0,.int 0 0,.int 0 0,.int 3 0,.ref 53,.bool true,.int 181 0,.ref 54,.none,.none,.none,.ref 55,.int 281 0,.int 19 0,hT 282]
noncomputable def o57 (P:Params):Obj:=hF "is_name" "is_name" "oldhands.kinds" (top 15) 239 56
noncomputable def o58 (P:Params):Obj:=hS []
noncomputable def o59 (P:Params):Obj:=hN
noncomputable def o60 (P:Params):Obj:=hS [.str ("thing") 287]
noncomputable def o61 (P:Params):Obj:=hS []
noncomputable def o62 (P:Params):Obj:=hU "is_whole" "is_whole" (top 16)
noncomputable def o63 (P:Params):Obj:=hC "is_whole" "is_whole" 284 285 286 [.int 23 0,.int 1 0,.int 0 0,.int 0 0,.int 3 0,.ref 58,.bool true,.int 181 0,.ref 59,.none,.ref 60,.ref 61,.ref 62,.int 288 0,.int 23 0,hT 289]
noncomputable def o64 (P:Params):Obj:=hF "is_whole" "is_whole" "oldhands.kinds" (top 16) 239 63
noncomputable def o65 (P:Params):Obj:=hS []
noncomputable def o66 (P:Params):Obj:=hN
noncomputable def o67 (P:Params):Obj:=hS [.str ("thing") 294,.str ("low") 295,.str ("high") 296]
noncomputable def o68 (P:Params):Obj:=hS []
noncomputable def o69 (P:Params):Obj:=hU "is_whole_within" "is_whole_within" (top 17)
noncomputable def o70 (P:Params):Obj:=hC "is_whole_within" "is_whole_within" 291 292 293 [.int 25 0,.int 3 0,.int 0 0,.int 0 0,.int 3 0,.ref 65,.bool true,.int 181 0,.ref 66,.none,.ref 67,.ref 68,.ref 69,.int 297 0,.int 25 0,hT 298]
noncomputable def o71 (P:Params):Obj:=hF "is_whole_within" "is_whole_within" "oldhands.kinds" (top 17) 239 70
noncomputable def o72 (P:Params):Obj:=hS []
noncomputable def o73 (P:Params):Obj:=hN
noncomputable def o74 (P:Params):Obj:=hS [.str ("kind") 303]
noncomputable def o75 (P:Params):Obj:=hS []
noncomputable def o76 (P:Params):Obj:=hU "made_kind" "made_kind" (top 18)
noncomputable def o77 (P:Params):Obj:=hC "made_kind" "made_kind" 300 301 302 [.int 27 0,.int 1 0,.int 0 0,.int 0 0,.int 3 0,.ref 72,.bool true,.int 181 0,.ref 73,.none,.ref 74,.ref 75,.ref 76,.int 304 0,.int 27 0,hT 305]
noncomputable def o78 (P:Params):Obj:=hF "made_kind" "made_kind" "oldhands.kinds" (top 18) 239 77
noncomputable def o79 (P:Params):Obj:=hS []
noncomputable def o80 (P:Params):Obj:=hN
noncomputable def o81 (P:Params):Obj:=hS [.str ("thing") 310,.str ("room") 311,.str ("word") 312]
noncomputable def o82 (P:Params):Obj:=hS []
noncomputable def o83 (P:Params):Obj:=hU "is_formed" "is_formed" (top 19)
noncomputable def o84 (P:Params):Obj:=hC "is_formed" "is_formed" 307 308 309 [.int 33 0,.int 2 0,.int 0 0,.int 0 0,.int 3 0,.ref 79,.bool true,.int 181 0,.ref 80,.none,.ref 81,.ref 82,.ref 83,.int 313 0,.int 33 0,hT 314]
noncomputable def o85 (P:Params):Obj:=hF "is_formed" "is_formed" "oldhands.kinds" (top 19) 239 84
noncomputable def o86 (P:Params):Obj:=hS []
noncomputable def o87 (P:Params):Obj:=hN
noncomputable def o88 (P:Params):Obj:=hS [.str ("thing") 319]
noncomputable def o89 (P:Params):Obj:=hS []
noncomputable def o90 (P:Params):Obj:=hU "has_parts" "has_parts" (top 20)
noncomputable def o91 (P:Params):Obj:=hC "has_parts" "has_parts" 316 317 318 [.int 48 0,.int 1 0,.int 0 0,.int 0 0,.int 3 0,.ref 86,.bool true,.int 181 0,.ref 87,.none,.ref 88,.ref 89,.ref 90,.int 320 0,.int 48 0,hT 321]
noncomputable def o92 (P:Params):Obj:=hF "has_parts" "has_parts" "oldhands.kinds" (top 20) 239 91
noncomputable def o93 (P:Params):Obj:=hS []
noncomputable def o94 (P:Params):Obj:=hN
noncomputable def o95 (P:Params):Obj:=hS [.str ("low") 326,.str ("high") 327]
noncomputable def o96 (P:Params):Obj:=hS []
noncomputable def o97 (P:Params):Obj:=hU "are_bounds" "are_bounds" (top 21)
noncomputable def o98 (P:Params):Obj:=hC "are_bounds" "are_bounds" 323 324 325 [.int 52 0,.int 2 0,.int 0 0,.int 0 0,.int 3 0,.ref 93,.bool true,.int 181 0,.ref 94,.none,.ref 95,.ref 96,.ref 97,.int 328 0,.int 52 0,hT 329]
noncomputable def o99 (P:Params):Obj:=hF "are_bounds" "are_bounds" "oldhands.kinds" (top 21) 239 98
noncomputable def AT (P:Params):Obj:=hS []
noncomputable def AU (P:Params):Obj:=hN
noncomputable def AV (P:Params):Obj:=hU "are_words" "are_words" (top 22)
noncomputable def wJ (P:Params):Obj:=hC "are_words" "are_words" 331 332 333 [.int 56 0,.int 1 0,.int 0 0,.int 0 0,.int 3 0,.ref 100,.bool true,.int 181 0,.ref 101,.none,.none,.none,.ref 102,.int 334 0,.int 56 0,hT 335]
noncomputable def wK (P:Params):Obj:=hF "are_words" "are_words" "oldhands.kinds" (top 22) 239 103
noncomputable def AW (P:Params):Obj:=hS []
noncomputable def AX (P:Params):Obj:=hN
noncomputable def AY (P:Params):Obj:=hU "are_fields" "are_fields" (top 23)
noncomputable def wL (P:Params):Obj:=hC "are_fields" "are_fields" 337 338 339 [.int 60 0,.int 2 0,.int 0 0,.int 0 0,.int 3 0,.ref 105,.bool true,.int 181 0,.ref 106,.none,.none,.none,.ref 107,.int 340 0,.int 60 0,hT 341]
noncomputable def wM (P:Params):Obj:=hF "are_fields" "are_fields" "oldhands.kinds" (top 23) 239 108
noncomputable def AZ (P:Params):Obj:=hS []
noncomputable def A0 (P:Params):Obj:=hN
noncomputable def A1 (P:Params):Obj:=hS [.str ("field") 346,.str ("room") 347]
noncomputable def A2 (P:Params):Obj:=hS []
noncomputable def A3 (P:Params):Obj:=hU "is_field" "is_field" (top 24)
noncomputable def wN (P:Params):Obj:=hC "is_field" "is_field" 343 344 345 [.int 67 0,.int 2 0,.int 0 0,.int 0 0,.int 3 0,.ref 110,.bool true,.int 181 0,.ref 111,.none,.ref 112,.ref 113,.ref 114,.int 348 0,.int 67 0,hT 349]
noncomputable def wO (P:Params):Obj:=hF "is_field" "is_field" "oldhands.kinds" (top 24) 239 115
noncomputable def A4 (P:Params):Obj:=hS []
noncomputable def A5 (P:Params):Obj:=hN
noncomputable def A6 (P:Params):Obj:=hS [.str ("key") 354,.str ("items") 355,.str ("room") 356,.str ("key_kind") 357]
noncomputable def A7 (P:Params):Obj:=hS []
noncomputable def A8 (P:Params):Obj:=hU "are_rows" "are_rows" (top 25)
noncomputable def wP (P:Params):Obj:=hC "are_rows" "are_rows" 351 352 353 [.int 71 0,.int 3 0,.int 0 0,.int 0 0,.int 3 0,.ref 117,.bool true,.int 181 0,.ref 118,.none,.ref 119,.ref 120,.ref 121,.int 358 0,.int 71 0,hT 359]
noncomputable def wQ (P:Params):Obj:=hF "are_rows" "are_rows" "oldhands.kinds" (top 25) 239 122
noncomputable def A9 (P:Params):Obj:=hS []
noncomputable def Ba (P:Params):Obj:=hN
noncomputable def Bb (P:Params):Obj:=hS [.str ("kind") 364,.str ("name") 365,.str ("own") 366,.str ("inner") 367]
noncomputable def Bc (P:Params):Obj:=hS []
noncomputable def Bd (P:Params):Obj:=hU "field_kind" "field_kind" (top 26)
noncomputable def wR (P:Params):Obj:=hC "field_kind" "field_kind" 361 362 363 [.int 76 0,.int 2 0,.int 0 0,.int 0 0,.int 3 0,.ref 124,.bool true,.int 181 0,.ref 125,.none,.ref 126,.ref 127,.ref 128,.int 368 0,.int 76 0,hT 369]
noncomputable def wS (P:Params):Obj:=hF "field_kind" "field_kind" "oldhands.kinds" (top 26) 239 129
noncomputable def Be (P:Params):Obj:=hS []
noncomputable def Bf (P:Params):Obj:=hN
noncomputable def Bg (P:Params):Obj:=hS [.str ("kind") 374]
noncomputable def Bh (P:Params):Obj:=hS []
noncomputable def Bi (P:Params):Obj:=hU "item_kind" "item_kind" (top 27)
noncomputable def wT (P:Params):Obj:=hC "item_kind" "item_kind" 371 372 373 [.int 83 0,.int 1 0,.int 0 0,.int 0 0,.int 3 0,.ref 131,.bool true,.int 181 0,.ref 132,.none,.ref 133,.ref 134,.ref 135,.int 375 0,.int 83 0,hT 376]
noncomputable def wU (P:Params):Obj:=hF "item_kind" "item_kind" "oldhands.kinds" (top 27) 239 136
noncomputable def Bj (P:Params):Obj:=hS []
noncomputable def Bk (P:Params):Obj:=hN
noncomputable def Bl (P:Params):Obj:=hU "kinds_within" "kinds_within" (top 28)
noncomputable def wV (P:Params):Obj:=hC "kinds_within" "kinds_within" 378 379 380 [.int 89 0,.int 1 0,.int 0 0,.int 0 0,.int 3 0,.ref 138,.bool true,.int 181 0,.ref 139,.none,.none,.none,.ref 140,.int 381 0,.int 89 0,hT 382]
noncomputable def wW (P:Params):Obj:=hF "kinds_within" "kinds_within" "oldhands.kinds" (top 28) 239 141
noncomputable def Bm (P:Params):Obj:=hS []
noncomputable def Bn (P:Params):Obj:=hN
noncomputable def Bo (P:Params):Obj:=hU "kind_many" "kind_many" (top 29)
noncomputable def wX (P:Params):Obj:=hC "kind_many" "kind_many" 384 385 386 [.int 94 0,.int 1 0,.int 0 0,.int 0 0,.int 3 0,.ref 143,.bool true,.int 181 0,.ref 144,.none,.none,.none,.ref 145,.int 387 0,.int 94 0,hT 388]
noncomputable def wY (P:Params):Obj:=hF "kind_many" "kind_many" "oldhands.kinds" (top 29) 239 146
noncomputable def Bp (P:Params):Obj:=hS []
noncomputable def Bq (P:Params):Obj:=hN
noncomputable def Br (P:Params):Obj:=hS [.str ("letter") 397]
noncomputable def Bs (P:Params):Obj:=hS []
noncomputable def Bt (P:Params):Obj:=hU "is_sign" "is_sign" (top 32)
noncomputable def wZ (P:Params):Obj:=hC "is_sign" "is_sign" 394 395 396 [.int 98 0,.int 1 0,.int 0 0,.int 0 0,.int 3 0,.ref 148,.bool true,.int 181 0,.ref 149,.none,.ref 150,.ref 151,.ref 152,.int 398 0,.int 98 0,hT 399]
noncomputable def w5 (P:Params):Obj:=hF "is_sign" "is_sign" "oldhands.values" (top 32) 390 153
noncomputable def Bu (P:Params):Obj:=hS []
noncomputable def Bv (P:Params):Obj:=hN
noncomputable def Bw (P:Params):Obj:=hS [.str ("number") 408]
noncomputable def Bx (P:Params):Obj:=hS []
noncomputable def By (P:Params):Obj:=hU "figures_of" "figures_of" (top 35)
noncomputable def w6 (P:Params):Obj:=hC "figures_of" "figures_of" 405 406 407 [.int 102 0,.int 1 0,.int 0 0,.int 0 0,.int 3 0,.ref 155,.bool true,.int 181 0,.ref 156,.none,.ref 157,.ref 158,.ref 159,.int 409 0,.int 102 0,hT 410]
noncomputable def w8 (P:Params):Obj:=hF "figures_of" "figures_of" "oldhands.turns" (top 35) 401 160
noncomputable def Bz (P:Params):Obj:=hS []
noncomputable def BA (P:Params):Obj:=hN
noncomputable def BB (P:Params):Obj:=hU "number_of" "number_of" (top 36)
noncomputable def w9 (P:Params):Obj:=hC "number_of" "number_of" 412 413 414 [.int 104 0,.int 1 0,.int 0 0,.int 0 0,.int 3 0,.ref 162,.bool true,.int 181 0,.ref 163,.none,.none,.none,.ref 164,.int 415 0,.int 104 0,hT 416]
noncomputable def xf (P:Params):Obj:=hF "number_of" "number_of" "oldhands.turns" (top 36) 401 165
noncomputable def xh (P:Params):Obj:={ cls:=.type "dict",data:=.dict #[hE P "number" 420 (.ref 168),hE P "text" 423 (.ref 169),hE P "list" 425 (.ref 170),hE P "rows" 428 (.ref 171)] 4 }
noncomputable def xi (P:Params):Obj:=hS [.str ("number") 421,.str ("number") 422]
noncomputable def xj (P:Params):Obj:=hS [.str ("number") 424]
noncomputable def xl (P:Params):Obj:=hS [.str ("number") 426,.str ("kind") 427]
noncomputable def xm (P:Params):Obj:=hS [.str ("word") 429,.str ("number") 430,.str ("kind") 431]
noncomputable def xn (P:Params):Obj:={ cls:=.type "dict",data:=.dict #[hE P "bounds" 437 (.ref 173),hE P "scale" 440 (.ref 174),hE P "shrink" 442 (.ref 175),hE P "figures" 444 (.ref 176),hE P "number" 446 (.ref 177),hE P "cut" 449 (.ref 178),hE P "first" 451 (.ref 179),hE P "one" 453 (.ref 180),hE P "out" 455 (.ref 181),hE P "items" 456 (.ref 182)] 10 }
noncomputable def xp (P:Params):Obj:=hS [.str ("number") 438,.str ("number") 439]
noncomputable def xr (P:Params):Obj:=hS [.str ("number") 441]
noncomputable def xu (P:Params):Obj:=hS [.str ("number") 443]
noncomputable def xw (P:Params):Obj:=hS [.str ("number") 445]
noncomputable def xx (P:Params):Obj:=hS [.str ("number") 447,.str ("number") 448]
noncomputable def xz (P:Params):Obj:=hS [.str ("number") 450]
noncomputable def xA (P:Params):Obj:=hS [.str ("number") 452]
noncomputable def xB (P:Params):Obj:=hS [.str ("number") 454]
noncomputable def xC (P:Params):Obj:=hS []
noncomputable def xD (P:Params):Obj:=hS [.str ("turn") 457]
noncomputable def xE (P:Params):Obj:={ cls:=.type "dict",data:=.dict #[hE P "put" 469 (.ref 184),hE P "drop" 473 (.ref 185),hE P "name" 476 (.ref 186),hE P "sink" 479 (.ref 187),hE P "lift" 482 (.ref 188),hE P "turn" 485 (.ref 189),hE P "split" 488 (.ref 190),hE P "join" 493 (.ref 191),hE P "part" 498 (.ref 192),hE P "whole" 503 (.ref 193)] 10 }
noncomputable def xF (P:Params):Obj:=hS [.str ("word") 470,.str ("kind") 471,.str ("value") 472]
noncomputable def xG (P:Params):Obj:=hS [.str ("word") 474,.str ("value") 475]
noncomputable def xH (P:Params):Obj:=hS [.str ("word") 477,.str ("word") 478]
noncomputable def xI (P:Params):Obj:=hS [.str ("word") 480,.str ("word") 481]
noncomputable def xJ (P:Params):Obj:=hS [.str ("word") 483,.str ("word") 484]
noncomputable def xK (P:Params):Obj:=hS [.str ("word") 486,.str ("turn") 487]
noncomputable def xL (P:Params):Obj:=hS [.str ("word") 489,.str ("text") 490,.str ("word") 491,.str ("word") 492]
noncomputable def xM (P:Params):Obj:=hS [.str ("word") 494,.str ("word") 495,.str ("text") 496,.str ("word") 497]
noncomputable def xN (P:Params):Obj:=hS [.str ("word") 499,.str ("number") 500,.str ("word") 501,.str ("word") 502]
noncomputable def xO (P:Params):Obj:=hS [.str ("word") 504,.str ("word") 505,.str ("number") 506,.str ("word") 507,.str ("number") 508,.str ("number") 509]
noncomputable def BC (P:Params):Obj:=hS []
noncomputable def BE (P:Params):Obj:=hN
noncomputable def BF (P:Params):Obj:=hS [.str ("sort") 524,.str ("word") 525]
noncomputable def BG (P:Params):Obj:=hS []
noncomputable def BH (P:Params):Obj:=hU "parts_behind" "parts_behind" (top 41)
noncomputable def xP (P:Params):Obj:=hC "parts_behind" "parts_behind" 521 522 523 [.int 115 0,.int 2 0,.int 0 0,.int 0 0,.int 3 0,.ref 194,.bool true,.int 181 0,.ref 195,.none,.ref 196,.ref 197,.ref 198,.int 526 0,.int 115 0,hT 527]
noncomputable def xQ (P:Params):Obj:=hF "parts_behind" "parts_behind" "oldhands.words" (top 41) 418 199
noncomputable def BI (P:Params):Obj:=hS []
noncomputable def BJ (P:Params):Obj:=hN
noncomputable def BK (P:Params):Obj:=hU "kind_text" "kind_text" (top 42)
noncomputable def xR (P:Params):Obj:=hC "kind_text" "kind_text" 529 530 531 [.int 121 0,.int 1 0,.int 0 0,.int 0 0,.int 3 0,.ref 201,.bool true,.int 181 0,.ref 202,.none,.none,.none,.ref 203,.int 532 0,.int 121 0,hT 533]
noncomputable def xS (P:Params):Obj:=hF "kind_text" "kind_text" "oldhands.words" (top 42) 418 204
noncomputable def BL (P:Params):Obj:=hS []
noncomputable def BM (P:Params):Obj:=hN
noncomputable def BN (P:Params):Obj:=hS [.str ("word") 538,.str ("parts") 539]
noncomputable def BO (P:Params):Obj:=hS []
noncomputable def BP (P:Params):Obj:=hU "most_exchanged" "most_exchanged" (top 43)
noncomputable def xT (P:Params):Obj:=hC "most_exchanged" "most_exchanged" 535 536 537 [.int 128 0,.int 2 0,.int 0 0,.int 0 0,.int 3 0,.ref 206,.bool true,.int 181 0,.ref 207,.none,.ref 208,.ref 209,.ref 210,.int 540 0,.int 128 0,hT 541]
noncomputable def xU (P:Params):Obj:=hF "most_exchanged" "most_exchanged" "oldhands.words" (top 43) 418 211
noncomputable def BQ (P:Params):Obj:=hS []
noncomputable def BR (P:Params):Obj:=hN
noncomputable def BS (P:Params):Obj:=hU "value_text" "value_text" (top 44)
noncomputable def xV (P:Params):Obj:=hC "value_text" "value_text" 543 544 545 [.int 132 0,.int 1 0,.int 0 0,.int 0 0,.int 3 0,.ref 213,.bool true,.int 181 0,.ref 214,.none,.none,.none,.ref 215,.int 546 0,.int 132 0,hT 547]
noncomputable def xW (P:Params):Obj:=hF "value_text" "value_text" "oldhands.words" (top 44) 418 216
noncomputable def BU (P:Params):Obj:=hS []
noncomputable def BV (P:Params):Obj:=hN
noncomputable def BW (P:Params):Obj:=hU "turn_text" "turn_text" (top 45)
noncomputable def xX (P:Params):Obj:=hC "turn_text" "turn_text" 549 550 551 [.int 144 0,.int 1 0,.int 0 0,.int 0 0,.int 3 0,.ref 218,.bool true,.int 181 0,.ref 219,.none,.none,.none,.ref 220,.int 552 0,.int 144 0,hT 553]
noncomputable def xY (P:Params):Obj:=hF "turn_text" "turn_text" "oldhands.words" (top 45) 418 221
noncomputable def BX (P:Params):Obj:=hS []
noncomputable def BY (P:Params):Obj:=hN
noncomputable def BZ (P:Params):Obj:=hU "form_text" "form_text" (top 46)
noncomputable def xZ (P:Params):Obj:=hC "form_text" "form_text" 555 556 557 [.int 151 0,.int 2 0,.int 0 0,.int 0 0,.int 3 0,.ref 223,.bool true,.int 181 0,.ref 224,.none,.none,.none,.ref 225,.int 558 0,.int 151 0,hT 559]
noncomputable def x6 (P:Params):Obj:=hF "form_text" "form_text" "oldhands.words" (top 46) 418 226
noncomputable def B5 (P:Params):Obj:=hS []
noncomputable def B7 (P:Params):Obj:=hN
noncomputable def B8 (P:Params):Obj:=hS [.str ("part") 564,.str ("sort") 565]
noncomputable def B9 (P:Params):Obj:=hS []
noncomputable def Ca (P:Params):Obj:=hU "part_text" "part_text" (top 47)
noncomputable def x8 (P:Params):Obj:=hC "part_text" "part_text" 561 562 563 [.int 154 0,.int 2 0,.int 0 0,.int 0 0,.int 3 0,.ref 228,.bool true,.int 181 0,.ref 229,.none,.ref 230,.ref 231,.ref 232,.int 566 0,.int 154 0,hT 567]
noncomputable def x9 (P:Params):Obj:=hF "part_text" "part_text" "oldhands.words" (top 47) 418 233
noncomputable def Cb (P:Params):Obj:=hS []
noncomputable def Cc (P:Params):Obj:=hN
noncomputable def Cd (P:Params):Obj:=hS [.str ("word") 572,.str ("texts") 573,.str ("inner") 574]
noncomputable def Ce (P:Params):Obj:=hS []
noncomputable def Cf (P:Params):Obj:=hU "in_brackets" "in_brackets" (top 48)
noncomputable def ya (P:Params):Obj:=hC "in_brackets" "in_brackets" 569 570 571 [.int 162 0,.int 2 0,.int 0 0,.int 0 0,.int 3 0,.ref 235,.bool true,.int 181 0,.ref 236,.none,.ref 237,.ref 238,.ref 239,.int 575 0,.int 162 0,hT 576]
noncomputable def yb (P:Params):Obj:=hF "in_brackets" "in_brackets" "oldhands.words" (top 48) 418 240
noncomputable def Cg (P:Params):Obj:=hS []
noncomputable def Ch (P:Params):Obj:=hN
noncomputable def Ci (P:Params):Obj:=hS [.str ("texts") 581]
noncomputable def Cj (P:Params):Obj:=hS []
noncomputable def Ck (P:Params):Obj:=hU "with_commas" "with_commas" (top 49)
noncomputable def yc (P:Params):Obj:=hC "with_commas" "with_commas" 578 579 580 [.int 165 0,.int 1 0,.int 0 0,.int 0 0,.int 3 0,.ref 242,.bool true,.int 181 0,.ref 243,.none,.ref 244,.ref 245,.ref 246,.int 582 0,.int 165 0,hT 583]
noncomputable def yd (P:Params):Obj:=hF "with_commas" "with_commas" "oldhands.words" (top 49) 418 247
noncomputable def Cl (P:Params):Obj:=hS []
noncomputable def Cm (P:Params):Obj:=hN
noncomputable def Cn (P:Params):Obj:=hS [.str ("word") 588,.str ("text") 589]
noncomputable def Co (P:Params):Obj:=hS []
noncomputable def Cp (P:Params):Obj:=hU "pair_text" "pair_text" (top 50)
noncomputable def ye (P:Params):Obj:=hC "pair_text" "pair_text" 585 586 587 [.int 167 0,.int 2 0,.int 0 0,.int 0 0,.int 3 0,.ref 249,.bool true,.int 181 0,.ref 250,.none,.ref 251,.ref 252,.ref 253,.int 590 0,.int 167 0,hT 591]
noncomputable def yf (P:Params):Obj:=hF "pair_text" "pair_text" "oldhands.words" (top 50) 418 254
noncomputable def Cq (P:Params):Obj:=hS []
noncomputable def Cr (P:Params):Obj:=hN
noncomputable def Cs (P:Params):Obj:=hS [.str ("text") 596]
noncomputable def Ct (P:Params):Obj:=hS []
noncomputable def Cu (P:Params):Obj:=hU "quoted" "quoted" (top 51)
noncomputable def yg (P:Params):Obj:=hC "quoted" "quoted" 593 594 595 [.int 169 0,.int 1 0,.int 0 0,.int 0 0,.int 3 0,.ref 256,.bool true,.int 181 0,.ref 257,.none,.ref 258,.ref 259,.ref 260,.int 597 0,.int 169 0,hT 598]
noncomputable def yh (P:Params):Obj:=hF "quoted" "quoted" "oldhands.words" (top 51) 418 261
noncomputable def yi (P:Params):Obj:=hS [.str ("end") 618,.str ("") 619]
noncomputable def Cv (P:Params):Obj:=hS []
noncomputable def Cw (P:Params):Obj:=hN
noncomputable def Cy (P:Params):Obj:=hS [.str ("text") 624,.str ("found") 625,.str ("at") 626,.str ("end") 627]
noncomputable def Cz (P:Params):Obj:=hS []
noncomputable def CA (P:Params):Obj:=hU "words_of" "words_of" (top 62)
noncomputable def yj (P:Params):Obj:=hC "words_of" "words_of" 621 622 623 [.int 181 0,.int 1 0,.int 0 0,.int 0 0,.int 3 0,.ref 264,.bool true,.int 181 0,.ref 265,.none,.ref 266,.ref 267,.ref 268,.int 628 0,.int 181 0,hT 629]
noncomputable def yk (P:Params):Obj:=hF "words_of" "words_of" "oldhands.tokens" (top 62) 600 269
noncomputable def CB (P:Params):Obj:=hS []
noncomputable def CC (P:Params):Obj:=hN
noncomputable def CD (P:Params):Obj:=hS [.str ("text") 634,.str ("at") 635,.str ("close") 636]
noncomputable def CF (P:Params):Obj:=hS []
noncomputable def CG (P:Params):Obj:=hU "word_end" "word_end" (top 63)
noncomputable def yl (P:Params):Obj:=hC "word_end" "word_end" 631 632 633 [.int 192 0,.int 2 0,.int 0 0,.int 0 0,.int 3 0,.ref 271,.bool true,.int 181 0,.ref 272,.none,.ref 273,.ref 274,.ref 275,.int 637 0,.int 192 0,hT 638]
noncomputable def ym (P:Params):Obj:=hF "word_end" "word_end" "oldhands.tokens" (top 63) 600 276
noncomputable def CH (P:Params):Obj:=hS []
noncomputable def CI (P:Params):Obj:=hN
noncomputable def CJ (P:Params):Obj:=hS [.str ("text") 643,.str ("at") 644,.str ("letters") 645,.str ("end") 646]
noncomputable def CK (P:Params):Obj:=hS []
noncomputable def CL (P:Params):Obj:=hU "run_end" "run_end" (top 64)
noncomputable def yn (P:Params):Obj:=hC "run_end" "run_end" 640 641 642 [.int 203 0,.int 3 0,.int 0 0,.int 0 0,.int 3 0,.ref 278,.bool true,.int 181 0,.ref 279,.none,.ref 280,.ref 281,.ref 282,.int 647 0,.int 203 0,hT 648]
noncomputable def yo (P:Params):Obj:=hF "run_end" "run_end" "oldhands.tokens" (top 64) 600 283
noncomputable def CM (P:Params):Obj:=hS []
noncomputable def CN (P:Params):Obj:=hN
noncomputable def CO (P:Params):Obj:=hU "made_word" "made_word" (top 65)
noncomputable def yp (P:Params):Obj:=hC "made_word" "made_word" 650 651 652 [.int 208 0,.int 1 0,.int 0 0,.int 0 0,.int 3 0,.ref 285,.bool true,.int 181 0,.ref 286,.none,.none,.none,.ref 287,.int 653 0,.int 208 0,hT 654]
noncomputable def yq (P:Params):Obj:=hF "made_word" "made_word" "oldhands.tokens" (top 65) 600 288
noncomputable def CP (P:Params):Obj:=hS []
noncomputable def CQ (P:Params):Obj:=hN
noncomputable def CS (P:Params):Obj:=hS [.str ("words") 659,.str ("deepest") 660,.str ("here") 661,.str ("sort") 662,.str ("told") 663]
noncomputable def CT (P:Params):Obj:=hS []
noncomputable def CU (P:Params):Obj:=hU "deepest_brackets" "deepest_brackets" (top 66)
noncomputable def yr (P:Params):Obj:=hC "deepest_brackets" "deepest_brackets" 656 657 658 [.int 219 0,.int 1 0,.int 0 0,.int 0 0,.int 3 0,.ref 290,.bool true,.int 181 0,.ref 291,.none,.ref 292,.ref 293,.ref 294,.int 664 0,.int 219 0,hT 665]
noncomputable def yt (P:Params):Obj:=hF "deepest_brackets" "deepest_brackets" "oldhands.tokens" (top 66) 600 295
noncomputable def CV (P:Params):Obj:=hS []
noncomputable def CW (P:Params):Obj:={ cls:=.type "builtin_function_or_method",data:=.fields #[.builtin "type.__prepare__",.type "type"] }
noncomputable def CY (P:Params):Obj:={ cls:=.type "dict",data:=.dict #[hE P "__module__" 674 (.str ("oldhands.tokens") 600),hE P "__qualname__" 676 (.str ("WordRow") 675),hE P "__firstlineno__" 678 (.int 229 677),hE P "__init__" 686 (.ref 310),hE P "coming" 695 (.ref 317),hE P "comes" 703 (.ref 324),hE P "take" 712 (.ref 331),hE P "take_mark" 720 (.ref 338),hE P "__static_attributes__" 723 (.ref 339)] 9 }
noncomputable def CZ (P:Params):Obj:=hS []
noncomputable def C0 (P:Params):Obj:={ cls:=.none,data:=.fields #[.int 231 0,.int 4 0,.ref 309,.int 235 0,.int 4 0,.ref 316,.int 239 0,.int 4 0,.ref 323,.int 242 0,.int 4 0,.ref 330,.int 249 0,.int 4 0,.ref 337] }
noncomputable def C1 (P:Params):Obj:=hC "WordRow" "WordRow" 669 670 671 [.int 229 0,.int 0 0,.int 0 0,.int 0 0,.int 0 0,.ref 300,.bool false,.int 181 0,.ref 301,.none,.none,.none,.none,.int 672 0,.int 229 0,hT 673]
noncomputable def C2 (P:Params):Obj:={ cls:=.type "frame",slots:=#[some (.ref 302),some (.ref 3),some (.ref 299),none,some (.str ("oldhands.tokens") 600),none,some (.ref 0)] }
noncomputable def C3 (P:Params):Obj:=hS []
noncomputable def C4 (P:Params):Obj:=hN
noncomputable def C5 (P:Params):Obj:=hS [.str ("self") 682,.str ("text") 683]
noncomputable def C6 (P:Params):Obj:=hS []
noncomputable def C7 (P:Params):Obj:=hU "__init__" "WordRow.__init__" (a7 (top 67) 0)
noncomputable def yu (P:Params):Obj:=hC "__init__" "WordRow.__init__" 679 680 681 [.int 231 0,.int 2 0,.int 0 0,.int 0 0,.int 3 0,.ref 304,.bool true,.int 181 0,.ref 305,.none,.ref 306,.ref 307,.ref 308,.int 684 0,.int 231 0,hT 685]
noncomputable def yv (P:Params):Obj:=hF "__init__" "WordRow.__init__" "oldhands.tokens" (a7 (top 67) 0) 600 309
noncomputable def C8 (P:Params):Obj:=hS []
noncomputable def C9 (P:Params):Obj:=hN
noncomputable def Da (P:Params):Obj:=hS [.str ("self") 690,.str ("ahead") 691,.str ("at") 692]
noncomputable def Db (P:Params):Obj:=hS []
noncomputable def Dc (P:Params):Obj:=hU "coming" "WordRow.coming" (a7 (top 67) 1)
noncomputable def yw (P:Params):Obj:=hC "coming" "WordRow.coming" 687 688 689 [.int 235 0,.int 2 0,.int 0 0,.int 0 0,.int 3 0,.ref 311,.bool true,.int 181 0,.ref 312,.none,.ref 313,.ref 314,.ref 315,.int 693 0,.int 235 0,hT 694]
noncomputable def yx (P:Params):Obj:=hF "coming" "WordRow.coming" "oldhands.tokens" (a7 (top 67) 1) 600 316
noncomputable def Dd (P:Params):Obj:=hS []
noncomputable def De (P:Params):Obj:=hN
noncomputable def Dg (P:Params):Obj:=hS [.str ("self") 699,.str ("mark") 700]
noncomputable def Dh (P:Params):Obj:=hS []
noncomputable def Di (P:Params):Obj:=hU "comes" "WordRow.comes" (a7 (top 67) 2)
noncomputable def yy (P:Params):Obj:=hC "comes" "WordRow.comes" 696 697 698 [.int 239 0,.int 2 0,.int 0 0,.int 0 0,.int 3 0,.ref 318,.bool true,.int 181 0,.ref 319,.none,.ref 320,.ref 321,.ref 322,.int 701 0,.int 239 0,hT 702]
noncomputable def yz (P:Params):Obj:=hF "comes" "WordRow.comes" "oldhands.tokens" (a7 (top 67) 2) 600 323
noncomputable def Dj (P:Params):Obj:=hS []
noncomputable def Dk (P:Params):Obj:=hN
noncomputable def Dl (P:Params):Obj:=hS [.str ("self") 707,.str ("sort") 708,.str ("found") 709]
noncomputable def Dm (P:Params):Obj:=hS []
noncomputable def Dn (P:Params):Obj:=hU "take" "WordRow.take" (a7 (top 67) 3)
noncomputable def yA (P:Params):Obj:=hC "take" "WordRow.take" 704 705 706 [.int 242 0,.int 2 0,.int 0 0,.int 0 0,.int 3 0,.ref 325,.bool true,.int 181 0,.ref 326,.none,.ref 327,.ref 328,.ref 329,.int 710 0,.int 242 0,hT 711]
noncomputable def yB (P:Params):Obj:=hF "take" "WordRow.take" "oldhands.tokens" (a7 (top 67) 3) 600 330
noncomputable def Do (P:Params):Obj:=hS []
noncomputable def Dq (P:Params):Obj:=hN
noncomputable def Ds (P:Params):Obj:=hS [.str ("self") 716,.str ("mark") 717]
noncomputable def Du (P:Params):Obj:=hS []
noncomputable def Dv (P:Params):Obj:=hU "take_mark" "WordRow.take_mark" (a7 (top 67) 4)
noncomputable def yC (P:Params):Obj:=hC "take_mark" "WordRow.take_mark" 713 714 715 [.int 249 0,.int 2 0,.int 0 0,.int 0 0,.int 3 0,.ref 332,.bool true,.int 181 0,.ref 333,.none,.ref 334,.ref 335,.ref 336,.int 718 0,.int 249 0,hT 719]
noncomputable def yD (P:Params):Obj:=hF "take_mark" "WordRow.take_mark" "oldhands.tokens" (a7 (top 67) 4) 600 337
noncomputable def yE (P:Params):Obj:=hS [.str ("all_words") 721,.str ("place") 722]
noncomputable def yF (P:Params):Obj:={ cls:=.type "dict",data:=.dict #[hE P "__module__" 674 (.str ("oldhands.tokens") 600),hE P "__firstlineno__" 678 (.int 229 677),hE P "__init__" 686 (.ref 310),hE P "coming" 695 (.ref 317),hE P "comes" 703 (.ref 324),hE P "take" 712 (.ref 331),hE P "take_mark" 720 (.ref 338),hE P "__static_attributes__" 723 (.ref 339),hE P "__dict__" 725 (.ref 342),hE P "__weakref__" 727 (.ref 343),hE P "__doc__" 728 (.none)] 4 }
noncomputable def yG (P:Params):Obj:={ cls:=.type "type",data:=.cls { name:= "WordRow",bases:=[.type "object"],mro:=[.ref 341,.type "object"],ns:=340,qualname:= "WordRow" },slots:=#[none,none,some (.str ("WordRow") 667),some (.str ("WordRow") 675),some (.builtin "object.__new__"),some (.bool true)] }
noncomputable def yH (P:Params):Obj:={ cls:=.type "getset_descriptor",data:=.fields #[.str ("__dict__") 724,.ref 341,.builtin "function.__dict__",.builtin "function.__dict__#set"] }
noncomputable def yI (P:Params):Obj:={ cls:=.type "getset_descriptor",data:=.fields #[.str ("__weakref__") 726,.ref 341,.builtin "ExceptionGroup.__weakref__",.none] }
noncomputable def Dx (P:Params):Obj:={ cls:=.type "super",data:=.fields #[.ref 341,.ref 341,.ref 341] }
noncomputable def Dy (P:Params):Obj:={ cls:=.type "builtin_function_or_method",data:=.fields #[.builtin "object.__init_subclass__",.ref 341] }
noncomputable def yJ (P:Params):Obj:={ cls:=.type "dict",data:=.dict #[hE P "field" 733 (.str ("kind") 734),hE P "entry" 735 (.str ("value") 736),hE P "way" 737 (.str ("word") 738)] 3 }
noncomputable def yK (P:Params):Obj:=hS [.str ("[") 743,.str ("list") 744,.str ("value") 745,.str ("]") 746]
noncomputable def yL (P:Params):Obj:=hS [.str ("{") 747,.str ("record") 748,.str ("entry") 749,.str ("}") 750]
noncomputable def yM (P:Params):Obj:=hS [.str ("(") 751,.str ("rows") 752,.str ("value") 753,.str (")") 754]
noncomputable def yN (P:Params):Obj:=hS [.ref 347,.ref 348,.ref 349]
noncomputable def Dz (P:Params):Obj:=hS []
noncomputable def DA (P:Params):Obj:=hN
noncomputable def DB (P:Params):Obj:=hS [.str ("text") 759]
noncomputable def DC (P:Params):Obj:=hS []
noncomputable def DD (P:Params):Obj:=hU "read_kind" "read_kind" (top 71)
noncomputable def yO (P:Params):Obj:=hC "read_kind" "read_kind" 756 757 758 [.int 256 0,.int 1 0,.int 0 0,.int 0 0,.int 3 0,.ref 351,.bool true,.int 181 0,.ref 352,.none,.ref 353,.ref 354,.ref 355,.int 760 0,.int 256 0,hT 761]
noncomputable def yP (P:Params):Obj:=hF "read_kind" "read_kind" "oldhands.texts" (top 71) 731 356
noncomputable def DE (P:Params):Obj:=hS []
noncomputable def DF (P:Params):Obj:=hN
noncomputable def DG (P:Params):Obj:=hS [.str ("text") 766,.str ("sort") 767,.str ("row") 768,.str ("told") 769]
noncomputable def DH (P:Params):Obj:=hS []
noncomputable def DI (P:Params):Obj:=hU "read_all" "read_all" (top 72)
noncomputable def yQ (P:Params):Obj:=hC "read_all" "read_all" 763 764 765 [.int 258 0,.int 2 0,.int 0 0,.int 0 0,.int 3 0,.ref 358,.bool true,.int 181 0,.ref 359,.none,.ref 360,.ref 361,.ref 362,.int 770 0,.int 258 0,hT 771]
noncomputable def yR (P:Params):Obj:=hF "read_all" "read_all" "oldhands.texts" (top 72) 731 363
noncomputable def DJ (P:Params):Obj:=hS []
noncomputable def DK (P:Params):Obj:=hN
noncomputable def DL (P:Params):Obj:=hS [.str ("row") 776,.str ("sort") 777,.str ("path") 778]
noncomputable def DM (P:Params):Obj:=hS []
noncomputable def DN (P:Params):Obj:=hU "part_read" "part_read" (top 73)
noncomputable def yS (P:Params):Obj:=hC "part_read" "part_read" 773 774 775 [.int 264 0,.int 2 0,.int 0 0,.int 0 0,.int 3 0,.ref 365,.bool true,.int 181 0,.ref 366,.none,.ref 367,.ref 368,.ref 369,.int 779 0,.int 264 0,hT 780]
noncomputable def yT (P:Params):Obj:=hF "part_read" "part_read" "oldhands.texts" (top 73) 731 370
noncomputable def DO (P:Params):Obj:=hS []
noncomputable def DP (P:Params):Obj:=hN
noncomputable def DQ (P:Params):Obj:=hS [.str ("row") 785,.str ("sort") 786,.str ("word") 787]
noncomputable def DR (P:Params):Obj:=hS []
noncomputable def DS (P:Params):Obj:=hU "pair_read" "pair_read" (top 74)
noncomputable def yU (P:Params):Obj:=hC "pair_read" "pair_read" 782 783 784 [.int 281 0,.int 2 0,.int 0 0,.int 0 0,.int 3 0,.ref 372,.bool true,.int 181 0,.ref 373,.none,.ref 374,.ref 375,.ref 376,.int 788 0,.int 281 0,hT 789]
noncomputable def yV (P:Params):Obj:=hF "pair_read" "pair_read" "oldhands.texts" (top 74) 731 377
noncomputable def DT (P:Params):Obj:=hS []
noncomputable def DU (P:Params):Obj:=hN
noncomputable def DV (P:Params):Obj:=hS [.str ("row") 794,.str ("word") 795,.str ("found") 796]
noncomputable def DW (P:Params):Obj:=hS []
noncomputable def DX (P:Params):Obj:=hU "kind_read" "kind_read" (top 75)
noncomputable def yW (P:Params):Obj:=hC "kind_read" "kind_read" 791 792 793 [.int 285 0,.int 1 0,.int 0 0,.int 0 0,.int 3 0,.ref 379,.bool true,.int 181 0,.ref 380,.none,.ref 381,.ref 382,.ref 383,.int 797 0,.int 285 0,hT 798]
noncomputable def yX (P:Params):Obj:=hF "kind_read" "kind_read" "oldhands.texts" (top 75) 731 384
noncomputable def DY (P:Params):Obj:=hS []
noncomputable def DZ (P:Params):Obj:=hN
noncomputable def D5 (P:Params):Obj:=hS [.str ("row") 803,.str ("opening") 804,.str ("word") 805,.str ("sort") 806,.str ("closing") 807]
noncomputable def D6 (P:Params):Obj:=hS []
noncomputable def D7 (P:Params):Obj:=hU "value_read" "value_read" (top 76)
noncomputable def yY (P:Params):Obj:=hC "value_read" "value_read" 800 801 802 [.int 295 0,.int 1 0,.int 0 0,.int 0 0,.int 3 0,.ref 386,.bool true,.int 181 0,.ref 387,.none,.ref 388,.ref 389,.ref 390,.int 808 0,.int 295 0,hT 809]
noncomputable def yZ (P:Params):Obj:=hF "value_read" "value_read" "oldhands.texts" (top 76) 731 391
noncomputable def D8 (P:Params):Obj:=hS []
noncomputable def D9 (P:Params):Obj:=hN
noncomputable def Ea (P:Params):Obj:=hS [.str ("row") 814,.str ("word") 815,.str ("forth") 816]
noncomputable def Eb (P:Params):Obj:=hS []
noncomputable def Ec (P:Params):Obj:=hU "turn_read" "turn_read" (top 77)
noncomputable def y3 (P:Params):Obj:=hC "turn_read" "turn_read" 811 812 813 [.int 303 0,.int 1 0,.int 0 0,.int 0 0,.int 3 0,.ref 393,.bool true,.int 181 0,.ref 394,.none,.ref 395,.ref 396,.ref 397,.int 817 0,.int 303 0,hT 818]
noncomputable def y4 (P:Params):Obj:=hF "turn_read" "turn_read" "oldhands.texts" (top 77) 731 398
noncomputable def Ed (P:Params):Obj:=hS []
noncomputable def Ee (P:Params):Obj:=hN
noncomputable def Ef (P:Params):Obj:=hS [.str ("row") 823,.str ("names") 824]
noncomputable def Eg (P:Params):Obj:=hS []
noncomputable def Eh (P:Params):Obj:=hU "path_read" "path_read" (top 78)
noncomputable def y9 (P:Params):Obj:=hC "path_read" "path_read" 820 821 822 [.int 310 0,.int 1 0,.int 0 0,.int 0 0,.int 3 0,.ref 400,.bool true,.int 181 0,.ref 401,.none,.ref 402,.ref 403,.ref 404,.int 825 0,.int 310 0,hT 826]
noncomputable def za (P:Params):Obj:=hF "path_read" "path_read" "oldhands.texts" (top 78) 731 405
noncomputable def Ei (P:Params):Obj:=hS []
noncomputable def Ej (P:Params):Obj:=hN
noncomputable def Ek (P:Params):Obj:=hS [.str ("row") 831,.str ("sort") 832,.str ("word") 833,.str ("form") 834,.str ("found") 835,.str ("part_sort") 836]
noncomputable def El (P:Params):Obj:=hS []
noncomputable def Em (P:Params):Obj:=hU "form_read" "form_read" (top 79)
noncomputable def zb (P:Params):Obj:=hC "form_read" "form_read" 828 829 830 [.int 319 0,.int 3 0,.int 0 0,.int 0 0,.int 3 0,.ref 407,.bool true,.int 181 0,.ref 408,.none,.ref 409,.ref 410,.ref 411,.int 837 0,.int 319 0,hT 838]
noncomputable def zc (P:Params):Obj:=hF "form_read" "form_read" "oldhands.texts" (top 79) 731 412
noncomputable def En (P:Params):Obj:=hS []
noncomputable def Eo (P:Params):Obj:=hN
noncomputable def Ep (P:Params):Obj:=hS [.str ("row") 843,.str ("sort") 844,.str ("closing") 845,.str ("found") 846]
noncomputable def Er (P:Params):Obj:=hS []
noncomputable def Es (P:Params):Obj:=hU "list_read" "list_read" (top 80)
noncomputable def zd (P:Params):Obj:=hC "list_read" "list_read" 840 841 842 [.int 331 0,.int 3 0,.int 0 0,.int 0 0,.int 3 0,.ref 414,.bool true,.int 181 0,.ref 415,.none,.ref 416,.ref 417,.ref 418,.int 847 0,.int 331 0,hT 848]
noncomputable def ze (P:Params):Obj:=hF "list_read" "list_read" "oldhands.texts" (top 80) 731 419
noncomputable def Et (P:Params):Obj:=hS []
noncomputable def Eu (P:Params):Obj:=hN
noncomputable def Ev (P:Params):Obj:=hS [.str ("parts") 853]
noncomputable def Ew (P:Params):Obj:=hS []
noncomputable def Ex (P:Params):Obj:=hU "at_least_one" "at_least_one" (top 81)
noncomputable def zf (P:Params):Obj:=hC "at_least_one" "at_least_one" 850 851 852 [.int 339 0,.int 1 0,.int 0 0,.int 0 0,.int 3 0,.ref 421,.bool true,.int 181 0,.ref 422,.none,.ref 423,.ref 424,.ref 425,.int 854 0,.int 339 0,hT 855]
noncomputable def zg (P:Params):Obj:=hF "at_least_one" "at_least_one" "oldhands.texts" (top 81) 731 426
noncomputable def Ey (P:Params):Obj:=hS []
noncomputable def Ez (P:Params):Obj:=hN
noncomputable def EA (P:Params):Obj:=hS [.str ("script") 862,.str ("k") 863]
noncomputable def EB (P:Params):Obj:=hS []
noncomputable def EC (P:Params):Obj:=hU "_law_cell_at" "_law_cell_at" (top 83)
noncomputable def zh (P:Params):Obj:=hC "_law_cell_at" "_law_cell_at" 859 860 861 [.int 344 0,.int 2 0,.int 0 0,.int 0 0,.int 3 0,.ref 428,.bool true,.int 181 0,.ref 429,.none,.ref 430,.ref 431,.ref 432,.int 864 0,.int 344 0,hT 865]
noncomputable def zi (P:Params):Obj:=hF "_law_cell_at" "_law_cell_at" "law_oldhands_k85_kinds_in_words" (top 83) 857 433
noncomputable def ED (P:Params):Obj:=hS []
noncomputable def EE (P:Params):Obj:=hN
noncomputable def EF (P:Params):Obj:=hS [.str ("cell") 870,.str ("k") 871,.str ("stir") 872]
noncomputable def EG (P:Params):Obj:=hS []
noncomputable def EH (P:Params):Obj:=hU "_law_mixed" "_law_mixed" (top 84)
noncomputable def zj (P:Params):Obj:=hC "_law_mixed" "_law_mixed" 867 868 869 [.int 348 0,.int 2 0,.int 0 0,.int 0 0,.int 3 0,.ref 435,.bool true,.int 181 0,.ref 436,.none,.ref 437,.ref 438,.ref 439,.int 873 0,.int 348 0,hT 874]
noncomputable def zk (P:Params):Obj:=hF "_law_mixed" "_law_mixed" "law_oldhands_k85_kinds_in_words" (top 84) 857 440
noncomputable def EI (P:Params):Obj:=hS []
noncomputable def EJ (P:Params):Obj:=hN
noncomputable def EK (P:Params):Obj:=hS [.str ("script") 879,.str ("k") 880,.str ("turn") 881,.str ("cell") 882,.str ("found") 883,.str ("j") 884]
noncomputable def EL (P:Params):Obj:=hS []
noncomputable def EM (P:Params):Obj:=hU "_law_own" "_law_own" (top 85)
noncomputable def zm (P:Params):Obj:=hC "_law_own" "_law_own" 876 877 878 [.int 351 0,.int 3 0,.int 0 0,.int 0 0,.int 3 0,.ref 442,.bool true,.int 181 0,.ref 443,.none,.ref 444,.ref 445,.ref 446,.int 885 0,.int 351 0,hT 886]
noncomputable def zn (P:Params):Obj:=hF "_law_own" "_law_own" "law_oldhands_k85_kinds_in_words" (top 85) 857 447
noncomputable def EN (P:Params):Obj:=hS []
noncomputable def EO (P:Params):Obj:=hN
noncomputable def EQ (P:Params):Obj:=hS [.str ("row") 891,.str ("many") 892,.str ("digit") 893]
noncomputable def ER (P:Params):Obj:=hS []
noncomputable def ES (P:Params):Obj:=hU "_law_digit" "_law_digit" (top 86)
noncomputable def zo (P:Params):Obj:=hC "_law_digit" "_law_digit" 888 889 890 [.int 359 0,.int 2 0,.int 0 0,.int 0 0,.int 3 0,.ref 449,.bool true,.int 181 0,.ref 450,.none,.ref 451,.ref 452,.ref 453,.int 894 0,.int 359 0,hT 895]
noncomputable def zp (P:Params):Obj:=hF "_law_digit" "_law_digit" "law_oldhands_k85_kinds_in_words" (top 86) 857 454
noncomputable def ET (P:Params):Obj:=hS []
noncomputable def EU (P:Params):Obj:=hN
noncomputable def EV (P:Params):Obj:=hU "_law_names" "_law_names" (top 87)
noncomputable def zq (P:Params):Obj:=hC "_law_names" "_law_names" 897 898 899 [.int 363 0,.int 2 0,.int 0 0,.int 0 0,.int 3 0,.ref 456,.bool true,.int 181 0,.ref 457,.none,.none,.none,.ref 458,.int 900 0,.int 363 0,hT 901]
noncomputable def zr (P:Params):Obj:=hF "_law_names" "_law_names" "law_oldhands_k85_kinds_in_words" (top 87) 857 459
noncomputable def EW (P:Params):Obj:=hS []
noncomputable def EX (P:Params):Obj:=hN
noncomputable def EY (P:Params):Obj:=hS [.str ("row") 906,.str ("low") 907,.str ("high") 908]
noncomputable def EZ (P:Params):Obj:=hS []
noncomputable def E1 (P:Params):Obj:=hU "_law_number_kind" "_law_number_kind" (top 88)
noncomputable def zt (P:Params):Obj:=hC "_law_number_kind" "_law_number_kind" 903 904 905 [.int 373 0,.int 1 0,.int 0 0,.int 0 0,.int 3 0,.ref 461,.bool true,.int 181 0,.ref 462,.none,.ref 463,.ref 464,.ref 465,.int 909 0,.int 373 0,hT 910]
noncomputable def zu (P:Params):Obj:=hF "_law_number_kind" "_law_number_kind" "law_oldhands_k85_kinds_in_words" (top 88) 857 466
noncomputable def E3 (P:Params):Obj:=hS []
noncomputable def E4 (P:Params):Obj:=hN
noncomputable def E5 (P:Params):Obj:=hS [.str ("row") 915,.str ("way") 916,.str ("words") 917]
noncomputable def E6 (P:Params):Obj:=hS []
noncomputable def E7 (P:Params):Obj:=hU "_law_leaf_kind" "_law_leaf_kind" (top 89)
noncomputable def zw (P:Params):Obj:=hC "_law_leaf_kind" "_law_leaf_kind" 912 913 914 [.int 377 0,.int 1 0,.int 0 0,.int 0 0,.int 3 0,.ref 468,.bool true,.int 181 0,.ref 469,.none,.ref 470,.ref 471,.ref 472,.int 918 0,.int 377 0,hT 919]
noncomputable def zx (P:Params):Obj:=hF "_law_leaf_kind" "_law_leaf_kind" "law_oldhands_k85_kinds_in_words" (top 89) 857 473
noncomputable def E8 (P:Params):Obj:=hS []
noncomputable def E9 (P:Params):Obj:=hN
noncomputable def Fa (P:Params):Obj:=hS [.str ("row") 924,.str ("deep") 925,.str ("room") 926,.str ("many") 927,.str ("fields") 928,.str ("name") 929]
noncomputable def Fb (P:Params):Obj:=hS []
noncomputable def Fc (P:Params):Obj:=hU "_law_record_kind" "_law_record_kind" (top 90)
noncomputable def zy (P:Params):Obj:=hC "_law_record_kind" "_law_record_kind" 921 922 923 [.int 387 0,.int 3 0,.int 0 0,.int 0 0,.int 3 0,.ref 475,.bool true,.int 181 0,.ref 476,.none,.ref 477,.ref 478,.ref 479,.int 930 0,.int 387 0,hT 931]
noncomputable def zA (P:Params):Obj:=hF "_law_record_kind" "_law_record_kind" "law_oldhands_k85_kinds_in_words" (top 90) 857 480
noncomputable def Fd (P:Params):Obj:=hS []
noncomputable def Fe (P:Params):Obj:=hN
noncomputable def Ff (P:Params):Obj:=hS [.str ("row") 936,.str ("deep") 937,.str ("room") 938,.str ("names") 939,.str ("key") 940,.str ("fields") 941,.str ("name") 942,.str ("inner") 943]
noncomputable def Fg (P:Params):Obj:=hS []
noncomputable def Fh (P:Params):Obj:=hU "_law_rows_kind" "_law_rows_kind" (top 91)
noncomputable def zB (P:Params):Obj:=hC "_law_rows_kind" "_law_rows_kind" 933 934 935 [.int 393 0,.int 3 0,.int 0 0,.int 0 0,.int 3 0,.ref 482,.bool true,.int 181 0,.ref 483,.none,.ref 484,.ref 485,.ref 486,.int 944 0,.int 393 0,hT 945]
noncomputable def zC (P:Params):Obj:=hF "_law_rows_kind" "_law_rows_kind" "law_oldhands_k85_kinds_in_words" (top 91) 857 487
noncomputable def Fi (P:Params):Obj:=hS []
noncomputable def Fj (P:Params):Obj:=hN
noncomputable def Fk (P:Params):Obj:=hS [.str ("row") 950,.str ("deep") 951,.str ("room") 952,.str ("way") 953]
noncomputable def Fl (P:Params):Obj:=hS []
noncomputable def Fm (P:Params):Obj:=hU "_law_kind" "_law_kind" (top 92)
noncomputable def zD (P:Params):Obj:=hC "_law_kind" "_law_kind" 947 948 949 [.int 405 0,.int 3 0,.int 0 0,.int 0 0,.int 3 0,.ref 489,.bool true,.int 181 0,.ref 490,.none,.ref 491,.ref 492,.ref 493,.int 954 0,.int 405 0,hT 955]
noncomputable def zE (P:Params):Obj:=hF "_law_kind" "_law_kind" "law_oldhands_k85_kinds_in_words" (top 92) 857 494
noncomputable def Fn (P:Params):Obj:=hS []
noncomputable def Fo (P:Params):Obj:=hN
noncomputable def Fp (P:Params):Obj:=hS [.str ("kind") 960,.str ("word") 961,.str ("words") 962,.str ("name") 963,.str ("inner") 964,.str ("number") 965]
noncomputable def Fq (P:Params):Obj:=hS []
noncomputable def Fr (P:Params):Obj:=hU "_law_kind_words" "_law_kind_words" (top 93)
noncomputable def zF (P:Params):Obj:=hC "_law_kind_words" "_law_kind_words" 957 958 959 [.int 415 0,.int 1 0,.int 0 0,.int 0 0,.int 3 0,.ref 496,.bool true,.int 181 0,.ref 497,.none,.ref 498,.ref 499,.ref 500,.int 966 0,.int 415 0,hT 967]
noncomputable def zG (P:Params):Obj:=hF "_law_kind_words" "_law_kind_words" "law_oldhands_k85_kinds_in_words" (top 93) 857 501
noncomputable def Fs (P:Params):Obj:=hS []
noncomputable def Ft (P:Params):Obj:=hN
noncomputable def Fu (P:Params):Obj:=hU "_law_tight" "_law_tight" (top 94)
noncomputable def zH (P:Params):Obj:=hC "_law_tight" "_law_tight" 969 970 971 [.int 434 0,.int 1 0,.int 0 0,.int 0 0,.int 3 0,.ref 503,.bool true,.int 181 0,.ref 504,.none,.none,.none,.ref 505,.int 972 0,.int 434 0,hT 973]
noncomputable def zI (P:Params):Obj:=hF "_law_tight" "_law_tight" "law_oldhands_k85_kinds_in_words" (top 94) 857 506
noncomputable def Fv (P:Params):Obj:=hS []
noncomputable def Fw (P:Params):Obj:=hN
noncomputable def Fx (P:Params):Obj:=hU "_law_loose" "_law_loose" (top 95)
noncomputable def zJ (P:Params):Obj:=hC "_law_loose" "_law_loose" 975 976 977 [.int 436 0,.int 2 0,.int 0 0,.int 0 0,.int 3 0,.ref 508,.bool true,.int 181 0,.ref 509,.none,.none,.none,.ref 510,.int 978 0,.int 436 0,hT 979]
noncomputable def zK (P:Params):Obj:=hF "_law_loose" "_law_loose" "law_oldhands_k85_kinds_in_words" (top 95) 857 511
noncomputable def Fy (P:Params):Obj:=hS []
noncomputable def Fz (P:Params):Obj:=hN
noncomputable def FA (P:Params):Obj:=hS [.str ("script") 984,.str ("k") 985,.str ("turn") 986,.str ("row") 987,.str ("kind") 988,.str ("words") 989,.str ("text") 990]
noncomputable def FC (P:Params):Obj:=hS []
noncomputable def FD (P:Params):Obj:=hU "law" "law" (top 96)
noncomputable def zL (P:Params):Obj:=hC "law" "law" 981 982 983 [.int 438 0,.int 1 0,.int 0 0,.int 0 0,.int 3 0,.ref 513,.bool true,.int 181 0,.ref 514,.none,.ref 515,.ref 516,.ref 517,.int 991 0,.int 438 0,hT 992]
noncomputable def zM (P:Params):Obj:=hF "law" "law" "law_oldhands_k85_kinds_in_words" (top 96) 857 518
noncomputable abbrev N (v:Obj) (l r:PySem.W.BT):PySem.W.BT:=.node v l r
noncomputable abbrev E:PySem.W.BT:=.nil
noncomputable def fT (P:Params):PySem.W.BT:=N (o0 P) (N (o1 P) (N (o3 P) (N (o7 P) (N (o15 P) (N (o31 P) (N (o63 P) (N (Bc P) (N (yf P) (N (zJ P) E E) E) (N (DX P) E E)) (N (xM P) (N (De P) E E) (N (zm P) E E))) (N (o95 P) (N (By P) (N (CO P) E E) (N (Eo P) E E)) (N (BX P) (N (Dz P) E E) (N (Fc P) E E)))) (N (o47 P) (N (o79 P) (N (Bm P) (N (CB P) E E) (N (y4 P) E E)) (N (BM P) (N (Du P) E E) (N (EY P) E E))) (N (A0 P) (N (xu P) (N (C2 P) E E) (N (EB P) E E)) (N (Cf P) (N (DL P) E E) (N (zE P) E E))))) (N (o23 P) (N (o39 P) (N (o71 P) (N (Bi P) (N (yi P) (N (zM P) E E) E) (N (yY P) E E)) (N (xP P) (N (Dl P) E E) (N (zp P) E E))) (N (wJ P) (N (xh P) (N (yr P) E E) (N (Ev P) E E)) (N (B9 P) (N (DF P) E E) (N (zB P) E E)))) (N (o55 P) (N (o87 P) (N (Bs P) (N (CI P) E E) (N (Ei P) E E)) (N (BS P) (N (yI P) E E) (N (E6 P) E E))) (N (A6 P) (N (xE P) (N (C8 P) E E) (N (EH P) E E)) (N (yc P) (N (DR P) E E) (N (Fs P) E E)))))) (N (o11 P) (N (o19 P) (N (o35 P) (N (o67 P) (N (Be P) (N (Ct P) (N (FA P) E E) E) (N (DZ P) E E)) (N (BE P) (N (yy P) E E) (N (EQ P) E E))) (N (o99 P) (N (BA P) (N (CQ P) E E) (N (zd P) E E)) (N (x6 P) (N (DD P) E E) (N (Fe P) E E)))) (N (o51 P) (N (o83 P) (N (wY P) (N (CG P) E E) (N (Eg P) E E)) (N (xT P) (N (yE P) E E) (N (zu P) E E))) (N (wN P) (N (xA P) (N (C6 P) E E) (N (ED P) E E)) (N (Ch P) (N (yT P) E E) (N (Fq P) E E))))) (N (o27 P) (N (o43 P) (N (o75 P) (N (Bk P) (N (Cz P) E E) (N (Ea P) E E)) (N (BK P) (N (yB P) E E) (N (zq P) E E))) (N (AY P) (N (xm P) (N (CY P) E E) (N (zg P) E E)) (N (Cb P) (N (yQ P) E E) (N (Fk P) E E)))) (N (o59 P) (N (o91 P) (N (Bu P) (N (yn P) E E) (N (Em P) E E)) (N (BV P) (N (yK P) E E) (N (E8 P) E E))) (N (wQ P) (N (xI P) (N (Dc P) E E) (N (EJ P) E E)) (N (Cn P) (N (DT P) E E) (N (zI P) E E))))))) (N (o5 P) (N (o9 P) (N (o17 P) (N (o33 P) (N (o65 P) (N (wR P) (N (Cr P) (N (Fy P) E E) E) (N (yX P) E E)) (N (xO P) (N (Dh P) E E) (N (EN P) E E))) (N (o97 P) (N (w8 P) (N (yq P) E E) (N (Er P) E E)) (N (BZ P) (N (DB P) E E) (N (zA P) E E)))) (N (o49 P) (N (o81 P) (N (Bo P) (N (CD P) E E) (N (Ee P) E E)) (N (BO P) (N (yC P) E E) (N (E1 P) E E))) (N (A2 P) (N (xx P) (N (C4 P) E E) (N (zh P) E E)) (N (yb P) (N (DN P) E E) (N (Fo P) E E))))) (N (o25 P) (N (o41 P) (N (o73 P) (N (wU P) (N (Cw P) E E) (N (D8 P) E E)) (N (BI P) (N (Dn P) E E) (N (EU P) E E))) (N (AW P) (N (xj P) (N (CV P) E E) (N (Ex P) E E)) (N (x8 P) (N (DH P) E E) (N (Fi P) E E)))) (N (o57 P) (N (o89 P) (N (wZ P) (N (CK P) E E) (N (Ek P) E E)) (N (xW P) (N (Dy P) E E) (N (zw P) E E))) (N (A8 P) (N (xG P) (N (Da P) E E) (N (zk P) E E)) (N (Cl P) (N (yU P) E E) (N (Fu P) E E)))))) (N (o13 P) (N (o21 P) (N (o37 P) (N (o69 P) (N (Bg P) (N (yg P) (N (FD P) E E) E) (N (D6 P) E E)) (N (BG P) (N (Dj P) E E) (N (ES P) E E))) (N (AU P) (N (w9 P) (N (CT P) E E) (N (Et P) E E)) (N (B7 P) (N (yP P) E E) (N (Fg P) E E)))) (N (o53 P) (N (o85 P) (N (Bq P) (N (ym P) E E) (N (y9 P) E E)) (N (BQ P) (N (yG P) E E) (N (E4 P) E E))) (N (A4 P) (N (xC P) (N (yu P) E E) (N (EF P) E E)) (N (Cj P) (N (DP P) E E) (N (zF P) E E))))) (N (o29 P) (N (o45 P) (N (o77 P) (N (wV P) (N (yj P) E E) (N (Ec P) E E)) (N (xS P) (N (Dq P) E E) (N (EW P) E E))) (N (wM P) (N (xp P) (N (C0 P) E E) (N (Ez P) E E)) (N (Cd P) (N (DJ P) E E) (N (Fm P) E E)))) (N (o61 P) (N (o93 P) (N (Bw P) (N (CM P) E E) (N (zc P) E E)) (N (xX P) (N (yM P) E E) (N (Fa P) E E))) (N (Ba P) (N (xK P) (N (yx P) E E) (N (EL P) E E)) (N (Cp P) (N (DV P) E E) (N (Fw P) E E)))))))) (N (o2 P) (N (o4 P) (N (o8 P) (N (o16 P) (N (o32 P) (N (o64 P) (N (Bd P) (N (Cq P) (N (zK P) E E) E) (N (yW P) E E)) (N (xN P) (N (Dg P) E E) (N (zn P) E E))) (N (o96 P) (N (w6 P) (N (yp P) E E) (N (Ep P) E E)) (N (BY P) (N (DA P) E E) (N (zy P) E E)))) (N (o48 P) (N (o80 P) (N (Bn P) (N (CC P) E E) (N (Ed P) E E)) (N (BN P) (N (Dv P) E E) (N (EZ P) E E))) (N (A1 P) (N (xw P) (N (C3 P) E E) (N (EC P) E E)) (N (ya P) (N (DM P) E E) (N (Fn P) E E))))) (N (o24 P) (N (o40 P) (N (o72 P) (N (wT P) (N (Cv P) E E) (N (yZ P) E E)) (N (xQ P) (N (Dm P) E E) (N (ET P) E E))) (N (wK P) (N (xi P) (N (yt P) E E) (N (Ew P) E E)) (N (Ca P) (N (DG P) E E) (N (zC P) E E)))) (N (o56 P) (N (o88 P) (N (Bt P) (N (CJ P) E E) (N (Ej P) E E)) (N (xV P) (N (Dx P) E E) (N (E7 P) E E))) (N (A7 P) (N (xF P) (N (C9 P) E E) (N (zj P) E E)) (N (yd P) (N (DS P) E E) (N (Ft P) E E)))))) (N (o12 P) (N (o20 P) (N (o36 P) (N (o68 P) (N (Bf P) (N (Cu P) (N (FC P) E E) E) (N (D5 P) E E)) (N (BF P) (N (yz P) E E) (N (ER P) E E))) (N (AT P) (N (BB P) (N (CS P) E E) (N (ze P) E E)) (N (B5 P) (N (yO P) E E) (N (Ff P) E E)))) (N (o52 P) (N (o84 P) (N (Bp P) (N (yl P) E E) (N (Eh P) E E)) (N (xU P) (N (yF P) E E) (N (E3 P) E E))) (N (wO P) (N (xB P) (N (C7 P) E E) (N (EE P) E E)) (N (Ci P) (N (DO P) E E) (N (Fr P) E E))))) (N (o28 P) (N (o44 P) (N (o76 P) (N (Bl P) (N (CA P) E E) (N (Eb P) E E)) (N (xR P) (N (Do P) E E) (N (zr P) E E))) (N (wL P) (N (xn P) (N (CZ P) E E) (N (Ey P) E E)) (N (Cc P) (N (yR P) E E) (N (Fl P) E E)))) (N (o60 P) (N (o92 P) (N (Bv P) (N (yo P) E E) (N (zb P) E E)) (N (BW P) (N (yL P) E E) (N (E9 P) E E))) (N (A9 P) (N (xJ P) (N (yw P) E E) (N (EK P) E E)) (N (Co P) (N (DU P) E E) (N (Fv P) E E))))))) (N (o6 P) (N (o10 P) (N (o18 P) (N (o34 P) (N (o66 P) (N (wS P) (N (Cs P) (N (Fz P) E E) E) (N (DY P) E E)) (N (BC P) (N (Di P) E E) (N (EO P) E E))) (N (o98 P) (N (Bz P) (N (CP P) E E) (N (Es P) E E)) (N (xZ P) (N (DC P) E E) (N (Fd P) E E)))) (N (o50 P) (N (o82 P) (N (wX P) (N (CF P) E E) (N (Ef P) E E)) (N (BP P) (N (yD P) E E) (N (zt P) E E))) (N (A3 P) (N (xz P) (N (C5 P) E E) (N (zi P) E E)) (N (Cg P) (N (yS P) E E) (N (Fp P) E E))))) (N (o26 P) (N (o42 P) (N (o74 P) (N (Bj P) (N (Cy P) E E) (N (D9 P) E E)) (N (BJ P) (N (yA P) E E) (N (EV P) E E))) (N (AX P) (N (xl P) (N (CW P) E E) (N (zf P) E E)) (N (x9 P) (N (DI P) E E) (N (Fj P) E E)))) (N (o58 P) (N (o90 P) (N (w5 P) (N (CL P) E E) (N (El P) E E)) (N (BU P) (N (yJ P) E E) (N (zx P) E E))) (N (wP P) (N (xH P) (N (Db P) E E) (N (EI P) E E)) (N (Cm P) (N (yV P) E E) (N (zH P) E E)))))) (N (o14 P) (N (o22 P) (N (o38 P) (N (o70 P) (N (Bh P) (N (yh P) (N (zL P) E E) E) (N (D7 P) E E)) (N (BH P) (N (Dk P) E E) (N (zo P) E E))) (N (AV P) (N (xf P) (N (CU P) E E) (N (Eu P) E E)) (N (B8 P) (N (DE P) E E) (N (Fh P) E E)))) (N (o54 P) (N (o86 P) (N (Br P) (N (CH P) E E) (N (za P) E E)) (N (BR P) (N (yH P) E E) (N (E5 P) E E))) (N (A5 P) (N (xD P) (N (yv P) E E) (N (EG P) E E)) (N (Ck P) (N (DQ P) E E) (N (zG P) E E))))) (N (o30 P) (N (o46 P) (N (o78 P) (N (wW P) (N (yk P) E E) (N (y3 P) E E)) (N (BL P) (N (Ds P) E E) (N (EX P) E E))) (N (AZ P) (N (xr P) (N (C1 P) E E) (N (EA P) E E)) (N (Ce P) (N (DK P) E E) (N (zD P) E E)))) (N (o62 P) (N (o94 P) (N (Bx P) (N (CN P) E E) (N (En P) E E)) (N (xY P) (N (yN P) E E) (N (Fb P) E E))) (N (Bb P) (N (xL P) (N (Dd P) E E) (N (EM P) E E)) (N (ye P) (N (DW P) E E) (N (Fx P) E E))))))))
noncomputable def fO (P:Params) (i:Nat):Obj:=match (fT P).get i with | some v=>v | none=>hN
noncomputable def mT (P:Params) (n:Nat):Nat→Nat→Nat→PySem.W.BT
 | 0,_,_=>.nil
 | k+1,a,b=>match Nat.blt b n with
  | true=>.node (fO P b) (mT P n k (Nat.mul 2 a) (Nat.add a b)) (mT P n k (Nat.mul 2 a) (Nat.add (Nat.mul 2 a) b))
  | false=>.nil
noncomputable abbrev hA1:Option Value:=some (.ref 6)
noncomputable abbrev hB1:List Frame:=[PySem.W.topFrame ⟨0,0,0,0⟩]
noncomputable def bS:Env:={ scope:=PySem.Challenge.pw_oldhands_k85_kinds_in_words.main.scope,locals:=mainNs,globals:=mainNs,cells:=[],code:=.ref 13,frame:=some 14 }
noncomputable abbrev hCo:Code:=.body (PySem.W.behindTheImports PySem.Challenge.pw_oldhands_k85_kinds_in_words) bS
noncomputable def hp0 (P:Params):Heap:=⟨Array.mk (o0 P :: o1 P :: o2 P :: (gD P "__main__" 164 8 9) :: o4 P :: o5 P :: o6 P :: o7 P :: o8 P :: o9 P :: o10 P :: o11 P :: (tD 0) :: o13 P :: o14 P :: []),{}⟩
noncomputable def tB (P:Params):PySem.W.BT:=((mT P 15 11 1 0).set 3 (fun _=>gD P "__main__" 164 8 9)).set 12 (fun _=>tD 0)
noncomputable def sB (w:World) (os:OsState):PySem.W.SharedT:=⟨tB w.params,15,{},Array.mk [],{},187,os⟩
noncomputable def t0 (P:Params):PySem.W.BT:=(((mT P 28 11 1 0).set 3 (fun _=>gD P "oldhands.errors" 187 9 10)).set 12 (fun _=>tD 3)).set 24 (fun _=>{ cls:=.type "type",data:=.cls { name:= "HandError",bases:=[.type "ValueError"],mro:=[.ref 24,.type "ValueError",.type "Exception",.type "BaseException",.type "object"],ns:=23,qualname:= "HandError" },slots:=#[some (.ref 15),none,some (.str ("HandError") 189),some (.str ("HandError") 197),some (.builtin "ValueError.__new__"),some (.bool true)] })
noncomputable def s0 (w:World) (os:OsState):PySem.W.SharedT:=⟨t0 w.params,28,{},Array.mk [],{},207,os⟩
noncomputable def st0:List Stmt:=((PySem.W.behindTheImports PySem.Challenge.pw_oldhands_k85_kinds_in_words).drop 0).take 2
noncomputable def t1 (P:Params):PySem.W.BT:=(((mT P 40 11 1 0).set 3 (fun _=>gD P "oldhands.errors" 187 10 11)).set 12 (fun _=>tD 6)).set 24 (fun _=>{ cls:=.type "type",data:=.cls { name:= "HandError",bases:=[.type "ValueError"],mro:=[.ref 24,.type "ValueError",.type "Exception",.type "BaseException",.type "object"],ns:=23,qualname:= "HandError",subclasses:=[.ref 37] },slots:=#[some (.ref 15),none,some (.str ("HandError") 189),some (.str ("HandError") 197),some (.builtin "ValueError.__new__"),some (.bool true)] })
noncomputable def s1 (w:World) (os:OsState):PySem.W.SharedT:=⟨t1 w.params,40,{},Array.mk [],{},223,os⟩
noncomputable def st1:List Stmt:=((PySem.W.behindTheImports PySem.Challenge.pw_oldhands_k85_kinds_in_words).drop 2).take 1
noncomputable def t2 (P:Params):PySem.W.BT:=((mT P 52 11 1 0).set 3 (fun _=>gD P "oldhands.kinds" 239 20 21)).set 12 (fun _=>tD 9)
noncomputable def s2 (w:World) (os:OsState):PySem.W.SharedT:=⟨t2 w.params,52,{},Array.mk [],{},259,os⟩
noncomputable def st2:List Stmt:=((PySem.W.behindTheImports PySem.Challenge.pw_oldhands_k85_kinds_in_words).drop 3).take 11
noncomputable def t3 (P:Params):PySem.W.BT:=((mT P 117 11 1 0).set 3 (fun _=>gD P "oldhands.kinds" 239 31 32)).set 12 (fun _=>tD 39)
noncomputable def s3 (w:World) (os:OsState):PySem.W.SharedT:=⟨t3 w.params,117,{},Array.mk [],{},351,os⟩
noncomputable def st3:List Stmt:=((PySem.W.behindTheImports PySem.Challenge.pw_oldhands_k85_kinds_in_words).drop 14).take 11
noncomputable def t4 (P:Params):PySem.W.BT:=((mT P 172 11 1 0).set 3 (fun _=>gD P "oldhands.words" 418 42 43)).set 12 (fun _=>tD 63)
noncomputable def s4 (w:World) (os:OsState):PySem.W.SharedT:=⟨t4 w.params,172,{},Array.mk [],{},437,os⟩
noncomputable def st4:List Stmt:=((PySem.W.behindTheImports PySem.Challenge.pw_oldhands_k85_kinds_in_words).drop 25).take 14
noncomputable def t5 (P:Params):PySem.W.BT:=((mT P 194 11 1 0).set 3 (fun _=>gD P "oldhands.words" 418 44 45)).set 12 (fun _=>tD 63)
noncomputable def s5 (w:World) (os:OsState):PySem.W.SharedT:=⟨t5 w.params,194,{},Array.mk [],{},521,os⟩
noncomputable def st5:List Stmt:=((PySem.W.behindTheImports PySem.Challenge.pw_oldhands_k85_kinds_in_words).drop 39).take 2
noncomputable def t6 (P:Params):PySem.W.BT:=((mT P 263 11 1 0).set 3 (fun _=>gD P "oldhands.tokens" 600 63 64)).set 12 (fun _=>tD 96)
noncomputable def s6 (w:World) (os:OsState):PySem.W.SharedT:=⟨t6 w.params,263,{},Array.mk [],{},618,os⟩
noncomputable def st6:List Stmt:=((PySem.W.behindTheImports PySem.Challenge.pw_oldhands_k85_kinds_in_words).drop 41).take 20
noncomputable def t7 (P:Params):PySem.W.BT:=((mT P 297 11 1 0).set 3 (fun _=>gD P "oldhands.tokens" 600 69 70)).set 12 (fun _=>tD 111)
noncomputable def s7 (w:World) (os:OsState):PySem.W.SharedT:=⟨t7 w.params,297,{},Array.mk [],{},667,os⟩
noncomputable def st7:List Stmt:=((PySem.W.behindTheImports PySem.Challenge.pw_oldhands_k85_kinds_in_words).drop 61).take 6
noncomputable def t8 (P:Params):PySem.W.BT:=((mT P 346 11 1 0).set 3 (fun _=>gD P "oldhands.texts" 731 70 71)).set 12 (fun _=>tD 114)
noncomputable def s8 (w:World) (os:OsState):PySem.W.SharedT:=⟨t8 w.params,346,{},Array.mk [],{},733,os⟩
noncomputable def st8:List Stmt:=((PySem.W.behindTheImports PySem.Challenge.pw_oldhands_k85_kinds_in_words).drop 67).take 2
noncomputable def t9 (P:Params):PySem.W.BT:=((mT P 421 11 1 0).set 3 (fun _=>gD P "oldhands.texts" 731 82 83)).set 12 (fun _=>tD 144)
noncomputable def s9 (w:World) (os:OsState):PySem.W.SharedT:=⟨t9 w.params,421,{},Array.mk [],{},850,os⟩
noncomputable def st9:List Stmt:=((PySem.W.behindTheImports PySem.Challenge.pw_oldhands_k85_kinds_in_words).drop 69).take 12
noncomputable def t10 (P:Params):PySem.W.BT:=((mT P 503 11 1 0).set 3 (fun _=>gD P "law_oldhands_k85_kinds_in_words" 857 94 95)).set 12 (fun _=>tD 180)
noncomputable def s10 (w:World) (os:OsState):PySem.W.SharedT:=⟨t10 w.params,503,{},Array.mk [],{},969,os⟩
noncomputable def FE:List Stmt:=((PySem.W.behindTheImports PySem.Challenge.pw_oldhands_k85_kinds_in_words).drop 81).take 13
noncomputable def t11 (P:Params):PySem.W.BT:=mT P 520 11 1 0
noncomputable def s11 (w:World) (os:OsState):PySem.W.SharedT:=⟨t11 w.params,520,{},Array.mk [],{},994,os⟩
noncomputable def FF:List Stmt:=((PySem.W.behindTheImports PySem.Challenge.pw_oldhands_k85_kinds_in_words).drop 94).take 3
noncomputable def hp1 (P:Params):Heap:=⟨Array.mk (o0 P :: o1 P :: o2 P :: o3 P :: o4 P :: o5 P :: o6 P :: o7 P :: o8 P :: o9 P :: o10 P :: o11 P :: o12 P :: o13 P :: o14 P :: o15 P :: o16 P :: o17 P :: o18 P :: o19 P :: o20 P :: o21 P :: o22 P :: o23 P :: o24 P :: o25 P :: o26 P :: o27 P :: o28 P :: o29 P :: o30 P :: o31 P :: o32 P :: o33 P :: o34 P :: o35 P :: o36 P :: o37 P :: o38 P :: o39 P :: o40 P :: o41 P :: o42 P :: o43 P :: o44 P :: o45 P :: o46 P :: o47 P :: o48 P :: o49 P :: o50 P :: o51 P :: o52 P :: o53 P :: o54 P :: o55 P :: o56 P :: o57 P :: o58 P :: o59 P :: o60 P :: o61 P :: o62 P :: o63 P :: o64 P :: o65 P :: o66 P :: o67 P :: o68 P :: o69 P :: o70 P :: o71 P :: o72 P :: o73 P :: o74 P :: o75 P :: o76 P :: o77 P :: o78 P :: o79 P :: o80 P :: o81 P :: o82 P :: o83 P :: o84 P :: o85 P :: o86 P :: o87 P :: o88 P :: o89 P :: o90 P :: o91 P :: o92 P :: o93 P :: o94 P :: o95 P :: o96 P :: o97 P :: o98 P :: o99 P :: AT P :: AU P :: AV P :: wJ P :: wK P :: AW P :: AX P :: AY P :: wL P :: wM P :: AZ P :: A0 P :: A1 P :: A2 P :: A3 P :: wN P :: wO P :: A4 P :: A5 P :: A6 P :: A7 P :: A8 P :: wP P :: wQ P :: A9 P :: Ba P :: Bb P :: Bc P :: Bd P :: wR P :: wS P :: Be P :: Bf P :: Bg P :: Bh P :: Bi P :: wT P :: wU P :: Bj P :: Bk P :: Bl P :: wV P :: wW P :: Bm P :: Bn P :: Bo P :: wX P :: wY P :: Bp P :: Bq P :: Br P :: Bs P :: Bt P :: wZ P :: w5 P :: Bu P :: Bv P :: Bw P :: Bx P :: By P :: w6 P :: w8 P :: Bz P :: BA P :: BB P :: w9 P :: xf P :: xh P :: xi P :: xj P :: xl P :: xm P :: xn P :: xp P :: xr P :: xu P :: xw P :: xx P :: xz P :: xA P :: xB P :: xC P :: xD P :: xE P :: xF P :: xG P :: xH P :: xI P :: xJ P :: xK P :: xL P :: xM P :: xN P :: xO P :: BC P :: BE P :: BF P :: BG P :: BH P :: xP P :: xQ P :: BI P :: BJ P :: BK P :: xR P :: xS P :: BL P :: BM P :: BN P :: BO P :: BP P :: xT P :: xU P :: BQ P :: BR P :: BS P :: xV P :: xW P :: BU P :: BV P :: BW P :: xX P :: xY P :: BX P :: BY P :: BZ P :: xZ P :: x6 P :: B5 P :: B7 P :: B8 P :: B9 P :: Ca P :: x8 P :: x9 P :: Cb P :: Cc P :: Cd P :: Ce P :: Cf P :: ya P :: yb P :: Cg P :: Ch P :: Ci P :: Cj P :: Ck P :: yc P :: yd P :: Cl P :: Cm P :: Cn P :: Co P :: Cp P :: ye P :: yf P :: Cq P :: Cr P :: Cs P :: Ct P :: Cu P :: yg P :: yh P :: yi P :: Cv P :: Cw P :: Cy P :: Cz P :: CA P :: yj P :: yk P :: CB P :: CC P :: CD P :: CF P :: CG P :: yl P :: ym P :: CH P :: CI P :: CJ P :: CK P :: CL P :: yn P :: yo P :: CM P :: CN P :: CO P :: yp P :: yq P :: CP P :: CQ P :: CS P :: CT P :: CU P :: yr P :: yt P :: CV P :: CW P :: CY P :: CZ P :: C0 P :: C1 P :: C2 P :: C3 P :: C4 P :: C5 P :: C6 P :: C7 P :: yu P :: yv P :: C8 P :: C9 P :: Da P :: Db P :: Dc P :: yw P :: yx P :: Dd P :: De P :: Dg P :: Dh P :: Di P :: yy P :: yz P :: Dj P :: Dk P :: Dl P :: Dm P :: Dn P :: yA P :: yB P :: Do P :: Dq P :: Ds P :: Du P :: Dv P :: yC P :: yD P :: yE P :: yF P :: yG P :: yH P :: yI P :: Dx P :: Dy P :: yJ P :: yK P :: yL P :: yM P :: yN P :: Dz P :: DA P :: DB P :: DC P :: DD P :: yO P :: yP P :: DE P :: DF P :: DG P :: DH P :: DI P :: yQ P :: yR P :: DJ P :: DK P :: DL P :: DM P :: DN P :: yS P :: yT P :: DO P :: DP P :: DQ P :: DR P :: DS P :: yU P :: yV P :: DT P :: DU P :: DV P :: DW P :: DX P :: yW P :: yX P :: DY P :: DZ P :: D5 P :: D6 P :: D7 P :: yY P :: yZ P :: D8 P :: D9 P :: Ea P :: Eb P :: Ec P :: y3 P :: y4 P :: Ed P :: Ee P :: Ef P :: Eg P :: Eh P :: y9 P :: za P :: Ei P :: Ej P :: Ek P :: El P :: Em P :: zb P :: zc P :: En P :: Eo P :: Ep P :: Er P :: Es P :: zd P :: ze P :: Et P :: Eu P :: Ev P :: Ew P :: Ex P :: zf P :: zg P :: Ey P :: Ez P :: EA P :: EB P :: EC P :: zh P :: zi P :: ED P :: EE P :: EF P :: EG P :: EH P :: zj P :: zk P :: EI P :: EJ P :: EK P :: EL P :: EM P :: zm P :: zn P :: EN P :: EO P :: EQ P :: ER P :: ES P :: zo P :: zp P :: ET P :: EU P :: EV P :: zq P :: zr P :: EW P :: EX P :: EY P :: EZ P :: E1 P :: zt P :: zu P :: E3 P :: E4 P :: E5 P :: E6 P :: E7 P :: zw P :: zx P :: E8 P :: E9 P :: Fa P :: Fb P :: Fc P :: zy P :: zA P :: Fd P :: Fe P :: Ff P :: Fg P :: Fh P :: zB P :: zC P :: Fi P :: Fj P :: Fk P :: Fl P :: Fm P :: zD P :: zE P :: Fn P :: Fo P :: Fp P :: Fq P :: Fr P :: zF P :: zG P :: Fs P :: Ft P :: Fu P :: zH P :: zI P :: Fv P :: Fw P :: Fx P :: zJ P :: zK P :: Fy P :: Fz P :: FA P :: FC P :: FD P :: zL P :: zM P :: []),{}⟩
theorem GN:∀ w:World,(fun os=>PySem.W.topGo treeTable PySem.Challenge.pw_oldhands_k85_kinds_in_words w 11 hA1 12 ⟨PySem.W.boot_heap w.params,Array.mk [],PySem.W.boot_drawn,PySem.W.boot_toks,os⟩ (PySem.W.topStub PySem.Challenge.pw_oldhands_k85_kinds_in_words))=fun os=>some (⟨hp0 w.params,Array.mk [],{},187,os⟩,⟨denote treeTable hCo,hCo,⟨0,0,0,0⟩,hB1⟩):=fun w=>by kernel_rfl
theorem zN:∀ w:World,(fun os=>PySem.W.segRun treeTable PySem.Challenge.pw_oldhands_k85_kinds_in_words w 11 hA1 1 1 ⟨hp0 w.params,Array.mk [],{},187,os⟩ (PySem.W.blockOf (PySem.W.behindTheImports PySem.Challenge.pw_oldhands_k85_kinds_in_words) bS hCo ⟨0,0,0,0⟩ hB1))=fun os=>some (.next,(sB w os).abs,hCo,⟨0,0,0,0⟩):=fun w=>by kernel_rfl
theorem r0:∀ w:World,(fun os=>PySem.W.segRunT treeTable PySem.Challenge.pw_oldhands_k85_kinds_in_words w 11 hA1 1 196 (sB w os) (PySem.W.piecesOf st0 bS hCo ⟨0,0,0,0⟩ hB1))=fun os=>some (.next,s0 w os,hCo,⟨2,0,3,8⟩):=fun w=>by kernel_rfl
theorem r1:∀ w:World,(fun os=>PySem.W.segRunT treeTable PySem.Challenge.pw_oldhands_k85_kinds_in_words w 11 hA1 1 214 (s0 w os) (PySem.W.piecesOf st1 bS hCo ⟨2,0,3,8⟩ hB1))=fun os=>some (.next,s1 w os,hCo,⟨4,0,5,8⟩):=fun w=>by kernel_rfl
theorem r2:∀ w:World,(fun os=>PySem.W.segRunT treeTable PySem.Challenge.pw_oldhands_k85_kinds_in_words w 11 hA1 1 304 (s1 w os) (PySem.W.piecesOf st2 bS hCo ⟨4,0,5,8⟩ hB1))=fun os=>some (.next,s2 w os,hCo,⟨17,0,17,7⟩):=fun w=>by kernel_rfl
theorem r3f:∀ w:World,(fun os=>PySem.W.segRunT treeTable PySem.Challenge.pw_oldhands_k85_kinds_in_words (w.withFollow "special-get-raises" false) 11 hA1 1 388 (s2 (w.withFollow "special-get-raises" false) os) (PySem.W.piecesOf st3 bS hCo ⟨17,0,17,7⟩ hB1))=fun os=>some (.next,s3 (w.withFollow "special-get-raises" false) os,hCo,⟨67,0,70,58⟩):=fun w=>by kernel_rfl
theorem r3t:∀ w:World,(fun os=>PySem.W.segRunT treeTable PySem.Challenge.pw_oldhands_k85_kinds_in_words (w.withFollow "special-get-raises" true) 11 hA1 1 388 (s2 (w.withFollow "special-get-raises" true) os) (PySem.W.piecesOf st3 bS hCo ⟨17,0,17,7⟩ hB1))=fun os=>some (.next,s3 (w.withFollow "special-get-raises" true) os,hCo,⟨67,0,70,58⟩):=fun w=>by kernel_rfl
theorem r3:∀ w:World,(fun os=>PySem.W.segRunT treeTable PySem.Challenge.pw_oldhands_k85_kinds_in_words w 11 hA1 1 388 (s2 w os) (PySem.W.piecesOf st3 bS hCo ⟨17,0,17,7⟩ hB1))=fun os=>some (.next,s3 w os,hCo,⟨67,0,70,58⟩):=PySem.W.byRow2 "special-get-raises" (P:=fun w=>(fun os=>PySem.W.segRunT treeTable PySem.Challenge.pw_oldhands_k85_kinds_in_words w 11 hA1 1 388 (s2 w os) (PySem.W.piecesOf st3 bS hCo ⟨17,0,17,7⟩ hB1))=fun os=>some (.next,s3 w os,hCo,⟨67,0,70,58⟩)) r3f r3t
theorem r4f:∀ w:World,(fun os=>PySem.W.segRunT treeTable PySem.Challenge.pw_oldhands_k85_kinds_in_words (w.withFollow "special-get-raises" false) 11 hA1 1 357 (s3 (w.withFollow "special-get-raises" false) os) (PySem.W.piecesOf st4 bS hCo ⟨67,0,70,58⟩ hB1))=fun os=>some (.next,s4 (w.withFollow "special-get-raises" false) os,hCo,⟨112,0,112,10⟩):=fun w=>by kernel_rfl
theorem r4t:∀ w:World,(fun os=>PySem.W.segRunT treeTable PySem.Challenge.pw_oldhands_k85_kinds_in_words (w.withFollow "special-get-raises" true) 11 hA1 1 357 (s3 (w.withFollow "special-get-raises" true) os) (PySem.W.piecesOf st4 bS hCo ⟨67,0,70,58⟩ hB1))=fun os=>some (.next,s4 (w.withFollow "special-get-raises" true) os,hCo,⟨112,0,112,10⟩):=fun w=>by kernel_rfl
theorem r4:∀ w:World,(fun os=>PySem.W.segRunT treeTable PySem.Challenge.pw_oldhands_k85_kinds_in_words w 11 hA1 1 357 (s3 w os) (PySem.W.piecesOf st4 bS hCo ⟨67,0,70,58⟩ hB1))=fun os=>some (.next,s4 w os,hCo,⟨112,0,112,10⟩):=PySem.W.byRow2 "special-get-raises" (P:=fun w=>(fun os=>PySem.W.segRunT treeTable PySem.Challenge.pw_oldhands_k85_kinds_in_words w 11 hA1 1 357 (s3 w os) (PySem.W.piecesOf st4 bS hCo ⟨67,0,70,58⟩ hB1))=fun os=>some (.next,s4 w os,hCo,⟨112,0,112,10⟩)) r4f r4t
theorem r5f:∀ w:World,(fun os=>PySem.W.segRunT treeTable PySem.Challenge.pw_oldhands_k85_kinds_in_words (w.withFollow "special-get-raises" false) 11 hA1 1 383 (s4 (w.withFollow "special-get-raises" false) os) (PySem.W.piecesOf st5 bS hCo ⟨112,0,112,10⟩ hB1))=fun os=>some (.next,s5 (w.withFollow "special-get-raises" false) os,hCo,⟨114,0,114,11⟩):=fun w=>by kernel_rfl
theorem r5t:∀ w:World,(fun os=>PySem.W.segRunT treeTable PySem.Challenge.pw_oldhands_k85_kinds_in_words (w.withFollow "special-get-raises" true) 11 hA1 1 383 (s4 (w.withFollow "special-get-raises" true) os) (PySem.W.piecesOf st5 bS hCo ⟨112,0,112,10⟩ hB1))=fun os=>some (.next,s5 (w.withFollow "special-get-raises" true) os,hCo,⟨114,0,114,11⟩):=fun w=>by kernel_rfl
theorem r5:∀ w:World,(fun os=>PySem.W.segRunT treeTable PySem.Challenge.pw_oldhands_k85_kinds_in_words w 11 hA1 1 383 (s4 w os) (PySem.W.piecesOf st5 bS hCo ⟨112,0,112,10⟩ hB1))=fun os=>some (.next,s5 w os,hCo,⟨114,0,114,11⟩):=PySem.W.byRow2 "special-get-raises" (P:=fun w=>(fun os=>PySem.W.segRunT treeTable PySem.Challenge.pw_oldhands_k85_kinds_in_words w 11 hA1 1 383 (s4 w os) (PySem.W.piecesOf st5 bS hCo ⟨112,0,112,10⟩ hB1))=fun os=>some (.next,s5 w os,hCo,⟨114,0,114,11⟩)) r5f r5t
theorem r6:∀ w:World,(fun os=>PySem.W.segRunT treeTable PySem.Challenge.pw_oldhands_k85_kinds_in_words w 11 hA1 1 395 (s5 w os) (PySem.W.piecesOf st6 bS hCo ⟨114,0,114,11⟩ hB1))=fun os=>some (.next,s6 w os,hCo,⟨179,0,179,13⟩):=fun w=>by kernel_rfl
theorem r7:∀ w:World,(fun os=>PySem.W.segRunT treeTable PySem.Challenge.pw_oldhands_k85_kinds_in_words w 11 hA1 1 167 (s6 w os) (PySem.W.piecesOf st7 bS hCo ⟨179,0,179,13⟩ hB1))=fun os=>some (.next,s7 w os,hCo,⟨219,0,228,18⟩):=fun w=>by kernel_rfl
theorem r8:∀ w:World,(fun os=>PySem.W.segRunT treeTable PySem.Challenge.pw_oldhands_k85_kinds_in_words w 11 hA1 1 363 (s7 w os) (PySem.W.piecesOf st8 bS hCo ⟨219,0,228,18⟩ hB1))=fun os=>some (.next,s8 w os,hCo,⟨253,0,253,8⟩):=fun w=>by kernel_rfl
theorem r9f:∀ w:World,(fun os=>PySem.W.segRunT treeTable PySem.Challenge.pw_oldhands_k85_kinds_in_words (w.withFollow "special-get-raises" false) 11 hA1 1 398 (s8 (w.withFollow "special-get-raises" false) os) (PySem.W.piecesOf st9 bS hCo ⟨253,0,253,8⟩ hB1))=fun os=>some (.next,s9 (w.withFollow "special-get-raises" false) os,hCo,⟨331,0,338,23⟩):=fun w=>by kernel_rfl
theorem r9t:∀ w:World,(fun os=>PySem.W.segRunT treeTable PySem.Challenge.pw_oldhands_k85_kinds_in_words (w.withFollow "special-get-raises" true) 11 hA1 1 398 (s8 (w.withFollow "special-get-raises" true) os) (PySem.W.piecesOf st9 bS hCo ⟨253,0,253,8⟩ hB1))=fun os=>some (.next,s9 (w.withFollow "special-get-raises" true) os,hCo,⟨331,0,338,23⟩):=fun w=>by kernel_rfl
theorem r9:∀ w:World,(fun os=>PySem.W.segRunT treeTable PySem.Challenge.pw_oldhands_k85_kinds_in_words w 11 hA1 1 398 (s8 w os) (PySem.W.piecesOf st9 bS hCo ⟨253,0,253,8⟩ hB1))=fun os=>some (.next,s9 w os,hCo,⟨331,0,338,23⟩):=PySem.W.byRow2 "special-get-raises" (P:=fun w=>(fun os=>PySem.W.segRunT treeTable PySem.Challenge.pw_oldhands_k85_kinds_in_words w 11 hA1 1 398 (s8 w os) (PySem.W.piecesOf st9 bS hCo ⟨253,0,253,8⟩ hB1))=fun os=>some (.next,s9 w os,hCo,⟨331,0,338,23⟩)) r9f r9t
theorem r10:∀ w:World,(fun os=>PySem.W.segRunT treeTable PySem.Challenge.pw_oldhands_k85_kinds_in_words w 11 hA1 1 389 (s9 w os) (PySem.W.piecesOf FE bS hCo ⟨331,0,338,23⟩ hB1))=fun os=>some (.next,s10 w os,hCo,⟨415,0,433,24⟩):=fun w=>by kernel_rfl
theorem r11:∀ w:World,(fun os=>PySem.W.segRunT treeTable PySem.Challenge.pw_oldhands_k85_kinds_in_words w 11 hA1 1 88 (s10 w os) (PySem.W.piecesOf FF bS hCo ⟨415,0,433,24⟩ hB1))=fun os=>some (.next,s11 w os,hCo,⟨438,0,447,15⟩):=fun w=>by kernel_rfl
theorem GO:∀ w:World,(fun os=>PySem.W.topRun treeTable PySem.Challenge.pw_oldhands_k85_kinds_in_words w 11 hA1 2 (s11 w os).abs ⟨PySem.W.doneF .next,hCo,⟨438,0,447,15⟩,hB1⟩)=fun os=>some (⟨hp1 w.params,Array.mk [],{},994,os⟩:Shared):=fun w=>by kernel_rfl
theorem GP:PySem.W.behindTheImports PySem.Challenge.pw_oldhands_k85_kinds_in_words=st0++(st1++(st2++(st3++(st4++(st5++(st6++(st7++(st8++(st9++(FE++(FF++[]))))))))))):=by kernel_rfl
theorem GQ (w:World) (os:OsState):PySem.W.topRun treeTable PySem.Challenge.pw_oldhands_k85_kinds_in_words w 11 hA1 (12+(1+(196+(214+(304+(388+(357+(383+(395+(167+(363+(398+(389+(88+(2))))))))))))))) ⟨PySem.W.boot_heap w.params,Array.mk [],PySem.W.boot_drawn,PySem.W.boot_toks,os⟩ (PySem.W.topStub PySem.Challenge.pw_oldhands_k85_kinds_in_words)=some ⟨hp1 w.params,Array.mk [],{},994,os⟩:=by
 refine PySem.W.go_top (congrFun (GN w) os) (PySem.W.piece_block (congrFun (zN w) os) ?_);rw [GP];exact (PySem.W.piece_app (PySem.W.segRun_of (congrFun (r0 w) os)) (PySem.W.piece_app (PySem.W.segRun_of (congrFun (r1 w) os)) (PySem.W.piece_app (PySem.W.segRun_of (congrFun (r2 w) os)) (PySem.W.piece_app (PySem.W.segRun_of (congrFun (r3 w) os)) (PySem.W.piece_app (PySem.W.segRun_of (congrFun (r4 w) os)) (PySem.W.piece_app (PySem.W.segRun_of (congrFun (r5 w) os)) (PySem.W.piece_app (PySem.W.segRun_of (congrFun (r6 w) os)) (PySem.W.piece_app (PySem.W.segRun_of (congrFun (r7 w) os)) (PySem.W.piece_app (PySem.W.segRun_of (congrFun (r8 w) os)) (PySem.W.piece_app (PySem.W.segRun_of (congrFun (r9 w) os)) (PySem.W.piece_app (PySem.W.segRun_of (congrFun (r10 w) os)) (PySem.W.piece_app (PySem.W.segRun_of (congrFun (r11 w) os)) (show PySem.W.topRun treeTable PySem.Challenge.pw_oldhands_k85_kinds_in_words w 11 hA1 2 _ (PySem.W.restOf [] bS hCo ⟨438,0,447,15⟩ hB1)=_ from congrFun (GO w) os)))))))))))))
noncomputable def hK:Params→PySem.W.Frag:=fun P =>
 (nat_lit 3,o3 P) :: (nat_lit 4,o4 P) :: (nat_lit 6,o6 P) :: (nat_lit 15,o15 P) :: (nat_lit 22,o22 P) :: (nat_lit 23,o23 P) :: (nat_lit 24,o24 P) :: (nat_lit 25,o25 P) :: (nat_lit 28,o28 P) :: (nat_lit 35,o35 P) :: (nat_lit 36,o36 P) :: (nat_lit 37,o37 P) :: (nat_lit 40,o40 P) :: (nat_lit 47,o47 P) :: (nat_lit 48,o48 P) :: (nat_lit 49,o49 P) :: (nat_lit 52,o52 P) :: (nat_lit 56,o56 P) :: (nat_lit 57,o57 P) :: (nat_lit 63,o63 P) :: (nat_lit 64,o64 P) :: (nat_lit 70,o70 P) :: (nat_lit 71,o71 P) :: (nat_lit 77,o77 P) :: (nat_lit 78,o78 P) :: (nat_lit 84,o84 P) :: (nat_lit 85,o85 P) :: (nat_lit 91,o91 P) :: (nat_lit 92,o92 P) :: (nat_lit 98,o98 P) :: (nat_lit 99,o99 P) :: (nat_lit 103,wJ P) :: (nat_lit 104,wK P) :: (nat_lit 108,wL P) :: (nat_lit 109,wM P) :: (nat_lit 115,wN P) :: (nat_lit 116,wO P) :: (nat_lit 122,wP P) :: (nat_lit 123,wQ P) :: (nat_lit 129,wR P) :: (nat_lit 130,wS P) :: (nat_lit 136,wT P) :: (nat_lit 137,wU P) :: (nat_lit 141,wV P) :: (nat_lit 142,wW P) :: (nat_lit 146,wX P) :: (nat_lit 147,wY P) :: (nat_lit 153,wZ P) :: (nat_lit 154,w5 P) :: (nat_lit 160,w6 P) :: (nat_lit 161,w8 P) :: (nat_lit 165,w9 P) :: (nat_lit 166,xf P) :: (nat_lit 167,xh P) :: (nat_lit 168,xi P) :: (nat_lit 169,xj P) :: (nat_lit 170,xl P) :: (nat_lit 171,xm P) :: (nat_lit 172,xn P) :: (nat_lit 173,xp P) :: (nat_lit 174,xr P) :: (nat_lit 175,xu P) :: (nat_lit 176,xw P) :: (nat_lit 177,xx P) :: (nat_lit 178,xz P) :: (nat_lit 179,xA P) :: (nat_lit 180,xB P) :: (nat_lit 181,xC P) :: (nat_lit 182,xD P) :: (nat_lit 183,xE P) :: (nat_lit 184,xF P) :: (nat_lit 185,xG P) :: (nat_lit 186,xH P) :: (nat_lit 187,xI P) :: (nat_lit 188,xJ P) :: (nat_lit 189,xK P) :: (nat_lit 190,xL P) :: (nat_lit 191,xM P) :: (nat_lit 192,xN P) :: (nat_lit 193,xO P) :: (nat_lit 199,xP P) :: (nat_lit 200,xQ P) :: (nat_lit 204,xR P) :: (nat_lit 205,xS P) :: (nat_lit 211,xT P) :: (nat_lit 212,xU P) :: (nat_lit 216,xV P) :: (nat_lit 217,xW P) :: (nat_lit 221,xX P) :: (nat_lit 222,xY P) :: (nat_lit 226,xZ P) :: (nat_lit 227,x6 P) :: (nat_lit 233,x8 P) :: (nat_lit 234,x9 P) :: (nat_lit 240,ya P) :: (nat_lit 241,yb P) :: (nat_lit 247,yc P) :: (nat_lit 248,yd P) :: (nat_lit 254,ye P) :: (nat_lit 255,yf P) :: (nat_lit 261,yg P) :: (nat_lit 262,yh P) :: (nat_lit 263,yi P) :: (nat_lit 269,yj P) :: (nat_lit 270,yk P) :: (nat_lit 276,yl P) :: (nat_lit 277,ym P) :: (nat_lit 283,yn P) :: (nat_lit 284,yo P) :: (nat_lit 288,yp P) :: (nat_lit 289,yq P) :: (nat_lit 295,yr P) :: (nat_lit 296,yt P) :: (nat_lit 309,yu P) :: (nat_lit 310,yv P) :: (nat_lit 316,yw P) :: (nat_lit 317,yx P) :: (nat_lit 323,yy P) :: (nat_lit 324,yz P) :: (nat_lit 330,yA P) :: (nat_lit 331,yB P) :: (nat_lit 337,yC P) :: (nat_lit 338,yD P) :: (nat_lit 339,yE P) :: (nat_lit 340,yF P) :: (nat_lit 341,yG P) :: (nat_lit 342,yH P) :: (nat_lit 343,yI P) :: (nat_lit 346,yJ P) :: (nat_lit 347,yK P) :: (nat_lit 348,yL P) :: (nat_lit 349,yM P) :: (nat_lit 350,yN P) :: (nat_lit 356,yO P) :: (nat_lit 357,yP P) :: (nat_lit 363,yQ P) :: (nat_lit 364,yR P) :: (nat_lit 370,yS P) :: (nat_lit 371,yT P) :: (nat_lit 377,yU P) :: (nat_lit 378,yV P) :: (nat_lit 384,yW P) :: (nat_lit 385,yX P) :: (nat_lit 391,yY P) :: (nat_lit 392,yZ P) :: (nat_lit 398,y3 P) :: (nat_lit 399,y4 P) :: (nat_lit 405,y9 P) :: (nat_lit 406,za P) :: (nat_lit 412,zb P) :: (nat_lit 413,zc P) :: (nat_lit 419,zd P) :: (nat_lit 420,ze P) :: (nat_lit 426,zf P) :: (nat_lit 427,zg P) :: (nat_lit 433,zh P) :: (nat_lit 434,zi P) :: (nat_lit 440,zj P) :: (nat_lit 441,zk P) :: (nat_lit 447,zm P) :: (nat_lit 448,zn P) :: (nat_lit 454,zo P) :: (nat_lit 455,zp P) :: (nat_lit 459,zq P) :: (nat_lit 460,zr P) :: (nat_lit 466,zt P) :: (nat_lit 467,zu P) :: (nat_lit 473,zw P) :: (nat_lit 474,zx P) :: (nat_lit 480,zy P) :: (nat_lit 481,zA P) :: (nat_lit 487,zB P) :: (nat_lit 488,zC P) :: (nat_lit 494,zD P) :: (nat_lit 495,zE P) :: (nat_lit 501,zF P) :: (nat_lit 502,zG P) :: (nat_lit 506,zH P) :: (nat_lit 507,zI P) :: (nat_lit 511,zJ P) :: (nat_lit 512,zK P) :: (nat_lit 518,zL P) :: (nat_lit 519,zM P) :: []
noncomputable def hA:List Addr:=[3,4,6,15,22,23,24,25,28,35,36,37,40,47,48,49,52,56,57,63,64,70,71,77,78,84,85,91,92,98,99,103,104,108,109,115,116,122,123,129,130,136,137,141,142,146,147,153,154,160,161,165,166,167,168,169,170,171,172,173,174,175,176,177,178,179,180,181,182,183,184,185,186,187,188,189,190,191,192,193,199,200,204,205,211,212,216,217,221,222,226,227,233,234,240,241,247,248,254,255,261,262,263,269,270,276,277,283,284,288,289,295,296,309,310,316,317,323,324,330,331,337,338,339,340,341,342,343,346,347,348,349,350,356,357,363,364,370,371,377,378,384,385,391,392,398,399,405,406,412,413,419,420,426,427,433,434,440,441,447,448,454,455,459,460,466,467,473,474,480,481,487,488,494,495,501,502,506,507,511,512,518,519]
theorem hKA:∀ P,hA=(hK P).map (·.1):=fun _=>by kernel_rfl
noncomputable abbrev hH:PySem.W.Hook:=PySem.W.kHook hK hA hKA
noncomputable abbrev hQ:Program:=PySem.W.view PySem.Challenge.pw_oldhands_k85_kinds_in_words [96]
def hW:List Str:= "HandError" :: "BadKind" :: "BadText" :: "LETTERS" :: "LONGEST_NAME" :: "EACH" :: "MOST_SIGNS" :: "MOST_WORDS" :: "MOST_FIELDS" :: "MOST_ITEMS" :: "MOST_KINDS" :: "DEEPEST" :: "PART_COUNTS" :: "is_name" :: "is_whole" :: "is_whole_within" :: "made_kind" :: "is_formed" :: "has_parts" :: "are_bounds" :: "are_words" :: "are_fields" :: "is_field" :: "are_rows" :: "field_kind" :: "item_kind" :: "kinds_within" :: "kind_many" :: "PERCENT" :: "is_sign" :: "FIGURES" :: "figures_of" :: "number_of" :: "KIND_PARTS" :: "TURN_PARTS" :: "PIECE_PARTS" :: "parts_behind" :: "kind_text" :: "most_exchanged" :: "value_text" :: "turn_text" :: "form_text" :: "part_text" :: "in_brackets" :: "with_commas" :: "pair_text" :: "quoted" :: "BLANK" :: "QUOTE" :: "MINUS" :: "OPENING" :: "CLOSING" :: "MARKS" :: "MOST_FIGURES" :: "MOST_BRACKETS" :: "END" :: "words_of" :: "word_end" :: "run_end" :: "made_word" :: "deepest_brackets" :: "WordRow" :: "PAIR_SORTS" :: "BRACKETED" :: "read_kind" :: "read_all" :: "part_read" :: "pair_read" :: "kind_read" :: "value_read" :: "turn_read" :: "path_read" :: "form_read" :: "list_read" :: "at_least_one" :: "_law_cell_at" :: "_law_mixed" :: "_law_own" :: "_law_digit" :: "_law_names" :: "_law_number_kind" :: "_law_leaf_kind" :: "_law_record_kind" :: "_law_rows_kind" :: "_law_kind" :: "_law_kind_words" :: "_law_tight" :: "_law_loose" :: []
noncomputable abbrev hX (s:Shared):Bool:=PySem.W.recOk (PySem.W.RowW.records (PySem.W.OpenRow.toRowW PySem.Challenge.rw_oldhands_k85_kinds_in_words.row)) s
theorem FG:∀ w:World,((PySem.W.boot_heap w.params).isNs mainGlobals && (Array.mk []:Array GenState).size == 0,(PySem.W.boot_heap w.params).objs.size,(PySem.W.boot_heap w.params).nsMap mainGlobals "__annotations__")=(true,11,hA1):=fun w=>by kernel_rfl
theorem rL1:∀ w:World,(fun os=>(PySem.W.staticsOk (importedModules PySem.Challenge.pw_oldhands_k85_kinds_in_words.main.body) (PySem.W.boot_heap w.params) (hp1 w.params) && PySem.W.namesBound PySem.Challenge.pw_oldhands_k85_kinds_in_words (hp1 w.params) && PySem.W.gensDone ⟨hp1 w.params,Array.mk [],{},994,os⟩ && PySem.W.laidKept (PySem.W.boot_heap w.params) (hp1 w.params)))=fun _=>true:=fun w=>by kernel_rfl
theorem rL2:∀ w:World,(fun os=>PySem.W.openSeen hQ hW (importedModules PySem.Challenge.pw_oldhands_k85_kinds_in_words.main.body) hX true ⟨hp1 w.params,Array.mk [],{},994,os⟩)=fun _=>PySem.W.openGood hQ hW:=fun w=>by kernel_rfl
theorem rL3:∀ w:World,(fun os=>hH.obs ⟨hp1 w.params,Array.mk [],{},994,os⟩)=fun _=>hH.val w:=fun w=>by kernel_rfl
theorem hl:PySem.W.LeftO PySem.Challenge.pw_oldhands_k85_kinds_in_words hQ hW hX hH.obs hH.val 4657 :=
 PySem.W.LeftO.of_pieces (H₀:=PySem.W.boot_heap) (H₁:=hp1) (gs₀:=Array.mk []) (gs₁:=Array.mk []) (d₀:=PySem.W.boot_drawn) (d₁:={}) (k₀:=PySem.W.boot_toks) (k₁:=994) (m₀:=11) (ann:=hA1) (M:=12+(1+(196+(214+(304+(388+(357+(383+(395+(167+(363+(398+(389+(88+(2)))))))))))))))
  (PySem.W.boot_open (by kernel_rfl) (by rfl) (fun s=>by rfl)) FG GQ (by rfl) (fun w=>funext fun os=>PySem.W.looks_pair (congrFun (rL1 w) os) (PySem.W.looks_pair (congrFun (rL2 w) os) (congrFun (rL3 w) os)))
theorem said:PySem.Challenge.rw_oldhands_k85_kinds_in_words.wellSaid=true:=by
 unfold PySem.W.OpenLaw.wellSaid PySem.W.OpenRow.wellSaid PySem.W.OpenRow.partSaid PySem.W.looksOpen
 repeat' (with_reducible refine PySem.W.look_both ?_ ?_)
 all_goals decide +kernel
end K85
namespace L2
open PySem PySem.Spec PyProof.Rows
abbrev Key:=Sum Int Str
def kn:Key→Value→Bool
 | .inl k,v=>Value.isInt k v
 | .inr x,v=>Value.isStrOf x v
def GR (w:World):Key→Int
 | .inl k=>hashInt k
 | .inr x=>hashStr w x
theorem aP:∀ {k:Key} {v:Value},kn k v=true→(∃ i t,k=Sum.inl i∧v=Value.int i t)∨(∃ x t,k=Sum.inr x∧v=Value.str x t)
 | .inl i,v,h=>by
  obtain ⟨t,e⟩:=Value.isInt_shape (k:=i) (v:=v) h;exact .inl ⟨i,t,rfl,e⟩
 | .inr x,v,h=>by
  obtain ⟨t,e⟩:=Value.isStrOf_shape (x:=x) (v:=v) h;exact .inr ⟨x,t,rfl,e⟩
theorem qX (i:Int) (t:Tok):kn (.inl i) (.int i t)=true:=by simp [kn,Value.isInt]
theorem qY (x:Str) (t:Tok):kn (.inr x) (.str x t)=true:=by simp [kn,Value.isStrOf]
theorem zO (a b:Int):decide ((Sum.inl a:Key)=Sum.inl b)=(a == b):=by
 by_cases e:a=b
 ·subst e;simp
 ·have h:¬ (Sum.inl a:Key)=Sum.inl b:=fun q=>e (Sum.inl.inj q);rw [decide_eq_false h];exact (beq_eq_false_iff_ne.mpr e).symm
theorem zP (a b:Str):decide ((Sum.inr a:Key)=Sum.inr b)=decide (a=b):=by
 by_cases e:a=b
 ·subst e;simp
 ·have h:¬ (Sum.inr a:Key)=Sum.inr b:=fun q=>e (Sum.inr.inj q);rw [decide_eq_false h,decide_eq_false e]
theorem zQ (a:Int) (b:Str):decide ((Sum.inl a:Key)=Sum.inr b)=false:=decide_eq_false (fun q=>nomatch q)
theorem zR (a:Str) (b:Int):decide ((Sum.inr a:Key)=Sum.inl b)=false:=decide_eq_false (fun q=>nomatch q)
def aI (prog:Program) (w:World):PySem.KeyKind prog w Key where
 is:=kn
 hash:=GR w
 inj:=fun v a b ha hb=>by
  rcases aP ha with ⟨i,t,rfl,rfl⟩ | ⟨x,t,rfl,rfl⟩
  ·rcases aP hb with ⟨j,u,rfl,e⟩ | ⟨y,u,rfl,e⟩
   ·injection e with e1 _;rw [e1]
   ·exact nomatch e
  ·rcases aP hb with ⟨j,u,rfl,e⟩ | ⟨y,u,rfl,e⟩
   ·exact nomatch e
   ·injection e with e1 _;rw [e1]
 byValue:=fun k v h=>by
  rcases aP h with ⟨i,t,rfl,rfl⟩ | ⟨x,t,rfl,rfl⟩ <;> rfl
 pyHash:=fun hv h=>by
  rcases aP hv with ⟨i,t,rfl,rfl⟩ | ⟨x,t,rfl,rfl⟩
  ·exact wpAny_pyHash_int h
  ·exact wpAny_pyHash_str h
 eqBool:=fun hu hv h=>by
  rcases aP hu with ⟨i,t,rfl,rfl⟩ | ⟨x,t,rfl,rfl⟩
  ·rcases aP hv with ⟨j,u,rfl,rfl⟩ | ⟨y,u,rfl,rfl⟩
   ·rw [zO] at h;exact wpAny_eqBool_int h
   ·rw [zQ] at h;exact SeqAt.EqAt.int_str i t y u _ _ _ _ h
  ·rcases aP hv with ⟨j,u,rfl,rfl⟩ | ⟨y,u,rfl,rfl⟩
   ·rw [zR] at h;exact SeqAt.EqAt.str_int x t j u _ _ _ _ h
   ·rw [zP] at h;exact wpAny_eqBool_str h
 «strs»:=fun k x t v h=>by
  rcases aP h with ⟨i,u,rfl,e⟩ | ⟨y,u,rfl,e⟩
  ·exact nomatch e
  ·injection e with e1 _
   subst e1
   cases v <;> rfl
theorem mZ (prog:Program) (w:World) (i:Int) (t:Tok):(aI prog w).is (.inl i) (.int i t)=true:=qX i t
theorem m4 (prog:Program) (w:World) (x:Str) (t:Tok):(aI prog w).is (.inr x) (.str x t)=true:=qY x t
inductive V where
 | non | bl (b:Bool) | int (i:Int) | str (x:Str) | byt (b:Array UInt8) | flt (b:UInt64) | ref (a:Addr) | ty (n:String)
 deriving DecidableEq
def RelV:V→Value→Prop
 | .non,u=>u=Value.none
 | .bl b,u=>u=Value.bool b
 | .int i,u=>∃ t,u=Value.int i t
 | .str x,u=>∃ t,u=Value.str x t
 | .byt b,u=>∃ t,u=Value.bytes b t
 | .flt b,u=>∃ t,u=Value.float b t
 | .ref a,u=>u=Value.ref a
 | .ty n,u=>u=Value.type n
abbrev Vals:List V→List Value→Prop:=Paired RelV
theorem Vals.length {xs:List V} {us:List Value} (r:Vals xs us):xs.length=us.length:=Paired.length r
theorem Vals.get:∀ {xs:List V} {us:List Value} {i:Nat} {x:V},Vals xs us→xs[i]?=some x→∃ u,us[i]?=some u∧RelV x u
 | _,_,_,_,.nil,e=>by simp at e
 | _,_,0,_,.cons r _,e=>by simp at e;subst e;exact ⟨_,rfl,r⟩
 | _,_,i+1,x,.cons _ t,e=>by
  obtain ⟨u,h1,h2⟩:=Vals.get (i:=i) (x:=x) t (by simpa using e);exact ⟨u,by simpa using h1,h2⟩
theorem Vals.set {x:V} {u:Value} (r:RelV x u):∀ {xs:List V} {us:List Value} (i:Nat),Vals xs us→Vals (xs.set i x) (us.set i u)
 | _,_,_,.nil=>.nil
 | _,_,0,.cons _ t=>.cons r t
 | _,_,i+1,.cons q t=>.cons q (Vals.set r i t)
theorem Vals.append:∀ {xs ys:List V} {us ws:List Value},Vals xs us→Vals ys ws→Vals (xs++ys) (us++ws)
 | _,_,_,_,.nil,s=>s
 | _,_,_,_,.cons r t,s=>.cons r (Vals.append t s)
theorem Vals.take:∀ {xs:List V} {us:List Value} (n:Nat),Vals xs us→Vals (xs.take n) (us.take n)
 | _,_,0,_=>.nil
 | _,_,_+1,.nil=>.nil
 | _,_,n+1,.cons r t=>.cons r (Vals.take n t)
theorem Vals.drop:∀ {xs:List V} {us:List Value} (n:Nat),Vals xs us→Vals (xs.drop n) (us.drop n)
 | _,_,0,r=>r
 | _,_,_+1,.nil=>.nil
 | _,_,n+1,.cons _ t=>Vals.drop n t
def RelO:Option V→Option Value→Prop
 | some v,some u=>RelV v u
 | none,none=>True
 | _,_=>False
def KV {κ:Type}:List (κ×V)→List (κ×Value)→Prop:=Paired fun (p:κ×V) (q:κ×Value)=>p.1=q.1∧RelV p.2 q.2
def kV:Key→V
 | .inl i=>.int i
 | .inr x=>.str x
inductive HO where
 | lst (xs:List V)
 | tup (xs:List V)
 | dK (kvs:List (Key×V)) | dT (kvs:List (List Key×V))
 | set (S:Int→Bool) (n:Nat)
 | ins (C dx:Addr) (fs:List (Str×V))
 | own (x:Addr)
 | xd (fs:List (Str×V))
 | met (f x:Addr)
 | rng (lo hi:Int)
 | frz (o:Obj) (u:HO)
 | tbl (ps:Array Value)
 | ext (φ:Heap→Prop)
abbrev Hp:=Addr→Option HO
def upd (H:Hp) (a:Addr) (o:HO):Hp:=fun b=>if b=a then some o else H b
theorem aa {H:Hp} {a:Addr} {o:HO}:upd H a o a=some o:=by unfold upd;rw [if_pos rfl]
theorem ae {H:Hp} {a b:Addr} {o:HO} (h:b≠a):upd H a o b=H b:=by unfold upd;rw [if_neg h]
theorem qj {H:Hp} {a:Addr} {o u:HO}:upd (upd H a o) a u=upd H a u:=by
 funext b;unfold upd;split <;> rfl
theorem ko {H:Hp} {a b:Addr} {o u:HO} (h:H a=some o) (h':H b=some u) (d:o≠u):a≠b:=by
 intro e;subst e;rw [h] at h';exact d (Option.some.inj h')
theorem ag {H:Hp} {a b:Addr} {o:HO} (h:H a=some o) (h':H b=none):a≠b:=by
 intro e;subst e;rw [h] at h';cases h'
section
variable (P:Program) (w:World)
def ObjOk (H:Hp) (h:Heap) (a:Addr):HO→Prop
 | .lst xs=>xs.length≤sizeLine∧∃ (its:List Value) (n:Nat),Vals xs its∧h.get? a=some { cls:=.type "list",data:=.seq its.toArray n }
 | .tup xs=>xs.length≤sizeLine∧∃ its:List Value,Vals xs its∧IsTup h a its.toArray
 | .dK kvs=>kvs.length≤sizeLine∧(a == sysModules)=false∧∃ vs,KV kvs vs∧h.DictOf (aI P w) a vs
 | .dT kvs=>kvs.length≤sizeLine∧(a == sysModules)=false∧∃ xs:List (List Key×Addr×Value),
   Paired (fun (p:List Key×V) (q:List Key×Addr×Value)=>p.1=q.1∧H q.2.1=some (.tup (p.1.map kV))∧RelV p.2 q.2.2) kvs xs ∧
   ∃ o es ep,h.get? a=some o∧o.ExactDict∧o.data=.dict es ep∧es.toList=xs.map (entryOfKey (tupleKind (aI P w)))∧(xs.map (·.1)).Nodup
 | .set S n=>h.SetOf (intKind P w) a S n
 | .ins C dx fs=>H dx=some (.own a)∧fs.length≤1000∧dx≠a∧h.get? a=some (PySem.W.instObj C dx) ∧
   ∃ mA,h.Ns1 dx mA∧(∀ f,RelO (fs.lookup f) (mA f))∧PySem.Within mA (fs.map (·.1))
 | .own _=>∃ o,h.get? a=some o
 | .xd fs=>∃ mA,h.Ns1 a mA∧∀ f,RelO (fs.lookup f) (mA f)
 | .rng lo hi=>∃ t u v,h.get? a=some { cls:=.type "range",data:=.fields #[.int lo t,.int hi u,.int 1 v] }
 | .frz o u=>h.get? a=some o∧ObjOk H h a u
 | .tbl ps=>h.get? a=some { cls:=.none,data:=.fields ps }
 | .met f x=>h.get? a=some (PySem.W.methodObj (.ref f) (.ref x))
 | .ext φ=>φ h∧(∃ o,h.get? a=some o)∧∀ h1 h2:Heap,φ h1→(∀ o,h1.get? a=some o→h2.get? a=some o)→φ h2
def HOk (H:Hp) (h:Heap):Prop:=∀ a o,H a=some o→ObjOk P w H h a o
end
section
variable {P:Program} {w:World} {H H':Hp} {h h':Heap} {a:Addr} {o:HO}
theorem ObjOk.lt (x:ObjOk P w H h a o):a < h.objs.size:=by
 cases o with
 | lst xs=>obtain ⟨_,_,_,_,e⟩:=x;exact Heap.lt_size e
 | tup xs=>obtain ⟨_,_,_,p⟩:=x;exact p.lt
 | dK kvs=>obtain ⟨_,_,_,_,o,_,_,e,_⟩:=x;exact Heap.lt_size e
 | dT kvs=>obtain ⟨_,_,_,_,o,_,_,e,_⟩:=x;exact Heap.lt_size e
 | set S n=>obtain ⟨o,_,_,_,e,_⟩:=x;exact Heap.lt_size e
 | ins C dx fs=>obtain ⟨_,_,_,e,_⟩:=x;exact Heap.lt_size e
 | own y=>obtain ⟨_,e⟩:=x;exact Heap.lt_size e
 | xd fs=>obtain ⟨_,⟨_,_,_,e,_⟩,_⟩:=x;exact Heap.lt_size e
 | rng lo hi=>obtain ⟨_,_,_,e⟩:=x;exact Heap.lt_size e
 | frz ob u=>obtain ⟨e,_⟩:=x;exact Heap.lt_size e
 | tbl ps=>exact Heap.lt_size (show h.get? a=some _ from x)
 | met f y=>exact Heap.lt_size (show h.get? a=some _ from x)
 | ext φ=>obtain ⟨_,⟨_,e⟩,_⟩:=x;exact Heap.lt_size e
theorem Paired.mapP {α β:Type} {F G:α→β→Prop}:∀ {l₁:List α} {l₂:List β},Paired F l₁ l₂→(∀ a b,F a b→G a b)→Paired G l₁ l₂
 | _,_,.nil,_=>.nil
 | _,_,.cons r t,f=>.cons (f _ _ r) (Paired.mapP t f)
theorem ObjOk.stay (x:ObjOk P w H h a o) (k:∀ b u,(b=a∨H b=some (.own a))→h.get? b=some u→h'.get? b=some u)
  (ho:∀ b,H b=some (.own a)→H' b=some (.own a)) (ht:∀ b xs,H b=some (.tup xs)→H' b=some (.tup xs)):ObjOk P w H' h' a o:=by
 induction o with
 | lst xs=>obtain ⟨z,its,n,r,e⟩:=x;exact ⟨z,its,n,r,k _ _ (.inl rfl) e⟩
 | tup xs=>obtain ⟨z,its,r,ob,e,c⟩:=x;exact ⟨z,its,r,ob,k _ _ (.inl rfl) e,c⟩
 | dK kvs=>obtain ⟨z,y,vs,r,ob,es,ep,e,c⟩:=x;exact ⟨z,y,vs,r,ob,es,ep,k _ _ (.inl rfl) e,c⟩
 | dT kvs =>
  obtain ⟨z,y,xs,r,ob,es,ep,e,c⟩:=x;exact ⟨z,y,xs,Paired.mapP r fun p q z=>⟨z.1,ht _ _ z.2.1,z.2.2⟩,ob,es,ep,k _ _ (.inl rfl) e,c⟩
 | set S n=>obtain ⟨ob,es,ep,t,e,c⟩:=x;exact ⟨ob,es,ep,t,k _ _ (.inl rfl) e,c⟩
 | ins C dx fs =>
  obtain ⟨d,z,ne,e,mA,⟨od,es,ep,e2,c⟩,r⟩:=x;exact ⟨ho _ d,z,ne,k _ _ (.inl rfl) e,mA,⟨od,es,ep,k _ _ (.inr d) e2,c⟩,r⟩
 | own y=>obtain ⟨ob,e⟩:=x;exact ⟨ob,k _ _ (.inl rfl) e⟩
 | xd fs=>obtain ⟨mA,⟨od,es,ep,e,c⟩,r⟩:=x;exact ⟨mA,⟨od,es,ep,k _ _ (.inl rfl) e,c⟩,r⟩
 | rng lo hi=>obtain ⟨t,u,v,e⟩:=x;exact ⟨t,u,v,k _ _ (.inl rfl) e⟩
 | frz ob u ih=>obtain ⟨e,q⟩:=x;exact ⟨k _ _ (.inl rfl) e,ih q⟩
 | tbl ps =>
  have e:h.get? a=some { cls:=.none,data:=.fields ps }:=x;show h'.get? a=some { cls:=.none,data:=.fields ps };exact k a _ (.inl rfl) e
 | met f y =>
  have e:h.get? a=some (PySem.W.methodObj (.ref f) (.ref y)):=x;show h'.get? a=some (PySem.W.methodObj (.ref f) (.ref y));exact k a _ (.inl rfl) e
 | ext φ=>obtain ⟨p,⟨o,e⟩,st⟩:=x;exact ⟨st _ _ p fun o q=>k _ _ (.inl rfl) q,⟨o,k _ _ (.inl rfl) e⟩,st⟩
theorem HOk.lt (x:HOk P w H h) (e:H a=some o):a < h.objs.size:=(x a o e).lt
theorem HOk.fresh (x:HOk P w H h) (e:h.objs.size≤a):H a=none:=by
 cases q:H a with
 | none=>rfl
 | some u=>exact absurd (Nat.lt_of_lt_of_le (x.lt q) e) (Nat.lt_irrefl _)
theorem HOk.kept (x:HOk P w H h) (k:∀ b u,h.get? b=some u→h'.get? b=some u):HOk P w H h':=fun a o e =>
 (x a o e).stay (fun b u _ q=>k b u q) (fun _ q=>q) fun _ _ q=>q
theorem HOk.laid (x:HOk P w H h) (k:∀ b u,h.get? b=some u→h'.get? b=some u) (hp:h.objs.size≤a) (new:ObjOk P w (upd H a o) h' a o):HOk P w (upd H a o) h':=fun b u e=>by
 have hn:=x.fresh hp
 by_cases hb:b=a
 ·subst hb;rw [aa] at e;cases e;exact new
 ·rw [ae hb] at e;exact (x b u e).stay (fun c v _ q=>k c v q) (fun c q=>by rw [ae (ag q hn)];exact q) fun c xs q=>by rw [ae (ag q hn)];exact q
end
def Rd (H:Hp) (a:Addr) (u:HO):Prop:=H a=some u∨∃ o,H a=some (.frz o u)
theorem Rd.ok {P:Program} {w:World} {H:Hp} {h:Heap} {a:Addr} {u:HO} (r:Rd H a u) (x:HOk P w H h):ObjOk P w H h a u:=by
 rcases r with r | ⟨o,r⟩
 ·exact x a u r
 ·obtain ⟨_,q⟩:=x a _ r;exact q
def Mut:Option HO→Prop
 | some (.lst _)=>True
 | some (.dK _)=>True
 | some (.dT _)=>True
 | some (.set _ _)=>True
 | some (.ins _ _ _)=>True
 | some (.ext _)=>True
 | _=>False
section
variable {P:Program} {w:World} {H:Hp} {h h':Heap} {x e:Addr} {o':HO}
theorem HOk.write (ok:HOk P w H h) (mu:Mut (H x)) (he:e=x∨H e=some (.own x)) (k:∀ b u,b≠e→h.get? b=some u→h'.get? b=some u) (heo:∃ u,h'.get? e=some u)
  (new:ObjOk P w (upd H x o') h' x o'):HOk P w (upd H x o') h':=fun b u q=>by
 have nown:∀ c y,H c=some (.own y)→c≠x:=fun c y r z=>by subst z;rw [r] at mu;exact mu
 have ntup:∀ c xs,H c=some (.tup xs)→c≠x:=fun c xs r z=>by subst z;rw [r] at mu;exact mu
 by_cases hb:b=x
 ·subst hb;rw [aa] at q;cases q;exact new
 ·rw [ae hb] at q
  by_cases hbe:b=e
  ·have q':H b=some (.own x):=by
    rcases he with z | z
    ·exact absurd (hbe.trans z) hb
    ·rw [hbe];exact z
   rw [q] at q';cases q';obtain ⟨v,hv⟩:=heo;exact ⟨v,by rw [hbe];exact hv⟩
  ·refine (ok b u q).stay (fun c v hc r=>k c v ?_ r) (fun c r=>by rw [ae (nown c b r)];exact r) fun c xs r=>by rw [ae (ntup c xs r)];exact r
   rcases hc with rfl | hc
   ·exact hbe
   ·rintro rfl;rcases he with z | z
    ·exact nown c b hc z
    ·rw [hc] at z;cases z;exact hb rfl
end
structure Un (fs ex:List Addr) (H H':Hp) (h h':Heap):Prop where
 keep:∀ b o,h.get? b=some o→H b=none→b∉fs→b∉ex→h'.get? b=some o
 slot:∀ b o,h.get? b=some o→H b=none→b∈fs→b∉ex→∃ sl,h'.get? b=some { o with slots:=sl }
 free:∀ b o,h.get? b=some o→H b=none→b∉ex→H' b=none
 there:∀ b o,h.get? b=some o→b∉ex→∃ o',h'.get? b=some o'
 tups:∀ b xs,H b=some (.tup xs)→H' b=some (.tup xs)
 frzs:∀ b o u,H b=some (.frz o u)→H' b=some (.frz o u)
 tbls:∀ b ps,H b=some (.tbl ps)→∃ more,H' b=some (.tbl (ps++more))
section
variable {fs fs' ex ex':List Addr} {H H1 H2:Hp} {h h1 h2 h':Heap} {a x e:Addr} {o:HO}
theorem Un.any (u:Un fs ex H H1 h h1) {b:Addr} {ob:Obj} (q:h.get? b=some ob) (n:H b=none) (hx:b∉ex):∃ sl,h1.get? b=some { ob with slots:=sl }:=by
 by_cases hb:b∈fs
 ·exact u.slot b ob q n hb hx
 ·exact ⟨ob.slots,u.keep b ob q n hb hx⟩
theorem Un.trans (a:Un fs ex H H1 h h1) (b:Un fs ex H1 H2 h1 h2):Un fs ex H H2 h h2 where
 keep:=fun c ob q n hc hx=>b.keep c ob (a.keep c ob q n hc hx) (a.free c ob q n hx) hc hx
 slot:=fun c ob q n hc hx=>by
  obtain ⟨sl,e1⟩:=a.slot c ob q n hc hx;obtain ⟨sl',e2⟩:=b.slot c _ e1 (a.free c ob q n hx) hc hx;exact ⟨sl',e2⟩
 free:=fun c ob q n hx=>by
  obtain ⟨o',e1⟩:=a.there c ob q hx;exact b.free c o' e1 (a.free c ob q n hx) hx
 there:=fun c ob q hx=>by
  obtain ⟨o',e1⟩:=a.there c ob q hx;exact b.there c o' e1 hx
 tups:=fun c xs q=>b.tups c xs (a.tups c xs q)
 frzs:=fun c ob xs q=>b.frzs c ob xs (a.frzs c ob xs q)
 tbls:=fun c ps q=>by
  obtain ⟨m1,e1⟩:=a.tbls c ps q;obtain ⟨m2,e2⟩:=b.tbls c _ e1;exact ⟨m1++m2,by rw [e2,Array.append_assoc]⟩
theorem Un.kept (k:∀ b u,h.get? b=some u→h'.get? b=some u):Un fs ex H H h h' :=
 ⟨fun b ob q _ _ _=>k b ob q,fun b ob q _ _ _=>⟨ob.slots,k b ob q⟩,fun _ _ _ n _=>n,fun b ob q _=>⟨ob,k b ob q⟩,fun _ _ q=>q,fun _ _ _ q=>q,fun _ ps q=>⟨#[],by rw [q];simp⟩⟩
theorem Un.refl:Un fs ex H H h h:=Un.kept fun _ _ q=>q
theorem Un.laid (k:∀ b u,h.get? b=some u→h'.get? b=some u) (hp:h.objs.size≤a) (hn:H a=none):Un fs ex H (upd H a o) h h' where
 keep:=fun b u q _ _ _=>k b u q
 slot:=fun b u q _ _ _=>⟨u.slots,k b u q⟩
 free:=fun b u q n _=>by rw [ae (Nat.ne_of_lt (Nat.lt_of_lt_of_le (Heap.lt_size q) hp))];exact n
 there:=fun b u q _=>⟨u,k b u q⟩
 tups:=fun b xs q=>by rw [ae (ag q hn)];exact q
 frzs:=fun b u xs q=>by rw [ae (ag q hn)];exact q
 tbls:=fun b ps q=>⟨#[],by rw [ae (ag q hn),q];simp⟩
theorem Un.write (mu:Mut (H x)) (he:e=x∨H e=some (.own x)) (k:∀ b u,b≠e→h.get? b=some u→h'.get? b=some u) (heo:∃ u,h'.get? e=some u):Un fs ex H (upd H x o) h h':=by
 have hx:∀ b,H b=none→b≠x:=fun b n z=>by subst z;rw [n] at mu;exact mu
 have hb:∀ b,H b=none→b≠e:=fun b n z=>by
  subst z;rcases he with r | r
  ·exact hx b n r
  ·rw [n] at r;cases r
 have hm:∀ b u,H b=some u→¬ Mut (some u)→b≠x:=fun b u q nm z=>by subst z;rw [q] at mu;exact nm mu
 refine ⟨fun b u q n _ _=>k b u (hb b n) q,fun b u q n _ _=>⟨u.slots,k b u (hb b n) q⟩,fun b u q n _=>by rw [ae (hx b n)];exact n,fun b u q _=>?_,
  fun b xs q=>by rw [ae (hm b _ q fun z=>z)];exact q,fun b u xs q=>by rw [ae (hm b _ q fun z=>z)];exact q,fun b ps q=>⟨#[],by rw [ae (hm b _ q fun z=>z),q];simp⟩⟩
 by_cases hbe:b=e
 ·subst hbe;exact heo
 ·exact ⟨u,k b u hbe q⟩
end
def trk (h:Heap) (H:Hp):List Addr:=(List.range h.objs.size).filter fun a=>(H a).isSome
def la (h:Heap) (H:Hp):Heap:=PySem.W.hideAll h (trk h H)
theorem qZ (h:Heap) (H:Hp):(la h H).objs.size=h.objs.size:=PySem.W.hideAll_size _ _
theorem sF {h:Heap} {H:Hp} {b:Addr} {o:Obj} (e:h.get? b=some o) (n:H b=none):(la h H).get? b=some o :=
 PySem.W.hideAll_get _ e fun hm=>by
  have q:(H b).isSome=true:=(List.mem_filter.mp hm).2;rw [n] at q;simp at q
theorem uY {h:Heap} {H:Hp} {b:Addr} {o:Obj} (e:(la h H).get? b=some o):h.get? b=some o∧H b=none:=by
 have e':h.get? b=some o:=PySem.W.of_hideAll (trk h H) e;refine ⟨e',?_⟩
 cases q:H b with
 | none=>rfl
 | some x =>
  have hm:b∈trk h H:=List.mem_filter.mpr ⟨List.mem_range.mpr (Heap.lt_size e'),by simp [q]⟩;have z:(la h H).get? b=none:=PySem.W.hideAll_none (trk h H) hm;rw [z] at e;cases e
def uZ (g h:Heap) (L:Addr):List (Addr×Obj):=(List.range h.objs.size).filterMap fun a=>if a=L∨(g.get? a).isSome=true then none else (h.get? a).map fun o=>(a,o)
def rest (g h:Heap) (L d:Addr):List (Addr×Obj):=(uZ g h L).filter fun p=>decide (p.1≠d)
structure Mod (K:PySem.W.Frag) (mg:Str→Option Value) (base:Heap):Prop where
 kin:K.In base
 glob:base.Ns mainGlobals mg
 blt:∃ mb,base.Ns builtinsNs mb∧∀ x:Str,x≠ "__name__" →mb x=bootBuiltins x
 nolimit:base.NoLimit
structure Cx where
 prog:Program
 w:World
 K:PySem.W.Frag
 mg:Str→Option Value
 base:Heap
 A:Around
 N:List Str
 s₀:Shared
 H₀:Hp
 env:Env
 outer:List Env
 stack:List Env
 ex:List Addr
 fn:Str→Bool
 calm:Bool
 pn:List (Addr×Obj)
 xe:Value→Shared→Prop
def frs (l:List Env):List Addr:=l.filterMap (·.frame)
abbrev Cx.fs (X:Cx):List Addr:=frs X.outer
def Vis (sc:Scope) (x:Str):Prop:=sc.names.lookup x=some .local∨sc.names.lookup x=some .cell∨sc.names.lookup x=some .free
def Loc (sc:Scope) (x:Str):Prop:=sc.names.lookup x=some .local∨sc.names.lookup x=some .cell
def GS (env:Env) (h:Heap) (m:Str→Option Value) (x:Str) (u:Value):Prop :=
 (env.kindOf x=some .local∧m x=some u)∨((env.kindOf x=some .cell∨env.kindOf x=some .free)∧∃ c,env.cells.lookup x=some c∧h.IsCell c (some u))
structure Cx.Ok (X:Cx):Prop where
 mod:Mod X.K X.mg X.base
 kind:X.env.scope.kind=.function
 glob:X.env.globals=mainGlobals
 blt:X.env.builtins=builtinsNs
 above:X.s₀.heap.objs.size≤X.env.locals
 inj:∀ x y c,X.env.cells.lookup x=some c→X.env.cells.lookup y=some c→x=y
 has:∀ x,(X.env.kindOf x=some .cell∨X.env.kindOf x=some .free)→∃ c,X.env.cells.lookup x=some c
 cab:∀ x c,X.fn x=true→X.env.cells.lookup x=some c→X.s₀.heap.objs.size≤c
 hd:X.calm=true→X.A.handled=none
 frames:X.A.frames=some X.stack
 stk:X.stack=X.outer∨(X.stack=X.env :: X.outer∧X.env.frame=some X.env.locals)
 exf:∀ b∈X.ex,b≠X.env.locals∧∀ x c,X.env.cells.lookup x=some c→c≠b
 bs:∀ b o,X.base.get? b=some o→X.s₀.heap.get? b=some o∧X.H₀ b=none
 bsz:X.base.objs.size≤X.s₀.heap.objs.size
 noex:∀ b o,X.base.get? b=some o→b∉X.ex
 exfs:∀ b∈X.ex,b∉X.fs
 funs:X.s₀.heap.FunFrames X.base X.outer
 frf:∀ b∈X.fs,X.H₀ b=none
structure Inv (X:Cx) (pins:List (Addr×Obj)) (σ:List (Option V)) (H:Hp) (s:Shared):Prop where
 ok:X.Ok
 os:s.os=X.s₀.os
 bare:AllBare s.gens
 base:Un X.fs X.ex X.H₀ H X.s₀.heap s.heap
 loc:∃ m,s.heap.Ns X.env.locals m∧∀ (i:Nat) (x:Str) (v:V),X.N[i]?=some x→σ[i]?=some (some v)→Vis X.env.scope x→∃ u,RelV v u∧GS X.env s.heap m x u
 cell:∀ x c,X.env.cells.lookup x=some c→∃ v,s.heap.IsCell c v
 free:H X.env.locals=none
 freeC:∀ x c,X.env.cells.lookup x=some c→H c=none
 pin:∀ p∈X.pn++pins,s.heap.get? p.1=some p.2∧H p.1=none∧p.1≠X.env.locals∧p.1∉X.fs∧∀ v,p.2.data≠.cell v
 hok:HOk X.prog X.w H s.heap
 len:σ.length=X.N.length
section
variable {X:Cx} {pins:List (Addr×Obj)} {σ:List (Option V)} {H H':Hp} {s:Shared} {h':Heap}
theorem Cx.Ok.nofr (ok:X.Ok) {b:Addr} {o:Obj} (e:X.base.get? b=some o):b∉X.fs:=fun hb=>by
 have:=(ok.funs.mem hb).1;rw [e] at this;cases this
theorem Inv.bs (I:Inv X pins σ H s):∀ b o,X.base.get? b=some o→s.heap.get? b=some o∧H b=none:=fun b o e =>
 ⟨I.base.keep b o (I.ok.bs b o e).1 (I.ok.bs b o e).2 (I.ok.nofr e) (I.ok.noex b o e),I.base.free b o (I.ok.bs b o e).1 (I.ok.bs b o e).2 (I.ok.noex b o e)⟩
theorem Inv.bk (I:Inv X pins σ H s):∀ b o,X.base.get? b=some o→s.heap.get? b=some o:=fun b o e=>(I.bs b o e).1
theorem Inv.mod (I:Inv X pins σ H s):Mod X.K X.mg X.base:=I.ok.mod
theorem Inv.kIn (I:Inv X pins σ H s):X.K.In s.heap:=I.ok.mod.kin.keeps I.bk
theorem Inv.lt (I:Inv X pins σ H s):X.env.locals < s.heap.objs.size:=let ⟨_,hn,_⟩:=I.loc;hn.lt
theorem Inv.sz (I:Inv X pins σ H s):X.s₀.heap.objs.size≤s.heap.objs.size:=Nat.le_trans I.ok.above (Nat.le_of_lt I.lt)
theorem Inv.nofs (I:Inv X pins σ H s) {a:Addr} (h:s.heap.objs.size≤a):a∉X.fs:=fun hb=>by
 obtain ⟨_,o,ho,_⟩:=I.ok.funs.mem hb;exact absurd (Nat.lt_of_lt_of_le (Heap.lt_size ho) (Nat.le_trans I.sz h)) (Nat.lt_irrefl _)
theorem Inv.cne (I:Inv X pins σ H s):∀ x c,X.env.cells.lookup x=some c→c≠X.env.locals:=fun x c e z=>by
 obtain ⟨v,o,ho,hd⟩:=I.cell x c e;obtain ⟨m,⟨o',es,ep,ho',hd',_⟩,_⟩:=I.loc;rw [z,ho'] at ho;cases ho;rw [hd'] at hd;cases hd
theorem Inv.funs (I:Inv X pins σ H s):s.heap.FunFrames X.base X.outer:=by
 have all:∀ (l:List Env),(∀ b∈frs l,b∈X.fs)→X.s₀.heap.FunFrames X.base l→s.heap.FunFrames X.base l:=by
  intro l
  induction l with
  | nil=>intro _ _;trivial
  | cons env r ih =>
   intro hs hl;obtain ⟨hk,⟨L,o,hf,hn,ho,hd⟩,hr⟩:=hl;have hL:L∈X.fs:=hs L (by unfold frs;rw [List.filterMap_cons,hf];exact List.mem_cons_self);obtain ⟨sl,e⟩:=I.base.slot L o ho (I.ok.frf L hL) hL fun z=>I.ok.exfs L z hL;exact ⟨hk,⟨L,_,hf,hn,e,hd⟩,ih (fun b hb=>hs b (by unfold frs;rw [List.filterMap_cons,hf];exact List.mem_cons_of_mem _ hb)) hr⟩
 exact all X.outer (fun _ hb=>hb) I.ok.funs
theorem Inv.stack (I:Inv X pins σ H s):s.heap.FunFrames X.base X.stack:=by
 rcases I.ok.stk with e | ⟨e,hf⟩
 ·rw [e];exact I.funs
 ·rw [e];obtain ⟨m,hn,_⟩:=I.loc;refine .cons (by rw [I.ok.kind];decide) hf hn ?_ I.funs;exact Heap.get?_none_of_le (Nat.le_trans I.ok.bsz I.ok.above)
theorem Inv.stkSub (I:Inv X pins σ H s):∀ b∈frs X.stack,b∈X.env.locals :: X.fs:=fun b hb=>by
 rcases I.ok.stk with e | ⟨e,hf⟩
 ·rw [e] at hb;exact List.mem_cons_of_mem _ hb
 ·rw [e] at hb;unfold frs at hb;rw [List.filterMap_cons,hf] at hb;exact hb
theorem Inv.stkFree (I:Inv X pins σ H s):∀ b∈frs X.stack,H b=none:=fun b hb=>by
 rcases List.mem_cons.mp (I.stkSub b hb) with e | hb
 ·rw [e];exact I.free
 ·obtain ⟨_,o,ho,_⟩:=I.ok.funs.mem hb;exact I.base.free b o ho (I.ok.frf b hb) fun z=>I.ok.exfs b z hb
theorem Inv.step {g':Array GenState} {t':Nat} {d':Drawn} {ch:List Addr} (I:Inv X pins σ H s)
  (hch:∀ b∈ch,(b∈X.ex∨X.s₀.heap.objs.size≤b)∧b≠X.env.locals∧(∀ x c,X.env.cells.lookup x=some c→c≠b)∧∀ p∈X.pn++pins,p.1≠b)
  (keep:∀ b o,b≠X.env.locals→b∉X.fs→b∉ch→s.heap.get? b=some o→H b=none→h'.get? b=some o)
  (slot:∀ b o,b≠X.env.locals→b∈X.fs→b∉ch→s.heap.get? b=some o→H b=none→∃ sl,h'.get? b=some { o with slots:=sl }) (free:∀ b o,b∉ch→s.heap.get? b=some o→H b=none→H' b=none)
  (there:∀ b o,b∉ch→s.heap.get? b=some o→∃ o',h'.get? b=some o')
  (tups:∀ b xs,H b=some (.tup xs)→H' b=some (.tup xs)) (frzs:∀ b o u,H b=some (.frz o u)→H' b=some (.frz o u)) (tbls:∀ b ps,H b=some (.tbl ps)→∃ more,H' b=some (.tbl (ps++more)))
  (ns:∀ m,s.heap.Ns X.env.locals m→h'.Ns X.env.locals m) (hok:HOk X.prog X.w H' h') (hg:AllBare g') :
  Inv X pins σ H' { s with heap:=h',gens:=g',drawn:=d',toks:=t' }:=by
 have neL:∀ b o,X.s₀.heap.get? b=some o→b≠X.env.locals:=fun b o e=>Nat.ne_of_lt (Nat.lt_of_lt_of_le (Heap.lt_size e) I.ok.above);have neC:∀ b o,X.s₀.heap.get? b=some o→b∉X.ex→b∉ch:=fun b o e hx hb=>by
  rcases (hch b hb).1 with z | z
  ·exact hx z
  ·exact absurd (Nat.lt_of_lt_of_le (Heap.lt_size e) z) (Nat.lt_irrefl _)
 have cellK:∀ x c,X.env.cells.lookup x=some c→∀ v,s.heap.IsCell c v→h'.IsCell c v:=fun x c e v ⟨o,ho,hd⟩=>by
  have nch:c∉ch:=fun z=>(hch c z).2.2.1 x c e rfl
  by_cases hc:c∈X.fs
  ·obtain ⟨sl,q⟩:=slot c o (I.cne x c e) hc nch ho (I.freeC x c e);exact ⟨_,q,hd⟩
  ·exact ⟨o,keep c o (I.cne x c e) hc nch ho (I.freeC x c e),hd⟩
 refine ⟨I.ok,I.os,hg,⟨fun b o e n hb hx=>?_,fun b o e n hb hx=>?_,fun b o e n hx=>?_,fun b o e hx=>?_,fun b xs e=>tups b xs (I.base.tups b xs e),fun b o xs e=>frzs b o xs (I.base.frzs b o xs e),fun b ps e=>?_⟩,?_,fun x c e=>?_,?_,fun x c e=>?_,fun p hp=>?_,hok,I.len⟩
 ·exact keep b o (neL b o e) hb (neC b o e hx) (I.base.keep b o e n hb hx) (I.base.free b o e n hx)
 ·obtain ⟨sl,e1⟩:=I.base.slot b o e n hb hx;obtain ⟨sl',e2⟩:=slot b _ (neL b o e) hb (neC b o e hx) e1 (I.base.free b o e n hx);exact ⟨sl',e2⟩
 ·obtain ⟨o',e1⟩:=I.base.there b o e hx;exact free b o' (neC b o e hx) e1 (I.base.free b o e n hx)
 ·obtain ⟨o',e1⟩:=I.base.there b o e hx;exact there b o' (neC b o e hx) e1
 ·obtain ⟨m1,e1⟩:=I.base.tbls b ps e;obtain ⟨m2,e2⟩:=tbls b _ e1;exact ⟨m1++m2,by rw [e2,Array.append_assoc]⟩
 ·obtain ⟨m,hn,hl⟩:=I.loc;refine ⟨m,ns m hn,fun i x v e1 e2 e3=>?_⟩;obtain ⟨u,r,l⟩:=hl i x v e1 e2 e3;refine ⟨u,r,?_⟩;rcases l with l | ⟨k,c,e,z⟩
  ·exact .inl l
  ·exact .inr ⟨k,c,e,cellK x c e _ z⟩
 ·obtain ⟨v,z⟩:=I.cell x c e;exact ⟨v,cellK x c e v z⟩
 ·obtain ⟨m,⟨o,_,_,ho,_⟩,_⟩:=I.loc;exact free _ o (fun z=>(hch _ z).2.1 rfl) ho I.free
 ·obtain ⟨v,o,ho,hd⟩:=I.cell x c e;exact free c o (fun z=>(hch c z).2.2.1 x c e rfl) ho (I.freeC x c e)
 ·obtain ⟨e,n,ne,nf,d⟩:=I.pin p hp;have nch:p.1∉ch:=fun z=>(hch p.1 z).2.2.2 p hp rfl;exact ⟨keep p.1 p.2 ne nf nch e n,free p.1 p.2 nch e n,ne,nf,d⟩
theorem Inv.un {t':Nat} (I:Inv X pins σ H s) (u:Un X.fs [] H H' s.heap h') (hok:HOk X.prog X.w H' h'):Inv X pins σ H' { s with heap:=h',toks:=t' }:=by
 obtain ⟨m,⟨o,es,ep,ho,r⟩,_⟩:=id I.loc;obtain ⟨sl,hL⟩:=u.any ho I.free (by simp);exact I.step (g':=s.gens) (d':=s.drawn) (ch:=[]) (fun _ z=>nomatch z) (fun b o _ hb _ e n=>u.keep b o e n hb (by simp)) (fun b o _ hb _ e n=>u.slot b o e n hb (by simp)) (fun b o _ e n=>u.free b o e n (by simp)) (fun b o _ e=>u.there b o e (by simp)) u.tups u.frzs u.tbls (fun m' hm=>by
  obtain ⟨o',es',ep',ho',r'⟩:=hm;rw [ho] at ho';cases ho';exact ⟨_,es',ep',hL,r'⟩) hok I.bare
theorem Inv.call {g':Array GenState} {t':Nat} {d':Drawn} {ch:List Addr} (I:Inv X pins σ H s) (u:Un (frs X.stack) ch H H' s.heap h') (hok:HOk X.prog X.w H' h') (hg:AllBare g')
  (hch:∀ b∈ch,(b∈X.ex∨X.s₀.heap.objs.size≤b)∧b≠X.env.locals∧(∀ x c,X.env.cells.lookup x=some c→c≠b)∧∀ p∈X.pn++pins,p.1≠b) :
  Inv X pins σ H' { s with heap:=h',gens:=g',drawn:=d',toks:=t' }:=by
 obtain ⟨m,⟨o,es,ep,ho,r⟩,_⟩:=id I.loc;obtain ⟨sl,hL⟩:=u.any ho I.free fun z=>(hch _ z).2.1 rfl;exact I.step (ch:=ch) hch (fun b o hL hb hc e n=>u.keep b o e n (fun z=>(List.mem_cons.mp (I.stkSub b z)).elim hL hb) hc) (fun b o _ _ hc e n=>u.any e n hc) (fun b o hc e n=>u.free b o e n hc) (fun b o hc e=>u.there b o e hc) u.tups u.frzs u.tbls (fun m' hm=>by
  obtain ⟨o',es',ep',ho',r'⟩:=hm;rw [ho] at ho';cases ho';exact ⟨_,es',ep',hL,r'⟩) hok hg
theorem Inv.turned {t':Nat} {it:Addr} (I:Inv X pins σ H s) (k:∀ b o,b≠it→s.heap.get? b=some o→h'.get? b=some o) (hn:H it=none) (hL:it≠X.env.locals)
  (h1:it∈X.ex∨X.s₀.heap.objs.size≤it) (h2:∀ x c,X.env.cells.lookup x=some c→c≠it) (h3:∀ p∈X.pn++pins,p.1≠it):Inv X pins σ H { s with heap:=h',toks:=t' }:=by
 have nit:∀ b u,H b=some u→b≠it:=fun b u e z=>by rw [z,hn] at e;cases e
 refine I.step (g':=s.gens) (d':=s.drawn) (ch:=[it]) (fun b hb=>?_) (fun b o _ _ hc e _=>k b o (fun z=>hc (by simp [z])) e) (fun b o _ _ hc e _=>⟨o.slots,k b o (fun z=>hc (by simp [z])) e⟩) (fun _ _ _ _ n=>n)
  (fun b o hc e=>⟨o,k b o (fun z=>hc (by simp [z])) e⟩) (fun _ _ e=>e) (fun _ _ _ e=>e) (fun b ps e=>⟨#[],by rw [e];simp⟩) (fun m hm=>?_) (fun b u e=>?_) I.bare
 ·have e:b=it:=by simpa using hb
  subst e;exact ⟨h1,hL,h2,h3⟩
 ·obtain ⟨o,es,ep,ho,r⟩:=hm;exact ⟨o,es,ep,k _ o (Ne.symm hL) ho,r⟩
 ·refine (I.hok b u e).stay (fun c v hc q=>k c v ?_ q) (fun _ q=>q) fun _ _ q=>q;rcases hc with z | z
  ·rw [z];exact nit b u e
  ·exact nit c _ z
theorem Inv.tok (I:Inv X pins σ H s) (t:Nat):Inv X pins σ H { s with toks:=t }:=I.un (h':=s.heap) (t':=t) Un.refl I.hok
theorem Inv.kept {t':Nat} (I:Inv X pins σ H s) (k:∀ b u,s.heap.get? b=some u→h'.get? b=some u):Inv X pins σ H { s with heap:=h',toks:=t' }:=I.un (Un.kept k) (I.hok.kept k)
theorem Inv.laid {a:Addr} {o:HO} {t':Nat} (I:Inv X pins σ H s) (k:∀ b u,s.heap.get? b=some u→h'.get? b=some u) (hp:s.heap.objs.size≤a) (new:ObjOk X.prog X.w (upd H a o) h' a o) :
  Inv X pins σ (upd H a o) { s with heap:=h',toks:=t' }:=I.un (Un.laid k hp (I.hok.fresh hp)) (I.hok.laid k hp new)
theorem Inv.write {x e:Addr} {o:HO} {t':Nat} (I:Inv X pins σ H s) (mu:Mut (H x)) (he:e=x∨H e=some (.own x)) (k:∀ b u,b≠e→s.heap.get? b=some u→h'.get? b=some u) (heo:∃ u,h'.get? e=some u)
  (new:ObjOk X.prog X.w (upd H x o) h' x o):Inv X pins σ (upd H x o) { s with heap:=h',toks:=t' }:=I.un (Un.write mu he k heo) (I.hok.write mu he k heo new)
theorem Inv.pins_of {pins':List (Addr×Obj)} (I:Inv X pins σ H s) (h:∀ p∈pins',s.heap.get? p.1=some p.2∧H p.1=none∧p.1≠X.env.locals∧p.1∉X.fs∧∀ v,p.2.data≠.cell v):Inv X pins' σ H s :=
 ⟨I.ok,I.os,I.bare,I.base,I.loc,I.cell,I.free,I.freeC,fun p hp=>(List.mem_append.mp hp).elim (fun z=>I.pin p (List.mem_append_left _ z)) (h p),I.hok,I.len⟩
theorem m5 {N:List Str} (hN:N.Nodup) {i j:Nat} {x:Str} (a:N[i]?=some x) (b:N[j]?=some x):i=j:=by
 obtain ⟨h1,e1⟩:=List.getElem?_eq_some_iff.mp a;obtain ⟨h2,e2⟩:=List.getElem?_eq_some_iff.mp b;exact (List.getElem_inj hN).mp (e1.trans e2.symm)
theorem kq {M:Model} {A:Around} {E:Value→Shared→Prop} {i:Nat} {x:Str} {v:V} {u:Value} {Q:Unit→Shared→Prop} (I:Inv X pins σ H s) (hN:X.N.Nodup) (hi:X.N[i]?=some x) (hx:Loc X.env.scope x) (r:RelV v u)
  (h:∀ s',Inv X pins (σ.set i (some v)) H s'→(∃ a,Heap.SameBut a s.heap s'.heap∧(a=X.env.locals∨X.env.cells.lookup x=some a))→Q () s') (hf:X.fn x=true∨X.env.scope.names.lookup x=some .local:=by first | exact .inl rfl | exact .inr rfl | assumption):wpAny M A (storeName X.env x u) Q E s:=by
 obtain ⟨m,hn,hl⟩:=id I.loc;have hcls:(X.env.scope.kind == .class || (X.env.scope.kind == .module && X.env.locals != X.env.globals))=false:=by rw [I.ok.kind];rfl
 have hiσ:i < σ.length:=by rw [I.len];exact (List.getElem?_eq_some_iff.mp hi).1
 have cne:=I.cne;have tracked:∀ {a:Addr} {h':Heap},(∃ o,s.heap.get? a=some o∧H a=none)→Heap.SameBut a s.heap h'→HOk X.prog X.w H h':=fun {a h'} ha hs b ob e=>by
  obtain ⟨_,_,hfree⟩:=ha;refine (I.hok b ob e).stay (fun c w' hc q=>(hs.2 c ?_).trans q) (fun _ q=>q) fun _ _ q=>q;rintro rfl;rcases hc with rfl | hc
  ·rw [hfree] at e;cases e
  ·rw [hfree] at hc;cases hc
 rcases hx with hk | hk
 ·refine wpAny_storeName_local hk hn (fun h' hn' hs=>?_) hcls;obtain ⟨oL,_,_,hoL,_⟩:=id hn;refine h _ ⟨I.ok,I.os,I.bare,⟨fun b o e n hb hx=>?_,fun b o e n hb hx=>?_,I.base.free,fun b o e hx=>?_,I.base.tups,I.base.frzs,I.base.tbls⟩,⟨_,hn',fun j y v' e1 e2 e3=>?_⟩,fun y c e=>?_,I.free,I.freeC,fun p hp=>?_,tracked ⟨oL,hoL,I.free⟩ hs,by simpa using I.len⟩ ⟨_,hs,.inl rfl⟩
  ·exact (hs.2 b (Nat.ne_of_lt (Nat.lt_of_lt_of_le (Heap.lt_size e) I.ok.above))).trans (I.base.keep b o e n hb hx)
  ·obtain ⟨sl,e1⟩:=I.base.slot b o e n hb hx;exact ⟨sl,(hs.2 b (Nat.ne_of_lt (Nat.lt_of_lt_of_le (Heap.lt_size e) I.ok.above))).trans e1⟩
  ·obtain ⟨o',e1⟩:=I.base.there b o e hx;exact ⟨o',(hs.2 b (Nat.ne_of_lt (Nat.lt_of_lt_of_le (Heap.lt_size e) I.ok.above))).trans e1⟩
  ·by_cases hj:j=i
   ·subst hj;rw [hi] at e1;cases e1;rw [List.getElem?_set_self hiσ] at e2
    cases e2
    exact ⟨u,r,.inl ⟨hk,by simp⟩⟩
   ·rw [List.getElem?_set_ne (Ne.symm hj)] at e2;obtain ⟨u',r',q⟩:=hl j y v' e1 e2 e3;refine ⟨u',r',?_⟩;rcases q with ⟨k,e⟩ | ⟨k,c,e,z⟩
    ·refine .inl ⟨k,?_⟩;have:y≠x:=fun e=>hj (m5 hN e1 (e ▸ hi));simp [this,e]
    ·exact .inr ⟨k,c,e,z.sameBut hs (cne y c e)⟩
  ·obtain ⟨w',z⟩:=I.cell y c e;exact ⟨w',z.sameBut hs (cne y c e)⟩
  ·obtain ⟨e,n,ne,nf,d⟩:=I.pin p hp;exact ⟨(hs.2 p.1 ne).trans e,n,ne,nf,d⟩
 ·have hfn:X.fn x=true:=by
   rcases hf with z | z
   ·exact z
   ·rw [z] at hk;cases hk
  obtain ⟨c,hc⟩:=I.ok.has x (.inl hk);obtain ⟨w',z⟩:=I.cell x c hc;refine wpAny_storeName_cell I.ok.kind hk hc z (fun h' hc' hs=>?_);obtain ⟨oc,hoc,hocd⟩:=id z;refine h { s with heap:=h' } ⟨I.ok,I.os,I.bare,⟨fun b o e n hb hx=>?_,fun b o e n hb hx=>?_,I.base.free,fun b o e hx=>?_,I.base.tups,I.base.frzs,I.base.tbls⟩,⟨m,hn.sameBut hs (Ne.symm (cne x c hc)),fun j y v' e1 e2 e3=>?_⟩,fun y c' e=>?_,I.free,I.freeC,fun p hp=>?_,tracked ⟨oc,hoc,I.freeC x c hc⟩ hs,by simpa using I.len⟩ ⟨c,hs,.inr hc⟩
  ·exact (hs.2 b (Nat.ne_of_lt (Nat.lt_of_lt_of_le (Heap.lt_size e) (I.ok.cab x c hfn hc)))).trans (I.base.keep b o e n hb hx)
  ·obtain ⟨sl,e1⟩:=I.base.slot b o e n hb hx;exact ⟨sl,(hs.2 b (Nat.ne_of_lt (Nat.lt_of_lt_of_le (Heap.lt_size e) (I.ok.cab x c hfn hc)))).trans e1⟩
  ·obtain ⟨o',e1⟩:=I.base.there b o e hx;exact ⟨o',(hs.2 b (Nat.ne_of_lt (Nat.lt_of_lt_of_le (Heap.lt_size e) (I.ok.cab x c hfn hc)))).trans e1⟩
  ·by_cases hj:j=i
   ·subst hj;rw [hi] at e1;cases e1;rw [List.getElem?_set_self hiσ] at e2
    cases e2
    exact ⟨u,r,.inr ⟨.inl hk,c,hc,hc'⟩⟩
   ·rw [List.getElem?_set_ne (Ne.symm hj)] at e2;obtain ⟨u',r',q⟩:=hl j y v' e1 e2 e3;refine ⟨u',r',?_⟩;rcases q with q | ⟨k,c',e,z'⟩
    ·exact .inl q
    ·refine .inr ⟨k,c',e,z'.sameBut hs ?_⟩;rintro rfl;exact hj (m5 hN e1 (I.ok.inj _ _ _ e hc ▸ hi))
  ·by_cases hcc:c'=c
   ·subst hcc;exact ⟨_,hc'⟩
   ·obtain ⟨w2,z2⟩:=I.cell y c' e;exact ⟨w2,z2.sameBut hs hcc⟩
  ·obtain ⟨e,n,ne,nf,d⟩:=I.pin p hp;refine ⟨(hs.2 p.1 ?_).trans e,n,ne,nf,d⟩;intro q;rw [q,hoc] at e;have q':oc=p.2:=Option.some.inj e;exact d w' (by rw [← q'];exact hocd)
theorem iZ {M:Model} {A:Around} {E:Value→Shared→Prop} {i:Nat} {x:Str} {v:V} {u:Value} {Q:Unit→Shared→Prop} (I:Inv X pins σ H s) (hN:X.N.Nodup) (hi:X.N[i]?=some x) (hx:Loc X.env.scope x) (r:RelV v u)
  (h:∀ s',Inv X pins (σ.set i (some v)) H s'→Q () s') (hf:X.fn x=true∨X.env.scope.names.lookup x=some .local:=by first | exact .inl rfl | exact .inr rfl | assumption):wpAny M A (storeName X.env x u) Q E s :=
 kq I hN hi hx r (fun s' I' _=>h s' I') hf
theorem Inv.call' {s':Shared} {ch:List Addr} (I:Inv X pins σ H s) (ho:s'.os=s.os) (u:Un (frs X.stack) ch H H' s.heap s'.heap) (hok:HOk X.prog X.w H' s'.heap) (hg:AllBare s'.gens)
  (hch:∀ b∈ch,(b∈X.ex∨X.s₀.heap.objs.size≤b)∧b≠X.env.locals∧(∀ x c,X.env.cells.lookup x=some c→c≠b)∧∀ p∈X.pn++pins,p.1≠b):Inv X pins σ H' s':=by
 obtain ⟨h',g',d',t',o'⟩:=s';have e:o'=s.os:=ho;subst e;exact I.call (g':=g') (t':=t') (d':=d') u hok hg hch
end
abbrev XK:=Value→Option Addr→Hp→Prop
abbrev St:=List (Option V)
abbrev VK:=V→Hp→Prop
abbrev TE:=St→Hp→VK→Prop
abbrev TT:=St→Hp→(Bool→Hp→Prop)→Prop
abbrev TA:=St→Hp→(List V→Hp→Prop)→Prop
structure Ends where
 nx:St→Hp→Prop
 rt:VK
 bk:St→Hp→Prop:=fun _ _=>False
 ct:St→Hp→Prop:=fun _ _=>False
abbrev TS:=Ends→St→Hp→Prop
def EP (X:Cx) (pins:List (Addr×Obj)) (σ:St) (Q:VK) (u:Value) (s':Shared):Prop:=∃ v H',Inv X pins σ H' s'∧RelV v u∧Q v H'
def TP (X:Cx) (pins:List (Addr×Obj)) (σ:St) (Q:Bool→Hp→Prop) (b:Bool) (s':Shared):Prop:=∃ H',Inv X pins σ H' s'∧Q b H'
def AP (X:Cx) (pins:List (Addr×Obj)) (σ:St) (Q:List V→Hp→Prop) (us:List Value) (s':Shared):Prop:=∃ vs H',Inv X pins σ H' s'∧Vals vs us∧Q vs H'
def SP (X:Cx) (pins:List (Addr×Obj)) (D:Ends) (f:Flow) (s':Shared):Prop :=
 match f with
 | .next=>∃ σ' H',Inv X pins σ' H' s'∧D.nx σ' H'
 | .brk=>∃ σ' H',Inv X pins σ' H' s'∧D.bk σ' H'
 | .cont=>∃ σ' H',Inv X pins σ' H' s'∧D.ct σ' H'
 | .ret u=>∃ v σ' H',Inv X pins σ' H' s'∧RelV v u∧D.rt v H'
def PE (X:Cx) (e:Expr) (t:TE):Prop :=
 ∀ (pins:List (Addr×Obj)) (s:Shared) (σ:St) (H:Hp) (Q:VK),Inv X pins σ H s→t σ H Q→wpAny (model X.prog X.w) X.A (eval e X.env) (EP X pins σ Q) X.xe s
def PT (X:Cx) (e:Expr) (t:TT):Prop :=
 ∀ (pins:List (Addr×Obj)) (s:Shared) (σ:St) (H:Hp) (Q:Bool→Hp→Prop),Inv X pins σ H s→t σ H Q→wpAny (model X.prog X.w) X.A (isTrue e X.env (eval e X.env)) (TP X pins σ Q) X.xe s
def PW (X:Cx) (e:Expr) (t:TT):Prop :=
 ∀ (whole:Sem Value) (pins:List (Addr×Obj)) (s:Shared) (σ:St) (H:Hp) (Q:Bool→Hp→Prop),Inv X pins σ H s→t σ H Q→wpAny (model X.prog X.w) X.A (isTrue e X.env whole) (TP X pins σ Q) X.xe s
theorem PW.pt {X:Cx} {e:Expr} {t:TT} (h:PW X e t):PT X e t:=h _
def PA (X:Cx) (es:List Expr) (t:TA):Prop :=
 ∀ (pos:Pos) (pins:List (Addr×Obj)) (s:Shared) (σ:St) (H:Hp) (Q:List V→Hp→Prop),Inv X pins σ H s→t σ H Q→wpAny (model X.prog X.w) X.A (spliced (backTo pos (starEach es X.env))) (AP X pins σ Q) X.xe s
def PS (X:Cx) (st:Stmt) (t:TS):Prop :=
 ∀ (pins:List (Addr×Obj)) (s:Shared) (σ:St) (H:Hp) (D:Ends),Inv X pins σ H s→t D σ H→wpAny (model X.prog X.w) X.A (exec st X.env) (SP X pins D) X.xe s
def PSs (X:Cx) (st:List Stmt) (t:TS):Prop :=
 ∀ (pins:List (Addr×Obj)) (s:Shared) (σ:St) (H:Hp) (D:Ends),Inv X pins σ H s→t D σ H→wpAny (model X.prog X.w) X.A (execs st X.env) (SP X pins D) X.xe s
theorem thn {α:Type} {t:Sem α} {Q Q':α→Shared→Prop} {M:Model} {A:Around} {E:Value→Shared→Prop} {s:Shared} (h:wpAny M A t Q E s) (hQ:∀ a s,Q a s→Q' a s):wpAny M A t Q' E s:=wpAny_mono h hQ fun _ _ x=>x
section
variable {X:Cx}
inductive IVar (i:Nat) (σ:St) (H:Hp) (Q:VK):Prop
 | mk (v:V):(σ[i]?=some (some v))→(Q v H)→IVar i σ H Q
def sG (i:Nat):TE:=fun σ H Q=>IVar i σ H Q
def tC (v:V):TE:=fun _ H Q=>Q v H
theorem zS {i:Nat} {x:Str} {pos:Pos} (hN:X.N[i]?=some x) (hv:Vis X.env.scope x) (hd:(x == ("__debug__" : Str))=false:=by decide) (hcd:(x == ("__classdict__" : Str))=false:=by decide):PE X (.Name x pos) (sG i):=by
 intro pins s σ H Q I h;obtain ⟨v,e,h⟩:=h;obtain ⟨m,hn,hl⟩:=I.loc;obtain ⟨u,r,l⟩:=hl i x v hN e hv;have fin:EP X pins σ Q u s:=⟨v,H,I,r,h⟩;rcases l with ⟨hk,hm⟩ | ⟨hk,c,hc,hcell⟩
 ·exact wpAny_Name (wpAny_loadName_local I.ok.kind hk hn hm fin) hd
 ·rcases hk with hk | hk
  ·exact wpAny_Name (wpAny_loadName_cell I.ok.kind hk hc hcell fin) hd
  ·exact wpAny_Name (wpAny_loadName_free I.ok.kind hk hc hcell fin hcd) hd
theorem pe_int {i j pos}:PE X (.Constant (.int i) j pos) (tC (.int i)):=fun _ _ _ H _ I h=>wpAny_Constant_int ⟨.int i,H,I.tok _,⟨_,rfl⟩,h⟩
theorem pe_bl {b j pos}:PE X (.Constant (.bool b) j pos) (tC (.bl b)):=fun _ _ _ H _ I h=>Constant_bool ⟨.bl b,H,I,rfl,h⟩
theorem pe_non {j pos}:PE X (.Constant .none j pos) (tC .non):=fun _ _ _ H _ I h=>Constant_none ⟨.non,H,I,rfl,h⟩
theorem pe_str {x j pos}:PE X (.Constant (.str x) j pos) (tC (.str x)):=fun _ _ _ H _ I h=>Calls.Constant_str ⟨.str x,H,I.tok _,⟨_,rfl⟩,h⟩
def Gl (X:Cx) (x:Str):Prop:=X.env.kindOf x=some .globalImplicit
theorem fj {E:Value→Shared→Prop} {pins:List (Addr×Obj)} {s:Shared} {σ:St} {H:Hp} {x:Str} {u:Value} {pos:Pos} {Q:Value→Shared→Prop} (I:Inv X pins σ H s) (hg:Gl X x) (hm:X.mg x=some u) (h:Q u s)
  (hd:(x == ("__debug__" : Str))=false:=by decide):wpAny (model X.prog X.w) X.A (eval (.Name x pos) X.env) Q E s :=
 Calls.Name_function_global I.ok.kind hg (Calls.loadGlobal_global (by rw [I.ok.glob];exact I.mod.glob.keeps I.bk) hm h) hd
theorem gP {E:Value→Shared→Prop} {pins:List (Addr×Obj)} {s:Shared} {σ:St} {H:Hp} {x:Str} {u:Value} {pos:Pos} {Q:Value→Shared→Prop} (I:Inv X pins σ H s) (hg:Gl X x) (hm:X.mg x=none) (hv:bootBuiltins x=some u) (h:Q u s)
  (hn:x≠ "__name__" :=by decide) (hd:(x == ("__debug__" : Str))=false:=by decide):wpAny (model X.prog X.w) X.A (eval (.Name x pos) X.env) Q E s:=by
 obtain ⟨mb,h1,h2⟩:=I.mod.blt;exact Calls.Name_function_global I.ok.kind hg (Calls.loadGlobal_builtin (by rw [I.ok.glob];exact I.mod.glob.keeps I.bk) hm (by rw [I.ok.blt];exact h1.keeps I.bk) ((h2 x hn).trans hv) h) hd
theorem le {x:Str} {v:V} {u:Value} {pos:Pos} (hg:Gl X x) (hm:X.mg x=some u) (r:RelV v u) (hd:(x == ("__debug__" : Str))=false:=by decide):PE X (.Name x pos) (tC v) :=
 fun _ _ _ H _ I h=>fj I hg hm ⟨v,H,I,r,h⟩ hd
theorem u0 {x:Str} {v:V} {u:Value} {pos:Pos} (hg:Gl X x) (hm:X.mg x=none) (hv:bootBuiltins x=some u) (r:RelV v u) (hn:x≠ "__name__" :=by decide) (hd:(x == ("__debug__" : Str))=false:=by decide):PE X (.Name x pos) (tC v) :=
 fun _ _ _ H _ I h=>gP I hg hm hv ⟨v,H,I,r,h⟩ hn hd
variable {a b:Expr} {ta tb:TE} {pos:Pos}
def tB (t:TE):TT:=fun σ H Q=>t σ H fun x H1=>∃ c,x=.bl c∧Q c H1
theorem pt_val {e:Expr} {t:TE} (h:PE X e t) (he:∀ whole,isTrue e X.env whole=(do let v ← whole;standAt e.pos;holding [v] (truthy v)):=by intro _;rfl):PT X e (tB t):=by
 intro pins s σ H Q I hw;refine isTrue_plain (thn (h pins s σ H _ I hw) fun v s1 ⟨x,H1,I1,r1,q1⟩=>?_) (he _);obtain ⟨d,rfl,q⟩:=q1
 cases r1
 exact wpAny_truthy_bool ⟨H1,I1,q⟩
variable {tA tB':TT} {rest:List Expr}
def GT (t u:TT):TT:=fun σ H Q=>t σ H fun c H1=>if c=true then u σ H1 Q else Q false H1
def tOr (t u:TT):TT:=fun σ H Q=>t σ H fun c H1=>if c=true then Q true H1 else u σ H1 Q
def GU (t:TT):TT:=fun σ H Q=>t σ H fun c H1=>Q (!c) H1
theorem pw_and1 (ha:PT X a tA):PW X (.BoolOp .And [a] pos) tA:=by
 intro wh pins s σ H Q I h;refine isTrue_and (thn (ha pins s σ H Q I h) fun c s1 e=>?_)
 cases c with
 | true=>exact isTrue_and_nil e
 | false=>exact e
theorem pw_or1 (ha:PT X a tA):PW X (.BoolOp .Or [a] pos) tA:=by
 intro wh pins s σ H Q I h;refine isTrue_or (thn (ha pins s σ H Q I h) fun c s1 e=>?_)
 cases c with
 | false=>exact isTrue_or_nil e
 | true=>exact e
theorem pw_and (ha:PT X a tA) (hb:PW X (.BoolOp .And (b :: rest) pos) tB'):PW X (.BoolOp .And (a :: b :: rest) pos) (GT tA tB'):=by
 intro wh pins s σ H Q I h;refine isTrue_and (thn (ha pins s σ H _ I h) fun c s1 ⟨H1,I1,q1⟩=>?_)
 cases c with
 | true=>exact hb wh pins s1 σ H1 Q I1 q1
 | false=>exact ⟨H1,I1,q1⟩
theorem pw_or (ha:PT X a tA) (hb:PW X (.BoolOp .Or (b :: rest) pos) tB'):PW X (.BoolOp .Or (a :: b :: rest) pos) (tOr tA tB'):=by
 intro wh pins s σ H Q I h;refine isTrue_or (thn (ha pins s σ H _ I h) fun c s1 ⟨H1,I1,q1⟩=>?_)
 cases c with
 | true=>exact ⟨H1,I1,q1⟩
 | false=>exact hb wh pins s1 σ H1 Q I1 q1
theorem pt_not (ha:PT X a tA):PT X (.UnaryOp .Not a pos) (GU tA):=by
 intro pins s σ H Q I h;exact isTrue_not (ha pins s σ H (fun c H1=>Q (!c) H1) I h)
def FH (ta tb:TE):TE:=fun σ H Q=>ta σ H fun x H1=>∃ c,x=.bl c∧if c=true then tb σ H1 Q else Q (.bl false) H1
def FI (ta:TE):TE:=fun σ H Q=>ta σ H fun x H1=>∃ c,x=.bl c∧Q (.bl (!c)) H1
theorem pe_one {op} {t:TE} (h:PE X a t):PE X (.BoolOp op [a] pos) t:=fun pins s σ H Q I hw=>BoolOp_one (h pins s σ H Q I hw)
theorem pe_and (ha:PE X a ta) (hb:PE X (.BoolOp .And (b :: rest) pos) tb):PE X (.BoolOp .And (a :: b :: rest) pos) (FH ta tb):=by
 intro pins s σ H Q I h;refine BoolOp_and (thn (ha pins s σ H _ I h) fun v s1 ⟨x,H1,I1,r1,q1⟩=>?_);obtain ⟨c,rfl,q1⟩:=q1
 cases r1
 refine wpAny_truthy_bool ?_
 cases c with
 | true=>exact hb pins s1 σ H1 Q I1 q1
 | false=>exact ⟨.bl false,H1,I1,rfl,q1⟩
theorem zT (ha:PE X a ta):PE X (.UnaryOp .Not a pos) (FI ta):=by
 intro pins s σ H Q I h;refine UnaryOp_ (thn (ha pins s σ H _ I h) fun v s1 ⟨x,H1,I1,r1,q1⟩=>?_);obtain ⟨c,rfl,q1⟩:=q1
 cases r1
 exact not_of (wpAny_truthy_bool ⟨.bl (!c),H1,I1,rfl,q1⟩)
def tIf (t:TT) (ta tb:TE):TE:=fun σ H Q=>t σ H fun c H1=>if c=true then ta σ H1 Q else tb σ H1 Q
theorem gf {c:Expr} (hc:PT X c tA) (ha:PE X a ta) (hb:PE X b tb):PE X (.IfExp c a b pos) (tIf tA ta tb):=by
 intro pins s σ H Q I h;refine wpAny_IfExp (thn (hc pins s σ H _ I h) fun d s1 ⟨H1,I1,q1⟩=>?_)
 cases d with
 | true=>exact ha pins s1 σ H1 Q I1 q1
 | false=>exact hb pins s1 σ H1 Q I1 q1
end
def SqL (K:PySem.W.Frag) (H:Hp) (a:Addr) (xs:List V):Prop :=
 Rd H a (.lst xs) ∨
  ∃ (o:Obj) (its:Array Value) (n:Nat),K.lookup a=some o∧o.cls=.type "list" ∧o.dict=none∧o.data=.seq its n∧its.size≤sizeLine∧Vals xs its.toList
def SqT (K:PySem.W.Frag) (H:Hp) (a:Addr) (xs:List V):Prop :=
 Rd H a (.tup xs) ∨
  ∃ (o:Obj) (its:Array Value) (n:Nat),K.lookup a=some o∧o.cls=.type "tuple" ∧o.data=.seq its n∧its.size≤sizeLine∧Vals xs its.toList
def GV:Value→Option V
 | .none=>some .non
 | .bool b=>some (.bl b)
 | .int i _=>some (.int i)
 | .str x _=>some (.str x)
 | .bytes b _=>some (.byt b)
 | .float b _=>some (.flt b)
 | .ref a=>some (.ref a)
 | .type n=>some (.ty n)
 | _=>none
theorem RelV.abs {x:V} {u:Value} (r:RelV x u):GV u=some x:=by
 cases x with
 | non=>cases r;rfl
 | bl _=>cases r;rfl
 | int _=>obtain ⟨t,rfl⟩:=r;rfl
 | str _=>obtain ⟨t,rfl⟩:=r;rfl
 | byt _=>obtain ⟨t,rfl⟩:=r;rfl
 | flt _=>obtain ⟨t,rfl⟩:=r;rfl
 | ref _=>cases r;rfl
 | ty _=>cases r;rfl
theorem RelV.inj {x y:V} {u:Value} (r:RelV x u) (q:RelV y u):x=y:=Option.some.inj (r.abs.symm.trans q.abs)
theorem Vals.inj:∀ {xs ys:List V} {us:List Value},Vals xs us→Vals ys us→xs=ys
 | _,_,_,.nil,.nil=>rfl
 | _,_,_,.cons r t,.cons r' t'=>by rw [r.inj r',Vals.inj t t']
section
variable {X:Cx} {pins:List (Addr×Obj)} {σ:St} {H:Hp} {s:Shared} {a:Addr} {xs ys:List V}
theorem SqL.of {K:PySem.W.Frag} (h:H a=some (.lst xs)):SqL K H a xs:=.inl (.inl h)
theorem SqT.of {K:PySem.W.Frag} (h:H a=some (.tup xs)):SqT K H a xs:=.inl (.inl h)
theorem Inv.list (I:Inv X pins σ H s) (h:SqL X.K H a xs):∃ its:List Value,Vals xs its∧PlainL s.heap a its.toArray∧xs.length≤sizeLine:=by
 rcases h with h | ⟨o,its,n,hk,hc,hd,hs,hz,r⟩
 ·obtain ⟨z,its,n,r,e⟩:=h.ok I.hok;exact ⟨its,r,⟨_,n,e,rfl,rfl,rfl⟩,z⟩
 ·refine ⟨its.toList,r,⟨o,n,I.kIn a o hk,hc,hd,by simpa using hs⟩,?_⟩;have e:=r.length;simp only [Array.length_toList] at e;lia
theorem Inv.tuple (I:Inv X pins σ H s) (h:SqT X.K H a xs):∃ its:List Value,Vals xs its∧IsTup s.heap a its.toArray∧xs.length≤sizeLine:=by
 rcases h with h | ⟨o,its,n,hk,hc,hs,hz,r⟩
 ·obtain ⟨z,its,r,p⟩:=h.ok I.hok;exact ⟨its,r,p,z⟩
 ·refine ⟨its.toList,r,⟨o,I.kIn a o hk,hc,n,by simpa using hs⟩,?_⟩;have e:=r.length;simp only [Array.length_toList] at e;lia
theorem Inv.list_inj (I:Inv X pins σ H s) (h:SqL X.K H a xs) (h':SqL X.K H a ys):xs=ys:=by
 obtain ⟨its,r,⟨o,n,e,_,_,d⟩,_⟩:=I.list h;obtain ⟨its',r',⟨o',n',e',_,_,d'⟩,_⟩:=I.list h';rw [e] at e';cases e';rw [d] at d';injection d' with d1 _
 have:its=its':=by simpa using congrArg Array.toList d1
 subst this;exact r.inj r'
theorem Inv.tuple_inj (I:Inv X pins σ H s) (h:SqT X.K H a xs) (h':SqT X.K H a ys):xs=ys:=by
 obtain ⟨its,r,⟨o,e,_,n,d⟩,_⟩:=I.tuple h;obtain ⟨its',r',⟨o',e',_,n',d'⟩,_⟩:=I.tuple h';rw [e] at e';cases e';rw [d] at d';injection d' with d1 _
 have:its=its':=by simpa using congrArg Array.toList d1
 subst this;exact r.inj r'
end
abbrev Cx.wish (X:Cx) (E:Value→Shared→Prop):Cx:={ X with xe:=E }
abbrev Cx.nox (X:Cx):Cx:=X.wish fun _ _=>False
theorem Cx.Ok.wish {X:Cx} (ok:X.Ok) (E:Value→Shared→Prop):(X.wish E).Ok :=
 ⟨ok.mod,ok.kind,ok.glob,ok.blt,ok.above,ok.inj,ok.has,ok.cab,ok.hd,ok.frames,ok.stk,ok.exf,ok.bs,ok.bsz,ok.noex,ok.exfs,ok.funs,ok.frf⟩
theorem Cx.Ok.unwish {X:Cx} {E:Value→Shared→Prop} (ok:(X.wish E).Ok):X.Ok :=
 ⟨ok.mod,ok.kind,ok.glob,ok.blt,ok.above,ok.inj,ok.has,ok.cab,ok.hd,ok.frames,ok.stk,ok.exf,ok.bs,ok.bsz,ok.noex,ok.exfs,ok.funs,ok.frf⟩
section
variable {X:Cx} {pins:List (Addr×Obj)} {σ:St} {H:Hp} {s:Shared} {E:Value→Shared→Prop}
theorem Inv.wish (I:Inv X pins σ H s) (E:Value→Shared→Prop):Inv (X.wish E) pins σ H s:=⟨I.ok.wish E,I.os,I.bare,I.base,I.loc,I.cell,I.free,I.freeC,I.pin,I.hok,I.len⟩
theorem Inv.unwish (I:Inv (X.wish E) pins σ H s):Inv X pins σ H s:=⟨I.ok.unwish,I.os,I.bare,I.base,I.loc,I.cell,I.free,I.freeC,I.pin,I.hok,I.len⟩
theorem SP.unwish {D:Ends} {f:Flow} {s':Shared} (h:SP (X.wish E) pins D f s'):SP X pins D f s':=by
 cases f with
 | next=>obtain ⟨σ',H',I,q⟩:=h;exact ⟨σ',H',I.unwish,q⟩
 | brk=>obtain ⟨σ',H',I,q⟩:=h;exact ⟨σ',H',I.unwish,q⟩
 | cont=>obtain ⟨σ',H',I,q⟩:=h;exact ⟨σ',H',I.unwish,q⟩
 | ret u=>obtain ⟨v,σ',H',I,r,q⟩:=h;exact ⟨v,σ',H',I.unwish,r,q⟩
theorem PSs.nox {st:List Stmt} {t:TS} (h:PSs X.nox st t):PSs X st t:=fun pins s σ H D I hw =>
 wpAny_mono (h pins s σ H D (I.wish _) hw) (fun _ _ q=>q.unwish) fun _ _ z=>False.elim z
end
section
variable {X:Cx} {st:Stmt} {rest:List Stmt} {t u:TS} {e:Expr} {te:TE} {pos:Pos}
def FJ:TS:=fun D σ H=>D.nx σ H
def FL (t u:TS):TS:=fun D σ H=>t { D with nx:=u D } σ H
theorem pss_nil:PSs X [] FJ:=fun _ _ σ H _ I h=>wpAny_execs_nil ⟨σ,H,I,h⟩
theorem pss_cons (h1:PS X st t) (h2:PSs X rest u):PSs X (st :: rest) (FL t u):=by
 intro pins s σ H D I h;refine wpAny_execs_cons (thn (h1 pins s σ H { D with nx:=u D } I h) fun f s1 q=>?_)
 cases f with
 | next =>
  obtain ⟨σ',H',I',q⟩:=q;exact h2 pins s1 σ' H' D I' q
 | ret v=>exact q
 | brk=>exact q
 | cont=>exact q
theorem pss_one (h1:PS X st t):PSs X [st] t:=by
 intro pins s σ H D I h;refine wpAny_execs_cons (thn (h1 pins s σ H D I h) fun f s1 q=>?_)
 cases f with
 | next=>exact wpAny_execs_nil q
 | ret v=>exact q
 | brk=>exact q
 | cont=>exact q
theorem Inv.quiet {pins:List (Addr×Obj)} {σ:St} {H:Hp} {s:Shared} (I:Inv X pins σ H s):interactive X.env=false:=by simp [interactive,I.ok.kind]
def FM (te:TE):TS:=fun D σ H=>te σ H fun _ H1=>D.nx σ H1
theorem bn (he:PE X e te) (hs:swapsWith e none pos.line X.env=pure false:=by rfl):PS X (.Expr e pos) (FM te):=by
 intro pins s σ H D I h;exact wpAny_Expr_any (thn (he pins s σ H _ I h) fun v s1 ⟨x,H1,I1,r1,q1⟩=>⟨σ,H1,I1,q1⟩) I.quiet hs
def FN (te:TE):TS:=fun D σ H=>te σ H D.rt
theorem ps_ret (he:PE X e te):PS X (.Return (some e) pos) (FN te):=by
 intro pins s σ H D I h;exact wpAny_Return_some (thn (he pins s σ H _ I h) fun v s1 ⟨x,H1,I1,r1,q1⟩=>⟨x,σ,H1,I1,r1,q1⟩)
def GX (c:TT) (t u:TS):TS:=fun D σ H=>c σ H fun b H1=>if b=true then t D σ H1 else u D σ H1
theorem ps_if {c:Expr} {a b:List Stmt} {tc:TT} (hc:PT X c tc) (ha:PSs X a t) (hb:PSs X b u):PS X (.If c a b pos) (GX tc t u):=by
 intro pins s σ H D I h;refine wpAny_If (thn (hc pins s σ H _ I h) fun d s1 ⟨H1,I1,q1⟩=>?_)
 cases d with
 | true=>exact ha pins s1 σ H1 D I1 q1
 | false=>exact hb pins s1 σ H1 D I1 q1
def zU:TS:=fun _ _ _=>False
theorem ps_never:PS X st zU:=fun _ _ _ _ _ _ h=>h.elim
end
abbrev TG:=V→St→Hp→(St→Hp→Prop)→Prop
abbrev TGs:=List V→St→Hp→(St→Hp→Prop)→Prop
def PG (X:Cx) (target:Expr) (t:TG):Prop :=
 ∀ (pins:List (Addr×Obj)) (s:Shared) (σ:St) (H:Hp) (v:V) (u:Value) (Q:St→Hp→Prop),Inv X pins σ H s→RelV v u→t v σ H Q →
  wpAny (model X.prog X.w) X.A (assign target X.env u) (fun _ s'=>∃ σ' H',Inv X pins σ' H' s'∧Q σ' H') X.xe s
def PGs (X:Cx) (ts:List Expr) (t:TGs):Prop :=
 ∀ (pins:List (Addr×Obj)) (s:Shared) (σ:St) (H:Hp) (vs:List V) (us:List Value) (Q:St→Hp→Prop),Inv X pins σ H s→Vals vs us→t vs σ H Q →
  wpAny (model X.prog X.w) X.A (assignInOrder ((assignEach ts X.env).map (·.2)) us) (fun _ s'=>∃ σ' H',Inv X pins σ' H' s'∧Q σ' H') X.xe s
abbrev zV:=V→V→V→Hp→(Hp→Prop)→Prop
def FO (X:Cx) (t:zV):Prop :=
 ∀ (pins:List (Addr×Obj)) (s:Shared) (σ:St) (H:Hp) (o i v:V) (ov iv u:Value) (Q:Hp→Prop),Inv X pins σ H s→RelV o ov→RelV i iv→RelV v u→t o i v H Q →
  wpAny (model X.prog X.w) X.A (setItem ov iv u) (fun _ s'=>∃ H',Inv X pins σ H' s'∧Q H') X.xe s
abbrev TIp:=V→V→Hp→VK→Prop
def PIp (X:Cx) (op:Operator) (t:TIp):Prop :=
 ∀ (pins:List (Addr×Obj)) (s:Shared) (σ:St) (H:Hp) (x y:V) (v u:Value) (Q:VK),Inv X pins σ H s→RelV x v→RelV y u→t x y H Q →
  wpAny (model X.prog X.w) X.A (inplaceOp op v u) (EP X pins σ Q) X.xe s
section
variable {X:Cx} {pos:Pos}
def i0 (i:Nat):TG:=fun v σ H Q=>Q (σ.set i (some v)) H
theorem ak {i:Nat} {x:Str} (hN:X.N.Nodup) (hi:X.N[i]?=some x) (hx:Loc X.env.scope x) (hf:X.fn x=true∨X.env.scope.names.lookup x=some .local:=by first | exact .inl rfl | exact .inr rfl | assumption):PG X (.Name x pos) (i0 i):=by
 intro pins s σ H v u Q I r h;exact wpAny_assign_Name (iZ I hN hi hx r (fun s' I'=>⟨_,H,I',h⟩) hf)
def GY:TGs:=fun vs σ H Q=>vs=[]∧Q σ H
def FP (t:TG) (u:TGs):TGs:=fun vs σ H Q=>∃ v r,vs=v :: r∧t v σ H fun σ' H'=>u r σ' H' Q
theorem cu:PGs X [] GY:=by
 intro pins s σ H vs us Q I r h;obtain ⟨e,h⟩:=h;subst e
 cases r
 exact assignInOrder_nil ⟨σ,H,I,h⟩
theorem aC {e:Expr} {es:List Expr} {t:TG} {u:TGs} (h1:PG X e t) (h2:PGs X es u)
  (hs:(assignEach (e :: es) X.env).map (·.2)=assign e X.env :: (assignEach es X.env).map (·.2):=by rfl):PGs X (e :: es) (FP t u):=by
 intro pins s σ H vs us Q I r h;obtain ⟨v,vr,e1,h⟩:=h;subst e1
 cases r with
 | cons r rr =>
  rw [hs];refine assignInOrder_cons (thn (h1 pins s σ H _ _ _ I r h) fun _ s1 ⟨σ1,H1,I1,q1⟩=>?_);exact h2 pins s1 σ1 H1 _ _ Q I1 rr q1
def FQ (K:PySem.W.Frag) (n:Nat) (t:TGs):TG:=fun v σ H Q=>∃ a xs,v=.ref a∧SqT K H a xs∧xs.length=n∧t xs σ H Q
theorem lf {es:List Expr} {k:Nat} {t:TGs} {n:Nat} (hc:X.calm=true) (h:PGs X es t)
  (hn:(assignEach es X.env).length=n:=by rfl) (hst:(assignEach es X.env).findIdx? (·.1)=none:=by rfl):PG X (.Tuple es k pos) (FQ X.K n t):=by
 intro pins s σ H v u Q I r hw;obtain ⟨a,xs,e1,hq,hl,hw⟩:=hw;subst e1
 cases r
 obtain ⟨its,rv,ht,hz⟩:=I.tuple hq;refine assign_Tuple_tuple (I.ok.hd hc) ht (by simp [hn,← hl,rv.length]) hst fun h' hx=>?_;have I1:Inv X pins σ H { s with heap:=h' }:=I.kept (t':=s.toks) fun b o e=>hx b o (Nat.ne_of_lt (Heap.lt_size e)) e;exact h pins _ σ H xs _ Q I1 (by simpa using rv) hw
def gSub (to ti:TE) (t:zV):TG:=fun v σ H Q=>to σ H fun o H1=>ti σ H1 fun i H2=>t o i v H2 fun H3=>Q σ H3
theorem sH {o i:Expr} {to ti:TE} {t:zV} (ho:PE X o to) (hi:PE X i ti) (hs:FO X t)
  (ha:∀ v,assign (.Subscript o i pos) X.env v=(do
   let ov ← holding [v] (eval o X.env)
   let iv ← holding [v,ov] (eval i X.env)
   standAt pos
   holding [v,ov,iv] (setItem ov iv v)
   release [v,ov,iv] []):=by intro _;rfl):PG X (.Subscript o i pos) (gSub to ti t):=by
 intro pins s σ H v u Q I r h;rw [ha];refine wpAny_bind (wpAny_holding (thn (ho pins s σ H _ I h) fun ov s1 ⟨x,H1,I1,r1,q1⟩=>?_));refine wpAny_bind (wpAny_holding (thn (hi pins s1 σ H1 _ I1 q1) fun iv s2 ⟨y,H2,I2,r2,q2⟩=>?_));refine wpAny_bind (wpAny_standAt (wpAny_bind (wpAny_holding (thn (hs pins s2 σ H2 x y v ov iv u _ I2 r1 r2 r q2) fun _ s3 ⟨H3,I3,q3⟩=>?_))));exact wpAny_release ⟨σ,H3,I3,q3⟩
def u3 (te:TE) (g:TG):TS:=fun D σ H=>te σ H fun x H1=>g x σ H1 D.nx
theorem sI {tg e:Expr} {te:TE} {g:TG} (he:PE X e te) (hg:PG X tg g) (hs:swapsWithSole [tg] e pos.line X.env=pure false:=by rfl) (hw:swappedStores [tg] e X.env=pure none:=by rfl)
  (h1:(assignEach [tg] X.env).map (·.2)=[assign tg X.env]:=by rfl):PS X (.Assign [tg] e pos) (u3 te g):=by
 intro pins s σ H D I h;refine wpAny_Assign_stores (thn (he pins s σ H _ I h) fun v s1 ⟨x,H1,I1,r1,q1⟩=>?_) hs hw;rw [h1];exact thn (hg pins s1 σ H1 x v _ I1 r1 q1) fun _ s2 q=>q
theorem ps_set {i:Nat} {x:Str} {e:Expr} {te:TE} {pos':Pos} (hN:X.N.Nodup) (hi:X.N[i]?=some x) (hx:Loc X.env.scope x) (he:PE X e te) (hs:swapsWith e (some (.Name x pos')) pos.line X.env=pure false:=by rfl) (hf:X.fn x=true∨X.env.scope.names.lookup x=some .local:=by first | exact .inl rfl | exact .inr rfl | assumption) :
  PS X (.Assign [.Name x pos'] e pos) (u3 te (i0 i)):=by
 intro pins s σ H D I h;refine wpAny_Assign_Name (thn (he pins s σ H _ I h) fun v s1 ⟨y,H1,I1,r1,q1⟩=>?_) hs;exact iZ I1 hN hi hx r1 (fun s2 I2=>⟨_,H1,I2,q1⟩) hf
def GZ (i:Nat) (te:TE) (ti:TIp):TS:=fun D σ H=>∃ x,σ[i]?=some (some x)∧te σ H fun y H1=>ti x y H1 fun z H2=>D.nx (σ.set i (some z)) H2
theorem oR {i:Nat} {x:Str} {e:Expr} {te:TE} {op:Operator} {ti:TIp} {pos':Pos} (hN:X.N.Nodup) (hi:X.N[i]?=some x) (hx:Loc X.env.scope x) (he:PE X e te) (ho:PIp X op ti) (hf:X.fn x=true∨X.env.scope.names.lookup x=some .local:=by first | exact .inl rfl | exact .inr rfl | assumption) :
  PS X (.AugAssign (.Name x pos') op e pos) (GZ i te ti):=by
 intro pins s σ H D I h;obtain ⟨v,e1,h⟩:=h;obtain ⟨m,hn,hl⟩:=I.loc;have vis:Vis X.env.scope x:=by rcases hx with k | k;exact .inl k;exact .inr (.inl k)
 obtain ⟨u,r,l⟩:=hl i x v hi e1 vis;refine wpAny_AugAssign_Name ?_;have go:wpAny (model X.prog X.w) X.A (eval e X.env) (fun w s₂=>wpAny (model X.prog X.w) X.A (inplaceOp op u w) (fun r s₃=>wpAny (model X.prog X.w) X.A (storeName X.env x r) (fun _=>SP X pins D .next) X.xe s₃) X.xe s₂) X.xe s:=by
  refine thn (he pins s σ H _ I h) fun w s1 ⟨y,H1,I1,r1,q1⟩=>?_;refine thn (ho pins s1 σ H1 v y u w _ I1 r r1 q1) fun z s2 ⟨zv,H2,I2,r2,q2⟩=>?_;exact iZ I2 hN hi hx r2 (fun s3 I3=>⟨_,H2,I3,q2⟩) hf
 rcases l with ⟨hk,hm⟩ | ⟨hk,c,hc,hcell⟩
 ·exact wpAny_loadName_local I.ok.kind hk hn hm go
 ·rcases hk with hk | hk
  ·exact wpAny_loadName_cell I.ok.kind hk hc hcell go
  ·rcases hx with k | k
   ·have:X.env.scope.names.lookup x=some .free:=hk;rw [k] at this;cases this
   ·have:X.env.scope.names.lookup x=some .free:=hk;rw [k] at this;cases this
def ipI (f:Int→Int→Int):TIp:=fun x y H Q=>∃ i j,x=.int i∧y=.int j∧Q (.int (f i j)) H
theorem ip_add:PIp X .Add (ipI fun i j=>i+j):=by
 intro pins s σ H x y v u Q I r1 r2 h;obtain ⟨i,j,e1,e2,q⟩:=h;subst e1;subst e2;obtain ⟨t,rfl⟩:=r1;obtain ⟨t',rfl⟩:=r2;exact iadd_int ⟨.int _,H,I.tok _,⟨_,rfl⟩,q⟩
theorem zW:PIp X .Sub (ipI fun i j=>i - j):=by
 intro pins s σ H x y v u Q I r1 r2 h;obtain ⟨i,j,e1,e2,q⟩:=h;subst e1;subst e2;obtain ⟨t,rfl⟩:=r1;obtain ⟨t',rfl⟩:=r2;exact isub_int ⟨.int _,H,I.tok _,⟨_,rfl⟩,q⟩
end
section
variable {X:Cx} {pos:Pos}
def zX (c:TT) (tb:TS):TS:=fun D σ H=>∃ W:Nat→St→Hp→Prop,(∃ m,W m σ H)∧∀ m σ H,W m σ H →
 c σ H fun b H1=>if b=true then ∃ N:St→Hp→Prop,(∀ σ' H',N σ' H'→∃ m',m' < m∧W m' σ' H')∧tb { D with nx:=N,ct:=N,bk:=D.nx } σ H1 else D.nx σ H1
theorem i3 {c:Expr} {body:List Stmt} {tc:TT} {tb:TS} (hp:PassesOwn (model X.prog X.w) X.A X.env X.xe) (hc:PT X c tc) (hb:PSs X body tb):PS X (.While c body [] pos) (zX tc tb):=by
 intro pins s σ H D I h;obtain ⟨W,⟨m0,w0⟩,turn⟩:=h;refine wpAny_While (codeAny_whileLoop (fun n s'=>∃ σ' H',Inv X pins σ' H' s'∧W n σ' H') ?_ m0 ⟨σ,H,I,w0⟩);rintro n s1 ⟨σ1,H1,I1,w1⟩;refine wpAny_passesOwn hp (thn (hc pins s1 σ1 H1 _ I1 (turn n σ1 H1 w1)) fun b s2 ⟨H2,I2,q2⟩=>?_)
 cases b with
 | true =>
  obtain ⟨N,hN,q2⟩:=q2;rw [if_pos rfl];refine wpAny_passesOwn hp (thn (hb pins s2 σ1 H2 _ I2 q2) fun f s3 q3=>?_)
  cases f with
  | next =>
   obtain ⟨σ3,H3,I3,n3⟩:=q3;obtain ⟨m',hm,w3⟩:=hN σ3 H3 n3;exact ⟨m',hm,σ3,H3,I3,w3⟩
  | cont =>
   obtain ⟨σ3,H3,I3,n3⟩:=q3;obtain ⟨m',hm,w3⟩:=hN σ3 H3 n3;exact ⟨m',hm,σ3,H3,I3,w3⟩
  | brk=>exact q3
  | ret v=>exact q3
 | false =>
  rw [if_neg Bool.false_ne_true];exact wpAny_execs_nil ⟨σ1,H2,I2,q2⟩
end
structure It where
 go:Nat→Hp→Prop
 yld:Nat→Hp→V→Hp→Prop
 stop:Nat→Hp→Prop
def fA (X:Cx) (pins:List (Addr×Obj)) (H:Hp) (b:Addr):Prop :=
 H b=none∧b≠X.env.locals∧b∉X.fs∧(b∈X.ex∨X.s₀.heap.objs.size≤b)∧(∀ x c,X.env.cells.lookup x=some c→c≠b)∧∀ p∈X.pn++pins,p.1≠b
theorem Inv.fpOk {X:Cx} {pins:List (Addr×Obj)} {σ:St} {H H':Hp} {s:Shared} {b:Addr} (I:Inv X pins σ H s) (hb:s.heap.objs.size≤b) (hn:H' b=none):fA X pins H' b:=by
 refine ⟨hn,Nat.ne_of_gt (Nat.lt_of_lt_of_le I.lt hb),I.nofs hb,.inr (Nat.le_trans I.sz hb),fun x c e z=>?_,fun p hp z=>?_⟩
 ·obtain ⟨v,q⟩:=I.cell x c e;exact absurd (Nat.lt_of_lt_of_le q.lt (by rw [z];exact hb)) (Nat.lt_irrefl _)
 ·exact absurd (Nat.lt_of_lt_of_le (Heap.lt_size (I.pin p hp).1) (by rw [z];exact hb)) (Nat.lt_irrefl _)
structure Turn (P:Program) (w:World) (K:PySem.W.Frag) (tg:Expr) (J:It) (fp:List Addr) (it:Addr) (tn:Nat→Heap→Prop):Prop where
 mem:it∈fp
 obj:∀ i h,tn i h→∀ b∈fp,∃ o,h.get? b=some o∧∀ v,o.data≠.cell v
 keep:∀ i h h',tn i h→(∀ b∈fp,∀ o,h.get? b=some o→h'.get? b=some o)→tn i h'
 item:∀ (X:Cx),X.prog=P→X.w=w→X.K=K→X.calm=true→∀ (i:Nat) (pins:List (Addr×Obj)) (s:Shared) (σ:St) (H:Hp) (E:Value→Shared→Prop),Inv X pins σ H s→(∀ b∈fp,fA X pins H b)→tn i s.heap→J.go i H →
  wpAny (model P w) X.A (pyNext (.ref it)) (fun r s1=>∃ u,r=some u ∧
   wpAny (model P w) X.A (letOwnedTupleGo tg (.ref it) u) (fun _ s2=>∃ x H',Inv X pins σ H' s2∧RelV x u∧J.yld i H x H'∧tn (i+1) s2.heap∧∀ b∈fp,H' b=none) E s1) E s
 done:∀ (X:Cx),X.prog=P→X.w=w→X.K=K→X.calm=true→∀ (i:Nat) (pins:List (Addr×Obj)) (s:Shared) (σ:St) (H:Hp) (E:Value→Shared→Prop),Inv X pins σ H s→(∀ b∈fp,fA X pins H b)→tn i s.heap→J.stop i H →
  wpAny (model P w) X.A (pyNext (.ref it)) (fun r s1=>r=none∧Inv X pins σ H s1) E s
 self:∀ (A:Around) (i:Nat) (s:Shared) (Q:Value→Shared→Prop) (E:Value→Shared→Prop),tn i s.heap→Q (.ref it) s→wpAny (model P w) A (pyIter (.ref it)) Q E s
abbrev TI:=St→Hp→(It→Hp→Prop)→Prop
def PIE (X:Cx) (pins:List (Addr×Obj)) (σ:St) (tg:Expr) (R:It→Hp→Prop) (itv:Value) (s2:Shared):Prop :=
 ∃ (it:Addr) (fp:List Addr) (tn:Nat→Heap→Prop) (J:It) (H':Hp),itv=.ref it∧Inv X pins σ H' s2∧Turn X.prog X.w X.K tg J fp it tn∧tn 0 s2.heap∧(∀ b∈fp,fA X pins H' b)∧R J H'
def PI (X:Cx) (tg iter:Expr) (wi:TI):Prop :=
 ∀ (pins:List (Addr×Obj)) (s:Shared) (σ:St) (H:Hp) (R:It→Hp→Prop),Inv X pins σ H s→wi σ H R →
  wpAny (model X.prog X.w) X.A (eval iter X.env) (fun v s1=>wpAny (model X.prog X.w) X.A (pyIter v) (PIE X pins σ tg R) X.xe s1) X.xe s
theorem qk {M:Model} {A:Around} {E:Value→Shared→Prop} {s:Shared} {tg:Expr} {it:Addr} {u:Value} {o:Obj} {n:String} {vs:Array Value} {Q:Unit→Shared→Prop} (ho:s.heap.get? it=some o) (hc:o.cls=.type n) (hd:o.data=.fields vs)
    (hn:["enumerate","zip","dict_itemiterator","dict_reverseitemiterator","odict_iterator","itertools.zip_longest","itertools.pairwise"].contains n=false) (hQ:Q () s):wpAny M A (letOwnedTupleGo tg (.ref it) u) Q E s:=by
  unfold letOwnedTupleGo
  cases tg <;> first
    | exact wpAny_pure hQ
    | (cases u <;> first
        | exact wpAny_pure hQ
        | (refine wpAny_bind (wpAny_load ho ?_)
           rw [hc,hd];show wpAny M A (if (["enumerate","zip","dict_itemiterator","dict_reverseitemiterator","odict_iterator","itertools.zip_longest","itertools.pairwise"].contains n && vs[0]? == some (rawInt _))=true then _ else _) Q E s;rw [if_neg (by intro h;rw [hn,Bool.false_and] at h;cases h)];exact wpAny_pure hQ))
def Itl (K:PySem.W.Frag) (a:Addr):It :=
 ⟨fun i H=>∃ xs x,SqL K H a xs∧xs[i]?=some x,fun i H x H'=>H'=H∧∀ xs,SqL K H a xs→xs[i]?=some x,fun i H=>∃ xs,SqL K H a xs∧xs.length≤i⟩
def Itt (K:PySem.W.Frag) (a:Addr):It :=
 ⟨fun i H=>∃ xs x,SqT K H a xs∧xs[i]?=some x,fun i H x H'=>H'=H∧∀ xs,SqT K H a xs→xs[i]?=some x,fun i H=>∃ xs,SqT K H a xs∧xs.length≤i⟩
def Itr (lo:Int) (n:Nat):It:=⟨fun i _=>i < n,fun i H x H'=>H'=H∧x=.int (lo+i),fun i _=>n≤i⟩
theorem q8 {P:Program} {w:World} {K:PySem.W.Frag} {tg:Expr} (a it:Addr):Turn P w K tg (Itl K a) [it] it (fun i h=>h.IsListIter it a i) where
 mem:=by simp
 obj:=fun i h st b hb=>by
  have e:b=it:=by simpa using hb
  subst e;obtain ⟨o,e,c,d⟩:=st;exact ⟨o,e,fun v z=>by rw [d] at z;cases z⟩
 keep:=fun i h h' st k=>st.at fun o e=>k it (by simp) o e
 item:=by
  intro X hP hw hK hc i pins s σ H E I hf st hg;subst hP hw hK;obtain ⟨xs,x,hq,hx⟩:=hg;obtain ⟨its,rv,p,hz⟩:=I.list hq;obtain ⟨u,hu,ru⟩:=rv.get hx;obtain ⟨f0,f1,f2,f3,f4,f5⟩:=hf it (by simp);refine wpAny_pyNext_list_item st p.isList (x:=u) (by simpa using hu) fun h' st' sb=>?_;have I1:Inv X pins σ H { s with heap:=h' }:=I.turned (t':=s.toks) (fun b o hb e=>(sb.2 b hb).trans e) f0 f1 f3 f4 f5;obtain ⟨o,e,c,d⟩:=id st';exact ⟨u,rfl,qk (s:={ s with heap:=h' }) e c d (by decide) ⟨x,H,I1,ru,⟨rfl,fun ys hy=>by rw [I.list_inj hy hq];exact hx⟩,st',fun b hb=>(hf b hb).1⟩⟩
 done:=by
  intro X hP hw hK hc i pins s σ H E I hf st hg;subst hP hw hK;obtain ⟨xs,hq,hx⟩:=hg;obtain ⟨its,rv,p,hz⟩:=I.list hq;obtain ⟨f0,f1,f2,f3,f4,f5⟩:=hf it (by simp);have hl:=rv.length;exact wpAny_pyNext_list_end (I.ok.hd hc) st p.isList (by simp;lia) fun h' eb=>⟨rfl,I.turned (t':=s.toks) (fun b o hb e=>eb b o hb e) f0 f1 f3 f4 f5⟩
 self:=fun _ _ _ _ _ st h=>wpAny_pyIter_listiter st h
theorem oS {P:Program} {w:World} {K:PySem.W.Frag} {tg:Expr} (a it:Addr):Turn P w K tg (Itt K a) [it] it (fun i h=>h.IsTupleIter it a i) where
 mem:=by simp
 obj:=fun i h st b hb=>by
  have e:b=it:=by simpa using hb
  subst e;obtain ⟨o,e,c,d⟩:=st;exact ⟨o,e,fun v z=>by rw [d] at z;cases z⟩
 keep:=fun i h h' st k=>st.at fun o e=>k it (by simp) o e
 item:=by
  intro X hP hw hK hc i pins s σ H E I hf st hg;subst hP hw hK;obtain ⟨xs,x,hq,hx⟩:=hg;obtain ⟨its,rv,p,hz⟩:=I.tuple hq;obtain ⟨u,hu,ru⟩:=rv.get hx;obtain ⟨f0,f1,f2,f3,f4,f5⟩:=hf it (by simp);refine wpAny_pyNext_tuple_item st (show s.heap.IsTuple a its.toArray from p) (x:=u) (by simpa using hu) fun h' st' sb=>?_;have I1:Inv X pins σ H { s with heap:=h' }:=I.turned (t':=s.toks) (fun b o hb e=>(sb.2 b hb).trans e) f0 f1 f3 f4 f5;obtain ⟨o,e,c,d⟩:=id st';exact ⟨u,rfl,qk (s:={ s with heap:=h' }) e c d (by decide) ⟨x,H,I1,ru,⟨rfl,fun ys hy=>by rw [I.tuple_inj hy hq];exact hx⟩,st',fun b hb=>(hf b hb).1⟩⟩
 done:=by
  intro X hP hw hK hc i pins s σ H E I hf st hg;subst hP hw hK;obtain ⟨xs,hq,hx⟩:=hg;obtain ⟨its,rv,p,hz⟩:=I.tuple hq;obtain ⟨f0,f1,f2,f3,f4,f5⟩:=hf it (by simp);have hl:=rv.length;exact wpAny_pyNext_tuple_end (I.ok.hd hc) st (show s.heap.IsTuple a its.toArray from p) (by simp;lia) fun h' eb=>⟨rfl,I.turned (t':=s.toks) (fun b o hb e=>eb b o hb e) f0 f1 f3 f4 f5⟩
 self:=fun _ _ _ _ _ st h=>wpAny_pyIter_tupleiter st h
theorem oU {P:Program} {w:World} {K:PySem.W.Frag} {tg:Expr} (it:Addr) (lo:Int) (n:Nat):Turn P w K tg (Itr lo n) [it] it (fun i h=>IsRangeIter h it (lo+(i:Nat)*1) ((n:Int) - (i:Nat)) 1) where
 mem:=by simp
 obj:=fun i h st b hb=>by
  have e:b=it:=by simpa using hb
  subst e;exact ⟨_,st,fun v z=>by
   have z':Data.fields _=Data.cell v:=z
   cases z'⟩
 keep:=fun i h h' st k=>k it (by simp) _ st
 item:=by
  intro X hP hw hK hc i pins s σ H E I hf st hg;subst hP hw hK;obtain ⟨f0,f1,f2,f3,f4,f5⟩:=hf it (by simp);have W:=Walks.range (prog:=X.prog) (w:=X.w) (I.ok.hd hc) it lo 1 n;refine W.item i s _ _ hg st fun v h' tk hv st' kk=>?_;obtain ⟨t,rfl⟩:=hv;have I1:Inv X pins σ H { s with heap:=h',toks:=tk }:=I.turned (fun b o hb e=>kk b o (by simpa using hb) e) f0 f1 f3 f4 f5;refine ⟨_,rfl,qk (s:={ s with heap:=h',toks:=tk }) (n:= "range_iterator") st' rfl rfl (by decide) ⟨.int (lo+i),H,I1,⟨t,?_⟩,⟨rfl,rfl⟩,st',fun b hb=>(hf b hb).1⟩⟩;rw [Int.mul_one]
 done:=by
  intro X hP hw hK hc i pins s σ H E I hf st hg;subst hP hw hK;obtain ⟨f0,f1,f2,f3,f4,f5⟩:=hf it (by simp);exact wpAny_pyNext_range_end (I.ok.hd hc) st (by have:n≤i:=hg;lia) fun h' eb=>⟨rfl,I.turned (t':=s.toks) (fun b o hb e=>eb b o hb e) f0 f1 f3 f4 f5⟩
 self:=fun _ _ _ _ _ st h=>wpAny_pyIter_rangeiter st h
section
variable {X:Cx} {tg:Expr}
def v9 (K:PySem.W.Frag) (tl:TE):TI:=fun σ H R=>tl σ H fun x H1=>∃ a,x=.ref a∧(∃ xs,SqL K H1 a xs)∧R (Itl K a) H1
def FR (K:PySem.W.Frag) (tl:TE):TI:=fun σ H R=>tl σ H fun x H1=>∃ a,x=.ref a∧(∃ xs,SqT K H1 a xs)∧R (Itt K a) H1
theorem u4 {l:Expr} {tl:TE} (hl:PE X l tl):PI X tg l (v9 X.K tl):=by
 intro pins s σ H R I h;refine thn (hl pins s σ H _ I h) fun v s1 ⟨x,H1,I1,r1,q1⟩=>?_;obtain ⟨a,e,⟨xs,hq⟩,q⟩:=q1;subst e
 cases r1
 obtain ⟨its,rv,p,hz⟩:=I1.list hq;refine wpAny_pyIter_list p.isList ?_;refine ⟨s1.heap.objs.size,[s1.heap.objs.size],_,_,H1,rfl,I1.kept (t':=s1.toks) fun b o e=>Heap.get?_push_of_some _ e,q8 a _,⟨_,Heap.get?_push_size _ rfl,rfl,rfl⟩,fun b hb=>?_,q⟩;have e:b=s1.heap.objs.size:=by simpa using hb
 subst e;exact I1.fpOk (Nat.le_refl _) (I1.hok.fresh (Nat.le_refl _))
theorem zY {l:Expr} {tl:TE} (hl:PE X l tl):PI X tg l (FR X.K tl):=by
 intro pins s σ H R I h;refine thn (hl pins s σ H _ I h) fun v s1 ⟨x,H1,I1,r1,q1⟩=>?_;obtain ⟨a,e,⟨xs,hq⟩,q⟩:=q1;subst e
 cases r1
 obtain ⟨its,rv,p,hz⟩:=I1.tuple hq;refine wpAny_pyIter_tuple (show s1.heap.IsTuple a its.toArray from p) ?_;refine ⟨s1.heap.objs.size,[s1.heap.objs.size],_,_,H1,rfl,I1.kept (t':=s1.toks) fun b o e=>Heap.get?_push_of_some _ e,oS a _,⟨_,Heap.get?_push_size _ rfl,rfl,rfl⟩,fun b hb=>?_,q⟩;have e:b=s1.heap.objs.size:=by simpa using hb
 subst e;exact I1.fpOk (Nat.le_refl _) (I1.hok.fresh (Nat.le_refl _))
theorem sJ {pins:List (Addr×Obj)} {σ:St} {H:Hp} {s:Shared} {R:It→Hp→Prop} {E:Value→Shared→Prop} {lo hi:Int} {t u v:Tok} {tk:Nat} (I:Inv X pins σ H s) (h1:-(2 ^ 62)≤lo) (h2:lo < 2 ^ 62) (h3:-(2 ^ 62)≤hi) (h4:hi < 2 ^ 62)
  (q:R (Itr lo (hi - lo).toNat) H):wpAny (model X.prog X.w) X.A (pyIter (.ref s.heap.objs.size)) (PIE X pins σ tg R) E { s with heap:=s.heap.push { cls:=.type "range",data:=.fields #[.int lo t,.int hi u,.int 1 v] },toks:=tk }:=by
 refine wpAny_pyIter_range (IsRange.new ..) (small_one h1 h2 h3 h4) ?_;have I1:Inv X pins σ H { s with heap:=s.heap.push { cls:=.type "range",data:=.fields #[.int lo t,.int hi u,.int 1 v] },toks:=tk }:=I.kept fun b o e=>Heap.get?_push_of_some _ e;refine ⟨(s.heap.push { cls:=.type "range",data:=.fields #[.int lo t,.int hi u,.int 1 v] }).objs.size,[(s.heap.push { cls:=.type "range",data:=.fields #[.int lo t,.int hi u,.int 1 v] }).objs.size],_,_,H,rfl,
  I1.kept (t':=tk) fun b o e=>Heap.get?_push_of_some _ e,oU _ lo (hi - lo).toNat,?_,fun b hb=>?_,q⟩
 ·have e1:lo+((0:Nat):Int)*1=lo:=by simp
  have e2:(((hi - lo).toNat:Nat):Int) - ((0:Nat):Int)=Builtin.Range.rangeSize lo hi 1:=by rw [rangeSize_one];split <;> lia
  show IsRangeIter _ _ (lo+((0:Nat):Int)*1) ((((hi - lo).toNat:Nat):Int) - ((0:Nat):Int)) 1;rw [e1,e2];exact Heap.get?_push_size _ rfl
 ·have e:b=(s.heap.push { cls:=.type "range",data:=.fields #[.int lo t,.int hi u,.int 1 v] }).objs.size:=by simpa using hb
  subst e;exact I1.fpOk (Nat.le_refl _) (I1.hok.fresh (Nat.le_refl _))
def FS (ta:TA):TI:=fun σ H R=>ta σ H fun vs H1=>∃ j:Int,vs=[.int j]∧-(2 ^ 62)≤j∧j < 2 ^ 62∧R (Itr 0 j.toNat) H1
theorem cz {a:Expr} {ta:TA} {p pos:Pos} (hg:Gl X "range") (hm:X.mg "range" = none) (ha:PA X [a] ta) (hs:starEach [a] X.env=[(false,eval a X.env)]:=by rfl):PI X tg (.Call (.Name "range" p) [a] [] pos) (FS ta):=by
 intro pins s σ H R I h;refine Call_ (gP I hg hm boot_range (PyProof.Rows.callWith_type1 (thn (ha pos pins s σ H _ I h) fun us s1 ⟨vs,H1,I1,r1,q1⟩=>?_) hs rfl));obtain ⟨j,e,q1,q2,q⟩:=q1;subst e
 cases r1 with
 | cons r rr =>
  cases rr
  obtain ⟨t,rfl⟩:=r;exact call_range_1 (sJ I1 (by lia) (by lia) q1 q2 (by simpa using q))
def tFor (wi:TI) (g:TG) (tb:TS):TS:=fun D σ H=>wi σ H fun J H1=>∃ W:Nat→Nat→St→Hp→Prop,(∃ m,W 0 m σ H1)∧∀ i m σ H,W i m σ H →
 (J.stop i H∧D.nx σ H)∨(J.go i H∧∃ N:St→Hp→Prop,(∀ σ' H',N σ' H'→∃ m',m' < m∧W (i+1) m' σ' H')∧∀ x H',J.yld i H x H'→g x σ H' fun σ2 H2=>tb { D with nx:=N,ct:=N,bk:=D.nx } σ2 H2)
def lh (fp:List Addr) (h:Heap):List (Addr×Obj):=fp.filterMap fun b=>(h.get? b).map fun o=>(b,o)
theorem bT {fp:List Addr} {h:Heap} {b:Addr} {o:Obj} (hb:b∈fp) (e:h.get? b=some o):(b,o)∈lh fp h:=List.mem_filterMap.mpr ⟨b,hb,by rw [e];rfl⟩
theorem q9 {fp:List Addr} {h:Heap} {p:Addr×Obj} (hp:p∈lh fp h):p.1∈fp∧h.get? p.1=some p.2:=by
 obtain ⟨b,hb,e⟩:=List.mem_filterMap.mp hp
 cases q:h.get? b with
 | none=>rw [q] at e;cases e
 | some o =>
  rw [q] at e;have e':(b,o)=p:=Option.some.inj e;subst e';exact ⟨hb,q⟩
theorem Inv.pinned {pins:List (Addr×Obj)} {σ:St} {H:Hp} {s:Shared} {fp:List Addr} (I:Inv X pins σ H s) (hf:∀ b∈fp,fA X pins H b) (ho:∀ b∈fp,∃ o,s.heap.get? b=some o∧∀ v,o.data≠.cell v):Inv X (pins++lh fp s.heap) σ H s :=
 I.pins_of fun p hp=>(List.mem_append.mp hp).elim (fun z=>I.pin p (List.mem_append_right _ z)) fun z=>by
  obtain ⟨hb,e⟩:=q9 z;obtain ⟨f0,f1,f2,_⟩:=hf p.1 hb;obtain ⟨o,e',d⟩:=ho p.1 hb;rw [e] at e';cases e';exact ⟨e,f0,f1,f2,d⟩
theorem Inv.unpinned {pins pl:List (Addr×Obj)} {σ:St} {H:Hp} {s:Shared} (I:Inv X (pins++pl) σ H s):Inv X pins σ H s:=I.pins_of fun p hp=>I.pin p (List.mem_append_right _ (List.mem_append_left _ hp))
theorem cC {iter:Expr} {body:List Stmt} {wi:TI} {g:TG} {tb:TS} {pos:Pos} (hp:PassesOwn (model X.prog X.w) X.A X.env X.xe) (hc:X.calm=true) (hi:PI X tg iter wi) (hg:PG X tg g) (hb:PSs X body tb)
  (hs:∀ x,foldedSetIterable iter X.env x=pure x:=by intro _;rfl):PS X (.For tg iter body [] pos) (tFor wi g tb):=by
 intro pins s σ H D I h;refine wpAny_For (thn (hi pins s σ H _ I h) fun v s1 h1=>thn h1 fun itv s2 h2=>?_) hs;obtain ⟨it,fp,tn,J,H2,e,I2,T,st2,f2,W,⟨m0,w0⟩,turn⟩:=h2;subst e;have stat:∀ {H':Hp},(∀ b∈fp,H' b=none)→∀ b∈fp,fA X pins H' b:=fun hn b hb=>⟨hn b hb,(f2 b hb).2⟩;refine codeAny_forLoop_any (fun n s'=>∃ i σ' H',Inv X pins σ' H' s'∧tn i s'.heap∧(∀ b∈fp,H' b=none)∧W i n σ' H') ?_ m0 ⟨0,σ,H2,I2,st2,fun b hb=>(f2 b hb).1,w0⟩;rintro n s3 ⟨i,σ3,H3,I3,st3,fr3,w3⟩;rcases turn i n σ3 H3 w3 with ⟨stop,qn⟩ | ⟨go,N,hN,step⟩
 ·refine wpAny_passesOwn hp (thn (T.done X rfl rfl rfl hc i pins s3 σ3 H3 X.xe I3 (stat fr3) st3 stop) fun r s4 ⟨hr,I4⟩=>?_);subst hr;exact wpAny_execs_nil ⟨σ3,H3,I4,qn⟩
 ·refine wpAny_passesOwn hp (thn (T.item X rfl rfl rfl hc i pins s3 σ3 H3 X.xe I3 (stat fr3) st3 go) fun r s4 ⟨u,hr,h4⟩=>?_);subst hr;refine wpAny_passesOwn hp (thn h4 fun _ s5 ⟨x,H5,I5,r5,y5,st5,fr5⟩=>?_);have I5':=I5.pinned (stat fr5) (T.obj _ _ st5);refine wpAny_passesOwn hp (thn (hg _ s5 σ3 H5 x u _ I5' r5 (step x H5 y5)) fun _ s6 ⟨σ6,H6,I6,q6⟩=>?_);refine wpAny_passesOwn hp (thn (hb _ s6 σ6 H6 _ I6 q6) fun f s7 q7=>?_);have again:∀ {σ7:St} {H7:Hp},Inv X (pins++lh fp s5.heap) σ7 H7 s7→N σ7 H7→∃ m,m < n∧∃ i σ' H',Inv X pins σ' H' s7∧tn i s7.heap∧(∀ b∈fp,H' b=none)∧W i m σ' H':=fun {σ7 H7} I7 n7=>by
   obtain ⟨m',hm,w7⟩:=hN σ7 H7 n7;refine ⟨m',hm,i+1,σ7,H7,I7.unpinned,T.keep _ _ _ st5 fun b hb o e=>(I7.pin (b,o) (List.mem_append_right _ (List.mem_append_right _ (bT hb e)))).1,fun b hb=>?_,w7⟩;obtain ⟨o,e,d⟩:=T.obj _ _ st5 b hb;exact (I7.pin (b,o) (List.mem_append_right _ (List.mem_append_right _ (bT hb e)))).2.1
  cases f with
  | next=>obtain ⟨σ7,H7,I7,n7⟩:=q7;exact again I7 n7
  | cont=>obtain ⟨σ7,H7,I7,n7⟩:=q7;exact again I7 n7
  | brk=>obtain ⟨σ7,H7,I7,q7⟩:=q7;exact ⟨σ7,H7,I7.unpinned,q7⟩
  | ret v=>obtain ⟨x7,σ7,H7,I7,r7,q7⟩:=q7;exact ⟨x7,σ7,H7,I7.unpinned,r7,q7⟩
end
theorem i4 {K:PySem.W.Frag} {a:Addr} {xs:List V} {g:TG} {tb:TS} {D:Ends} {σ:St} {H:Hp} (Pv:Nat→St→Hp→Prop) (h0:Pv 0 σ H) (hl:∀ i σ H,i≤xs.length→Pv i σ H→SqL K H a xs)
  (hs:∀ i x σ H,xs[i]?=some x→Pv i σ H→g x σ H fun σ2 H2=>tb { D with nx:=Pv (i+1),ct:=Pv (i+1),bk:=D.nx } σ2 H2) (hd:∀ σ H,Pv xs.length σ H→D.nx σ H) :
  ∃ W:Nat→Nat→St→Hp→Prop,(∃ m,W 0 m σ H)∧∀ i m σ H,W i m σ H →
   ((Itl K a).stop i H∧D.nx σ H)∨((Itl K a).go i H∧∃ N:St→Hp→Prop,(∀ σ' H',N σ' H'→∃ m',m' < m∧W (i+1) m' σ' H')∧∀ x H',(Itl K a).yld i H x H'→g x σ H' fun σ2 H2=>tb { D with nx:=N,ct:=N,bk:=D.nx } σ2 H2):=by
 refine ⟨fun i m σ H=>m=xs.length - i∧i≤xs.length∧Pv i σ H,⟨xs.length,by simp,Nat.zero_le _,h0⟩,?_⟩;rintro i m σ H ⟨rfl,hi,p⟩;have q:=hl i σ H hi p
 by_cases hlt:i < xs.length
 ·refine .inr ⟨⟨xs,xs[i],q,by simp [hlt]⟩,Pv (i+1),fun σ' H' p'=>⟨xs.length - (i+1),by lia,rfl,hlt,p'⟩,fun x H' y=>?_⟩;obtain ⟨e,y⟩:=y;subst e;exact hs i x σ _ (y xs q) p
 ·have e:i=xs.length:=by lia
  subst e;exact .inl ⟨⟨xs,q,Nat.le_refl _⟩,hd σ H p⟩
theorem gh {K:PySem.W.Frag} {a:Addr} {xs:List V} {g:TG} {tb:TS} {D:Ends} {σ:St} {H:Hp} (Pv:Nat→St→Hp→Prop) (h0:Pv 0 σ H) (hl:∀ i σ H,i≤xs.length→Pv i σ H→SqT K H a xs)
  (hs:∀ i x σ H,xs[i]?=some x→Pv i σ H→g x σ H fun σ2 H2=>tb { D with nx:=Pv (i+1),ct:=Pv (i+1),bk:=D.nx } σ2 H2) (hd:∀ σ H,Pv xs.length σ H→D.nx σ H) :
  ∃ W:Nat→Nat→St→Hp→Prop,(∃ m,W 0 m σ H)∧∀ i m σ H,W i m σ H →
   ((Itt K a).stop i H∧D.nx σ H)∨((Itt K a).go i H∧∃ N:St→Hp→Prop,(∀ σ' H',N σ' H'→∃ m',m' < m∧W (i+1) m' σ' H')∧∀ x H',(Itt K a).yld i H x H'→g x σ H' fun σ2 H2=>tb { D with nx:=N,ct:=N,bk:=D.nx } σ2 H2):=by
 refine ⟨fun i m σ H=>m=xs.length - i∧i≤xs.length∧Pv i σ H,⟨xs.length,by simp,Nat.zero_le _,h0⟩,?_⟩;rintro i m σ H ⟨rfl,hi,p⟩;have q:=hl i σ H hi p
 by_cases hlt:i < xs.length
 ·refine .inr ⟨⟨xs,xs[i],q,by simp [hlt]⟩,Pv (i+1),fun σ' H' p'=>⟨xs.length - (i+1),by lia,rfl,hlt,p'⟩,fun x H' y=>?_⟩;obtain ⟨e,y⟩:=y;subst e;exact hs i x σ _ (y xs q) p
 ·have e:i=xs.length:=by lia
  subst e;exact .inl ⟨⟨xs,q,Nat.le_refl _⟩,hd σ H p⟩
theorem gQ {lo:Int} {n:Nat} {g:TG} {tb:TS} {D:Ends} {σ:St} {H:Hp} (Pv:Nat→St→Hp→Prop) (h0:Pv 0 σ H)
  (hs:∀ i σ H,i < n→Pv i σ H→g (.int (lo+i)) σ H fun σ2 H2=>tb { D with nx:=Pv (i+1),ct:=Pv (i+1),bk:=D.nx } σ2 H2) (hd:∀ σ H,Pv n σ H→D.nx σ H) :
  ∃ W:Nat→Nat→St→Hp→Prop,(∃ m,W 0 m σ H)∧∀ i m σ H,W i m σ H →
   ((Itr lo n).stop i H∧D.nx σ H)∨((Itr lo n).go i H∧∃ N:St→Hp→Prop,(∀ σ' H',N σ' H'→∃ m',m' < m∧W (i+1) m' σ' H')∧∀ x H',(Itr lo n).yld i H x H'→g x σ H' fun σ2 H2=>tb { D with nx:=N,ct:=N,bk:=D.nx } σ2 H2):=by
 refine ⟨fun i m σ H=>m=n - i∧i≤n∧Pv i σ H,⟨n,by simp,Nat.zero_le _,h0⟩,?_⟩;rintro i m σ H ⟨rfl,hi,p⟩
 by_cases hlt:i < n
 ·refine .inr ⟨hlt,Pv (i+1),fun σ' H' p'=>⟨n - (i+1),by lia,rfl,hlt,p'⟩,fun x H' y=>?_⟩;obtain ⟨e,y⟩:=y;subst e y;exact hs i σ _ hlt p
 ·have e:i=n:=by lia
  subst e;exact .inl ⟨Nat.le_refl _,hd σ H p⟩
abbrev R2:=V→V→Hp→VK→Prop
def OpR (X:Cx) (f:Value→Value→Sem Value) (r:R2):Prop :=
 ∀ (pins:List (Addr×Obj)) (s:Shared) (σ:St) (H:Hp) (x y:V) (v u:Value) (Q:VK),Inv X pins σ H s→RelV x v→RelV y u→r x y H Q →
  wpAny (model X.prog X.w) X.A (f v u) (EP X pins σ Q) X.xe s
def UnR (X:Cx) (f:Value→Sem Value) (r:V→Hp→VK→Prop):Prop :=
 ∀ (pins:List (Addr×Obj)) (s:Shared) (σ:St) (H:Hp) (x:V) (v:Value) (Q:VK),Inv X pins σ H s→RelV x v→r x H Q →
  wpAny (model X.prog X.w) X.A (f v) (EP X pins σ Q) X.xe s
def aZ (X:Cx) (f:Value) (r:List V→Hp→VK→Prop):Prop :=
 ∀ (pins:List (Addr×Obj)) (s:Shared) (σ:St) (H:Hp) (xs:List V) (us:List Value) (Q:VK),Inv X pins σ H s→Vals xs us→r xs H Q →
  wpAny (model X.prog X.w) X.A (call f us) (EP X pins σ Q) X.xe s
def tOp (r:R2) (ta tb:TE):TE:=fun σ H Q=>ta σ H fun x H1=>tb σ H1 fun y H2=>r x y H2 Q
def tUn (r:V→Hp→VK→Prop) (ta:TE):TE:=fun σ H Q=>ta σ H fun x H1=>r x H1 Q
inductive IRI (C:Int→Int→Prop) (g:Int→Int→V) (x y:V) (H:Hp) (Q:VK):Prop
 | mk (i j:Int):(x=.int i)→(y=.int j)→(C i j)→(Q (g i j) H)→IRI C g x y H Q
def rI (C:Int→Int→Prop) (g:Int→Int→V):R2:=fun x y H Q=>IRI C g x y H Q
inductive IRI0 (g:Int→Int→V) (x y:V) (H:Hp) (Q:VK):Prop
 | mk (i j:Int):(x=.int i)→(y=.int j)→(Q (g i j) H)→IRI0 g x y H Q
def rI0 (g:Int→Int→V):R2:=fun x y H Q=>IRI0 g x y H Q
def rU (g:Int→V):V→Hp→VK→Prop:=fun x H Q=>∃ i,x=.int i∧Q (g i) H
section
variable {X:Cx} {a b c:Expr} {ta tb tc:TE} {pos:Pos}
theorem zZ (ha:PE X a ta) (hb:PE X b tb) {pins:List (Addr×Obj)} {s:Shared} {σ:St} {H:Hp} {R:V→V→Hp→Prop} (I:Inv X pins σ H s)
  (h:ta σ H fun x H1=>tb σ H1 fun y H2=>R x y H2) {Q:Value→Shared→Prop} {f:Value→Value→Sem Value}
  (hf:∀ v u s2 x y H2,Inv X pins σ H2 s2→RelV x v→RelV y u→R x y H2→wpAny (model X.prog X.w) X.A (f v u) Q X.xe s2) :
  wpAny (model X.prog X.w) X.A (eval a X.env) (fun v s₁=>wpAny (model X.prog X.w) X.A (eval b X.env) (fun u s₂=>wpAny (model X.prog X.w) X.A (f v u) Q X.xe s₂) X.xe s₁) X.xe s:=by
 refine thn (ha pins s σ H _ I h) fun v s1 ⟨x,H1,I1,r1,q1⟩=>?_;refine thn (hb pins s1 σ H1 _ I1 q1) fun u s2 ⟨y,H2,I2,r2,q2⟩=>?_;exact hf v u s2 x y H2 I2 r1 r2 q2
theorem pe_op {op:Operator} {r:R2} (ho:OpR X (binaryOp op) r) (ha:PE X a ta) (hb:PE X b tb):PE X (.BinOp a op b pos) (tOp r ta tb):=by
 intro pins s σ H Q I h;exact wpAny_BinOp (zZ ha hb I h fun v u s2 x y H2 I2 rx ry q=>ho pins s2 σ H2 x y v u Q I2 rx ry q)
theorem pe_un {op:UnaryOp} {r:V→Hp→VK→Prop} (ho:UnR X (unaryOp op) r) (ha:PE X a ta):PE X (.UnaryOp op a pos) (tUn r ta):=by
 intro pins s σ H Q I h;exact UnaryOp_ (thn (ha pins s σ H _ I h) fun v s1 ⟨x,H1,I1,r1,q1⟩=>ho pins s1 σ H1 x v Q I1 r1 q1)
theorem opI {f:Value→Value→Sem Value} {C:Int→Int→Prop} {g:Int→Int→Int}
  (rule:∀ (i j:Int) (t u:Tok) (s:Shared) (Q:Value→Shared→Prop) (E:Value→Shared→Prop),C i j→Q (.int (g i j) s.toks) { s with toks:=s.toks+1 }→wpAny (model X.prog X.w) X.A (f (.int i t) (.int j u)) Q E s) :
  OpR X f (rI C fun i j=>.int (g i j)):=by
 intro pins s σ H x y v u Q I rx ry h;obtain ⟨i,j,rfl,rfl,hc,q⟩:=h;obtain ⟨t,rfl⟩:=rx;obtain ⟨t',rfl⟩:=ry;exact rule i j t t' s _ _ hc ⟨.int (g i j),H,I.tok _,⟨_,rfl⟩,q⟩
theorem FT {f:Value→Value→Sem Value} {g:Int→Int→Int}
  (rule:∀ (i j:Int) (t u:Tok) (s:Shared) (Q:Value→Shared→Prop) (E:Value→Shared→Prop),Q (.int (g i j) s.toks) { s with toks:=s.toks+1 }→wpAny (model X.prog X.w) X.A (f (.int i t) (.int j u)) Q E s) :
  OpR X f (rI0 fun i j=>.int (g i j)):=by
 intro pins s σ H x y v u Q I rx ry h;obtain ⟨i,j,rfl,rfl,q⟩:=h;obtain ⟨t,rfl⟩:=rx;obtain ⟨t',rfl⟩:=ry;exact rule i j t t' s _ _ ⟨.int (g i j),H,I.tok _,⟨_,rfl⟩,q⟩
theorem u5 {f:Value→Value→Sem Value} {g:Int→Int→Bool}
  (rule:∀ (i j:Int) (t u:Tok) (s:Shared) (Q:Value→Shared→Prop) (E:Value→Shared→Prop),Q (.bool (g i j)) s→wpAny (model X.prog X.w) X.A (f (.int i t) (.int j u)) Q E s) :
  OpR X f (rI0 fun i j=>.bl (g i j)):=by
 intro pins s σ H x y v u Q I rx ry h;obtain ⟨i,j,rfl,rfl,q⟩:=h;obtain ⟨t,rfl⟩:=rx;obtain ⟨t',rfl⟩:=ry;exact rule i j t t' s _ _ ⟨.bl (g i j),H,I,rfl,q⟩
def G0 (i j:Int):Prop:=0≤j∧j≤1000000∧i.natAbs < 2 ^ 64
def CMul (i j:Int):Prop:=(-(2 ^ 64) < i∧i < 2 ^ 64)∨(-(2 ^ 64) < j∧j < 2 ^ 64)
theorem CMul.ok {i j:Int} (h:CMul i j):IntMulOk i j:=by
 rcases h with ⟨h1,h2⟩ | ⟨h1,h2⟩
 ·exact .of_left (intBits_le_64 h1 h2)
 ·exact .of_right (intBits_le_64 h1 h2)
theorem aO:OpR X (binaryOp .Add) (rI0 fun i j=>.int (i+j)):=FT fun _ _ _ _ _ _ _ q=>add_int q
theorem op_sub:OpR X (binaryOp .Sub) (rI0 fun i j=>.int (i - j)):=FT fun _ _ _ _ _ _ _ q=>sub_int q
theorem ee:OpR X (binaryOp .Mult) (rI CMul fun i j=>.int (i*j)):=opI fun _ _ _ _ _ _ _ hc q=>mul_int q hc.ok
theorem dF:OpR X (binaryOp .Mod) (rI (fun _ j=>0 < j) fun i j=>.int (i % j)):=opI fun i j _ _ _ _ _ hc q=>by
 have h1:(0:Int) < j:=hc;exact mod_int' (by lia) (by rw [Int.fmod_eq_emod_of_nonneg i (by lia)];exact q)
theorem op_pow:OpR X (binaryOp .Pow) (rI G0 fun i j=>.int (i ^ j.toNat)):=opI fun _ _ _ _ _ _ _ hc q=>pow_int_small hc.1 hc.2.1 hc.2.2 q
theorem unI {f:Value→Sem Value} {g:Int→Int}
  (rule:∀ (i:Int) (t:Tok) (s:Shared) (Q:Value→Shared→Prop) (E:Value→Shared→Prop),Q (.int (g i) s.toks) { s with toks:=s.toks+1 }→wpAny (model X.prog X.w) X.A (f (.int i t)) Q E s) :
  UnR X f (rU fun i=>.int (g i)):=by
 intro pins s σ H x v Q I rx h;obtain ⟨i,rfl,q⟩:=h;obtain ⟨t,rfl⟩:=rx;exact rule i t s _ _ ⟨.int (g i),H,I.tok _,⟨_,rfl⟩,q⟩
theorem un_neg:UnR X (unaryOp .USub) (rU fun i=>.int (-i)):=unI fun _ _ _ _ _ q=>neg_int q
end
def FU:V→V→Bool
 | .non,.non=>true | .non,.int _=>true | .int _,.non=>true | .non,.bl _=>true | .bl _,.non=>true | .non,.str _=>true | .str _,.non=>true
 | .int _,.int _=>true | .bl _,.bl _=>true | .str _,.str _=>true | .byt _,.byt _=>true
 | .int _,.str _=>true | .str _,.int _=>true | .bl _,.str _=>true | .str _,.bl _=>true
 | _,_=>false
def rEq:R2:=fun x y H Q=>FU x y=true∧Q (.bl (decide (x=y))) H
def rNe:R2:=fun x y H Q=>FU x y=true∧Q (.bl (!decide (x=y))) H
theorem ql {i j:Int}:decide (V.int i=V.int j)=(i == j):=by
 rw [Bool.eq_iff_iff];simp
theorem sK {i j:Bool}:decide (V.bl i=V.bl j)=(i == j):=by
 rw [Bool.eq_iff_iff];simp
theorem qm {i j:Str}:decide (V.str i=V.str j)=(i == j):=by
 rw [Bool.eq_iff_iff];simp
theorem qo {i j:Array UInt8}:decide (V.byt i=V.byt j)=(i.toList == j.toList):=by
 rw [Bool.eq_iff_iff]
 cases i
 cases j
 simp
section
variable {X:Cx} {a b c:Expr} {ta tb tc:TE} {pos:Pos}
theorem ax {pins:List (Addr×Obj)} {σ:St} {H:Hp} {s:Shared} {Q:VK} {k k':Bool} (I:Inv X pins σ H s) (q:Q (.bl k) H) (e:k=k'):EP X pins σ Q (.bool k') s:=by
 subst e;exact ⟨.bl k,H,I,rfl,q⟩
theorem op_eq:OpR X (compareOp .Eq) rEq:=by
 intro pins s σ H x y v u Q I rx ry h;obtain ⟨hs,q⟩:=h
 cases x with
 | non =>
  cases rx
  cases y with
  | non=>cases ry;exact PySem.EqNone.eq_none_none (ax I q (by simp))
  | bl j=>cases ry;exact PySem.EqNone.eq_none_bool (ax I q (by simp))
  | int j=>obtain ⟨t',rfl⟩:=ry;exact PySem.EqNone.eq_none_int (ax I q (by simp))
  | str j=>obtain ⟨t',rfl⟩:=ry;exact PySem.EqNone.eq_none_str (ax I q (by simp))
  | _=>exact absurd (show false=true from hs) Bool.false_ne_true
 | bl i =>
  cases rx
  cases y with
  | non=>cases ry;exact PySem.EqNone.eq_bool_none (ax I q (by simp))
  | bl j=>cases ry;exact eq_bool (ax I q sK)
  | str j=>obtain ⟨t',rfl⟩:=ry;exact PySem.EqMixed.eq_bool_str (ax I q (by simp))
  | _=>exact absurd (show false=true from hs) Bool.false_ne_true
 | int i =>
  obtain ⟨t,rfl⟩:=rx
  cases y with
  | non=>cases ry;exact PySem.EqNone.eq_int_none (ax I q (by simp))
  | int j=>obtain ⟨t',rfl⟩:=ry;exact eq_int (ax I q ql)
  | str j=>obtain ⟨t',rfl⟩:=ry;exact PySem.EqMixed.eq_int_str (ax I q (by simp))
  | _=>exact absurd (show false=true from hs) Bool.false_ne_true
 | str i =>
  obtain ⟨t,rfl⟩:=rx
  cases y with
  | non=>cases ry;exact PySem.EqNone.eq_str_none (ax I q (by simp))
  | bl j=>cases ry;exact PySem.EqMixed.eq_str_bool (ax I q (by simp))
  | int j=>obtain ⟨t',rfl⟩:=ry;exact PySem.EqMixed.eq_str_int (ax I q (by simp))
  | str j=>obtain ⟨t',rfl⟩:=ry;exact eq_str (ax I q qm)
  | _=>exact absurd (show false=true from hs) Bool.false_ne_true
 | byt i =>
  obtain ⟨t,rfl⟩:=rx
  cases y with
  | byt j=>obtain ⟨t',rfl⟩:=ry;exact PySem.W.eq_bytes (ax I q qo)
  | _=>exact absurd (show false=true from hs) Bool.false_ne_true
 | _=>cases y <;> exact absurd (show false=true from hs) Bool.false_ne_true
theorem op_ne:OpR X (compareOp .NotEq) rNe:=by
 intro pins s σ H x y v u Q I rx ry h;obtain ⟨hs,q⟩:=h
 cases x with
 | non =>
  cases rx
  cases y with
  | non=>cases ry;exact PySem.EqNone.ne_none_none (ax I q (by simp))
  | bl j=>cases ry;exact PySem.EqNone.ne_none_bool (ax I q (by simp))
  | int j=>obtain ⟨t',rfl⟩:=ry;exact PySem.EqNone.ne_none_int (ax I q (by simp))
  | str j=>obtain ⟨t',rfl⟩:=ry;exact PySem.EqNone.ne_none_str (ax I q (by simp))
  | _=>exact absurd (show false=true from hs) Bool.false_ne_true
 | bl i =>
  cases rx
  cases y with
  | non=>cases ry;exact PySem.EqNone.ne_bool_none (ax I q (by simp))
  | bl j=>cases ry;exact ne_bool (ax I q (congrArg not sK))
  | str j=>obtain ⟨t',rfl⟩:=ry;exact PySem.EqMixed.ne_bool_str (ax I q (by simp))
  | _=>exact absurd (show false=true from hs) Bool.false_ne_true
 | int i =>
  obtain ⟨t,rfl⟩:=rx
  cases y with
  | non=>cases ry;exact PySem.EqNone.ne_int_none (ax I q (by simp))
  | int j=>obtain ⟨t',rfl⟩:=ry;exact ne_int (ax I q (congrArg not ql))
  | str j=>obtain ⟨t',rfl⟩:=ry;exact PySem.EqMixed.ne_int_str (ax I q (by simp))
  | _=>exact absurd (show false=true from hs) Bool.false_ne_true
 | str i =>
  obtain ⟨t,rfl⟩:=rx
  cases y with
  | non=>cases ry;exact PySem.EqNone.ne_str_none (ax I q (by simp))
  | bl j=>cases ry;exact PySem.EqMixed.ne_str_bool (ax I q (by simp))
  | int j=>obtain ⟨t',rfl⟩:=ry;exact PySem.EqMixed.ne_str_int (ax I q (by simp))
  | str j=>obtain ⟨t',rfl⟩:=ry;exact ne_str (ax I q (congrArg not qm))
  | _=>exact absurd (show false=true from hs) Bool.false_ne_true
 | byt i =>
  obtain ⟨t,rfl⟩:=rx
  cases y with
  | byt j=>obtain ⟨t',rfl⟩:=ry;exact PySem.W.ne_bytes (ax I q (congrArg not qo))
  | _=>exact absurd (show false=true from hs) Bool.false_ne_true
 | _=>cases y <;> exact absurd (show false=true from hs) Bool.false_ne_true
theorem ir:OpR X (compareOp .Lt) (rI0 fun i j=>.bl (decide (i < j))):=u5 fun _ _ _ _ _ _ _ q=>lt_int q
theorem op_le:OpR X (compareOp .LtE) (rI0 fun i j=>.bl (decide (i≤j))):=u5 fun _ _ _ _ _ _ _ q=>le_int q
theorem op_gt:OpR X (compareOp .Gt) (rI0 fun i j=>.bl (decide (j < i))):=u5 fun _ _ _ _ _ _ _ q=>gt_int q
theorem FV:OpR X (compareOp .GtE) (rI0 fun i j=>.bl (decide (j≤i))):=u5 fun _ _ _ _ _ _ _ q=>ge_int q
theorem re:OpR X (compareOp .Lt) (fun x y H Q=>∃ i j,x=.str i∧y=.str j∧Q (.bl (decide (i.cps.toList < j.cps.toList))) H):=by
 intro pins s σ H x y v u Q I rx ry h;obtain ⟨i,j,rfl,rfl,q⟩:=h;obtain ⟨t,rfl⟩:=rx;obtain ⟨t',rfl⟩:=ry;exact lt_str (ax I q rfl)
theorem op_in_str:OpR X (compareOp .In) (fun x y H Q=>∃ i j,x=.str i∧y=.str j∧Q (.bl (!(Builtin.Str.occurrences j i 0 j.length 1).isEmpty)) H):=by
 intro pins s σ H x y v u Q I rx ry h;obtain ⟨i,j,rfl,rfl,q⟩:=h;obtain ⟨t,rfl⟩:=rx;obtain ⟨t',rfl⟩:=ry;exact in_str (ax I q rfl)
theorem oV:OpR X (compareOp .Is) (fun x y H Q=>y=.non∧Q (.bl (decide (x=.non))) H):=by
 intro pins s σ H x y v u Q I rx ry h;obtain ⟨rfl,q⟩:=h
 cases ry
 refine is_none_gen (ax I q ?_)
 cases x <;> first
  | (cases rx;rfl)
  | (obtain ⟨t,rfl⟩:=rx;rfl)
theorem op_notN:OpR X (compareOp .IsNot) (fun x y H Q=>y=.non∧Q (.bl (!decide (x=.non))) H):=by
 intro pins s σ H x y v u Q I rx ry h;obtain ⟨rfl,q⟩:=h
 cases ry
 refine isnot_none_gen (ax I q ?_)
 cases x <;> first
  | (cases rx;rfl)
  | (obtain ⟨t,rfl⟩:=rx;rfl)
theorem nomark (b:Expr) {op:CmpOp} (h:op≠.In:=by decide) (h2:op≠.NotIn:=by decide):behindInMarks op b=false:=by
 have e1:(op == CmpOp.In)=false:=by cases op <;> first | rfl | exact absurd rfl h
 have e2:(op == CmpOp.NotIn)=false:=by cases op <;> first | rfl | exact absurd rfl h2
 cases b <;> simp [behindInMarks,e1,e2]
theorem pe_cmpR {op:CmpOp} {r:R2} (ho:OpR X (compareOp op) r) (ha:PE X a ta) (hb:PE X b tb) (hm:behindInMarks op b=false):PE X (.Compare a [op] [b] pos) (tOp r ta tb):=by
 intro pins s σ H Q I h;exact wpAny_Compare1 (zZ ha hb I h fun v u s2 x y H2 I2 rx ry q=>ho pins s2 σ H2 x y v u Q I2 rx ry q) hm
inductive IBl (x:V) (H':Hp) (Q:Bool→Hp→Prop):Prop
 | mk (k:Bool):(x=.bl k)→(Q k H')→IBl x H' Q
def wa (t:TE):TT:=fun σ H Q=>t σ H fun x H'=>IBl x H' Q
theorem pt_cmpR {op:CmpOp} {r:R2} (ho:OpR X (compareOp op) r) (ha:PE X a ta) (hb:PE X b tb) (hm:behindInMarks op b=false):PT X (.Compare a [op] [b] pos) (wa (tOp r ta tb)):=by
 intro pins s σ H Q I h;refine wpAny_isTrue_Compare1 (thn (ha pins s σ H _ I h) fun v s1 ⟨x,H1,I1,r1,q1⟩=>thn (hb pins s1 σ H1 _ I1 q1) fun u s2 ⟨y,H2,I2,r2,q2⟩ =>
  thn (ho pins s2 σ H2 x y v u _ I2 r1 r2 q2) fun c s3 ⟨z,H3,I3,r3,k,e,q3⟩=>?_) hm
 subst e
 cases r3
 exact wpAny_truthy_bool ⟨H3,I3,q3⟩
def sL (r r':R2) (ta tb tc:TE):TE:=fun σ H Q=>ta σ H fun x H1=>tb σ H1 fun y H2=>r x y H2 fun z H3=>∃ k,z=.bl k ∧
 (if k=true then tc σ H3 fun w' H4=>r' y w' H4 Q else Q (.bl false) H3)
theorem m6 {op op':CmpOp} {r r':R2} (ho:OpR X (compareOp op) r) (ho':OpR X (compareOp op') r') (ha:PE X a ta) (hb:PE X b tb) (hc:PE X c tc)
  (hm:lastMarks [op,op'] [b,c]=false:=by with_unfolding_all rfl):PE X (.Compare a [op,op'] [b,c] pos) (sL r r' ta tb tc):=by
 intro pins s σ H Q I h;refine Compare_chain (thn (ha pins s σ H _ I h) fun v s1 ⟨x,H1,I1,r1,q1⟩=>chain_link (thn (hb pins s1 σ H1 _ I1 q1) fun u s2 ⟨y,H2,I2,r2,q2⟩ =>
  thn (ho pins s2 σ H2 x y v u _ I2 r1 r2 q2) fun d s3 ⟨z,H3,I3,r3,k,e,q3⟩=>?_)) hm
 subst e
 cases r3
 refine wpAny_truthy_bool ?_
 cases k with
 | false=>exact ite_ff ⟨.bl false,H3,I3,rfl,q3⟩
 | true=>exact ite_tt (chain_last (thn (hc pins s3 σ H3 _ I3 q3) fun w' s4 ⟨z',H4,I4,r4,q4⟩=>ho' pins s4 σ H4 y z' u w' Q I4 r2 r4 q4))
theorem pt_chain {op op':CmpOp} {r r':R2} (ho:OpR X (compareOp op) r) (ho':OpR X (compareOp op') r') (ha:PE X a ta) (hb:PE X b tb) (hc:PE X c tc)
  (hm:lastMarks [op,op'] [b,c]=false:=by with_unfolding_all rfl):PT X (.Compare a [op,op'] [b,c] pos) (wa (sL r r' ta tb tc)):=by
 intro pins s σ H Q I h;refine isTrue_chain (thn (ha pins s σ H _ I h) fun v s1 ⟨x,H1,I1,r1,q1⟩=>test_link (thn (hb pins s1 σ H1 _ I1 q1) fun u s2 ⟨y,H2,I2,r2,q2⟩ =>
  thn (ho pins s2 σ H2 x y v u _ I2 r1 r2 q2) fun d s3 ⟨z,H3,I3,r3,k,e,q3⟩=>?_)) hm
 subst e
 cases r3
 refine wpAny_truthy_bool ?_
 cases k with
 | false =>
  obtain ⟨k',e',q'⟩:=q3
  cases e'
  exact ite_ff ⟨H3,I3,q'⟩
 | true =>
  refine ite_tt (test_last (thn (hc pins s3 σ H3 _ I3 q3) fun w' s4 ⟨z',H4,I4,r4,q4⟩=>thn (ho' pins s4 σ H4 y z' u w' _ I4 r2 r4 q4) fun d' s5 ⟨z2,H5,I5,r5,k2,e2,q5⟩=>?_));subst e2
  cases r5
  exact wpAny_truthy_bool ⟨H5,I5,q5⟩
theorem gR:(sizeLine:Nat) < 2 ^ 63:=by rw [sizeLine_eq];decide
theorem aH:OpR X (binaryOp .Add) (fun x y H Q=>∃ i j,x=.str i∧y=.str j∧i.length+j.length≤sizeLine∧Q (.str (i++j)) H):=by
 intro pins s σ H x y v u Q I rx ry h;obtain ⟨i,j,rfl,rfl,hz,q⟩:=h;obtain ⟨t,rfl⟩:=rx;obtain ⟨t',rfl⟩:=ry;exact add_str (fun t' tk=>⟨.str (i++j),H,I.tok _,⟨_,rfl⟩,q⟩) hz
theorem cr {x:V} {us:List Value} (r:Vals [x] us):∃ u,us=[u]∧RelV x u:=by
 cases r with
 | cons r1 r2=>cases r2;exact ⟨_,rfl,r1⟩
theorem qp {x y:V} {us:List Value} (r:Vals [x,y] us):∃ u w',us=[u,w']∧RelV x u∧RelV y w':=by
 cases r with
 | cons r1 r2 =>
  cases r2 with
  | cons r3 r4=>cases r4;exact ⟨_,_,rfl,r1,r3⟩
theorem rf (hc:X.calm=true):aZ X (.builtin "max") (fun xs H Q=>∃ i j,xs=[.int i,.int j]∧Q (.int (if j > i then j else i)) H):=by
 intro pins s σ H xs us Q I r h;obtain ⟨i,j,rfl,q⟩:=h;obtain ⟨u,w',rfl,⟨t,rfl⟩,⟨t',rfl⟩⟩:=qp r;refine max_two_ints (I.ok.hd hc) fun h' tk k=>⟨_,H,I.kept k,?_,q⟩
 by_cases hj:j > i
 ·rw [if_pos hj,if_pos hj];exact ⟨_,rfl⟩
 ·rw [if_neg hj,if_neg hj];exact ⟨_,rfl⟩
theorem kr (hc:X.calm=true):aZ X (.builtin "min") (fun xs H Q=>∃ i j,xs=[.int i,.int j]∧Q (.int (if j < i then j else i)) H):=by
 intro pins s σ H xs us Q I r h;obtain ⟨i,j,rfl,q⟩:=h;obtain ⟨u,w',rfl,⟨t,rfl⟩,⟨t',rfl⟩⟩:=qp r;refine min_two_ints (I.ok.hd hc) fun h' tk k=>⟨_,H,I.kept k,?_,q⟩
 by_cases hj:j < i
 ·rw [if_pos hj,if_pos hj];exact ⟨_,rfl⟩
 ·rw [if_neg hj,if_neg hj];exact ⟨_,rfl⟩
theorem kt:aZ X (.type "int") (fun xs H Q=>(∃ i,xs=[.int i]∧Q (.int i) H)∨∃ k,xs=[.bl k]∧Q (.int (if k then 1 else 0)) H):=by
 intro pins s σ H xs us Q I r h;rcases h with ⟨i,rfl,q⟩ | ⟨k,rfl,q⟩
 ·obtain ⟨u,rfl,t,rfl⟩:=cr r;exact call_int_int ⟨.int i,H,I,⟨_,rfl⟩,q⟩
 ·obtain ⟨u,rfl,r1⟩:=cr r
  cases r1
  exact call_int_bool ⟨.int (if k then 1 else 0),H,I.tok _,⟨_,rfl⟩,q⟩
theorem cv:aZ X (.type "str") (fun xs H Q=>∃ i,xs=[.int i]∧i.natAbs.log2 < 1920∧Q (.str (toString i)) H):=by
 intro pins s σ H xs us Q I r h;obtain ⟨i,rfl,hz,q⟩:=h;obtain ⟨u,rfl,t,rfl⟩:=cr r;exact PySem.P.str_of_int hz ⟨.str _,H,I.tok _,⟨_,rfl⟩,q⟩
theorem sM:aZ X (.builtin "ord") (fun xs H Q=>∃ x,xs=[.str x]∧x.length=1∧Q (.int (x.cps.getD 0 0:Nat)) H):=by
 intro pins s σ H xs us Q I r h;obtain ⟨x,rfl,hz,q⟩:=h;obtain ⟨u,rfl,t,rfl⟩:=cr r;exact ord_of_one hz ⟨.int _,H,I.tok _,⟨_,rfl⟩,q⟩
end
structure ObjM (h:Heap) (x dx C:Addr) (mA:Str→Option Value):Prop where
 obj:h.get? x=some (PySem.W.instObj C dx)
 ns:h.Ns1 dx mA
 ne:dx≠x
theorem rg {h:Heap} {dx:Addr} {mA:Str→Option Value} (n:h.Ns1 dx mA):∃ od,h.get? dx=some od∧∀ name,PySem.W.lookIn name od=some (mA name):=by
 obtain ⟨o,es,ep,ho,hd,hk,_,hm⟩:=n;refine ⟨o,ho,fun name=>?_⟩;have e:=hm name;unfold nsFind findBy at e;rw [← Array.find?_toList] at e;unfold PySem.W.lookIn;rw [hd];dsimp only
 split
 ·rename_i y q
  rw [q] at e;exact congrArg some e
 ·rename_i q
  rw [q] at e;have a:es.toList.any (·.refKey)=false:=by
   rw [List.any_eq_false];intro y hy;obtain ⟨z,t,hkey⟩:=hk y (Array.mem_toList_iff.mp hy);simp [DictEntry.refKey,hkey]
  have a':¬ es.toList.any (·.refKey)=true:=by rw [a];exact Bool.false_ne_true
  rw [if_neg a'];exact congrArg some e
theorem ObjM.look {h:Heap} {x dx C:Addr} {mA:Str→Option Value} (I:ObjM h x dx C mA):∃ od,PySem.W.InstAt h x (PySem.W.instObj C dx) C (some od)∧∀ name,PySem.W.lookIn name od=some (mA name) :=
 let ⟨od,ho,hl⟩:=rg I.ns
 ⟨od,⟨I.obj,rfl,rfl,ho⟩,hl⟩
section
variable {prog:Program} {w:World} {A:Around} {E:Value→Shared→Prop} {s:Shared} {K:PySem.W.Frag} {x dx C f:Addr} {mA:Str→Option Value} {name:Str} {v:Value}
theorem u6 {expr:Bool} {Q:Value→Shared→Prop} (X:K.In s.heap) (I:ObjM s.heap x dx C mA) (hg:PySem.W.plainGet K C name=true) (hh:PySem.W.hasDictIn K C=true)
  (ha:PySem.W.findIn K (.ref C) name=some none) (hv:mA name=some v) (hv':PySem.W.handedIn v=true) (h:Q v { s with toks:=s.toks+1 }) :
  wpAny (model prog w) A (getAttr (.ref x) name expr) Q E s:=by
 obtain ⟨od,J,hl⟩:=I.look;exact PySem.W.get_value X J (PySem.W.plainGet_of hg).1 (PySem.W.findObj_own hh ha rfl (by rw [hl,hv])) hv' h
theorem sN {pl:Sem Bool} {Q:Value×List Value→Shared→Prop} (X:K.In s.heap) (I:ObjM s.heap x dx C mA) (hg:PySem.W.plainGet K C name=true)
  (hf:PySem.W.findIn K (.ref C) name=some (some (.ref f))) (ht:PySem.W.isFn K (.ref f)=true) (hv:mA name=none) (h:Q (.ref f,[.ref x]) s) :
  wpAny (model prog w) A (getMethod (.ref x) name pl) Q E s:=by
 obtain ⟨od,J,hl⟩:=I.look;exact PySem.W.method_fn X J (PySem.W.plainGet_of hg).1 (PySem.W.plainGet_of hg).2 hf (beq_iff_eq.mp ht) (by show (PySem.W.lookIn name od).map (·.isSome)=some false;rw [hl,hv];rfl) h
theorem u7 {ns:List Str} {Q:Unit→Shared→Prop} (X:K.In s.heap) (I:ObjM s.heap x dx C mA)
  (hs:PySem.W.findIn K (.ref C) "__setattr__" = some (some (.builtin "object.__setattr__"))) (hp:PySem.W.plainOver K C=true) (ht:PySem.W.takerIn K C name=some none) (hh:PySem.W.hasDictIn K C=true)
  (hw:PySem.Within mA ns) (hsz:ns.length≤sizeLine)
  (h:∀ h',ObjM h' x dx C (fun y=>if y=name then some v else mA y)→Heap.SameBut dx s.heap h'→Q () { s with heap:=h',toks:=s.toks+2 }) :
  wpAny (model prog w) A (setAttr (.ref x) name v) Q E s:=by
 obtain ⟨od,J,hl⟩:=I.look;refine PySem.W.set_plain X J hs (PySem.W.osa_open (s:={ s with toks:=s.toks+1 }) (r:=none) X J hp ht fun b=>?_);obtain ⟨cd,hc,hd'⟩:=PySem.W.any_some hh;have hx:s.heap.get? x=some ⟨.ref C,some dx,.plain,#[]⟩:=I.obj;refine wpAny_bind (wpAny_pure (wpAny_bind (wpAny_bind (wpAny_loadPart hx (wpAny_bind (PySem.W.Looks.here (s:={ s with toks:=s.toks+1 }) (PySem.W.looks_clsIn X hc) ?_))))));rw [hd'];refine wpAny_pure (a:=some dx) (wpAny_bind (wpAny_pure (wpAny_bind ?_)));refine wpAny_nsSet1 (s:={ s with toks:=s.toks+1 }) I.ns fun h' hn2 hs2=>?_;obtain ⟨oD,esD,epD,hoD,hdD,hcD⟩:=hn2.count (PySem.Within.cons name v hw);refine wpAny_bind (wpAny_lookBehind hoD (by rw [hdD];exact pastItsLine_dict (Nat.le_trans hcD (by rw [List.length_cons];lia))) ?_);exact wpAny_pure (h _ ⟨(hs2.2 _ (Ne.symm I.ne)).trans I.obj,hn2,I.ne⟩ hs2)
theorem sO {R:Result→Shared→Prop} {vs:List Value} {kw:List (Str×Value)} (X:K.In s.heap) (hm:PySem.W.makesIn K C=true)
  (hi:PySem.W.findIn K (.ref C) "__init__" = some (some (.ref f))) (hf:PySem.W.typeIn K (.ref f)=some (.type "function"))
  (h:codeAny (model prog w) (A.under (.builtin "type.__call__" ⟨.ref C :: vs,kw⟩)) (.call (.ref f) ⟨.ref (s.heap.objs.size+1) :: vs,kw⟩) (PySem.W.InitBack (s.heap.objs.size+1) R)
   { s with heap:=(s.heap.push PySem.W.emptyDict).push (PySem.W.instObj C s.heap.objs.size) }) :
  codeAny (model prog w) A (.call (.ref C) ⟨vs,kw⟩) R s:=by
 obtain ⟨hh,g,d,t,os⟩:=s;exact PySem.W.make_core (PySem.W.makes_of X hm) (PySem.W.looks_findIn X hi) (fun self=>PySem.W.bind_fn X self hf) (.inl rfl) h
end
def dG (f:Str) (v:V):List (Str×V)→List (Str×V)
 | []=>[(f,v)]
 | (g,x) :: r=>if g=f then (g,v) :: r else (g,x) :: dG f v r
theorem iu (f g:Str) (v:V):∀ fs:List (Str×V),(dG f v fs).lookup g=if g=f then some v else fs.lookup g
 | []=>by
  show List.lookup g [(f,v)]=_
  by_cases h:g=f
  ·have hb:(g == f)=true:=beq_iff_eq.mpr h;simp only [List.lookup,hb,if_pos h]
  ·have hb:(g == f)=false:=beq_eq_false_iff_ne.mpr h;simp only [List.lookup,hb,if_neg h]
 | (k,x) :: r=>by
  have ih:=iu f g v r;rw [show dG f v ((k,x) :: r)=(if k=f then (k,v) :: r else (k,x) :: dG f v r) from rfl]
  by_cases hk:k=f
  ·rw [if_pos hk]
   by_cases h:g=k
   ·have hb:(g == k)=true:=beq_iff_eq.mpr h;simp only [List.lookup,hb,if_pos (h.trans hk)]
   ·have hb:(g == k)=false:=beq_eq_false_iff_ne.mpr h;simp only [List.lookup,hb,if_neg (fun e:g=f=>h (e.trans hk.symm))]
  ·rw [if_neg hk]
   by_cases h:g=k
   ·have hb:(g == k)=true:=beq_iff_eq.mpr h;simp only [List.lookup,hb,if_neg (fun e:g=f=>hk (h.symm.trans e))]
   ·have hb:(g == k)=false:=beq_eq_false_iff_ne.mpr h;simp only [List.lookup,hb];exact ih
theorem gS (f:Str) (v:V):∀ fs:List (Str×V),f∈(dG f v fs).map (·.1)∧∀ g,g∈fs.map (·.1)→g∈(dG f v fs).map (·.1)
 | []=>⟨by simp [dG],fun g h=>by simp at h⟩
 | (k,x) :: r=>by
  obtain ⟨i1,i2⟩:=gS f v r;rw [show dG f v ((k,x) :: r)=(if k=f then (k,v) :: r else (k,x) :: dG f v r) from rfl]
  by_cases hk:k=f
  ·rw [if_pos hk];subst hk;exact ⟨by simp,fun g h=>by simpa using h⟩
  ·rw [if_neg hk];refine ⟨?_,fun g h=>?_⟩
   ·rw [List.map_cons];exact List.mem_cons_of_mem _ i1
   ·rw [List.map_cons] at h ⊢;rcases List.mem_cons.mp h with e | e
    ·exact List.mem_cons.mpr (.inl e)
    ·exact List.mem_cons_of_mem _ (i2 g e)
theorem iw (f:Str) (v:V):∀ fs:List (Str×V),(dG f v fs).length≤fs.length+1
 | []=>by simp [dG]
 | (k,x) :: r=>by
  have ih:=iw f v r;rw [show dG f v ((k,x) :: r)=(if k=f then (k,v) :: r else (k,x) :: dG f v r) from rfl]
  by_cases hk:k=f
  ·rw [if_pos hk,List.length_cons,List.length_cons];lia
  ·rw [if_neg hk,List.length_cons,List.length_cons];lia
theorem RelO.some_of {v:V} {o:Option Value} (r:RelO (some v) o):∃ u,o=some u∧RelV v u:=by
 cases o with
 | none=>exact (show False from r).elim
 | some u=>exact ⟨u,rfl,r⟩
theorem RelO.none_of {o:Option Value} (r:RelO none o):o=none:=by
 cases o with
 | none=>rfl
 | some u=>exact (show False from r).elim
theorem rh {v:V} {u:Value} (r:RelV v u):PySem.W.handedIn u=true:=by
 cases v with
 | non=>cases (show u=Value.none from r);rfl
 | bl b=>cases (show u=Value.bool b from r);rfl
 | int i=>obtain ⟨t,e⟩:=(show ∃ t,u=Value.int i t from r);cases e;rfl
 | str x=>obtain ⟨t,e⟩:=(show ∃ t,u=Value.str x t from r);cases e;rfl
 | byt b=>obtain ⟨t,e⟩:=(show ∃ t,u=Value.bytes b t from r);cases e;rfl
 | flt b=>obtain ⟨t,e⟩:=(show ∃ t,u=Value.float b t from r);cases e;rfl
 | ref a=>cases (show u=Value.ref a from r);rfl
 | ty n=>cases (show u=Value.type n from r);rfl
section
variable {P:Program} {w:World} {H H':Hp} {h h':Heap} {a C dx:Addr} {fs fs':List (Str×V)}
theorem lm (hok:HOk P w H h) (e:H a=some (.ins C dx fs)):∃ mA,ObjM h a dx C mA∧(∀ f,RelO (fs.lookup f) (mA f))∧PySem.Within mA (fs.map (·.1))∧fs.length≤1000∧H dx=some (.own a):=by
 obtain ⟨d,z,ne,ob,mA,n,r,q⟩:=(show ObjOk P w H h a (.ins C dx fs) from hok a _ e);exact ⟨mA,⟨ob,n,ne⟩,r,q,z,d⟩
end
structure Cls (K:PySem.W.Frag) (C:Addr):Prop where
 pg:PySem.W.plainGet K C Str.empty=true
 hd:PySem.W.hasDictIn K C=true
 po:PySem.W.plainOver K C=true
 sa:PySem.W.findIn K (.ref C) "__setattr__" = some (some (.builtin "object.__setattr__"))
theorem Cls.get {K:PySem.W.Frag} {C:Addr} (c:Cls K C) (f:Str):PySem.W.plainGet K C f=true:=c.pg
def NoAttr (K:PySem.W.Frag) (C:Addr) (f:Str):Prop:=PySem.W.findIn K (.ref C) f=some none
theorem NoAttr.taker {K:PySem.W.Frag} {C:Addr} {f:Str} (n:NoAttr K C f):PySem.W.takerIn K C f=some none:=by
 unfold PySem.W.takerIn;rw [show PySem.W.findIn K (.ref C) f=some none from n]
 rfl
structure Meth (K:PySem.W.Frag) (C:Addr) (m:Str) (f:Addr):Prop where
 at_:PySem.W.findIn K (.ref C) m=some (some (.ref f))
 fn:PySem.W.isFn K (.ref f)=true
 kp:PySem.W.keepIn K (.ref f)=true
section
variable {X:Cx} {pins:List (Addr×Obj)} {σ:St} {H:Hp} {s:Shared} {a C dx:Addr} {fs:List (Str×V)} {f:Str} {v:V} {A:Around} {E:Value→Shared→Prop}
theorem i5 {b:Bool} {Q:Value→Shared→Prop} (I:Inv X pins σ H s) (e:H a=some (.ins C dx fs)) (c:Cls X.K C) (n:NoAttr X.K C f) (l:fs.lookup f=some v)
  (h:∀ u s',Inv X pins σ H s'→RelV v u→Q u s'):wpAny (model X.prog X.w) A (getAttr (.ref a) f b) Q E s:=by
 obtain ⟨mA,O,r,_,_,_⟩:=lm I.hok e;obtain ⟨u,hu,ru⟩:=RelO.some_of (v:=v) (o:=mA f) (by rw [← l];exact r f);exact u6 I.kIn O (c.get f) c.hd n hu (rh ru) (h u _ (I.tok _) ru)
theorem oW {m:Str} {g:Addr} {pl:Sem Bool} {Q:Value×List Value→Shared→Prop} (I:Inv X pins σ H s) (e:H a=some (.ins C dx fs)) (c:Cls X.K C) (k:Meth X.K C m g) (l:fs.lookup m=none)
  (h:Q (.ref g,[.ref a]) s):wpAny (model X.prog X.w) A (getMethod (.ref a) m pl) Q E s:=by
 obtain ⟨mA,O,r,_,_,_⟩:=lm I.hok e;have hn:mA m=none:=RelO.none_of (by rw [← l];exact r m);exact sN I.kIn O (c.get m) k.at_ k.fn hn h
theorem i6 {y:V} {u:Value} {Q:Unit→Shared→Prop} (I:Inv X pins σ H s) (e:H a=some (.ins C dx fs)) (c:Cls X.K C) (n:NoAttr X.K C f) (hl:fs.length < 1000) (ry:RelV y u)
  (h:∀ s',Inv X pins σ (upd H a (.ins C dx (dG f y fs))) s'→Q () s'):wpAny (model X.prog X.w) A (setAttr (.ref a) f u) Q E s:=by
 obtain ⟨mA,O,r,wi,_,ho⟩:=lm I.hok e;have hz:(fs.map (·.1)).length≤sizeLine:=by rw [List.length_map,sizeLine_eq];lia
 refine u7 I.kIn O c.sa c.po n.taker c.hd wi hz fun h' O' sb=>h _ ?_;have hd:∃ o,h'.get? dx=some o:=let ⟨o,_,_,e',_⟩:=O'.ns;⟨o,e'⟩;refine I.write (x:=a) (e:=dx) (by rw [e];exact True.intro) (.inr ho) (fun b q hb z=>(sb.2 b hb).trans z) hd ?_;refine ⟨by rw [ae O.ne];exact ho,?_,O.ne,O'.obj,_,O'.ns,fun g=>?_,fun g hg=>?_⟩
 ·have:=iw f y fs;lia
 ·show RelO ((dG f y fs).lookup g) (if g=f then some u else mA g);rw [iu]
  by_cases q:g=f
  ·rw [if_pos q,if_pos q];exact ry
  ·rw [if_neg q,if_neg q];exact r g
 ·by_cases q:g=f
  ·rw [q];exact (gS f y fs).1
  ·refine (gS f y fs).2 g (wi g fun z=>hg ?_);show (if g=f then some u else mA g)=none;rw [if_neg q];exact z
theorem Inv.made (I:Inv X pins σ H s):Inv X pins σ (upd (upd H s.heap.objs.size (.own (s.heap.objs.size+1))) (s.heap.objs.size+1) (.ins C s.heap.objs.size []))
  { s with heap:=(s.heap.push PySem.W.emptyDict).push (PySem.W.instObj C s.heap.objs.size) }:=by
 have e1:(s.heap.push PySem.W.emptyDict).get? s.heap.objs.size=some PySem.W.emptyDict:=Heap.get?_push_size s.heap rfl;have e2:((s.heap.push PySem.W.emptyDict).push (PySem.W.instObj C s.heap.objs.size)).get? (s.heap.objs.size+1)=some (PySem.W.instObj C s.heap.objs.size):=by
  have:=Heap.get?_push_size (s.heap.push PySem.W.emptyDict) (o:=PySem.W.instObj C s.heap.objs.size) rfl
  rwa [Heap.size_push] at this
 have e3:(s.heap.push PySem.W.emptyDict).Ns s.heap.objs.size (fun _=>none):=⟨PySem.W.emptyDict,#[],_,e1,rfl,(fun e he=>absurd he (by simp)),fun _=>rfl⟩;have I1:=I.laid (a:=s.heap.objs.size) (o:=.own (s.heap.objs.size+1)) (h':=s.heap.push PySem.W.emptyDict) (t':=s.toks) (fun b u q=>Heap.get?_push_of_some _ q) (Nat.le_refl _) ⟨_,e1⟩;refine I1.laid (a:=s.heap.objs.size+1) (o:=.ins C s.heap.objs.size []) (t':=s.toks) (fun b u q=>Heap.get?_push_of_some _ q) (Nat.le_of_eq (Heap.size_push _ _)) ?_;have ne:s.heap.objs.size≠s.heap.objs.size+1:=Nat.ne_of_lt (Nat.lt_succ_self _);refine ⟨by rw [ae ne,aa],Nat.zero_le _,ne,e2,fun _=>none,(Heap.Ns1.of_empty e3).at fun o q=>Heap.get?_push_of_some _ q,fun _=>True.intro,fun y hy=>absurd rfl hy⟩
theorem u8 {prog:Program} {w:World} {env:Env} {e:Expr} {f:Str} {pos:Pos} {s:Shared} {Q:Value→Shared→Prop} (hb:attributeBase e f env (eval e env)=eval e env)
  (h:wpAny (model prog w) A (eval e env) (fun o s₁=>wpAny (model prog w) A (getAttr o f true) Q E s₁) E s):wpAny (model prog w) A (eval (.Attribute e f pos) env) Q E s :=
 Attribute_any_ h (by rw [arm_eval_Attribute,hb])
end
def G1 (K:PySem.W.Frag) (ta:TE) (f:Str):TE:=fun σ H Q=>ta σ H fun x H1=>∃ a C dx fs v,x=.ref a∧H1 a=some (.ins C dx fs)∧Cls K C∧NoAttr K C f∧fs.lookup f=some v∧Q v H1
def G2 (K:PySem.W.Frag) (ta tv:TE) (f:Str):TS:=fun D σ H=>tv σ H fun y H1=>ta σ H1 fun x H2=>∃ a C dx fs,x=.ref a∧H2 a=some (.ins C dx fs)∧Cls K C∧NoAttr K C f∧fs.length < 1000 ∧
 D.nx σ (upd H2 a (.ins C dx (dG f y fs)))
def G5 (X:Cx) (op:Operator) (rd:V→V→Hp→VK→Prop):Prop :=
 ∀ (pins:List (Addr×Obj)) (s:Shared) (σ:St) (H:Hp) (x y:V) (u v:Value) (Q:VK),Inv X pins σ H s→RelV x u→RelV y v→rd x y H Q→wpAny (model X.prog X.w) X.A (inplaceOp op u v) (EP X pins σ Q) X.xe s
def u9 (K:PySem.W.Frag) (ta tv:TE) (rd:V→V→Hp→VK→Prop) (f:Str):TS:=fun D σ H=>ta σ H fun x H1=>∃ a C dx fs v,x=.ref a∧H1 a=some (.ins C dx fs)∧Cls K C∧NoAttr K C f∧fs.lookup f=some v ∧
 tv σ H1 fun y H2=>rd v y H2 fun z H3=>∃ dx' fs',H3 a=some (.ins C dx' fs')∧fs'.length < 1000∧D.nx σ (upd H3 a (.ins C dx' (dG f z fs')))
section
variable {X:Cx} {o e value:Expr} {f:Str} {pos pos' tpos:Pos} {ta tv:TE}
theorem oX (he:PE X e ta) (hb:attributeBase e f X.env (eval e X.env)=eval e X.env):PE X (.Attribute e f pos) (G1 X.K ta f):=by
 intro pins s σ H Q I h;refine u8 hb (thn (he pins s σ H _ I h) fun u s1 ⟨x,H1,I1,rx,a,C,dx,fs,v,ex,ea,c,n,l,q⟩=>?_);subst ex;obtain rfl:u=Value.ref a:=rx;exact i5 I1 ea c n l fun u' s2 I2 ru=>⟨v,H1,I2,ru,q⟩
theorem sP (ha:PE X o ta) (hv:PE X value tv) (hs:swapsWith value (some (.Attribute o f pos')) pos.line X.env=pure false):PS X (.Assign [.Attribute o f pos'] value pos) (G2 X.K ta tv f):=by
 intro pins s σ H D I h;refine plainObj_wpAny_Assign_Attribute (thn (hv pins s σ H _ I h) fun u s1 ⟨y,H1,I1,ry,q⟩=>thn (ha pins s1 σ H1 _ I1 q) fun ov s2 ⟨x,H2,I2,rx,a,C,dx,fs,ex,ea,c,n,l,q2⟩=>?_) hs;subst ex;obtain rfl:ov=Value.ref a:=rx;exact i6 I2 ea c n l ry fun s3 I3=>⟨σ,_,I3,q2⟩
theorem ps_fldaug {op:Operator} {rd:V→V→Hp→VK→Prop} (ha:PE X o ta) (hv:PE X value tv) (hop:G5 X op rd):PS X (.AugAssign (.Attribute o f tpos) op value pos) (u9 X.K ta tv rd f):=by
 intro pins s σ H D I h;refine wpAny_AugAssign_AttributeAny (thn (ha pins s σ H _ I h) fun ov s1 ⟨x,H1,I1,rx,a,C,dx,fs,v,ex,ea,c,n,l,q⟩=>?_);subst ex;obtain rfl:ov=Value.ref a:=rx;refine i5 I1 ea c n l fun u s2 I2 ru=>thn (hv pins s2 σ H1 _ I2 q) fun w3 s3 ⟨y,H2,I3,ry,q3⟩=>thn (hop pins s3 σ H2 v y u w3 _ I3 ru ry q3) fun w4 s4 ⟨z,H3,I4,rz,dx',fs',ea',l',q4⟩=>?_;exact i6 I4 ea' c n l' rz fun s5 I5=>⟨σ,_,I5,q4⟩
end
section
variable {X:Cx} {pins:List (Addr×Obj)} {σ:St} {H:Hp} {s:Shared} {A:Around} {E:Value→Shared→Prop} {Q:Value→Shared→Prop} {c:Value} {b:Bool}
end
structure Room (k:Nat) (A:Around):Prop where
 hd:A.handled=none
 dp:A.depth+3*k+5 < recursionLimit
 un:A.units+16*k+200 < cLine
theorem Room.mono {j k:Nat} {A:Around} (r:Room k A) (h:j≤k):Room j A:=⟨r.hd,by have:=r.dp;lia,by have:=r.un;lia⟩
theorem Room.deeper {k:Nat} {A:Around} (r:Room (k+1) A) (env:Env):Room k (A.deeper env) :=
 ⟨r.hd,by have:=r.dp;show A.depth+1+3*k+5 < _;lia,by have:=r.un;show A.units+3+16*k+200 < _;lia⟩
theorem oY {A:Around} {C:Addr} {us:List Value} {kw:List (Str×Value)}:(A.under (.builtin "type.__call__" ⟨.ref C :: us,kw⟩)).depth=A.depth+1:=by
 first | rfl | simp [Around.under,Code.weight,Code.isCreation,Code.isGuard,Code.isCaller,Code.frames,Code.isFrame,guardIds]
theorem oZ {A:Around} {C:Addr} {us:List Value} {kw:List (Str×Value)}:(A.under (.builtin "type.__call__" ⟨.ref C :: us,kw⟩)).units=A.units+1:=by
 first | rfl | simp [Around.under,Code.cUnits,Code.frames,Code.isFrame]
theorem Room.make {k:Nat} {A:Around} (r:Room (k+1) A) (C:Addr) (us:List Value) (kw:List (Str×Value)):Room k (A.under (.builtin "type.__call__" ⟨.ref C :: us,kw⟩)) :=
 ⟨r.hd,by have:=r.dp;rw [oY];lia,by have:=r.un;rw [oZ];lia⟩
theorem Room.depth {k:Nat} {A:Around} (r:Room k A):A.depth < recursionLimit:=by have:=r.dp;lia
theorem Room.units {k:Nat} {A:Around} (r:Room k A):A.units+64 < cLine:=by have:=r.un;lia
def sQ:TA:=fun _ H Q=>Q [] H
def ix (ta:TE) (tr:TA):TA:=fun σ H Q=>ta σ H fun x H1=>tr σ H1 fun xs H2=>Q (x :: xs) H2
section
variable {X:Cx} {e:Expr} {es:List Expr} {te:TE} {t:TA} {pos:Pos}
theorem ei:PA X [] sQ:=fun _ _ _ _ H Q I h=>Calls.spliced_nil ⟨[],H,I,.nil,h⟩
theorem bo (ha:PE X e te) (hr:PA X es t) (hs:starEach (e :: es) X.env=(false,eval e X.env) :: starEach es X.env:=by rfl):PA X (e :: es) (ix te t):=by
 intro pos pins s σ H Q I h;rw [hs];show wpAny _ _ (spliced ((false,eval e X.env) :: backTo pos (starEach es X.env))) _ _ s;refine Calls.spliced_cons (thn (ha pins s σ H _ I h) fun u s1 ⟨x,H1,I1,r1,q1⟩=>?_);exact thn (hr pos pins s1 σ H1 _ I1 q1) fun us s2 ⟨xs,H2,I2,r2,q2⟩=>⟨x :: xs,H2,I2,.cons r1 r2,q2⟩
def FW (t:TA):TE:=fun σ H Q=>t σ H fun xs H1=>xs.length≤sizeLine∧∀ p,H1 p=none→Q (.ref p) (upd H1 p (.lst xs))
theorem aG (h:PA X es t):PE X (.List es pos) (FW t):=by
 intro pins s σ H Q I hq;refine wpAny_List_spliced (thn (h pos pins s σ H _ I hq) fun us s1 ⟨xs,H1,I1,r,z,q⟩=>⟨by rw [← r.length];exact z,?_⟩);have hf:H1 s1.heap.objs.size=none:=I1.hok.fresh (Nat.le_refl _);refine ⟨.ref s1.heap.objs.size,upd H1 s1.heap.objs.size (.lst xs),I1.laid (t':=s1.toks) (fun b u e=>Heap.get?_push_of_some _ e) (Nat.le_refl _) ?_,rfl,q _ hf⟩;exact ⟨z,us,0,r,Heap.get?_push_size _ rfl⟩
end
abbrev Sp:=List V→Hp→VK→XK→Prop
abbrev CXT:=List Env→Hp→Shared→XK→Value→Shared→Prop
structure Env0 (P:Program) (w:World) (K:PySem.W.Frag) (mg:Str→Option Value) (base:Heap) (A:Around) (outer:List Env) (s:Shared) (H:Hp):Prop where
 frames:A.frames=some outer
 mod:Mod K mg base
 bs:∀ b o,base.get? b=some o→s.heap.get? b=some o∧H b=none
 bsz:base.objs.size≤s.heap.objs.size
 funs:s.heap.FunFrames base outer
 frf:∀ b∈frs outer,H b=none
 hok:HOk P w H s.heap
 bare:AllBare s.gens
def CE (outer:List Env) (P:Program) (w:World) (H:Hp) (s:Shared) (Q:VK) (u:Value) (s':Shared):Prop :=
 ∃ v H',s'.os=s.os∧AllBare s'.gens∧Un (frs outer) [] H H' s.heap s'.heap∧HOk P w H' s'.heap∧RelV v u∧Q v H'
def CR (CX:CXT) (outer:List Env) (P:Program) (w:World) (H:Hp) (s:Shared) (Q:VK) (E:XK) (r:Result) (s':Shared):Prop :=
 match r with
 | .ok (.ret u)=>CE outer P w H s Q u s'
 | .ok _=>False
 | .error e=>CX outer H s E e s'
structure FnOk (P:Program) (w:World) (K:PySem.W.Frag) (mg:Str→Option Value) (base:Heap) (CX:CXT) (k:Nat) (f:Addr) (fd:FuncData) (ps:List Str) (sp:Sp):Prop where
 len:∀ vs H Q E,sp vs H Q E→vs.length=ps.length
 run:∀ (A:Around) (outer:List Env) (s:Shared) (H:Hp) (args:Args) (us:List Value) (vs:List V) (Q:VK) (E:XK),Room k A→Env0 P w K mg base A outer s H→BindsTo s fd args (ps.zip us)→Vals vs us→sp vs H Q E →
  codeAny (model P w) A (.call (.ref f) args) (CR CX outer P w H s Q E) s
theorem FnOk.mono {P:Program} {w:World} {K:PySem.W.Frag} {mg:Str→Option Value} {base:Heap} {CX:CXT} {j k:Nat} {f:Addr} {fd:FuncData} {ps:List Str} {sp:Sp} (F:FnOk P w K mg base CX j f fd ps sp) (h:j≤k) :
  FnOk P w K mg base CX k f fd ps sp:=⟨F.len,fun A outer s H args us vs Q E hr=>F.run A outer s H args us vs Q E (hr.mono h)⟩
theorem FnOk.imp {P:Program} {w:World} {K:PySem.W.Frag} {mg:Str→Option Value} {base:Heap} {CX:CXT} {k:Nat} {f:Addr} {fd:FuncData} {ps:List Str} {sp sp':Sp} (F:FnOk P w K mg base CX k f fd ps sp)
  (h:∀ vs H Q E,sp' vs H Q E→sp vs H Q E):FnOk P w K mg base CX k f fd ps sp' :=
 ⟨fun vs H Q E q=>F.len vs H Q E (h _ _ _ _ q),fun A outer s H args us vs Q E hr he hb hv hs=>F.run A outer s H args us vs Q E hr he hb hv (h _ _ _ _ hs)⟩
theorem Env0.make {P:Program} {w:World} {K:PySem.W.Frag} {mg:Str→Option Value} {base:Heap} {A:Around} {outer:List Env} {s:Shared} {H:Hp} (e:Env0 P w K mg base A outer s H) (C:Addr) (us:List Value) (kw:List (Str×Value)) :
  Env0 P w K mg base (A.under (.builtin "type.__call__" ⟨.ref C :: us,kw⟩)) outer s H:=⟨by first | exact e.frames | (simpa [Around.under,Code.envs,Code.isFrame,pushEnvs] using e.frames),e.mod,e.bs,e.bsz,e.funs,e.frf,e.hok,e.bare⟩
section
variable {X:Cx} {pins:List (Addr×Obj)} {σ:St} {H:Hp} {s s':Shared}
theorem Inv.env0 (I:Inv X pins σ H s):Env0 X.prog X.w X.K X.mg X.base X.A X.stack s H :=
 ⟨I.ok.frames,I.ok.mod,I.bs,Nat.le_trans I.ok.bsz I.sz,I.stack,I.stkFree,I.hok,I.bare⟩
theorem Inv.after {Q:VK} {u:Value} (I:Inv X pins σ H s) (h:CE X.stack X.prog X.w H s Q u s'):EP X pins σ Q u s':=by
 obtain ⟨v,H',os,bare,un,hok,r,q⟩:=h;obtain ⟨hh,g,d,t,os'⟩:=s';obtain rfl:os'=s.os:=os;exact ⟨v,H',I.call (h':=hh) (g':=g) (d':=d) (t':=t) (ch:=[]) un hok bare (fun b z=>absurd z (by simp)),r,q⟩
end
def wc (sp:Sp) (dvs:List V) (E:XK) (t:TA):TE:=fun σ H Q=>t σ H fun vs H1=>sp (vs++dvs) H1 Q E
def FX (C:Addr) (m:Str) (sp:Sp) (dvs:List V) (E:XK) (ta:TE) (t:TA):TE:=fun σ H Q=>ta σ H fun x H1=>∃ a dx fs,x=.ref a∧H1 a=some (.ins C dx fs)∧fs.lookup m=none ∧
 t σ H1 fun vs H2=>sp (x :: (vs++dvs)) H2 Q E
def FY (C:Addr) (sp:Sp) (dvs:List V) (E:XK) (t:TA):TE:=fun σ H Q=>t σ H fun vs H1=>∀ x dx,H1 x=none→H1 dx=none→dx≠x →
 sp (.ref x :: (vs++dvs)) (upd (upd H1 dx (.own x)) x (.ins C dx [])) (fun v H2=>v=.non∧Q (.ref x) H2) E
def Binds (K:PySem.W.Frag) (fd:FuncData) (ps:List Str) (ds:List Value):Prop :=
 ∀ (s:Shared) (us:List Value),K.In s.heap→(us++ds).length=ps.length→BindsTo s fd ⟨us,[]⟩ (ps.zip (us++ds))
theorem Binds.all {K:PySem.W.Frag} {fd:FuncData} {ps:List Str} (h:∀ us:List Value,us.length=ps.length→bindArgs fd ⟨us,[]⟩=pure (ps.zip us)):Binds K fd ps []:=fun s us _ hl=>by
 rw [List.append_nil] at hl ⊢;exact .of_eq (h us hl)
def em (CX:CXT) (X:Cx) (E:XK):Prop:=∀ (pins:List (Addr×Obj)) (σ:St) (H:Hp) (s:Shared) (e:Value) (s':Shared),Inv X pins σ H s→CX X.stack H s E e s'→X.xe e s'
section
variable {X:Cx} {CX:CXT} {k:Nat} {f C:Addr} {fd:FuncData} {ps:List Str} {sp:Sp} {dvs:List V} {ds:List Value} {E:XK} {x m:Str} {p pos apos:Pos} {e o:Expr} {es:List Expr} {ta:TE} {t:TA}
theorem sR {pins:List (Addr×Obj)} {σ:St} {H:Hp} {s:Shared} {Q:VK} {us:List Value} {vs:List V} (F:FnOk X.prog X.w X.K X.mg X.base CX k f fd ps sp) (hr:Room k X.A) (hb:Binds X.K fd ps ds) (hd:Vals dvs ds) (hx:em CX X E)
  (I:Inv X pins σ H s) (r:Vals vs us) (h:sp (vs++dvs) H Q E):wpAny (model X.prog X.w) X.A (call (.ref f) us) (EP X pins σ Q) X.xe s:=by
 have r2:Vals (vs++dvs) (us++ds):=r.append hd;have hl:(us++ds).length=ps.length:=by rw [← r2.length];exact F.len _ _ _ _ h
 refine wpAny_call (codeAny_mono (F.run X.A X.stack s H ⟨us,[]⟩ (us++ds) (vs++dvs) Q E hr I.env0 (hb s us I.kIn hl) r2 h) fun r s' hq=>?_)
 cases r with
 | error e=>exact hx pins σ H s e s' I hq
 | ok fl =>
  cases fl with
  | ret u=>exact I.after hq
  | next=>exact False.elim hq
  | brk=>exact False.elim hq
  | cont=>exact False.elim hq
theorem aF (F:FnOk X.prog X.w X.K X.mg X.base CX k f fd ps sp) (hr:Room k X.A) (hg:Gl X x) (hm:X.mg x=some (.ref f)) (hk:PySem.W.keepIn X.K (.ref f)=true) (hb:Binds X.K fd ps ds) (hd:Vals dvs ds) (hx:em CX X E)
  (ha:PA X (e :: es) t) (hdb:(x == ("__debug__" : Str))=false:=by decide) (he:starEach (e :: es) X.env=(false,eval e X.env) :: starEach es X.env:=by rfl) (hpl:(backTo pos (starEach es X.env)).any (·.1)=false:=by rfl) :
  PE X (.Call (.Name x p) (e :: es) [] pos) (wc sp dvs E t):=by
 intro pins s σ H Q I h;refine wpAny_Call_Name_kw (fj I hg hm ?_ hdb);refine PySem.W.callWith_K (h₀:=X.base) I.ok.mod.kin hk (thn (ha pos pins s σ H _ I h) fun us s1 ⟨vs,H1,I1,r,q⟩=>⟨I1.kIn,?_⟩) he hpl;exact sR F hr hb hd hx I1 r q
theorem aQ {pl:Sem Bool} (he:PE X o ta) (c:Cls X.K C) (hm:Meth X.K C m f) (F:FnOk X.prog X.w X.K X.mg X.base CX k f fd ps sp) (hr:Room k X.A) (hb:Binds X.K fd ps ds) (hd:Vals dvs ds) (hx:em CX X E) (ha:PA X (e :: es) t)
  (hst:starEach (e :: es) X.env=(false,eval e X.env) :: starEach es X.env:=by rfl) (hpl:(backTo pos (starEach es X.env)).any (·.1)=false:=by rfl)
  (ht:eval (.Call (.Attribute o m apos) (e :: es) [] pos) X.env=(do
   let ov ← eval o X.env
   standAt apos.atName
   let (f,first) ← holding [ov] (getMethod ov m pl)
   callWith pos f first (backTo pos (starEach (e :: es) X.env)) (backToKw pos (keywordEach [] X.env))):=by rfl) :
  PE X (.Call (.Attribute o m apos) (e :: es) [] pos) (FX C m sp dvs E ta t):=by
 intro pins s σ H Q I h;refine PySem.W.methodCall_KW (pl:=pl) (thn (he pins s σ H _ I h) fun u s1 ⟨x,H1,I1,rx,a,dx,fs,ex,ea,l,q⟩=>?_) ht;subst ex;obtain rfl:u=Value.ref a:=rx;refine oW I1 ea c hm l ?_;refine PySem.W.callWith_K (first:=[.ref a]) (h₀:=X.base) I.ok.mod.kin hm.kp (thn (ha pos pins s1 σ H1 _ I1 q) fun us s2 ⟨vs,H2,I2,r,q2⟩=>⟨I2.kIn,?_⟩) hst hpl;exact sR (us:=.ref a :: us) (vs:=.ref a :: vs) F hr hb hd hx I2 (.cons rfl r) q2
structure Mk (K:PySem.W.Frag) (C f:Addr):Prop where
 makes:PySem.W.makesIn K C=true
 init:PySem.W.findIn K (.ref C) "__init__" = some (some (.ref f))
 fn:PySem.W.isFn K (.ref f)=true
 kp:PySem.W.keepIn K (.ref C)=true
theorem sS {pins:List (Addr×Obj)} {σ:St} {H:Hp} {s:Shared} {Q:VK} {us:List Value} {vs:List V} (M:Mk X.K C f) (F:FnOk X.prog X.w X.K X.mg X.base CX k f fd ps sp) (hr:Room (k+1) X.A) (hb:Binds X.K fd ps ds) (hd:Vals dvs ds)
  (hx:em CX X E) (I:Inv X pins σ H s) (r:Vals vs us)
  (h:∀ x dx,H x=none→H dx=none→dx≠x→sp (.ref x :: (vs++dvs)) (upd (upd H dx (.own x)) x (.ins C dx [])) (fun v H2=>v=.non∧Q (.ref x) H2) E) :
  wpAny (model X.prog X.w) X.A (call (.ref C) us) (EP X pins σ Q) X.xe s:=by
 have hq:=h (s.heap.objs.size+1) s.heap.objs.size (I.hok.fresh (Nat.le_succ _)) (I.hok.fresh (Nat.le_refl _)) (Nat.ne_of_lt (Nat.lt_succ_self _));have I2:=Inv.made (C:=C) I;have r2:Vals (V.ref (s.heap.objs.size+1) :: (vs++dvs)) (Value.ref (s.heap.objs.size+1) :: (us++ds)):=.cons rfl (r.append hd);have hl:(Value.ref (s.heap.objs.size+1) :: us++ds).length=ps.length:=by
  have e:=r2.length;rw [F.len _ _ _ _ hq] at e;exact e.symm
 refine wpAny_call (sO (f:=f) I.kIn M.makes M.init (beq_iff_eq.mp M.fn) (codeAny_mono (F.run _ X.stack _ _ ⟨Value.ref (s.heap.objs.size+1) :: us,[]⟩ (Value.ref (s.heap.objs.size+1) :: (us++ds)) _ _ E (hr.make C us [])
  (I2.env0.make C us []) (hb _ (Value.ref (s.heap.objs.size+1) :: us) I2.kIn hl) r2 hq) fun r s' hq'=>?_))
 cases r with
 | error e=>exact hx pins σ _ _ e s' I2 hq'
 | ok fl =>
  cases fl with
  | ret u =>
   obtain ⟨v,H',I3,rv,ev,q3⟩:=I2.after hq';subst ev;exact ⟨rv,⟨V.ref (s.heap.objs.size+1),H',I3,rfl,q3⟩⟩
  | next=>exact False.elim hq'
  | brk=>exact False.elim hq'
  | cont=>exact False.elim hq'
theorem va (M:Mk X.K C f) (F:FnOk X.prog X.w X.K X.mg X.base CX k f fd ps sp) (hr:Room (k+1) X.A) (hg:Gl X x) (hm:X.mg x=some (.ref C)) (hb:Binds X.K fd ps ds) (hd:Vals dvs ds) (hx:em CX X E)
  (ha:PA X (e :: es) t) (hdb:(x == ("__debug__" : Str))=false:=by decide) (he:starEach (e :: es) X.env=(false,eval e X.env) :: starEach es X.env:=by rfl) (hpl:(backTo pos (starEach es X.env)).any (·.1)=false:=by rfl) :
  PE X (.Call (.Name x p) (e :: es) [] pos) (FY C sp dvs E t):=by
 intro pins s σ H Q I h;refine wpAny_Call_Name_kw (fj I hg hm ?_ hdb);refine PySem.W.callWith_K (h₀:=X.base) I.ok.mod.kin M.kp (thn (ha pos pins s σ H _ I h) fun us s1 ⟨vs,H1,I1,r,q⟩=>⟨I1.kIn,?_⟩) he hpl;exact sS M F hr hb hd hx I1 r q
end
section
variable {X:Cx} {CX:CXT} {k:Nat} {f C:Addr} {fd:FuncData} {ps ks:List Str} {sp:Sp} {E:XK} {x m:Str} {p pos apos kpos:Pos} {e o:Expr} {es:List Expr} {kws:List Keyword} {te ta:TE} {t tk:TA} {nm:Option Str}
variable {g:List Value→List Value→List Value} {gV:List V→List V→List V}
end
structure FnScope (N P:List Str) (sc:Scope):Prop where
 kind:sc.kind=.function
 co:sc.isCoroutine=false
 gen:sc.isGenerator=false
 nd:N.Nodup
 pre:N.take P.length=P
 par:∀ x∈P,sc.names.lookup x=some .local∨sc.names.lookup x=some .cell
 nofree:∀ y∈sc.names,y.2≠.free
theorem ku {kindOf:Str→Option NameKind} {x:Str}:∀ {binds:List (Str×Value)} {m:Str→Option Value},(∀ v,(x,v)∉binds)→bindL kindOf binds m x=m x
 | [],_,_=>rfl
 | (n,v) :: r,m,h=>by
  unfold bindL;rw [ku fun w hw=>h w (List.mem_cons_of_mem _ hw)]
  split
  ·have:x≠n:=by rintro rfl;exact h v List.mem_cons_self
   simp [this]
  ·rfl
theorem kx {kindOf:Str→Option NameKind} {x:Str}:∀ {binds:List (Str×Value)} {m:Str→Option Value},(∀ v,(x,v)∉binds)→bindC kindOf binds m x=m x
 | [],_,_=>rfl
 | (n,v) :: r,m,h=>by
  unfold bindC;rw [kx fun w hw=>h w (List.mem_cons_of_mem _ hw)]
  split
  ·rfl
  ·have:x≠n:=by rintro rfl;exact h v List.mem_cons_self
   simp [this]
theorem kA {kindOf:Str→Option NameKind} {x:Str} {v:Value}:∀ {P:List Str} {vs:List Value} {i:Nat} {m:Str→Option Value},P.Nodup→P[i]?=some x→vs[i]?=some v→kindOf x=some .local →
  bindL kindOf (P.zip vs) m x=some v
 | [],_,_,_,_,h,_,_=>by simp at h
 | _ :: _,[],_,_,_,_,h,_=>by simp at h
 | p :: P,w :: vs,0,m,nd,h1,h2,hk=>by
  simp at h1 h2;subst h1;subst h2;show bindL kindOf ((p,w) :: P.zip vs) m p=_;unfold bindL;rw [ku fun v hv=>(List.nodup_cons.mp nd).1 (List.of_mem_zip hv).1,if_pos hk];simp
 | p :: P,w :: vs,i+1,m,nd,h1,h2,hk=>by
  show bindL kindOf ((p,w) :: P.zip vs) m x=_;unfold bindL;exact kA (i:=i) (List.nodup_cons.mp nd).2 (by simpa using h1) (by simpa using h2) hk
theorem kB {kindOf:Str→Option NameKind} {x:Str} {v:Value}:∀ {P:List Str} {vs:List Value} {i:Nat} {m:Str→Option Value},P.Nodup→P[i]?=some x→vs[i]?=some v→kindOf x≠some .local →
  bindC kindOf (P.zip vs) m x=some v
 | [],_,_,_,_,h,_,_=>by simp at h
 | _ :: _,[],_,_,_,_,h,_=>by simp at h
 | p :: P,w :: vs,0,m,nd,h1,h2,hk=>by
  simp at h1 h2;subst h1;subst h2;show bindC kindOf ((p,w) :: P.zip vs) m p=_;unfold bindC;rw [kx fun v hv=>(List.nodup_cons.mp nd).1 (List.of_mem_zip hv).1,if_neg hk];simp
 | p :: P,w :: vs,i+1,m,nd,h1,h2,hk=>by
  show bindC kindOf ((p,w) :: P.zip vs) m x=_;unfold bindC;exact kB (i:=i) (List.nodup_cons.mp nd).2 (by simpa using h1) (by simpa using h2) hk
def gi (N:List Str) (vs:List V):St:=vs.map some++List.replicate (N.length - vs.length) none
def m7 (CX:CXT) (P:Program) (w:World) (K:PySem.W.Frag) (mg:Str→Option Value) (base:Heap) (N:List Str) (qual:Str) (scope:Scope) (f:Addr) (cd:Value) (A:Around) (outer:List Env) (s:Shared) (H:Hp) (E:XK):Cx where
 prog:=P
 w:=w
 K:=K
 mg:=mg
 base:=base
 A:=A.deeper (envOfC qual scope s.heap.objs.size f cd)
 N:=N
 s₀:=s
 H₀:=H
 env:=envOfC qual scope s.heap.objs.size f cd
 outer:=outer
 stack:=envOfC qual scope s.heap.objs.size f cd :: outer
 ex:=[]
 calm:=true
 fn:=fun _=>true
 pn:=[]
 xe:=fun e s'=>wpAny (model P w) (A.deeper (envOfC qual scope s.heap.objs.size f cd)) (leaving (envOfC qual scope s.heap.objs.size f cd) e) (fun _ s''=>CX outer H s E e s'') (fun e' s''=>CX outer H s E e' s'') s'
theorem m8 {sc:Scope} {n:Nat} {x:Str} (h:sc.names.lookup x=some .cell):∃ c,(cellsFrom n sc.names []).lookup x=some c:=by
 have q:=PySem.W.cellsFrom_some sc.names n [] (.inl h);exact Option.isSome_iff_exists.mp q
theorem rj {CX:CXT} {P:Program} {w:World} {K:PySem.W.Frag} {mg:Str→Option Value} {base:Heap} {N ps:List Str} {qual:Str} {scope:Scope} {f:Addr} {cd:Value} {A:Around} {outer:List Env} {s s1:Shared} {H:Hp} {E:XK} {us:List Value} {vs:List V}
  (S:FnScope N ps scope) (hd:A.handled=none) (e0:Env0 P w K mg base A outer s H) (hl:vs.length=ps.length) (r:Vals vs us)
  (x:InCallC s s.heap.objs.size (bindL (envOfC qual scope s.heap.objs.size f cd).kindOf (ps.zip us) fun _=>none) (cellsFrom (s.heap.objs.size+1) scope.names []) (bindC (envOfC qual scope s.heap.objs.size f cd).kindOf (ps.zip us) fun _=>none) s1) :
  Inv (m7 CX P w K mg base N qual scope f cd A outer s H E) [] (gi N vs) H s1:=by
 have hpl:ps.length≤N.length:=by have:=congrArg List.length S.pre;rw [List.length_take] at this;lia
 obtain ⟨h1,tk,rfl,hk⟩:=x.done;have noA:∀ b:Addr,b∉(m7 CX P w K mg base N qual scope f cd A outer s H E).ex:=fun b z=>absurd (show b∈([]:List Addr) from z) (by simp);refine ⟨⟨e0.mod,S.kind,rfl,rfl,Nat.le_refl _,fun y z c h1 h2=>?_,fun y hy=>?_,fun y c _ h=>?_,fun _=>hd,Around.frames_deeper e0.frames,.inr ⟨rfl,rfl⟩,fun b z=>absurd z (noA b),e0.bs,e0.bsz,fun b _ _=>noA b,fun b z=>absurd z (noA b),e0.funs,e0.frf⟩,
  rfl,e0.bare,Un.kept hk,⟨_,x.toInCall.ns,fun i y v h1 h2 h3=>?_⟩,fun y c h=>⟨_,x.cell y c h⟩,e0.hok.fresh (Nat.le_refl _),fun y c h=>?_,fun p hp=>absurd (show p∈([]:List (Addr×Obj)) from hp) (by simp),e0.hok.kept hk,?_⟩
 ·exact name_of_addr x.apart (PySem.mem_of_lookup h1) (PySem.mem_of_lookup h2)
 ·have hy:scope.names.lookup y=some .cell∨scope.names.lookup y=some .free:=hy;rcases hy with hy | hy
  ·exact m8 hy
  ·exact absurd rfl (S.nofree _ (PySem.mem_of_lookup hy))
 ·exact Nat.le_of_lt (x.above y c (PySem.mem_of_lookup h))
 ·have hi:i < vs.length:=by
   unfold gi at h2
   by_cases hi:i < vs.length
   ·exact hi
   ·rw [List.getElem?_append_right (by simpa using hi)] at h2;rw [List.getElem?_replicate] at h2
    split at h2 <;> cases h2
  have ha:vs[i]?=some v:=by
   unfold gi at h2;rw [List.getElem?_append_left (by simpa using hi),List.getElem?_map] at h2
   cases e:vs[i]? with
   | none=>rw [e] at h2;cases h2
   | some a=>rw [e] at h2;cases h2;rfl
  obtain ⟨u,hu,rv⟩:=r.get ha;have hp:ps[i]?=some y:=by
   rw [← S.pre,List.getElem?_take_of_lt (by lia)];exact h1
  have ndP:ps.Nodup:=by rw [← S.pre];exact S.nd.sublist (List.take_sublist _ _)
  refine ⟨u,rv,?_⟩;rcases S.par y (List.mem_of_getElem? hp) with k | k
  ·exact .inl ⟨k,kA ndP hp hu k⟩
  ·obtain ⟨c,e⟩:=m8 (n:=s.heap.objs.size+1) k;refine .inr ⟨.inl k,c,e,?_⟩;have q:=x.cell y c e;rw [kB ndP hp hu (by show scope.names.lookup y≠_;rw [k];decide)] at q;exact q
 ·exact e0.hok.fresh (Nat.le_of_lt (x.above y c (PySem.mem_of_lookup h)))
 ·unfold gi;show _=N.length;rw [List.length_append,List.length_map,List.length_replicate];lia
theorem wf {CX:CXT} {P:Program} {w:World} {K:PySem.W.Frag} {mg:Str→Option Value} {base:Heap} {k:Nat} {f:Addr} {name qual:Str} {params:Arguments} {body:List Stmt} {scope:Scope} {dV kV doc pm cdv ct oc:Value} {an od:Option Addr}
  {osl:Array (Option Value)} {N ps:List Str} {sp:Sp} (lk:K.lookup f=some ⟨oc,od,.func (PySem.W.fnOf name qual params body scope dV kV doc pm an cdv ct),osl⟩) (hcd:PySem.W.codeIn K cdv qual=true) (S:FnScope N ps scope)
  (len:∀ vs H Q E,sp vs H Q E→vs.length=ps.length)
  (hbody:∀ (A:Around) (outer:List Env) (s:Shared) (H:Hp) (vs:List V) (Q:VK) (E:XK),Room k (A.deeper (envOfC qual scope s.heap.objs.size f cdv))→sp vs H Q E →
   ∃ t,PSs (m7 CX P w K mg base N qual scope f cdv A outer s H E) body t∧t { nx:=fun _ H'=>Q .non H',rt:=Q } (gi N vs) H) :
  FnOk P w K mg base CX (k+1) f (PySem.W.fnOf name qual params body scope dV kV doc pm an cdv ct) ps sp:=by
 refine ⟨len,fun A outer s H args us vs Q E hr e0 hb r hsp=>?_⟩;have hl:=len _ _ _ _ hsp;have KX:K.In s.heap:=e0.mod.kin.keeps fun b o e=>(e0.bs b o e).1;have lim:s.heap.NoLimit:=e0.mod.nolimit.keeps fun b o e=>(e0.bs b o e).1;have hkind:∀ y∈ps.zip us,scope.names.lookup y.1=some .local∨(scope.names.lookup y.1=some .cell∧((cellsFrom (s.heap.objs.size+1) scope.names []).lookup y.1).isSome=true):=fun ⟨n,v⟩ hy=>by
  rcases S.par n (List.of_mem_zip hy).1 with q | q
  ·exact .inl q
  ·exact .inr ⟨q,PySem.W.cellsFrom_some _ _ _ (.inl q)⟩
 refine codeAny_call_function hr.depth (KX _ _ lk) rfl S.co S.gen rfl (PySem.W.codeRec_of KX hcd) (hb _ _ _ _ ?_);refine wpAny_newFunctionEnv_cells S.kind hkind fun env he s1 x=>?_;subst he;refine ⟨lim.keeps x.toInCall.keep,codeAny_func ?_⟩;obtain ⟨t,ht,hq⟩:=hbody A outer s H vs Q E (hr.deeper _) hsp;have I:Inv (m7 CX P w K mg base N qual scope f cdv A outer s H E) [] (gi N vs) H s1:=rj S hr.hd e0 hl r x;refine wpAny_mono (ht [] s1 (gi N vs) H _ I hq) (fun fl s' hs=>?_) fun e s' hs=>hs;have fin:∀ {σ':St} {H':Hp} {v:V} {u:Value},Inv (m7 CX P w K mg base N qual scope f cdv A outer s H E) [] σ' H' s'→RelV v u→Q v H'→CE outer P w H s Q u s' :=
  fun {σ' H' v u} J rv q=>⟨v,H',J.os,J.bare,J.base,J.hok,rv,q⟩
 cases fl with
 | ret u =>
  obtain ⟨v,σ',H',J,rv,q⟩:=hs;exact fin J rv q
 | next =>
  obtain ⟨σ',H',J,q⟩:=hs;exact fin (v:=V.non) (u:=Value.none) J rfl q
 | brk =>
  obtain ⟨_,_,_,q⟩:=hs;exact False.elim q
 | cont =>
  obtain ⟨_,_,_,q⟩:=hs;exact False.elim q
section
variable {X:Cx} {x:Str} {p pos:Pos} {e:Expr} {es:List Expr} {t:TA} {id T:String} {r:List V→Hp→VK→Prop}
def tCB (r:List V→Hp→VK→Prop) (t:TA):TE:=fun σ H Q=>t σ H fun vs H1=>r vs H1 Q
theorem pe_callB (hc:aZ X (.builtin id) r) (hg:Gl X x) (hm:X.mg x=none) (hv:bootBuiltins x=some (.builtin id)) (ha:PA X (e :: es) t) (hn:x≠ "__name__" :=by decide) (hdb:(x == ("__debug__" : Str))=false:=by decide)
  (he:starEach (e :: es) X.env=(false,eval e X.env) :: starEach es X.env:=by rfl) (hpl:(backTo pos (starEach es X.env)).any (·.1)=false:=by rfl):PE X (.Call (.Name x p) (e :: es) [] pos) (tCB r t):=by
 intro pins s σ H Q I h;refine wpAny_Call_Name_kw (gP I hg hm hv ?_ hn hdb);exact PyProof.Rows.callWith_builtin1 (thn (ha pos pins s σ H _ I h) fun us s1 ⟨vs,H1,I1,r1,q1⟩=>hc pins s1 σ H1 vs us Q I1 r1 q1) he hpl
theorem pe_callTy (hc:aZ X (.type T) r) (hg:Gl X x) (hm:X.mg x=none) (hv:bootBuiltins x=some (.type T)) (ha:PA X (e :: es) t) (hn:x≠ "__name__" :=by decide) (hdb:(x == ("__debug__" : Str))=false:=by decide)
  (he:starEach (e :: es) X.env=(false,eval e X.env) :: starEach es X.env:=by rfl) (hpl:(backTo pos (starEach es X.env)).any (·.1)=false:=by rfl):PE X (.Call (.Name x p) (e :: es) [] pos) (tCB r t):=by
 intro pins s σ H Q I h;refine wpAny_Call_Name_kw (gP I hg hm hv ?_ hn hdb);exact PyProof.Rows.callWith_type1 (thn (ha pos pins s σ H _ I h) fun us s1 ⟨vs,H1,I1,r1,q1⟩=>hc pins s1 σ H1 vs us Q I1 r1 q1) he hpl
end
end L2
namespace HT
open PySem PyProof.Rows
section
open PySem.SeqAt
open PySem.AutoSeq1 (wpAny_loadPart')
open PySem.MeetsSeq PySem.MeetsSeq2 PySem.MeetsSeq3
end
section
variable {prog:Program} {w:World} {A:Around} {E:Value→Shared→Prop} {s:Shared}
theorem cat_tup {t b:Addr} {vs ws:List Value} {Q:Value→Shared→Prop} (ht:IsTup s.heap t vs.toArray) (hb:IsTup s.heap b ws.toArray) (hv:vs≠[])
  (h1:ws=[]→Q (.ref t) s) (h2:ws≠[]→Q (.ref s.heap.objs.size) { s with heap:=s.heap.push { cls:=.type "tuple",data:=.seq (vs++ws).toArray } })
  (hsz:vs.length+ws.length≤sizeLine):wpAny (model prog w) A (binaryOp .Add (.ref t) (.ref b)) Q E s:=by
 obtain ⟨⟨cls,dd,data,sl⟩,ho,hc,n,hd⟩:=id ht;obtain ⟨⟨cls2,dd2,data2,sl2⟩,ho2,hc2,n2,hd2⟩:=id hb;simp only at hc hd hc2 hd2;subst hc hd hc2 hd2;have e:vs.toArray++ws.toArray=(vs++ws).toArray:=by simp
 by_cases hw:ws=[]
 ·exact concat_meets ⟨_,ho,rfl⟩ ⟨_,ho2,rfl⟩ noFill_tuple_add seq_tuple_add PySem.F.slot_tuple_add PySem.F.entry_tuple_add (PySem.F.args_tuple_add_2 _ _)
   (tuple_addW1 t b vs.toArray ws.toArray n n2 dd dd2 sl sl2 (by simpa using hv) (by simp [hw])) ⟨ho,ho2,h1 hw⟩
 ·refine concat_meets ⟨_,ho,rfl⟩ ⟨_,ho2,rfl⟩ noFill_tuple_add seq_tuple_add PySem.F.slot_tuple_add PySem.F.entry_tuple_add (PySem.F.args_tuple_add_2 _ _)
   (tuple_addW2 t b vs.toArray ws.toArray n n2 dd dd2 sl sl2 (by simpa using hv) (by simpa using hw) (by rw [List.size_toArray,List.size_toArray];exact hsz)) ⟨ho,ho2,?_⟩
  rw [e];exact h2 hw
def sIx (n d:Nat):Option Int→Nat
 | none=>d
 | some v=>if v < 0 then (v+(n:Int)).toNat else min v.toNat n
theorem sIx_nat (n d k:Nat):sIx n d (some (k:Int))=min k n:=by
 show (if (k:Int) < 0 then ((k:Int)+(n:Int)).toNat else min (k:Int).toNat n)=min k n;rw [if_neg (by lia),Int.toNat_natCast]
theorem z6 (n d:Nat) (hd:d≤n) (o:Option Int):sIx n d o≤n:=by
 cases o with
 | none=>exact hd
 | some v =>
  show (if v < 0 then (v+(n:Int)).toNat else min v.toNat n)≤n
  by_cases hv:v < 0
  ·rw [if_pos hv];lia
  ·rw [if_neg hv];exact Nat.min_le_right _ _
theorem qq (v:Int) (n d:Nat):(if v < 0 then max (v+(n:Int)) 0 else min v (n:Int))=((sIx n d (some v):Nat):Int):=by
 show (if v < 0 then max (v+(n:Int)) 0 else min v (n:Int))=(((if v < 0 then (v+(n:Int)).toNat else min v.toNat n):Nat):Int)
 by_cases hv:v < 0
 ·simp only [if_pos hv];lia
 ·simp only [if_neg hv];lia
theorem pd (lo hi:Option Int) (n:Nat):Builtin.Slice.sliceAdjust lo hi 1 (n:Int)=(((sIx n 0 lo:Nat):Int),((sIx n n hi:Nat):Int)):=by
 have h1:¬ ((1:Int) < 0):=by lia
 unfold Builtin.Slice.sliceAdjust;simp only [h1,if_false];refine Prod.ext ?_ ?_
 ·cases lo with
  | none=>rfl
  | some v=>exact qq v n 0
 ·cases hi with
  | none=>rfl
  | some v=>exact qq v n n
theorem pe (i j:Nat):Builtin.Slice.slicePlaces (i:Int) (j:Int) 1=j - i:=by
 unfold Builtin.Slice.slicePlaces;have h1:(1:Int) > 0:=by lia
 simp only [h1,if_true,Int.ediv_one]
 split <;> lia
theorem i7 {v:Value} {o:Option Int} {Q:Option Int→Shared→Prop} (p:IsPart v o) (h:Q o s):wpAny (model prog w) A (Builtin.Slice.slicePartIndex v) Q E s:=by
 cases p with
 | none=>exact slicePart_none h
 | int i t=>exact slicePart_int h
theorem dr {sl:Addr} {vl vu:Value} {lo hi:Option Int} {n:Nat} {Q:Int×Int×Nat→Shared→Prop} (hs:s.heap.IsSliceOf sl vl vu .none) (pl:IsPart vl lo) (pu:IsPart vu hi)
  (h:Q (((sIx n 0 lo:Nat):Int),1,sIx n n hi - sIx n 0 lo) s):wpAny (model prog w) A (Builtin.Slice.sliceApplied (.ref sl) (pure (n:Int))) Q E s:=by
 obtain ⟨os,hos,hcs,hds⟩:=id hs;unfold Builtin.Slice.sliceApplied Builtin.Slice.sliceFields;refine wpAny_bind (wpAny_bind (wpAny_field hos hds (x:=vl) rfl (wpAny_bind (wpAny_field hos hds (x:=vu) rfl (wpAny_bind (wpAny_field hos hds (x:=.none) rfl (wpAny_pure ?_)))))));refine wpAny_bind (slicePart_none ?_);show wpAny _ _ (if ((1:Int) == 0)=true then _ else _) _ _ s;rw [if_neg (by decide)];refine wpAny_bind (i7 pl (wpAny_bind (i7 pu (wpAny_bind (wpAny_pure ?_)))));show wpAny _ _ (match Builtin.Slice.sliceAdjust lo hi 1 (n:Int) with | (lo,hi)=>pure (lo,(1:Int),Builtin.Slice.slicePlaces lo hi 1)) _ _ s;rw [pd lo hi n];show wpAny _ _ (pure (((sIx n 0 lo:Nat):Int),(1:Int),Builtin.Slice.slicePlaces ((sIx n 0 lo:Nat):Int) ((sIx n n hi:Nat):Int) 1)) _ _ s;rw [pe];exact wpAny_pure h
theorem sT (xs:Array Value) (i k:Nat):((List.range k).filterMap fun (m:Nat)=>xs[((i:Int)+(m:Int)*1).toNat]?).toArray=((xs.toList.drop i).take k).toArray:=by
 have e:(fun (m:Nat)=>xs[((i:Int)+(m:Int)*1).toNat]?)=fun m=>xs[i+m]?:=by
  funext m
  have:((i:Int)+(m:Int)*1).toNat=i+m:=by lia
  rw [this]
 rw [e];have:=pick_run xs i k;rw [List.filterMap_map] at this;have e2:((fun x=>xs[x]?) ∘ fun x=>i+x)=fun m=>xs[i+m]?:=rfl;rw [e2] at this;rw [this]
theorem getItem_tuple_cut {t sl:Addr} {items:Array Value} {vl vu:Value} {lo hi:Option Int} {Q:Value→Shared→Prop} (ht:IsTup s.heap t items) (hs:s.heap.IsSliceOf sl vl vu .none) (pl:IsPart vl lo) (pu:IsPart vu hi)
  (hw:¬ (sIx items.size 0 lo=0∧sIx items.size items.size hi=items.size))
  (h:Q (.ref s.heap.objs.size) { s with heap:=s.heap.push { cls:=.type "tuple",data:=.seq ((items.toList.drop (sIx items.size 0 lo)).take (sIx items.size items.size hi - sIx items.size 0 lo)).toArray } })
  (hsz:items.size≤sizeLine):wpAny (model prog w) A (getItem (.ref t) (.ref sl)) Q E s:=by
 have htake:sizeOk (.seq ((items.toList.drop (sIx items.size 0 lo)).take (sIx items.size items.size hi - sIx items.size 0 lo)).toArray):=by
  show ((items.toList.drop (sIx items.size 0 lo)).take (sIx items.size items.size hi - sIx items.size 0 lo)).toArray.size≤sizeLine;rw [List.size_toArray,List.length_take,List.length_drop,Array.length_toList];lia
 have hj:sIx items.size items.size hi≤items.size:=z6 _ _ (Nat.le_refl _) hi;obtain ⟨os,hos,hcs,hds⟩:=id hs;have hTs:s.TypeIs (.ref sl) "slice" :=⟨os,hos,hcs⟩;unfold getItem
 try with_reducible refine wpAny_holding ?_
 first | refine wpAny_bind (wpAny_pure ?_) | skip
 refine wpAny_bind (wpAny_sequenceKey ht.typeIs (by decide) ?_);refine wpAny_bind (wpAny_callSpecial?_slot (name:=Str.ofString "__getitem__") ht.typeIs PyProof.Rows.slot_tuple_getitem
  (wpAny_call_entry PyProof.Rows.slot_tuple_getitem ht.typeIs entry_tuple_getitem ?_ (args_tuple_getitem _ _)))
 show wpAny _ _ (Builtin.Tuple.tupleItemsOf (.ref t) >>= _) _ _ s;refine wpAny_bind (tupleItemsOf_ ht ?_);refine wpAny_bind (wpAny_typeOf hTs ?_);rw [if_pos (by decide)];refine wpAny_bind (dr hs pl pu ?_);have hno:¬ ((((sIx items.size 0 lo:Nat):Int) == 0 && (1:Int) == 1 && (sIx items.size items.size hi - sIx items.size 0 lo) == items.size)=true):=by
  intro q;rw [Bool.and_eq_true,Bool.and_eq_true] at q;have q1:((sIx items.size 0 lo:Nat):Int)=0:=eq_of_beq q.1.1;have q2:sIx items.size items.size hi - sIx items.size 0 lo=items.size:=eq_of_beq q.2;exact hw ⟨by lia,by lia⟩
 show wpAny _ _ (if (((sIx items.size 0 lo:Nat):Int) == 0 && (1:Int) == 1 && (sIx items.size items.size hi - sIx items.size 0 lo) == items.size)=true then _ else _) _ _ s;rw [if_neg hno,sT]
 first
  | exact wpAny_bind (m:=Builtin.Tuple.tupleExact _) (wpAny_newObj_type (wpAny_pure ⟨_,rfl,wpAny_pure h⟩) htake)
  | exact wpAny_bind (m:=Builtin.Tuple.tupleExact _) (wpAny_newObj_type (wpAny_bind (wpAny_pure (wpAny_pure ⟨_,rfl,wpAny_pure h⟩))) htake)
  | exact wpAny_bind (wpAny_bind (m:=Builtin.Tuple.tupleExact _) (wpAny_newObj_type (wpAny_pure (wpAny_pure ⟨_,rfl,wpAny_pure h⟩)) htake))
  | exact wpAny_bind (wpAny_bind (m:=Builtin.Tuple.tupleExact _) (wpAny_newObj_type (wpAny_pure ⟨_,rfl,wpAny_pure h⟩) htake))
end
end HT
namespace L2
open PySem PySem.Spec PyProof.Rows
abbrev TO:=St→Hp→(Option Int→Hp→Prop)→Prop
def PO (X:Cx) (e:Option Expr) (t:TO):Prop :=
 ∀ (pins:List (Addr×Obj)) (s:Shared) (σ:St) (H:Hp) (Q:Option Int→Hp→Prop),Inv X pins σ H s→t σ H Q →
  wpAny (model X.prog X.w) X.A (evalPart e X.env) (fun u s'=>∃ o H',Inv X pins σ H' s'∧IsPart u o∧Q o H') X.xe s
def vb:TO:=fun _ H Q=>Q none H
inductive IPrt (x:V) (H1:Hp) (Q:Option Int→Hp→Prop):Prop
 | mk (i:Int):(x=.int i)→(Q (some i) H1)→IPrt x H1 Q
def FZ (t:TE):TO:=fun σ H Q=>t σ H fun x H1=>IPrt x H1 Q
section
variable {X:Cx} {e:Expr} {te:TE} {lo hi:Option Expr} {tl th:TO} {pos p2:Pos}
theorem cw:PO X none vb:=by
 intro pins s σ H Q I h;rw [evalPart_none];exact wpAny_pure ⟨none,H,I,.none,h⟩
theorem po_some (h:PE X e te):PO X (some e) (FZ te):=by
 intro pins s σ H Q I hw;rw [evalPart_some];refine thn (h pins s σ H _ I hw) fun u s1 ⟨x,H1,I1,r1,q1⟩=>?_;obtain ⟨i,rfl,q⟩:=q1;obtain ⟨t,rfl⟩:=r1;exact ⟨some i,H1,I1,.int i t,q⟩
def SlR (X:Cx) (r:V→Option Int→Option Int→Hp→VK→Prop):Prop :=
 ∀ (pins:List (Addr×Obj)) (s:Shared) (σ:St) (H:Hp) (x:V) (v vl vu:Value) (lo hi:Option Int) (sl:Addr) (Q:VK),Inv X pins σ H s→RelV x v→s.heap.IsSliceOf sl vl vu .none→IsPart vl lo→IsPart vu hi→r x lo hi H Q →
  ∃ T id,typeLookup (.type T) "__getitem__" = pure (some (.builtin id))∧s.TypeIs v T∧wpAny (model X.prog X.w) X.A (getItem v (.ref sl)) (EP X pins σ Q) X.xe s
def tSl (r:V→Option Int→Option Int→Hp→VK→Prop) (te:TE) (tl th:TO):TE:=fun σ H Q=>te σ H fun x H1=>tl σ H1 fun l H2=>th σ H2 fun u H3=>r x l u H3 Q
theorem pe_slice {r:V→Option Int→Option Int→Hp→VK→Prop} (hr:SlR X r) (he:PE X e te) (hl:PO X lo tl) (hu:PO X hi th):PE X (.Subscript e (.Slice lo hi none p2) pos) (tSl r te tl th):=by
 intro pins s σ H Q I h;refine Subscript_ (thn (he pins s σ H _ I h) fun v s1 ⟨x,H1,I1,r1,q1⟩=>?_);refine wpAny_Slice (thn (hl pins s1 σ H1 _ I1 q1) fun vl s2 ⟨l,H2,I2,pl,q2⟩=>thn (hu pins s2 σ H2 _ I2 q2) fun vu s3 ⟨u,H3,I3,pu,q3⟩=>?_);rw [evalPart_none];refine wpAny_pure ?_;have I4:Inv X pins σ H3 { s3 with heap:=s3.heap.push { cls:=.type "slice",data:=.fields #[vl,vu,.none] } }:=I3.kept (t':=s3.toks) fun b ob q=>Heap.get?_push_of_some _ q;obtain ⟨T,id,hT,ht,hg⟩:=hr pins { s3 with heap:=s3.heap.push { cls:=.type "slice",data:=.fields #[vl,vu,.none] } } σ H3 x v vl vu l u s3.heap.objs.size Q I4 r1 (Heap.IsSliceOf.new ..) pl pu q3;show wpAny (model X.prog X.w) X.A (subscriptTail e (.Slice lo hi none p2) v (.ref s3.heap.objs.size)) (EP X pins σ Q) X.xe { s3 with heap:=s3.heap.push { cls:=.type "slice",data:=.fields #[vl,vu,.none] } };exact tail_any (ops:=[.ref s3.heap.objs.size,v]) ht hT hg (by with_unfolding_all rfl)
def i8 (xs:List V) (lo hi:Option Int):List V:=(xs.drop (HT.sIx xs.length 0 lo)).take (HT.sIx xs.length xs.length hi - HT.sIx xs.length 0 lo)
theorem iy (xs:List V) (lo hi:Option Int):(i8 xs lo hi).length≤xs.length:=by
 unfold i8;rw [List.length_take,List.length_drop];lia
theorem Vals.nil_iff {xs:List V} {us:List Value} (r:Vals xs us):us=[]↔xs=[]:=by
 cases r with
 | nil=>simp
 | cons _ _=>simp
end
def ixN (n:Nat) (i:Int):Option Nat:=if 0≤i then (if i < n then some i.toNat else none) else if -(n:Int)≤i then some (i+n).toNat else none
def atI {α:Type} (xs:List α) (i:Int):Option α:=(ixN xs.length i).bind fun j=>xs[j]?
theorem iV {n:Nat} {i:Int} {j:Nat} (h:ixN n i=some j):seqIndex? i n=some j∧j < n∧-(n:Int)≤i∧i < n:=by
 unfold ixN at h
 by_cases h0:0≤i
 ·rw [if_pos h0] at h
  by_cases h1:i < n
  ·rw [if_pos h1] at h;have e:i.toNat=j:=Option.some.inj h;exact ⟨by rw [seqIndex_of h0 h1,e],by lia,by lia,h1⟩
  ·rw [if_neg h1] at h;cases h
 ·rw [if_neg h0] at h
  by_cases h1:-(n:Int)≤i
  ·rw [if_pos h1] at h;have e:(i+n).toNat=j:=Option.some.inj h;exact ⟨by rw [seqIndex_neg (by lia) h1,e],by lia,h1,by lia⟩
  ·rw [if_neg h1] at h;cases h
theorem gj {α:Type} {xs:List α} {i:Int} {v:α} (h:atI xs i=some v):∃ j,seqIndex? i xs.length=some j∧xs[j]?=some v∧j < xs.length∧-(xs.length:Int)≤i∧i < xs.length:=by
 unfold atI at h
 cases e:ixN xs.length i with
 | none=>rw [e] at h;cases h
 | some j =>
  rw [e] at h;obtain ⟨h1,h2,h3,h4⟩:=iV e;exact ⟨j,h1,h,h2,h3,h4⟩
theorem fm {α:Type} {xs:List α} {j:Nat} {v:α} (h:xs[j]?=some v):atI xs (j:Int)=some v:=by
 have hj:j < xs.length:=(List.getElem?_eq_some_iff.mp h).1;have e:ixN xs.length (j:Int)=some j:=by
  unfold ixN;rw [if_pos (by lia),if_pos (by lia)];simp
 unfold atI;rw [e];exact h
def vc (b:Expr):Prop:=∀ o i,subscripted b false o i=operate [o,i] (getItem o i)
def IxR (X:Cx) (r:R2):Prop :=
 ∀ (value slice:Expr) (pins:List (Addr×Obj)) (s:Shared) (σ:St) (H:Hp) (x y:V) (v u:Value) (Q:VK),Inv X pins σ H s→RelV x v→RelV y u→r x y H Q →
  subscripted slice false v u=operate [v,u] (getItem v u)→wpAny (model X.prog X.w) X.A (subscriptTail value slice v u) (EP X pins σ Q) X.xe s
def MtR (X:Cx) (id:String) (r:V→List V→Hp→VK→Prop):Prop :=
 ∀ (pins:List (Addr×Obj)) (s:Shared) (σ:St) (H:Hp) (x:V) (xs:List V) (v:Value) (us:List Value) (Q:VK),Inv X pins σ H s→RelV x v→Vals xs us→r x xs H Q →
  wpAny (model X.prog X.w) X.A (call (.builtin id) (v :: us)) (EP X pins σ Q) X.xe s
section
variable {X:Cx} {a b:Expr} {ta tb:TE} {pos:Pos}
theorem pe_ix {r:R2} (hr:IxR X r) (ha:PE X a ta) (hb:PE X b tb) (hs:vc b):PE X (.Subscript a b pos) (tOp r ta tb):=by
 intro pins s σ H Q I h;exact Subscript_ (zZ ha hb I h fun v u s2 x y H2 I2 rx ry q=>hr a b pins s2 σ H2 x y v u Q I2 rx ry q (hs _ _))
inductive IIxL (K:PySem.W.Frag) (x y:V) (H:Hp) (Q:VK):Prop
 | mk (p:Addr) (xs:List V) (i:Int) (v:V):(x=.ref p)→(y=.int i)→(SqL K H p xs)→(atI xs i=some v)→(Q v H)→IIxL K x y H Q
def F3 (K:PySem.W.Frag):R2:=fun x y H Q=>IIxL K x y H Q
def G6 (K:PySem.W.Frag):R2:=fun x y H Q=>∃ p xs i v,x=.ref p∧y=.int i∧SqT K H p xs∧atI xs i=some v∧Q v H
def G7:R2:=fun x y H Q=>∃ z i c,x=.str z∧y=.int i∧z.length≤sizeLine∧atI z.cps.toList i=some c∧Q (.str ⟨#[c]⟩) H
theorem vd:IxR X (F3 X.K):=by
 intro value slice pins s σ H x y v u Q I rx ry h hs;obtain ⟨p,xs,i,z,rfl,rfl,hq,he,q⟩:=h
 cases rx
 obtain ⟨t,rfl⟩:=ry;obtain ⟨its,r,pl,hz⟩:=I.list hq;obtain ⟨j,h1,h2,h3,h4,h5⟩:=gj he;obtain ⟨w,ew,rw'⟩:=r.get h2;have hl:=r.length;have hn:=gR;have fin:EP X pins σ Q w s:=⟨z,H,I,rw',q⟩
 by_cases h0:0≤i
 ·have hj:i.toNat=j:=by
   rw [seqIndex_of h0 h5] at h1;exact Option.some.inj h1
  exact item_listR pl.isList h0 (by lia) (by rw [hj];simpa using ew) fin hs
 ·have hj:(i+(its.toArray.size:Int)).toNat=j:=by
   rw [seqIndex_neg (by lia) h4] at h1;rw [List.size_toArray,← hl];exact Option.some.inj h1
  exact subscriptTail_builtinR (x:=w) pl.isList.typeIs slot_list_getitem.lookup
   (wpAny_getItem_list_neg (Q:=fun r s'=>r=w∧EP X pins σ Q r s') pl.isList (by lia) (by rw [List.size_toArray] <;> lia) (by lia) (by rw [hj];simpa using ew) ⟨rfl,fin⟩) hs
theorem sU:IxR X (G6 X.K):=by
 intro value slice pins s σ H x y v u Q I rx ry h hs;obtain ⟨p,xs,i,z,rfl,rfl,hq,he,q⟩:=h
 cases rx
 obtain ⟨t,rfl⟩:=ry;obtain ⟨its,r,pl,hz⟩:=I.tuple hq;obtain ⟨j,h1,h2,h3,h4,h5⟩:=gj he;obtain ⟨w,ew,rw'⟩:=r.get h2;have hl:=r.length;have hn:=gR;have fin:EP X pins σ Q w s:=⟨z,H,I,rw',q⟩;exact subscriptTail_builtinR (x:=w) pl.typeIs slot_tuple_getitem.lookup
  (getItem_tuple (j:=j) (Q:=fun r s'=>r=w∧EP X pins σ Q r s') pl (by lia) (by lia) (by rw [List.size_toArray,← hl];exact h1) (by simpa using ew) ⟨rfl,fin⟩) hs
theorem ix_str:IxR X G7:=by
 intro value slice pins s σ H x y v u Q I rx ry h hs;obtain ⟨z,i,c,rfl,rfl,hz,he,q⟩:=h;obtain ⟨t,rfl⟩:=rx;obtain ⟨t',rfl⟩:=ry;obtain ⟨j,h1,h2,h3,h4,h5⟩:=gj he;have hl:z.cps.toList.length=z.length:=by simp [Str.length]
 rw [hl] at h1 h4 h5;have hn:=gR;exact tail_any (typeIs_str s z t) slot_str_getitem.lookup (getItem_str (c:=c) (by
  have e1:decide (i < -(2 ^ 63:Int))=false:=decide_eq_false (by lia);have e2:decide (i≥2 ^ 63)=false:=decide_eq_false (by lia);rw [e1,e2,Bool.or_false]) (by rw [h1];simpa using h2) ⟨.str ⟨#[c]⟩,H,I.tok _,⟨_,rfl⟩,q⟩) hs
theorem ph (its:List Value) (n j:Nat) (u:Value):Obj.mapSeq (·.setIfInBounds j u) { cls:=.type "list",data:=.seq its.toArray n }={ cls:=.type "list",data:=.seq (its.set j u).toArray n }:=by
 simp [Obj.mapSeq]
theorem Inv.lst {pins:List (Addr×Obj)} {σ:St} {H:Hp} {s:Shared} {p:Addr} {xs:List V} (I:Inv X pins σ H s) (h:H p=some (.lst xs)) :
  ∃ (its:List Value) (n:Nat),Vals xs its∧s.heap.get? p=some { cls:=.type "list",data:=.seq its.toArray n }∧xs.length≤sizeLine:=by
 obtain ⟨z,its,n,r,e⟩:=I.hok p _ h;exact ⟨its,n,r,e,z⟩
theorem Inv.lstUpd {pins:List (Addr×Obj)} {σ:St} {H:Hp} {s:Shared} {p:Addr} {xs ys:List V} {its its':List Value} {n n':Nat} {f:Obj→Obj} (I:Inv X pins σ H s) (h:H p=some (.lst xs))
  (ho:s.heap.get? p=some { cls:=.type "list",data:=.seq its.toArray n }) (hf:f { cls:=.type "list",data:=.seq its.toArray n }={ cls:=.type "list",data:=.seq its'.toArray n' }) (r:Vals ys its') (hz:ys.length≤sizeLine) (t:Nat) :
  Inv X pins σ (upd H p (.lst ys)) { s with heap:=s.heap.update p f,toks:=t }:=by
 have e:(s.heap.update p f).get? p=some { cls:=.type "list",data:=.seq its'.toArray n' }:=by
  rw [Heap.get?_update_self f ho (by rw [hf] <;> rfl),hf]
 refine I.write (x:=p) (e:=p) (by rw [h];trivial) (.inl rfl) (fun b u hb q=>(Heap.get?_update_other _ _ (Ne.symm hb)).trans q) ⟨_,e⟩ ?_;exact ⟨hz,its',n',r,e⟩
inductive ISetL (o i v:V) (H:Hp) (Q:Hp→Prop):Prop
 | mk (p:Addr) (xs:List V) (k:Int) (j:Nat):(o=.ref p)→(i=.int k)→(H p=some (.lst xs))→(ixN xs.length k=some j)→(Q (upd H p (.lst (xs.set j v))))→ISetL o i v H Q
def F4:V→V→V→Hp→(Hp→Prop)→Prop:=fun o i v H Q=>ISetL o i v H Q
theorem m9:FO X F4:=by
 intro pins s σ H o i v ov iv u Q I ro ri rv h;obtain ⟨p,xs,k,j,rfl,rfl,hp,hj,q⟩:=h
 cases ro
 obtain ⟨t,rfl⟩:=ri;obtain ⟨its,n,r,ho,hz⟩:=I.lst hp;obtain ⟨h1,h2,h3,h4⟩:=iV hj;have hl:=r.length;have hn:=gR;have I':Inv X pins σ (upd H p (.lst (xs.set j v))) { s with heap:=s.heap.update p (Obj.mapSeq (·.setIfInBounds j u)) } :=
  I.lstUpd hp ho (ph its n j u) (r.set rv j) (by rw [List.length_set];exact hz) s.toks
 by_cases h0:0≤k
 ·have hk:k.toNat=j:=by
   rw [seqIndex_of h0 h4] at h1;exact Option.some.inj h1
  exact PySem.W.ki_setAt ho h0 (by lia) (by rw [List.size_toArray,← hl];exact h4) (by rw [hk];exact ⟨_,I',q⟩)
 ·have hk:(k+(its.toArray.size:Int)).toNat=j:=by
   rw [seqIndex_neg (by lia) h3] at h1;rw [List.size_toArray,← hl];exact Option.some.inj h1
  exact PySem.W.ki_setBack ho (by lia) (by rw [List.size_toArray,← hl];exact h3) (by lia) (by rw [hk];exact ⟨_,I',q⟩)
theorem lp (lo hi:Option Int) (n:Nat):(sliceBounds lo hi none n).1=((HT.sIx n 0 lo:Nat):Int)∧(sliceBounds lo hi none n).2.1=((HT.sIx n n hi:Nat):Int)∧(sliceBounds lo hi none n).2.2=1:=by
 refine ⟨?_,?_,rfl⟩
 ·cases lo with
  | none=>simp [sliceBounds,HT.sIx]
  | some i =>
   simp only [sliceBounds,HT.sIx,Option.getD_none,show (1:Int) > 0 by decide,if_true]
   by_cases h:i < 0
   ·simp only [h,if_true] <;> lia
   ·simp only [h,if_false] <;> lia
 ·cases hi with
  | none=>simp [sliceBounds,HT.sIx]
  | some i =>
   simp only [sliceBounds,HT.sIx,Option.getD_none,show (1:Int) > 0 by decide,if_true]
   by_cases h:i < 0
   ·simp only [h,if_true] <;> lia
   ·simp only [h,if_false] <;> lia
theorem jZ (its:List Value) (lo hi:Option Int):slicePick its.toArray lo hi none=((its.drop (HT.sIx its.length 0 lo)).take (HT.sIx its.length its.length hi - HT.sIx its.length 0 lo)).toArray:=by
 obtain ⟨h1,h2,h3⟩:=lp lo hi its.toArray.size;unfold slicePick;rw [h1,h2,h3];simp only [sliceRange_one,pick_run,List.size_toArray] <;> rfl
def F5 (K:PySem.W.Frag):V→Option Int→Option Int→Hp→VK→Prop:=fun x lo hi H Q=>∃ a xs,x=.ref a∧SqL K H a xs∧∀ p,H p=none→Q (.ref p) (upd H p (.lst (i8 xs lo hi)))
theorem ve:SlR X (F5 X.K):=by
 intro pins s σ H x v vl vu lo hi sl Q I rx hs pl pu h;obtain ⟨a,xs,rfl,hx,q⟩:=h
 cases rx
 obtain ⟨its,r,ht,hz⟩:=I.list hx;have hlen:=r.length;refine ⟨"list",_,slot_list_getitem.lookup,ht.isList.typeIs,?_⟩;refine wpAny_getItem_list_slice ht.isList hs pl pu .none (by simp) ?_ (by rw [List.size_toArray] <;> lia);rw [jZ,← hlen];refine ⟨.ref s.heap.objs.size,_,I.laid (t':=s.toks) (o:=.lst (i8 xs lo hi)) (fun b ob q=>Heap.get?_push_of_some _ q) (Nat.le_refl _) ?_,rfl,q _ (I.hok.fresh (Nat.le_refl _))⟩;exact ⟨Nat.le_trans (iy xs lo hi) hz,_,0,(r.drop (HT.sIx xs.length 0 lo)).take (HT.sIx xs.length xs.length hi - HT.sIx xs.length 0 lo),Heap.get?_push_size _ rfl⟩
def iz:V→Bool
 | .non=>true
 | .bl _=>true
 | .int _=>true
 | .str _=>true
 | _=>false
def eqV:V→V→Bool
 | .non,.non=>true
 | .bl a,.bl b=>a == b
 | .bl a,.int b=>(if a then 1 else 0) == b
 | .int a,.bl b=>a == (if b then 1 else 0)
 | .int a,.int b=>a == b
 | .str a,.str b=>a == b
 | _,_=>false
theorem z7 {A:Around} {s:Shared} {y x:V} {u v:Value} (ry:RelV y u) (rx:RelV x v) (fy:iz y=true) (fx:iz x=true):SeqAt.EqAt A s u v (eqV y x):=by
 cases y with
 | non =>
  cases ry
  cases x with
  | non=>cases rx;exact SeqAt.EqAt.same _
  | bl b=>cases rx;exact SeqAt.EqAt.none_bool b
  | int b=>obtain ⟨t,rfl⟩:=rx;exact SeqAt.EqAt.none_int b t
  | str b=>obtain ⟨t,rfl⟩:=rx;exact SeqAt.EqAt.none_str b t
  | _=>exact absurd (show false=true from fx) Bool.false_ne_true
 | bl a =>
  cases ry
  cases x with
  | non=>cases rx;exact SeqAt.EqAt.bool_none a
  | bl b=>cases rx;exact SeqAt.EqAt.bool_bool a b
  | int b=>obtain ⟨t,rfl⟩:=rx;exact SeqAt.EqAt.bool_int a b t
  | str b=>obtain ⟨t,rfl⟩:=rx;exact SeqAt.EqAt.bool_str a b t
  | _=>exact absurd (show false=true from fx) Bool.false_ne_true
 | int a =>
  obtain ⟨t',rfl⟩:=ry
  cases x with
  | non=>cases rx;exact SeqAt.EqAt.int_none a t'
  | bl b=>cases rx;exact SeqAt.EqAt.int_bool a t' b
  | int b=>obtain ⟨t,rfl⟩:=rx;exact SeqAt.EqAt.int_int a t' b t
  | str b=>obtain ⟨t,rfl⟩:=rx;exact SeqAt.EqAt.int_str a t' b t
  | _=>exact absurd (show false=true from fx) Bool.false_ne_true
 | str a =>
  obtain ⟨t',rfl⟩:=ry
  cases x with
  | non=>cases rx;exact SeqAt.EqAt.str_none a t'
  | bl b=>cases rx;exact SeqAt.EqAt.str_bool a t' b
  | int b=>obtain ⟨t,rfl⟩:=rx;exact SeqAt.EqAt.str_int a t' b t
  | str b=>obtain ⟨t,rfl⟩:=rx;exact SeqAt.EqAt.str_str a t' b t
  | _=>exact absurd (show false=true from fx) Bool.false_ne_true
 | _=>exact absurd (show false=true from fy) Bool.false_ne_true
def eqU (x:V) (u:Value):Bool:=match u with
 | .none=>eqV .non x
 | .bool b=>eqV (.bl b) x
 | .int i _=>eqV (.int i) x
 | .str z _=>eqV (.str z) x
 | _=>false
theorem sV {x y:V} {u:Value} (r:RelV y u) (f:iz y=true):eqU x u=eqV y x:=by
 cases y with
 | non=>cases r;rfl
 | bl b=>cases r;rfl
 | int i=>obtain ⟨t,rfl⟩:=r;rfl
 | str z=>obtain ⟨t,rfl⟩:=r;rfl
 | _=>exact absurd (show false=true from f) Bool.false_ne_true
theorem lq {x:V}:∀ {xs:List V} {us:List Value},Vals xs us→xs.all iz=true→us.any (eqU x)=xs.any fun y=>eqV y x
 | _,_,.nil,_=>rfl
 | y :: xs,u :: us,.cons r t,f=>by
  rw [List.all_cons,Bool.and_eq_true] at f;rw [List.any_cons,List.any_cons,sV r f.1,lq t f.2]
theorem i9 {A:Around} {s:Shared} {x:V} {v:Value} (rx:RelV x v) (fx:iz x=true):∀ {xs:List V} {us:List Value},Vals xs us→xs.all iz=true→∀ u∈us,SeqAt.EqAt A s u v (eqU x u)
 | _,_,.nil,_=>fun u hu=>by cases hu
 | y :: xs,u :: us,.cons r t,f=>fun u' hu=>by
  rw [List.all_cons,Bool.and_eq_true] at f;rcases List.mem_cons.mp hu with rfl | hu
  ·rw [sV r f.1];exact z7 r rx f.1 fx
  ·exact i9 rx fx t f.2 u' hu
def inV (x:V) (xs:List V):Bool:=xs.any fun y=>eqV y x
def rIn (K:PySem.W.Frag) (neg:Bool):R2:=fun x y H Q=>∃ p xs,y=.ref p∧(SqL K H p xs∨SqT K H p xs)∧iz x=true∧xs.all iz=true∧Q (.bl (if neg then !inV x xs else inV x xs)) H
theorem rm:OpR X (compareOp .In) (rIn X.K false):=by
 intro pins s σ H x y v u Q I rx ry h;obtain ⟨p,xs,rfl,hq,fx,fs,q⟩:=h
 cases ry
 rcases hq with hq | hq
 ·obtain ⟨its,r,pl,hz⟩:=I.list hq;refine SeqAt.in_listAt (eqU x) pl.isList (fun w hw=>i9 rx fx r fs w (by simpa using hw)) ⟨.bl _,H,I,rfl,?_⟩;rw [show its.toArray.any (eqU x)=its.any (eqU x) by simp,lq r fs];exact q
 ·obtain ⟨its,r,pl,hz⟩:=I.tuple hq;refine SeqAt.in_tupleAt (eqU x) pl (fun w hw=>i9 rx fx r fs w (by simpa using hw)) ⟨.bl _,H,I,rfl,?_⟩;rw [show its.toArray.any (eqU x)=its.any (eqU x) by simp,lq r fs];exact q
theorem gn:aZ X (.builtin "len") (fun xs H Q=>∃ p ys,xs=[.ref p]∧(SqL X.K H p ys∨SqT X.K H p ys)∧Q (.int ys.length) H):=by
 intro pins s σ H xs us Q I r h;obtain ⟨p,ys,rfl,hq,q⟩:=h;obtain ⟨u,rfl,rx⟩:=cr r
 cases rx
 have hn:=gR;rcases hq with hq | hq
 ·obtain ⟨its,r',pl,hz⟩:=I.list hq;have hlen:=r'.length;exact Calls.call_len_list pl.isList (by simp only [List.size_toArray] <;> lia) ⟨.int ys.length,H,I.tok _,⟨s.toks+1,by rw [List.size_toArray,hlen]⟩,q⟩
 ·obtain ⟨its,r',pl,hz⟩:=I.tuple hq;have hlen:=r'.length;exact len_tuple pl (by simp only [List.size_toArray] <;> lia) ⟨.int ys.length,H,I.tok _,⟨s.toks+1,by rw [List.size_toArray,hlen]⟩,q⟩
theorem call_len_str:aZ X (.builtin "len") (fun xs H Q=>∃ z,xs=[.str z]∧z.length≤sizeLine∧Q (.int z.length) H):=by
 intro pins s σ H xs us Q I r h;obtain ⟨z,rfl,hz,q⟩:=h;obtain ⟨u,rfl,t,rfl⟩:=cr r;have hn:=gR;exact len_str (by lia) ⟨.int z.length,H,I.tok _,⟨_,rfl⟩,q⟩
theorem ls:aZ X (.type "list") (fun xs H Q=>∃ p ys,xs=[.ref p]∧(SqL X.K H p ys∨SqT X.K H p ys)∧∀ l,H l=none→Q (.ref l) (upd H l (.lst ys))):=by
 intro pins s σ H xs us Q I r h;obtain ⟨p,ys,rfl,hq,q⟩:=h;obtain ⟨u,rfl,rx⟩:=cr r
 cases rx
 have fin:∀ (its:List Value),Vals ys its→ys.length≤sizeLine→∀ (h':Heap) (c':Nat),(∀ b o',s.heap.get? b=some o'→h'.get? b=some o') →
   h'.get? s.heap.objs.size=some { cls:=.type "list",dict:=none,data:=.seq its.toArray c',slots:=#[] }→EP X pins σ Q (.ref s.heap.objs.size) { s with heap:=h' }:=fun its r' hz h' c' kp e =>
  ⟨.ref s.heap.objs.size,_,I.laid (t':=s.toks) kp (Nat.le_refl _) (show ObjOk X.prog X.w _ h' _ (.lst ys) from ⟨hz,its,c',r',e⟩),rfl,q _ (I.hok.fresh (Nat.le_refl _))⟩
 rcases hq with hq | hq
 ·obtain ⟨its,r',pl,hz⟩:=I.list hq;have hlen:=r'.length;obtain ⟨o,ho,hc,n,hd⟩:=pl.isList;exact call_list_seq p (.inl rfl) ho hc hd (fun h' c' kp e=>fin its r' hz h' c' kp e) (by simp only [List.size_toArray] <;> lia)
 ·obtain ⟨its,r',pl,hz⟩:=I.tuple hq;have hlen:=r'.length;obtain ⟨o,ho,hc,n,hd⟩:=pl;exact call_list_seq p (.inr rfl) ho hc hd (fun h' c' kp e=>fin its r' hz h' c' kp e) (by simp only [List.size_toArray] <;> lia)
def tyV (K:PySem.W.Frag) (T:String) (x:V) (H:Hp):Prop:=match x with
 | .str _=>T= "str"
 | .int _=>T= "int"
 | .ref p=>(T= "list" ∧∃ xs,SqL K H p xs)∨(T= "tuple" ∧∃ o,K.lookup p=some o∧o.cls=.type "tuple" ∧o.dict=none) ∨
   (T= "dict" ∧((∃ kvs,H p=some (.dK kvs))∨∃ kvs,H p=some (.dT kvs)))∨(T= "set" ∧∃ S n,H p=some (.set S n))
 | _=>False
theorem sW {pins:List (Addr×Obj)} {σ:St} {H:Hp} {s:Shared} {T:String} {x:V} {v:Value} (I:Inv X pins σ H s) (r:RelV x v) (ty:tyV X.K T x H) :
  s.TypeIs v T∧∀ a,v=.ref a→∃ ob,s.heap.get? a=some ob∧ob.dict=none:=by
 cases x with
 | str z =>
  obtain ⟨t,rfl⟩:=r
  cases (show T= "str" from ty)
  exact ⟨typeIs_str s z t,fun _ e=>nomatch e⟩
 | int i =>
  obtain ⟨t,rfl⟩:=r
  cases (show T= "int" from ty)
  exact ⟨typeIs_int s i t,fun _ e=>nomatch e⟩
 | ref p =>
  cases r
  rcases ty with ⟨rfl,xs,hq⟩ | ⟨rfl,o,hk,hc,hd⟩ | ⟨rfl,hk⟩ | ⟨rfl,S,n,hk⟩
  ·obtain ⟨its,_,pl,_⟩:=I.list hq;refine ⟨pl.isList.typeIs,fun a e=>?_⟩
   cases e
   obtain ⟨o,n,e,c,hd,_⟩:=pl;exact ⟨o,e,hd⟩
  ·refine ⟨⟨o,I.kIn p o hk,hc⟩,fun a e=>?_⟩
   cases e
   exact ⟨o,I.kIn _ o hk,hd⟩
  ·have z:∃ o,s.heap.get? p=some o∧o.ExactDict:=by
    rcases hk with ⟨kvs,hk⟩ | ⟨kvs,hk⟩
    ·obtain ⟨_,_,_,_,o,_,_,e,ex,_⟩:=I.hok p _ hk;exact ⟨o,e,ex⟩
    ·obtain ⟨_,_,_,_,o,_,_,e,ex,_⟩:=I.hok p _ hk;exact ⟨o,e,ex⟩
   obtain ⟨o,e,ex⟩:=z;refine ⟨⟨o,e,ex.1⟩,fun a e2=>?_⟩
   cases e2
   exact ⟨o,e,ex.2.1⟩
  ·obtain ⟨o,_,_,_,e,ex,_⟩:=I.hok p _ hk;refine ⟨⟨o,e,ex.1⟩,fun a e2=>?_⟩
   cases e2
   exact ⟨o,e,ex.2.1⟩
 | _=>exact False.elim ty
def G8 (K:PySem.W.Frag) (T:String) (r:V→List V→Hp→VK→Prop) (to:TE):TE:=fun σ H Q=>to σ H fun x H1=>tyV K T x H1∧r x [] H1 Q
def tBM (K:PySem.W.Frag) (T:String) (r:V→List V→Hp→VK→Prop) (to:TE) (t:TA):TE:=fun σ H Q=>to σ H fun x H1=>tyV K T x H1∧t σ H1 fun xs H2=>r x xs H2 Q
variable {o e:Expr} {es:List Expr} {to:TE} {t:TA} {name:Str} {apos cpos:Pos} {T id:String} {r:V→List V→Hp→VK→Prop}
theorem z8 (pa:PlainAttrs T) (slot:Slot T name id) (hty:typeOf (.builtin id)=pure (.type "method_descriptor")) (hm:MtR X id r) (ho:PE X o to)
  (hbase:attributeBase o name X.env (eval o X.env)=eval o X.env:=by rfl) (hline:(apos.endLine == cpos.line)=true:=by rfl):PE X (.Call (.Attribute o name apos) [] [] cpos) (G8 X.K T r to):=by
 intro pins s σ H Q I h;refine wpAny_Call_method0_late hbase hline (thn (ho pins s σ H _ I h) fun v s1 ⟨x,H1,I1,r1,ty,q1⟩=>?_);obtain ⟨h1,h2⟩:=sW I1 r1 ty;exact ⟨T,id,pa,slot,hty,h1,h2,Calls.callWith_builtin rfl (PySem.evalArgs_none (hm pins s1 σ H1 x [] v [] Q I1 r1 .nil q1))⟩
theorem pe_bm (pa:PlainAttrs T) (slot:Slot T name id) (hty:typeOf (.builtin id)=pure (.type "method_descriptor")) (hm:MtR X id r) (ho:PE X o to) (ha:PA X (e :: es) t)
  (hbase:attributeBase o name X.env (eval o X.env)=eval o X.env:=by rfl)
  (hfew:((backTo cpos (starEach (e :: es) X.env)).all (fun x=>!x.1) && (backToKw cpos (keywordEach [] X.env)).all (fun x=>x.1.isSome)
   && decide ((e :: es).length+([]:List Keyword).length+(if ([]:List Keyword).isEmpty then 0 else 1) < 30))=true:=by rfl)
  (hline:(apos.endLine == cpos.line)=true:=by rfl) (hs:starEach (e :: es) X.env=(false,eval e X.env) :: starEach es X.env:=by rfl) (hplain:(backTo cpos (starEach es X.env)).any (·.1)=false:=by rfl) :
  PE X (.Call (.Attribute o name apos) (e :: es) [] cpos) (tBM X.K T r to t):=by
 intro pins s σ H Q I h;refine wpAny_Call_method_late hbase hfew hline rfl (thn (ho pins s σ H _ I h) fun v s1 ⟨x,H1,I1,r1,ty,q1⟩=>?_);obtain ⟨h1,h2⟩:=sW I1 r1 ty;refine ⟨T,id,pa,slot,hty,h1,h2,?_⟩;have hA:=ha cpos pins s1 σ H1 _ I1 q1;rw [hs] at hA ⊢;refine Calls.callWith_builtin (by show (false || (backTo cpos (starEach es X.env)).any (·.1))=false;rw [hplain] <;> rfl) (Calls.evalArgs_plain ?_);exact thn hA fun us s2 ⟨vs,H2,I2,r2,q2⟩=>hm pins s2 σ H2 x vs v us Q I2 r1 r2 q2
end
def MtM (X:Cx) (id:String) (r:V→List V→Hp→VK→Prop):Prop :=
 ∀ (pins:List (Addr×Obj)) (s:Shared) (σ:St) (H:Hp) (x:V) (xs:List V) (v:Value) (us:List Value) (Q:VK),Inv X pins σ H s→RelV x v→Vals xs us→r x xs H Q →
  wpAny (model X.prog X.w) X.A (call (.builtin id) (v :: us)) (EP X pins σ Q) X.xe s
theorem Vals.one:∀ {x:V} {us:List Value},Vals [x] us→∃ u,us=[u]∧RelV x u:=by
 intro x us h
 cases h with
 | cons r t =>
  cases t
  exact ⟨_,rfl,r⟩
theorem Vals.two:∀ {x y:V} {us:List Value},Vals [x,y] us→∃ u v,us=[u,v]∧RelV x u∧RelV y v:=by
 intro x y us h
 cases h with
 | cons r t =>
  cases t with
  | cons q t =>
   cases t
   exact ⟨_,_,rfl,r,q⟩
theorem Vals.zero:∀ {us:List Value},Vals [] us→us=[]
 | _,.nil=>rfl
theorem Vals.reverse {xs:List V} {us:List Value} (h:Vals xs us):Vals xs.reverse us.reverse:=by
 induction h with
 | nil=>exact .nil
 | cons r t ih=>rw [List.reverse_cons,List.reverse_cons];exact Vals.append ih (.cons r .nil)
section
variable {X:Cx} {pins:List (Addr×Obj)} {σ:St} {H:Hp} {s:Shared} {l b:Addr} {xs ys zs:List V}
theorem Inv.lset {its its':List Value} {n:Nat} {f:Array Value→Array Value} {t':Nat} (I:Inv X pins σ H s) (hH:H l=some (.lst xs))
  (e:s.heap.get? l=some { cls:=.type "list",data:=.seq its.toArray n }) (hf:f its.toArray=its'.toArray) (hv:Vals ys its') (hz:ys.length≤sizeLine) :
  Inv X pins σ (upd H l (.lst ys)) { s with heap:=s.heap.update l (Obj.mapSeq f),toks:=t' }:=by
 have q:=PySem.IsL.update e f;rw [hf] at q;refine I.write (x:=l) (e:=l) (by rw [hH];exact trivial) (.inl rfl) (fun b' u hb hu=>(Heap.get?_update_other s.heap (Obj.mapSeq f) (Ne.symm hb)).trans hu) ⟨_,q⟩ ?_;exact ⟨hz,its',_,hv,q⟩
theorem Inv.lnew {its:List Value} {t':Nat} (I:Inv X pins σ H s) (hv:Vals ys its) (hz:ys.length≤sizeLine) :
  Inv X pins σ (upd H s.heap.objs.size (.lst ys)) { s with heap:=s.heap.push { cls:=.type "list",data:=.seq its.toArray },toks:=t' } :=
 I.laid (fun _ _ q=>Heap.get?_push_of_some _ q) (Nat.le_refl _) ⟨hz,its,0,hv,Heap.get?_push_size _ rfl⟩
theorem Inv.fresh (I:Inv X pins σ H s):H s.heap.objs.size=none:=I.hok.fresh (Nat.le_refl _)
theorem Inv.lstM (I:Inv X pins σ H s) (hH:H l=some (.lst xs)):xs.length≤sizeLine∧∃ (its:List Value) (n:Nat),Vals xs its∧xs.length=its.length∧s.heap.get? l=some { cls:=.type "list",data:=.seq its.toArray n }:=by
 obtain ⟨z,its,n,r,e⟩:=I.hok l _ hH;exact ⟨z,its,n,r,r.length,e⟩
end
section
variable {X:Cx}
inductive IApp (x:V) (vs:List V) (H:Hp) (Q:VK):Prop
 | mk (l:Addr) (xs:List V) (y:V):(x=.ref l)→(vs=[y])→(H l=some (.lst xs))→(xs.length < sizeLine)→(Q .non (upd H l (.lst (xs++[y]))))→IApp x vs H Q
def vf:V→List V→Hp→VK→Prop:=fun x vs H Q=>IApp x vs H Q
theorem cA:MtM X "list.append" vf:=by
 intro pins s σ H x vs v us Q I rx rv h;obtain ⟨l,xs,y,rfl,rfl,hH,hz,q⟩:=h
 cases rx
 obtain ⟨u,rfl,ru⟩:=rv.one;obtain ⟨z,its,n,r,hl,e⟩:=I.lstM hH;refine call_meets F.slot_list_append ⟨_,e,rfl⟩ F.entry_list_append (F.args_list_append_2 _ _) (PySem.list_append l its.toArray n u (by rw [List.size_toArray];lia)) ⟨e,?_⟩;refine ⟨.non,_,I.lset (its':=its++[u]) hH e (by simp) (r.append (.cons ru .nil)) ?_,rfl,q⟩;rw [List.length_append,List.length_singleton];lia
def sX:V→List V→Hp→VK→Prop:=fun x vs H Q=>∃ l xs,x=.ref l∧vs=[]∧H l=some (.lst xs)∧Q .non (upd H l (.lst xs.reverse))
theorem pi:MtM X "list.reverse" sX:=by
 intro pins s σ H x vs v us Q I rx rv h;obtain ⟨l,xs,rfl,rfl,hH,q⟩:=h
 cases rx
 have hus:=rv.zero;subst hus;obtain ⟨z,its,n,r,hl,e⟩:=I.lstM hH;refine call_meets F.slot_list_reverse ⟨_,e,rfl⟩ F.entry_list_reverse (F.args_list_reverse_1 _) (AutoSeq1.list_reverse_list_0 l its.toArray n (by rw [List.size_toArray];lia)) ⟨e,?_⟩;refine ⟨.non,_,I.lset (its':=its.reverse) hH e (by simp) r.reverse ?_,rfl,q⟩;rw [List.length_reverse];lia
end
section
variable {prog:Program} {w:World} {A:Around} {E:Value→Shared→Prop} {s:Shared}
end
section
variable {X:Cx}
end
end L2
namespace Att
open PySem PySem.W PySem.Calls PyProof.Rows
theorem iH {P:Params} {h:Heap}:∀ (ns:List Int) (vs:List Value),WellAll P h vs (ns.map WData.int)→IntsAre vs ns:=by
 intro ns
 induction ns with
 | nil =>
  intro vs w;rw [List.map_nil] at w
  cases w
  exact .nil
 | cons n ns ih =>
  intro vs w;rw [List.map_cons] at w
  cases w with
  | cons a b =>
   cases a
   exact .cons _ _ (ih _ b)
theorem rn {l:OpenLaw} {n:Nat} (hn:l.most=some n) {P:Params} {h:Heap} {args:List WData} {vals:List Value}
  (hpre:l.row.toRowW.claim.pre args=true) (hwl:WellAll P h vals args) :
  ∃ a vs ns,vals=[Value.ref a]∧args=[WData.list (ns.map WData.int)]∧h.get? a=some { cls:=.type "list",data:=.seq vs.toArray }∧IntsAre vs ns∧ns.length≤n:=by
 have hsh:WShape.hasAll [] args [.list .int]=true:=(pre_splitW hpre).1;have hc:l.pre.holds [] { args:=args }=true:=(pre_splitW hpre).2;obtain ⟨d,r,rfl,h1,h2⟩:=hasAllW_cons hsh;obtain rfl:=hasAllW_nil h2;obtain ⟨xs,rfl,h3⟩:=hasW_list h1;obtain ⟨ns,rfl⟩:=items_int h3;have hlen:ns.length≤n:=by
  unfold OpenLaw.pre at hc;have h4:(WTm.not (.lt (.lit (.int (n:Int))) (.len (.arg 0)))).holds [] { args:=[.list (ns.map .int)] }=true:=by
   have h4:=(holds_andW hc).1;rw [hn] at h4;exact h4
  have h5:=condW_of h4 (w_not (w_lt w_lit (w_len_list (w_arg rfl))));rw [List.length_map] at h5;refine Nat.le_of_not_lt fun q=>?_;have q':(n:Int) < ((ns.length:Nat):Int):=by lia
  first
   | (rw [decide_eq_true q'] at h5;exact absurd h5 (by decide))
   | (simp at h5;lia)
 cases hwl with
 | cons w1 w2 =>
  cases w2
  cases w1 with
  | list ho hall=>exact ⟨_,_,ns,rfl,rfl,ho,iH ns _ hall,hlen⟩
theorem rp (l:OpenLaw) (args:List WData):l.row.toRowW.claim.post args (.bool true) args=true :=
 postW_of (r:=l.row.toRowW) (X:=(true == true))
  (show WShape.has [] (.bool true) .bool=true by first | rfl | decide | simp [WShape.has,WShape.arms,WShape.armsAll])
  (show (WTm.eq .res (.lit (.bool true))).value [] { args:=args,res:=some (.bool true),after:=args }=some (.bool (true == true)) from w_eq_bool (w_res rfl) w_lit) rfl
theorem attach_call {l:OpenLaw} {n:Nat} {q:Program} {loose:List Str} {XP:(Str→Option Value)→Heap→Prop} {YP:World→Heap→Prop} {d:DefRec}
  (hn:l.most=some n) (hdf:d.params.defaults=[])
  (call:∀ (w:World) (s₀ s₁:Shared) (mg mb:Str→Option Value) (fa:Addr) (o:Obj) (pm cd doc:Value) (a:Addr) (vs:List Value) (ns:List Int),
   Ground q loose [] XP w s₀ mg mb s₁.heap→YP w s₁.heap →
   s₁.heap.get? fa=some o→o.data=.func (docDef d.name d.params d.body d.scope pm cd doc)→s₁.heap.CodeRec cd d.name→mg d.name=some (.ref fa) →
   s₁.heap.get? a=some { cls:=.type "list",data:=.seq vs.toArray }→IntsAre vs ns→ns.length≤n→s₁.gens=#[] →
   codeAny (model l.prog w) callerA (.call (.ref fa) ⟨[.ref a],[]⟩) (fun r s'=>r=.ok (.ret (.bool true))∧OldK s₁.heap s'.heap∧s'.os=s₁.os∧AllBare s'.gens) s₁) :
  WalkO q loose XP YP l.row.toRowW d [] (fun f vs=>PySem.call f vs):=by
 intro w s₀ s₁ mg mb G Y fa o pm cd doc dV kV ho hd hcd hD hmg hg args vals as hpre hlay hrd hwl hlo;obtain rfl:dV=.none:=Dflts.none hD hdf;obtain rfl:kV=.none:=Dflts.noKw hD;obtain ⟨a,vs,ns,rfl,rfl,hobj,hints,hlen⟩:=rn hn hpre hwl;refine enter_call (codeAny_mono (call w s₀ s₁ mg mb fa o pm cd doc a vs ns G Y ho (fd_plain hd) hcd hmg hobj hints hlen hg) fun r s' hq=>?_);obtain ⟨rfl,h2,h3,h4⟩:=hq;exact ⟨.inl ⟨.bool true,.bool true,[],rfl,fun _=>rfl,.bool true,rp l _,fun _=>⟨List.Pairwise.nil,fun _ hm=>(nomatch hm)⟩⟩,h2,h3,h4⟩
section
variable {prog:Program} {w:World} {A:Around} {E:Value→Shared→Prop} {s:Shared} {K:Frag}
end
end Att
namespace L2
open PySem PySem.Spec PyProof.Rows
theorem kC:∀ {vs:List Value} {ns:List Int},IntsAre vs ns→Vals (ns.map V.int) vs
 | _,_,.nil=>.nil
 | _,_,.cons n t h=>.cons ⟨t,rfl⟩ (kC h)
def vg (H:Hp):Prop:=∀ b,H b=none∨∃ o xs,H b=some (.frz o (.lst xs))
theorem sY {P:Program} {w:World} {K:PySem.W.Frag} {mg mb:Str→Option Value} {CX:CXT} {k:Nat} {fa a:Addr} {fd:FuncData} {x:Str} {sp:Sp} {s₁:Shared} {vs:List Value} {ns:List Int}
  (KX:K.In s₁.heap) (hns:s₁.heap.Ns mainGlobals mg) (hb:s₁.heap.Ns builtinsNs mb) (hbb:∀ x:Str,x≠ "__name__" →mb x=bootBuiltins x) (hlim:s₁.heap.NoLimit) (hg:s₁.gens=#[])
  (ha:s₁.heap.get? a=some { cls:=.type "list",data:=.seq vs.toArray }) (hi:IntsAre vs ns) (hl:ns.length≤sizeLine) (hr:Room k callerA)
  (F:∀ base:Heap,K.In base→base.Ns mainGlobals mg→FnOk P w K mg base CX k fa fd [x] sp) (hbind:∀ (s:Shared) (u:Value),BindsTo s fd ⟨[u],[]⟩ [(x,u)])
  (hsp:∀ H:Hp,vg H→SqL K H a (ns.map V.int)→sp [.ref a] H (fun v _=>v=.bl true) fun _ _ _=>False)
  (hCX:∀ H e s',CX [] H s₁ (fun _ _ _=>False) e s'→False) :
  codeAny (model P w) callerA (.call (.ref fa) ⟨[.ref a],[]⟩) (fun r s'=>r=.ok (.ret (.bool true))∧OldK s₁.heap s'.heap∧s'.os=s₁.os∧AllBare s'.gens) s₁:=by
 have rv:=kC hi;have lenV:=hi.length;have core:∀ H:Hp,vg H→SqL K H a (ns.map V.int)→HOk P w H s₁.heap→(∀ b,H b≠none→b=a)→(H a≠none→K.lookup a=none) →
   codeAny (model P w) callerA (.call (.ref fa) ⟨[.ref a],[]⟩) (fun r s'=>r=.ok (.ret (.bool true))∧OldK s₁.heap s'.heap∧s'.os=s₁.os∧AllBare s'.gens) s₁:=by
  intro H hO hS hok hA hK;have base_of:∀ {b:Addr} {o:Obj},s₁.heap.get? b=some o→H b=none→(la s₁.heap H).get? b=some o:=fun e n=>sF e n;have noA:∀ {b:Addr} {o:Obj} {es:Array DictEntry} {ep:Nat},s₁.heap.get? b=some o→o.data=.dict es ep→H b=none:=fun {b o es ep} e d=>by
   cases q:H b with
   | none=>rfl
   | some u =>
    have e':b=a:=hA b (by rw [q];simp);subst e';rw [ha] at e;cases e;have d':Data.seq vs.toArray _=Data.dict es ep:=d
    cases d'
  have nsK:∀ {b:Addr} {m:Str→Option Value},s₁.heap.Ns b m→(la s₁.heap H).Ns b m:=fun {b m} ⟨o,es,ep,e,d,r⟩=>⟨o,es,ep,base_of e (noA e d),d,r⟩;have hKb:K.In (la s₁.heap H):=fun b o e=>base_of (KX b o e) (by
   cases q:H b with
   | none=>rfl
   | some u =>
    have e':b=a:=hA b (by rw [q];simp);subst e';rw [hK (by rw [q];simp)] at e;cases e)
  have hM:Mod K mg (la s₁.heap H):=⟨hKb,nsK hns,⟨mb,nsK hb,hbb⟩,let ⟨mc,h1,h2⟩:=hlim;⟨mc,nsK h1,h2⟩⟩;have e0:Env0 P w K mg (la s₁.heap H) callerA [] s₁ H:=⟨rfl,hM,fun b o e=>uY e,Nat.le_of_eq (qZ _ _),trivial,fun b hb=>absurd (show b∈([]:List Addr) from hb) (by simp),hok,.of_eq hg⟩;refine codeAny_mono ((F _ hKb (nsK hns)).run callerA [] s₁ H ⟨[.ref a],[]⟩ [.ref a] [.ref a] _ _ hr e0 (hbind s₁ (.ref a)) (.cons rfl .nil) (hsp H hO hS)) fun r s' h=>?_
  cases r with
  | error e=>exact (hCX H e s' h).elim
  | ok fl =>
   cases fl with
   | next=>exact False.elim h
   | brk=>exact False.elim h
   | cont=>exact False.elim h
   | ret u =>
    obtain ⟨v,H',os,bare,un,hok',r',q⟩:=h;have q':v=.bl true:=q;subst q';obtain rfl:u=Value.bool true:=r';refine ⟨rfl,OldK.of_keep fun b o e=>?_,os,bare⟩
    cases q:H b with
    | none=>exact un.keep b o e q (by intro z;exact absurd (show b∈([]:List Addr) from z) (by simp)) (by simp)
    | some u =>
     rcases hO b with z | ⟨ob,xs,z⟩
     ·rw [q] at z;cases z
     ·have z2:=un.frzs b ob _ z;obtain ⟨e1,_⟩:=hok b _ z;obtain ⟨e2,_⟩:=hok' b _ z2;rw [e] at e1;cases e1;exact e2
 cases hk:K.lookup a with
 | some o =>
  have e:=KX a o hk;rw [ha] at e
  cases e
  refine core (fun _=>none) (fun _=>.inl rfl) (.inr ⟨_,vs.toArray,_,hk,rfl,rfl,rfl,by rw [List.size_toArray,lenV];exact hl,by simpa using rv⟩) (fun b u z=>by have z':(none:Option HO)=some u:=z;cases z') (fun b z=>absurd rfl z) fun z=>absurd rfl z
 | none =>
  refine core (fun b=>if b=a then some (.frz { cls:=.type "list",data:=.seq vs.toArray } (.lst (ns.map V.int))) else none) (fun b=>?_) (.inl (.inr ⟨{ cls:=.type "list",data:=.seq vs.toArray },if_pos rfl⟩)) (fun b u z=>?_) (fun b z=>?_) fun _=>hk
  ·by_cases hb:b=a
   ·exact .inr ⟨_,_,if_pos hb⟩
   ·exact .inl (if_neg hb)
  ·by_cases hb:b=a
   ·have z':=(if_pos hb).symm.trans z
    cases z'
    subst hb;exact ⟨ha,by rw [List.length_map];exact hl,vs,_,rv,ha⟩
   ·have z':=(if_neg hb).symm.trans z
    cases z'
  ·by_cases hb:b=a
   ·exact hb
   ·exact absurd (if_neg hb) z
abbrev KOf {K:PySem.W.Frag} {h:Heap} (_:K.In h):PySem.W.Frag:=K
theorem vh {l:PySem.W.OpenLaw} {n k:Nat} {q:Program} {loose:List Str} {XP:(Str→Option Value)→Heap→Prop} {YP:World→Heap→Prop} {d:DefRec} {K:Params→PySem.W.Frag} {CX:World→CXT} {sp:World→Sp} {x:Str}
  (hn:l.most=some n) (hn2:n≤sizeLine) (hdf:d.params.defaults=[]) (hr:Room k callerA)
  (hY:∀ (w:World) (h:Heap),YP w h→(K w.params).In h)
  (F:∀ (w:World) (mg:Str→Option Value) (fa:Addr) (h:Heap),(K w.params).In h→h.Ns mainGlobals mg→mg d.name=some (.ref fa) →
   ∃ fd:FuncData,(∀ (s:Shared) (u:Value),BindsTo s fd ⟨[u],[]⟩ [(x,u)]) ∧
    ∀ base:Heap,(K w.params).In base→base.Ns mainGlobals mg→FnOk l.prog w (K w.params) mg base (CX w) k fa fd [x] (sp w))
  (hsp:∀ (w:World) (H:Hp) (a:Addr) (ns:List Int),ns.length≤n→vg H→SqL (K w.params) H a (ns.map V.int)→sp w [.ref a] H (fun v _=>v=.bl true) fun _ _ _=>False)
  (hCX:∀ (w:World) (H:Hp) (s:Shared) (e:Value) (s':Shared),CX w [] H s (fun _ _ _=>False) e s'→False) :
  PySem.W.WalkO q loose XP YP l.row.toRowW d [] (fun f vs=>PySem.call f vs):=by
 refine Att.attach_call hn hdf fun w s₀ s₁ mg mb fa o pm cd doc a vs ns G Y ho hd hcd hmg hobj hints hlen hg=>?_;have KX:=hY w _ Y;obtain ⟨fd,hb,hF⟩:=F w mg fa _ KX G.T.g hmg;exact sY KX G.T.g G.T.b G.T.builtins G.T.nolimit hg hobj hints (Nat.le_trans hlen hn2) hr hF hb (fun H hO hS=>hsp w H a ns hlen hO hS) fun H e s'=>hCX w H s₁ e s'
theorem F6 {l:PySem.W.OpenLaw} {n k:Nat} {q:Program} {loose:List Str} {XP:(Str→Option Value)→Heap→Prop} {YP:World→Heap→Prop} {d:DefRec} {K:Params→PySem.W.Frag} {CX:CXT} {sp:PySem.W.Frag→Sp} {x:Str}
  (hn:l.most=some n) (hn2:n≤sizeLine) (hdf:d.params.defaults=[]) (hr:Room k callerA)
  (hY:∀ (w:World) (h:Heap),YP w h→(K w.params).In h)
  (F:∀ (w:World) (mg:Str→Option Value) (fa:Addr) (h:Heap),(K w.params).In h→h.Ns mainGlobals mg→mg d.name=some (.ref fa) →
   ∃ fd:FuncData,(∀ (s:Shared) (u:Value),BindsTo s fd ⟨[u],[]⟩ [(x,u)]) ∧
    ∀ base:Heap,(K w.params).In base→base.Ns mainGlobals mg→FnOk l.prog w (K w.params) mg base CX k fa fd [x] (sp (K w.params)))
  (hsp:∀ (K:PySem.W.Frag) (H:Hp) (a:Addr) (ns:List Int),ns.length≤n→vg H→SqL K H a (ns.map V.int)→sp K [.ref a] H (fun v _=>v=.bl true) fun _ _ _=>False)
  (hCX:∀ (H:Hp) (s:Shared) (e:Value) (s':Shared),CX [] H s (fun _ _ _=>False) e s'→False) :
  PySem.W.WalkO q loose XP YP l.row.toRowW d [] (fun f vs=>PySem.call f vs) :=
 vh (K:=K) (CX:=fun _=>CX) (sp:=fun w=>sp (K w.params)) hn hn2 hdf hr hY F (fun w H a ns h1 h2 h3=>hsp (K w.params) H a ns h1 h2 h3) fun _ H s e s'=>hCX H s e s'
end L2
namespace L2
open PySem PySem.Spec PyProof.Rows
abbrev CX0:CXT:=fun _ _ _ _ _ _=>False
abbrev E0:XK:=fun _ _ _=>False
theorem kD {X:Cx}:em CX0 X E0:=fun _ _ _ _ _ _ _ h=>h.elim
structure Fun (K:PySem.W.Frag) (x qual:Str) (st:Stmt) (f:Addr) (fd:FuncData):Prop where
 ex:∃ (oc:Value) (od:Option Addr) (kV doc pm:Value) (an:Option Addr) (cdv ct:Value) (osl:Array (Option Value)),
  fd=PySem.W.fnOf x qual (bF st) (bj st) (ac st) .none kV doc pm an cdv ct∧K.lookup f=some ⟨oc,od,.func fd,osl⟩∧PySem.W.codeIn K cdv qual=true
 kp:PySem.W.keepIn K (.ref f)=true
section
variable {P:Program} {w:World} {K:PySem.W.Frag} {mg:Str→Option Value} {base:Heap}
theorem Fun.ok {x qual:Str} {st:Stmt} {f:Addr} {fd:FuncData} {N ps:List Str} {k:Nat} {sp:Sp} (F:Fun K x qual st f fd) (S:FnScope N ps (ac st)) (len:∀ vs H Q E,sp vs H Q E→vs.length=ps.length)
  (hbody:∀ (cdv:Value) (A:Around) (outer:List Env) (s:Shared) (H:Hp) (vs:List V) (Q:VK) (E:XK),Room k (A.deeper (envOfC qual (ac st) s.heap.objs.size f cdv))→sp vs H Q E →
   ∃ t,PSs (m7 CX0 P w K mg base N qual (ac st) f cdv A outer s H E).nox (bj st) t∧t { nx:=fun _ H'=>Q .non H',rt:=Q } (gi N vs) H):FnOk P w K mg base CX0 (k+1) f fd ps sp:=by
 obtain ⟨oc,od,kV,doc,pm,an,cdv,ct,osl,rfl,lk,hcd⟩:=F.ex;refine wf lk hcd S len fun A outer s H vs Q E hr hsp=>?_;obtain ⟨t,h,q⟩:=hbody cdv A outer s H vs Q E hr hsp;exact ⟨t,h.nox,q⟩
theorem Fun.binds {x qual:Str} {st:Stmt} {f:Addr} {fd:FuncData} {ps:List Str} (F:Fun K x qual st f fd)
  (h:∀ (kV doc pm:Value) (an:Option Addr) (cdv ct:Value) (us:List Value),us.length=ps.length→bindArgs (PySem.W.fnOf x qual (bF st) (bj st) (ac st) .none kV doc pm an cdv ct) ⟨us,[]⟩=pure (ps.zip us)):Binds K fd ps []:=by
 obtain ⟨oc,od,kV,doc,pm,an,cdv,ct,osl,rfl,lk,hcd⟩:=F.ex;exact .all (h kV doc pm an cdv ct)
theorem gT {x qual:Str} {st:Stmt} {f:Addr} {oc:Value} {od an:Option Addr} {osl:Array (Option Value)} {kV doc pm cdv ct:Value} (l:K.lookup f=some ⟨oc,od,.func (PySem.W.fnOf x qual (bF st) (bj st) (ac st) .none kV doc pm an cdv ct),osl⟩)
  (c:PySem.W.codeIn K cdv qual=true) (k:PySem.W.keepIn K (.ref f)=true):Fun K x qual st f (PySem.W.fnOf x qual (bF st) (bj st) (ac st) .none kV doc pm an cdv ct):=⟨⟨oc,od,kV,doc,pm,an,cdv,ct,osl,rfl,l,c⟩,k⟩
end
theorem aw {n:Nat} (h:n≤1000):n < sizeLine:=Nat.lt_of_le_of_lt h (by decide)
section
variable {X:Cx}
theorem pv (i:Nat) {x:Str} {pos:Pos} (hN:X.N[i]?=some x:=by rfl) (hv:Vis X.env.scope x:=by first | exact Or.inl rfl | exact Or.inr (Or.inl rfl) | exact Or.inr (Or.inr rfl)) (hd:(x == ("__debug__" : Str))=false:=by decide)
  (hcd:(x == ("__classdict__" : Str))=false:=by decide):PE X (.Name x pos) (sG i):=zS hN hv hd hcd
end
theorem bq {A B:Prop} (h:B):if false=true then A else B:=by
 rw [if_neg Bool.false_ne_true];exact h
theorem bL {A B:Prop} (h:A):if true=true then A else B:=by
 rw [if_pos rfl];exact h
theorem aJ {c A B:Prop} [Decidable c] (h1:c→A) (h2:¬ c→B):if c then A else B:=by
 by_cases h:c
 ·rw [if_pos h];exact h1 h
 ·rw [if_neg h];exact h2 h
def Same (H H':Hp):Prop:=∀ b o,H b=some o→H' b=some o
theorem Same.refl (H:Hp):Same H H:=fun _ _ h=>h
theorem Same.trans {H H1 H2:Hp} (a:Same H H1) (b:Same H1 H2):Same H H2:=fun c o h=>b c o (a c o h)
theorem Same.free {H H':Hp} (e:Same H H') {l:Addr} (h:H' l=Option.none):H l=Option.none:=by
 cases q:H l with
 | none=>rfl
 | some o =>
  rw [e l o q] at h
  cases h
theorem Same.seq {K:PySem.W.Frag} {H H':Hp} {a:Addr} {xs:List V} (e:Same H H') (h:SqL K H a xs):SqL K H' a xs:=by
 rcases h with (h | ⟨o,h⟩) | h
 ·exact .inl (.inl (e _ _ h))
 ·exact .inl (.inr ⟨o,e _ _ h⟩)
 ·exact .inr h
def cU (env:Env):List (Str×NameKind)→List (Str×Addr)→List (Str×Addr)
 | [],cs=>cs
 | (n,k) :: r,cs=>cU env r (if k == .free then (n,(env.cells.lookup n).getD 0) :: cs else cs)
theorem ja {env:Env} {scope:Scope} (h:∀ x∈scope.names,x.2=.free→∃ c,env.cells.lookup x.1=some c):closureFor scope env=pure (cU env scope.names []):=by
 simp only [closureFor];have go:∀ (l:List (Str×NameKind)) (cs:List (Str×Addr)),(∀ x∈l,x.2=.free→∃ c,env.cells.lookup x.1=some c) →
   (forIn l cs fun (x:Str×NameKind) (r:List (Str×Addr))=>(do
    let (name,kind):=x
    if kind == .free then
     let a ← cellOf env name
     pure (ForInStep.yield ((name,a) :: r))
    else pure (ForInStep.yield r):Sem (ForInStep (List (Str×Addr)))))=pure (cU env l cs):=by
  intro l
  induction l with
  | nil=>intro cs _;rfl
  | cons x r ih =>
   intro cs hx;obtain ⟨n,k⟩:=x;rw [List.forIn_cons]
   by_cases hk:k=.free
   ·obtain ⟨c,hc⟩:=hx (n,k) List.mem_cons_self hk;subst hk;have e:cellOf env n=pure c:=by unfold cellOf;rw [hc]
    simp only [beq_self_eq_true,if_true,e,pure_bind];rw [ih _ fun y hy=>hx y (List.mem_cons_of_mem _ hy)];simp only [cU,beq_self_eq_true,if_true,hc,Option.getD_some]
   ·have hb:(k == NameKind.free)=false:=by simpa using hk
    simp only [hb,Bool.false_eq_true,if_false,pure_bind];rw [ih _ fun y hy=>hx y (List.mem_cons_of_mem _ hy)];simp only [cU,hb,Bool.false_eq_true,if_false]
 have g:=go scope.names [] h
 first
  | exact (by rw [g]:_=_)
  | (rw [← bind_pure (pure (cU env scope.names []))];rw [← g];rfl)
  | (simp only [g,pure_bind])
theorem gU {env:Env}:∀ (l:List (Str×NameKind)) (cs:List (Str×Addr)),(∀ x∈l,x.2=.free→∃ c,env.cells.lookup x.1=some c)→(∀ x c,cs.lookup x=some c→env.cells.lookup x=some c) →
  ∀ x c,(cU env l cs).lookup x=some c→env.cells.lookup x=some c
 | [],_,_,h=>h
 | (n,k) :: r,cs,hx,h=>by
  refine gU r _ (fun y hy=>hx y (List.mem_cons_of_mem _ hy)) ?_;intro x c e
  by_cases hk:k=.free
  ·obtain ⟨c',hc⟩:=hx (n,k) List.mem_cons_self hk;subst hk;simp only [beq_self_eq_true,if_true,hc,Option.getD_some] at e;rw [List.lookup_cons] at e
   cases q:x == n with
   | true =>
    rw [q] at e;have q':x=n:=by simpa using q
    cases e
    rw [q'];exact hc
   | false=>rw [q] at e;exact h x c e
  ·have hb:(k == NameKind.free)=false:=by simpa using hk
   simp only [hb,Bool.false_eq_true,if_false] at e;exact h x c e
theorem iA {env:Env}:∀ (l:List (Str×NameKind)) (cs:List (Str×Addr)) (x:Str),(∃ c,cs.lookup x=some c)→∃ c,(cU env l cs).lookup x=some c
 | [],_,_,h=>h
 | (n,k) :: r,cs,x,h=>by
  refine iA r _ x ?_
  split
  ·rw [List.lookup_cons]
   cases q:x == n with
   | true=>exact ⟨_,rfl⟩
   | false=>exact h
  ·exact h
theorem fo {env:Env}:∀ (l:List (Str×NameKind)) (cs:List (Str×Addr)) (x:Str),l.lookup x=some .free→∃ c,(cU env l cs).lookup x=some c
 | [],_,_,h=>by simp at h
 | (n,k) :: r,cs,x,h=>by
  rw [List.lookup_cons] at h
  cases q:x == n with
  | true =>
   rw [q] at h
   cases h
   refine iA r _ x ?_;simp only [beq_self_eq_true,if_true];rw [List.lookup_cons,q];exact ⟨_,rfl⟩
  | false=>rw [q] at h;exact fo r _ x h
theorem dH {env:Env}:∀ {names:List (Str×NameKind)} {x:Str} {k':NameKind},
  (names.map fun (n,k)=>if (k == NameKind.free && env.scope.kind == .function && env.kindOf n == some .cell) then (n,NameKind.cell) else (n,k)).lookup x=some k' →
  ∃ k,names.lookup x=some k∧(k'=k∨(k=.free∧k'=.cell))
 | [],_,_,h=>by simp at h
 | (n,k) :: r,x,k',h=>by
  have ih:=@dH env r x k';rw [List.map_cons] at h
  by_cases hc:(k == NameKind.free && env.scope.kind == .function && env.kindOf n == some .cell)=true
  ·have h2:List.lookup x ((n,NameKind.cell) :: r.map fun (n,k)=>if (k == NameKind.free && env.scope.kind == .function && env.kindOf n == some .cell) then (n,NameKind.cell) else (n,k))=some k':=by
    simpa [hc] using h
   rw [List.lookup_cons] at h2;rw [List.lookup_cons]
   cases q:x == n with
   | true =>
    rw [q] at h2
    cases h2
    have hk:k=.free:=by
     simp only [Bool.and_eq_true] at hc
     simpa using hc.1.1
    exact ⟨k,rfl,.inr ⟨hk,rfl⟩⟩
   | false=>rw [q] at h2;exact ih h2
  ·have h2:List.lookup x ((n,k) :: r.map fun (n,k)=>if (k == NameKind.free && env.scope.kind == .function && env.kindOf n == some .cell) then (n,NameKind.cell) else (n,k))=some k':=by
    simpa [hc] using h
   rw [List.lookup_cons] at h2;rw [List.lookup_cons]
   cases q:x == n with
   | true=>rw [q] at h2;cases h2;exact ⟨_,rfl,.inl rfl⟩
   | false=>rw [q] at h2;exact ih h2
def ccx (X:Cx) (scope:Scope) (C:Addr) (N':List Str) (s₀:Shared) (H₀:Hp) (fp:List Addr):Cx :=
 { X with N:=N',s₀:=s₀,H₀:=H₀,env:=compEnvC scope (cU X.env scope.names []) C X.env,outer:=X.stack,stack:=X.stack,ex:=fp,fn:=fun _=>false,pn:=[],xe:=fun _ _=>False }
def cst (k:Nat) (ρ:List Nat) (σ:St):St:=List.replicate k none++ρ.map fun j=>(σ[j]?).join
structure CScope (X:Cx) (scope:Scope) (NL:List Str) (ρ:List Nat) (N':List Str):Prop where
 kind:scope.kind=.function
 nocell:∀ x∈scope.names,x.2≠.cell
 locs:∀ x∈scope.names,x.2=.local→scope.names.lookup x.1=some .local
 frees:∀ x∈scope.names,x.2=.free→X.env.kindOf x.1=some .cell∨X.env.kindOf x.1=some .free
 names:N'=NL++ρ.map fun j=>X.N.getD j ""
 outs:∀ j∈ρ,∃ x,X.N[j]?=some x∧scope.names.lookup x=some .free∧(X.env.scope.names.lookup x=some .cell∨X.env.scope.names.lookup x=some .free)
section
variable {X:Cx}
theorem vi {scope:Scope} {NL N':List Str} {ρ:List Nat} (S:CScope X scope NL ρ N') {pins:List (Addr×Obj)} {σ:St} {H:Hp} {s:Shared} {fp:List Addr} {C:Addr} (I:Inv X pins σ H s) (hf:∀ b∈fp,fA X pins H b)
  (hfo:∀ b∈fp,∃ o,s.heap.get? b=some o) (hC:s.heap.objs.size≤C):(ccx X scope C N' s H fp).Ok:=by
 have free_in:∀ x∈scope.names,x.2=.free→∃ c,X.env.cells.lookup x.1=some c:=fun x hx hk=>I.ok.has x.1 (S.frees x hx hk);have sub:=gU (env:=X.env) scope.names [] free_in (fun x c e=>by simp at e);refine ⟨I.ok.mod,S.kind,I.ok.glob,I.ok.blt,hC,?_,?_,?_,I.ok.hd,I.ok.frames,.inl rfl,?_,I.bs,?_,?_,?_,I.stack,I.stkFree⟩
 ·exact fun x y c e1 e2=>I.ok.inj x y c (sub x c e1) (sub y c e2)
 ·intro x hx;have hx':(relabel scope X.env).names.lookup x=some .cell∨(relabel scope X.env).names.lookup x=some .free:=hx;have look:∀ k',(relabel scope X.env).names.lookup x=some k'→(k'=.cell∨k'=.free)→scope.names.lookup x=some .free:=fun k' e hk=>by
   obtain ⟨k,e1,z⟩:=dH e;rcases z with z | ⟨z,_⟩
   ·subst z;rcases hk with z | z
    ·subst z;have hm:(x,NameKind.cell)∈scope.names:=mem_of_lookup e1;exact absurd rfl (S.nocell _ hm)
    ·subst z;exact e1
   ·subst z;exact e1
  rcases hx' with e | e
  ·exact fo scope.names [] x (look _ e (.inl rfl))
  ·exact fo scope.names [] x (look _ e (.inr rfl))
 ·intro x c e;exact absurd e (by show ¬ (false=true);decide)
 ·intro b hb;obtain ⟨f0,f1,f2,f3,f4,f5⟩:=hf b hb;refine ⟨?_,fun x c e=>f4 x c (sub x c e)⟩;obtain ⟨o,ho⟩:=hfo b hb;exact Nat.ne_of_lt (Nat.lt_of_lt_of_le (Heap.lt_size ho) hC)
 ·exact Nat.le_trans I.ok.bsz I.sz
 ·intro b o e hb;obtain ⟨f0,f1,f2,f3,f4,f5⟩:=hf b hb;rcases f3 with z | z
  ·exact I.ok.noex b o e z
  ·exact absurd (Nat.lt_of_lt_of_le (Heap.lt_size e) (Nat.le_trans I.ok.bsz z)) (Nat.lt_irrefl _)
 ·intro b hb z;obtain ⟨f0,f1,f2,f3,f4,f5⟩:=hf b hb;rcases List.mem_cons.mp (I.stkSub b z) with e | e
  ·exact f1 e
  ·exact f2 e
end
section
variable {X:Cx}
theorem Inv.comp {scope:Scope} {NL N':List Str} {ρ:List Nat} (S:CScope X scope NL ρ N') {pins:List (Addr×Obj)} {σ:St} {H:Hp} {s:Shared} {fp:List Addr} {C D:Addr} {h':Heap} {t':Nat} (I:Inv X pins σ H s) (hf:∀ b∈fp,fA X pins H b)
  (hfo:∀ b∈fp,∃ o,s.heap.get? b=some o) (hC:s.heap.objs.size≤C) (hD:s.heap.objs.size≤D) (hDC:D≠C) (k:∀ b u,s.heap.get? b=some u→h'.get? b=some u)
  (hd:h'.get? D=some { cls:=.type "list",data:=.seq #[] 0 }) (hn:h'.Ns C fun _=>none) :
  Inv (ccx X scope C N' s H fp) (X.pn++pins) (cst NL.length ρ σ) (upd H D (.lst [])) { s with heap:=h',toks:=t' }:=by
 have ok:=vi S I hf hfo hC;have free_in:∀ x∈scope.names,x.2=.free→∃ c,X.env.cells.lookup x.1=some c:=fun x hx hk=>I.ok.has x.1 (S.frees x hx hk);have sub:=gU (env:=X.env) scope.names [] free_in (fun x c e=>by simp at e);have fresh:∀ b,s.heap.objs.size≤b→H b=none:=fun b hb=>I.hok.fresh hb;have neD:∀ b o,s.heap.get? b=some o→b≠D:=fun b o e=>Nat.ne_of_lt (Nat.lt_of_lt_of_le (Heap.lt_size e) hD);have neH:∀ b u,H b=some u→b≠D:=fun b u e=>ag e (fresh D hD);refine ⟨ok,rfl,I.bare,⟨fun b o e _ _ _=>k b o e,fun b o e _ _ _=>⟨o.slots,k b o e⟩,fun b o e n _=>?_,fun b o e _=>⟨o,k b o e⟩,fun b xs e=>?_,fun b o u e=>?_,fun b ps e=>⟨#[],?_⟩⟩,⟨_,hn,?_⟩,?_,?_,?_,?_,?_,?_⟩
 ·show upd H D _ b=none;rw [ae (neD b o e)];exact n
 ·show upd H D _ b=_;rw [ae (neH b _ e)];exact e
 ·show upd H D _ b=_;rw [ae (neH b _ e)];exact e
 ·show upd H D _ b=_;rw [ae (neH b _ e)];have e':H b=some (.tbl ps):=e;rw [e'];simp
 ·-- the names around
  intro i x v e1 e2 hv;obtain ⟨m,hm,hl⟩:=I.loc;have eN:(NL++ρ.map fun j=>X.N.getD j "")[i]?=some x:=by
   have e1':N'[i]?=some x:=e1;rw [S.names] at e1';exact e1'
  have eσ:(List.replicate NL.length (none:Option V)++ρ.map fun j=>(σ[j]?).join)[i]?=some (some v):=e2
  by_cases hi:i < NL.length
  ·rw [List.getElem?_append_left (by simpa using hi)] at eσ;rw [List.getElem?_replicate] at eσ
   split at eσ <;> cases eσ
  ·have hi':NL.length≤i:=Nat.le_of_not_lt hi;rw [List.getElem?_append_right (by simpa using hi'),List.length_replicate,List.getElem?_map] at eσ;rw [List.getElem?_append_right hi',List.getElem?_map] at eN
   cases q:ρ[i - NL.length]? with
   | none=>rw [q] at eN;cases eN
   | some j =>
    rw [q] at eN eσ;obtain ⟨y,ey,f1,f2⟩:=S.outs j (List.mem_of_getElem? q);have exy:X.N.getD j "" = y:=by rw [List.getD_eq_getElem?_getD,ey];rfl
    have exx:X.N.getD j "" = x:=Option.some.inj eN;have xy:x=y:=exx.symm.trans exy;subst xy;have eσ':(σ[j]?).join=some v:=Option.some.inj eσ;have eσ2:σ[j]?=some (some v):=by
     cases z:σ[j]? with
     | none=>rw [z] at eσ';cases eσ'
     | some w=>rw [z] at eσ';exact congrArg some eσ'
    have vis:Vis X.env.scope x:=by
     rcases f2 with z | z
     ·exact .inr (.inl z)
     ·exact .inr (.inr z)
    obtain ⟨u,r,l⟩:=hl j x v ey eσ2 vis;refine ⟨u,r,?_⟩;obtain ⟨c,hc⟩:=fo (env:=X.env) scope.names [] x f1;rcases l with ⟨kl,_⟩ | ⟨_,c',hc',z⟩
    ·have kl':X.env.scope.names.lookup x=some .local:=kl;rcases f2 with z | z
     ·rw [z] at kl';cases kl'
     ·rw [z] at kl';cases kl'
    ·have e3:=sub x c hc;rw [hc'] at e3;obtain rfl:=Option.some.inj e3;obtain ⟨oc,hoc,hcd⟩:=z;have hv':(relabel scope X.env).names.lookup x=some .local∨(relabel scope X.env).names.lookup x=some .cell∨(relabel scope X.env).names.lookup x=some .free:=hv;refine .inr ⟨?_,c',hc,oc,k _ _ hoc,hcd⟩;rcases hv' with z | z | z
     ·obtain ⟨k0,e4,z2⟩:=dH z;rw [f1] at e4
      cases e4
      rcases z2 with z2 | ⟨_,z2⟩ <;> cases z2
     ·exact .inl z
     ·exact .inr z
 ·intro x c e;obtain ⟨v,oc,hoc,hcd⟩:=I.cell x c (sub x c e);exact ⟨v,oc,k _ _ hoc,hcd⟩
 ·show upd H D _ C=none;rw [ae (Ne.symm hDC)];exact fresh C hC
 ·intro x c e;obtain ⟨v,oc,hoc,hcd⟩:=I.cell x c (sub x c e);rw [ae (neD c oc hoc)];exact I.freeC x c (sub x c e)
 ·intro p hp;have hp':p∈X.pn++pins:=hp;obtain ⟨e,n,ne,nf,d⟩:=I.pin p hp';refine ⟨k _ _ e,?_,?_,?_,d⟩
  ·rw [ae (neD p.1 p.2 e)];exact n
  ·exact Nat.ne_of_lt (Nat.lt_of_lt_of_le (Heap.lt_size e) hC)
  ·intro z;rcases List.mem_cons.mp (I.stkSub p.1 z) with q | q
   ·exact ne q
   ·exact nf q
 ·exact I.hok.laid k hD ⟨Nat.zero_le _,[],0,.nil,hd⟩
 ·show (List.replicate NL.length (none:Option V)++ρ.map fun j=>(σ[j]?).join).length=N'.length;rw [S.names];simp
theorem Inv.compEnd {scope:Scope} {N':List Str} {pins:List (Addr×Obj)} {σ σ':St} {H H':Hp} {s s':Shared} {fp:List Addr} {C:Addr} {h':Heap} {pins':List (Addr×Obj)} (I:Inv X pins σ H s) (hf:∀ b∈fp,fA X pins H b) (hC:s.heap.objs.size≤C)
  (J:Inv (ccx X scope C N' s H fp) pins' σ' H' s') (hs:Heap.SameBut C s'.heap h'):Inv X pins σ H' { s' with heap:=h' }:=by
 have hn:H' C=none:=J.free;have nC:∀ b o,s.heap.get? b=some o→b≠C:=fun b o e=>Nat.ne_of_lt (Nat.lt_of_lt_of_le (Heap.lt_size e) hC);have B:Un (frs X.stack) fp H H' s.heap s'.heap:=J.base;have U:Un (frs X.stack) fp H H' s.heap h':=⟨fun b o e n hb hx=>(hs.2 b (nC b o e)).trans (B.keep b o e n hb hx),fun b o e n hb hx=>by
   obtain ⟨sl,q⟩:=B.slot b o e n hb hx;exact ⟨sl,(hs.2 b (nC b o e)).trans q⟩,B.free,fun b o e hx=>by
   obtain ⟨o',q⟩:=B.there b o e hx;exact ⟨o',(hs.2 b (nC b o e)).trans q⟩,B.tups,B.frzs,B.tbls⟩
 have hok:HOk X.prog X.w H' h':=fun b u e=>by
  refine (J.hok b u e).stay (fun c v hc q=>(hs.2 c ?_).trans q) (fun _ q=>q) fun _ _ q=>q;rintro rfl;rcases hc with rfl | hc
  ·rw [hn] at e;cases e
  ·rw [hn] at hc;cases hc
 refine Inv.call' (s':={ s' with heap:=h' }) I J.os U hok J.bare fun b hb=>?_;obtain ⟨f0,f1,f2,f3,f4,f5⟩:=hf b hb;exact ⟨f3,f1,f4,f5⟩
def qr (k:Nat) (ρ:List Nat) (wi:TI) (g:TG) (tb:List V→Addr→St→Hp→(List V→St→Hp→Prop)→Prop):TE:=fun σ H Q =>
 wi σ H fun J H1=>∀ l,H1 l=none→∃ W:Nat→Nat→List V→St→Hp→Prop,(∃ m,W 0 m [] (cst k ρ σ) (upd H1 l (.lst []))) ∧
  ∀ i m ys σ' H',W i m ys σ' H'→(J.stop i H'∧Q (.ref l) H')∨(J.go i H'∧∀ x H'',J.yld i H' x H''→g x σ' H'' fun σ2 H2=>tb ys l σ2 H2 fun ys' σ3 H3=>∃ m',m' < m∧W (i+1) m' ys' σ3 H3)
def cEl (te:TE):List V→Addr→St→Hp→(List V→St→Hp→Prop)→Prop:=fun ys l σ H N=>te σ H fun y H1=>H1 l=some (.lst ys)∧ys.length < sizeLine∧N (ys++[y]) σ (upd H1 l (.lst (ys++[y])))
def PB (X:Cx) (body:Value→Sem Unit) (tb:List V→Addr→St→Hp→(List V→St→Hp→Prop)→Prop):Prop :=
 ∀ (pins:List (Addr×Obj)) (s:Shared) (σ:St) (H:Hp) (l:Addr) (ys:List V) (N:List V→St→Hp→Prop),Inv X pins σ H s→tb ys l σ H N →
  wpAny (model X.prog X.w) X.A (body (.ref l)) (fun _ s'=>∃ ys' σ' H',Inv X pins σ' H' s'∧N ys' σ' H') X.xe s
theorem wj {elt:Expr} {te:TE} (he:PE X elt te):PB X (fun acc=>do let x ← eval elt X.env;let _ ← call (.builtin "list.append") [acc,x];pure ()) (cEl te):=by
 intro pins s σ H l ys N I h;refine wpAny_bind (thn (he pins s σ H _ I h) fun u s1 ⟨y,H1,I1,r1,q0,q1,q2⟩=>wpAny_bind ?_);refine thn (cA pins s1 σ H1 (.ref l) [y] (.ref l) [u] (fun v H'=>v=.non∧N (ys++[y]) σ H') I1 rfl (.cons r1 .nil) ⟨l,ys,y,rfl,rfl,q0,q1,rfl,q2⟩) fun _ s2 ⟨v,H2,I2,_,_,n2⟩=>wpAny_pure ⟨_,σ,H2,I2,n2⟩
theorem nc (elt target iter:Expr) (scope:Scope) (pos:Pos) (it acc:Value) (env:Env) :
  compTurn (.ListComp elt [⟨target,iter,[],0⟩] scope pos) 0 it acc env=(standAt iter.pos >>= fun _=>pyNext it >>= fun r=>match r with
   | none=>pure (.done .next)
   | some v=>letOwnedTupleGo target it v >>= fun _=>assign target env v >>= fun _ =>
    (do let x ← eval elt env;let _ ← call (.builtin "list.append") [acc,x];pure ():Sem Unit) >>= fun _=>again (.compLoop (.ListComp elt [⟨target,iter,[],0⟩] scope pos) 0 it acc env)):=by rfl
end
section
variable {X:Cx}
theorem sZ {elt tgt iter:Expr} {ifs:List Expr} {scope:Scope} {pos:Pos} {NL N':List Str} {ρ:List Nat} {wi:TI} {g:TG} {tb:List V→Addr→St→Hp→(List V→St→Hp→Prop)→Prop} {body:Value→Env→Sem Unit}
  (hc:X.calm=true) (S:CScope X scope NL ρ N') (hi:PI X tgt iter wi)
  (hg:∀ C s₀ H₀ fp,PG (ccx X scope C N' s₀ H₀ fp) tgt g) (hb:∀ C s₀ H₀ fp,PB (ccx X scope C N' s₀ H₀ fp) (fun acc=>body acc (ccx X scope C N' s₀ H₀ fp).env) tb)
  (he:∀ (it acc:Value) (env:Env),compTurn (.ListComp elt [⟨tgt,iter,ifs,0⟩] scope pos) 0 it acc env=(standAt iter.pos >>= fun _=>pyNext it >>= fun r=>match r with
   | none=>pure (.done .next)
   | some v=>letOwnedTupleGo tgt it v >>= fun _=>assign tgt env v >>= fun _=>body acc env >>= fun _=>again (.compLoop (.ListComp elt [⟨tgt,iter,ifs,0⟩] scope pos) 0 it acc env)))
  (hs:∀ x,foldedSetIterable iter X.env x=pure x:=by intro _;rfl):PE X (.ListComp elt [⟨tgt,iter,ifs,0⟩] scope pos) (qr NL.length ρ wi g tb):=by
 intro pins s σ H Q I h;have free_in:∀ x∈scope.names,x.2=.free→∃ c,X.env.cells.lookup x.1=some c:=fun x hx hk=>I.ok.has x.1 (S.frees x hx hk);rw [eval_ListComp];refine wpAny_comprehension_free (use:=none) rfl hs (ja free_in) S.kind S.locs ?_;refine thn (hi pins s σ H _ I h) fun v s1 h1=>thn h1 fun itv s2 h2=>?_;obtain ⟨it,fp,tn,J,H2,e,I2,T,st2,f2,w⟩:=h2;subst e;refine wpAny_newObj_type (wpAny_newFunctionEnv S.nocell (by intro y hy;simp at hy) (fun h₁ hns₁ hsb₁=>?_) S.kind);dsimp only at hns₁ hsb₁ ⊢
 generalize hH2:s2.heap.push { cls:=.type "list",dict:=none,data:=.seq ([]:List Value).toArray }=h2' at hns₁ hsb₁ ⊢
 have hCs:h2'.objs.size=s2.heap.objs.size+1:=by rw [← hH2,Heap.size_push]
 have hDC:s2.heap.objs.size≠h2'.objs.size:=by rw [hCs];exact Nat.ne_of_lt (Nat.lt_succ_self _)
 have hC:s2.heap.objs.size≤h2'.objs.size:=by rw [hCs];exact Nat.le_succ _
 have old:∀ b o,s2.heap.get? b=some o→h₁.get? b=some o:=fun b o e=>hsb₁.extBut b o (Nat.ne_of_lt (Nat.lt_of_lt_of_le (Heap.lt_size e) hC)) (Heap.get?_push_of_some _ (hH2 ▸ Heap.get?_push_of_some _ e));have hd:h₁.get? s2.heap.objs.size=some { cls:=.type "list",data:=.seq #[] 0 }:=hsb₁.extBut _ _ hDC (Heap.get?_push_of_some _ (hH2 ▸ Heap.get?_push_size _ rfl));have hfo:∀ b∈fp,∃ o,s2.heap.get? b=some o:=fun b hb=>let ⟨o,e,_⟩:=T.obj _ _ st2 b hb;⟨o,e⟩;have I4:Inv (ccx X scope h2'.objs.size N' s2 H2 fp) (X.pn++pins) (cst NL.length ρ σ) (upd H2 s2.heap.objs.size (.lst [])) { s2 with heap:=h₁,toks:=s2.toks+([]:List (Str×Value)).length } :=
  Inv.comp S I2 f2 hfo hC (Nat.le_refl _) hDC old hd (by simpa using hns₁)
 have hD0:H2 s2.heap.objs.size=none:=I2.hok.fresh (Nat.le_refl _);have nfp:s2.heap.objs.size∉fp:=fun z=>by
  obtain ⟨o,e⟩:=hfo _ z;exact absurd (Heap.lt_size e) (Nat.lt_irrefl _)
 obtain ⟨W,⟨m0,w0⟩,turn⟩:=w s2.heap.objs.size hD0;have stat:∀ {H':Hp},(∀ b∈fp,H' b=none)→∀ b∈fp,fA (ccx X scope h2'.objs.size N' s2 H2 fp) (X.pn++pins) H' b:=fun {H'} hn b hb=>by
  obtain ⟨f0,f1,f2',f3,f4,f5⟩:=f2 b hb;have ok:=I4.ok;refine ⟨hn b hb,(ok.exf b hb).1,ok.exfs b hb,.inl hb,(ok.exf b hb).2,fun p hp=>f5 p hp⟩
 have loop:∀ s₃:Shared,s₃={ s2 with heap:=h₁,toks:=s2.toks+([]:List (Str×Value)).length } →
   codeAny (model X.prog X.w) X.A (.compLoop (.ListComp elt [⟨tgt,iter,ifs,0⟩] scope pos) 0 (.ref it) (.ref s2.heap.objs.size) (compEnvC scope (cU X.env scope.names []) h2'.objs.size X.env))
    (compPost (model X.prog X.w) X.A X.xe none (EP X pins σ Q) (.ref s2.heap.objs.size) h2'.objs.size) s₃:=by
  rintro s₃ rfl;refine codeAny_loop rfl (fun n s'=>∃ i ys σ' H',Inv (ccx X scope h2'.objs.size N' s2 H2 fp) (X.pn++pins) σ' H' s'∧tn i s'.heap∧(∀ b∈fp,H' b=none)∧W i n ys σ' H') (fun n s3 hI=>?_) m0
   ⟨0,[],_,_,I4,T.keep _ _ _ st2 (fun b _ o e=>old b o e),fun b hb=>?_,w0⟩
  ·obtain ⟨i,ys,σ3,H3,I3,st3,fr3,w3⟩:=hI;show wpAny _ _ ((compTurn (.ListComp elt [⟨tgt,iter,ifs,0⟩] scope pos) 0 (.ref it) (.ref s2.heap.objs.size) (compEnvC scope (cU X.env scope.names []) h2'.objs.size X.env)).onRaise (fun x=>do noteFrame x _;theTreesLotGoes x)) _ _ s3;refine wpAny_noted ?_;rw [he];refine wpAny_bind (wpAny_standAt (wpAny_bind ?_));rcases turn i n ys σ3 H3 w3 with ⟨stop,qn⟩ | ⟨go,step⟩
   ·refine thn (T.done (ccx X scope h2'.objs.size N' s2 H2 fp) rfl rfl rfl hc i _ s3 σ3 H3 _ I3 (stat fr3) st3 stop) fun r s4 ⟨hr,I5⟩=>?_;subst hr;refine wpAny_pure ?_;obtain ⟨m,hm,_⟩:=id I5.loc;exact ⟨m,hm,fun h' hs'=>⟨.ref s2.heap.objs.size,H3,Inv.compEnd I2 f2 hC I5 hs',rfl,qn⟩⟩
   ·refine thn (T.item (ccx X scope h2'.objs.size N' s2 H2 fp) rfl rfl rfl hc i _ s3 σ3 H3 _ I3 (stat fr3) st3 go) fun r s4 ⟨u,hr,h4⟩=>?_;subst hr;refine wpAny_bind (thn h4 fun _ s5 ⟨x,H5,I5,r5,y5,st5,fr5⟩=>?_);have I5':=I5.pinned (stat fr5) (T.obj _ _ st5);refine wpAny_bind (wpAny_mono (hg h2'.objs.size s2 H2 fp _ s5 σ3 H5 x u _ I5' r5 (step x H5 y5)) (fun _ s6 ⟨σ6,H6,I6,q6⟩=>?_) fun _ _ z=>z.elim);refine wpAny_bind (wpAny_mono (hb h2'.objs.size s2 H2 fp _ s6 σ6 H6 s2.heap.objs.size ys _ I6 q6) (fun _ s7 ⟨ys7,σ7,H7,I7,m',hm,w7⟩=>?_) fun _ _ z=>z.elim);refine wpAny_pure ⟨rfl,m',hm,i+1,ys7,σ7,H7,I7.unpinned,T.keep _ _ _ st5 fun b hb o e=>(I7.pin (b,o) (List.mem_append_right _ (List.mem_append_right _ (bT hb e)))).1,fun b hb=>?_,w7⟩;obtain ⟨o,e,d⟩:=T.obj _ _ st5 b hb;exact (I7.pin (b,o) (List.mem_append_right _ (List.mem_append_right _ (bT hb e)))).2.1
  ·rw [ae (show b≠s2.heap.objs.size from fun z=>nfp (by rw [← z];exact hb))];exact (f2 b hb).1
 refine codeAny_compStart_list (loop _ rfl) (T.self _ 0 _ _ _ ?_ (loop _ rfl));exact T.keep _ _ _ st2 fun b _ o e=>old b o e
theorem pe_comp {elt tgt iter:Expr} {scope:Scope} {pos:Pos} {NL N':List Str} {ρ:List Nat} {wi:TI} {g:TG} {te:TE} (hc:X.calm=true) (S:CScope X scope NL ρ N') (hi:PI X tgt iter wi)
  (hg:∀ C s₀ H₀ fp,PG (ccx X scope C N' s₀ H₀ fp) tgt g) (he:∀ C s₀ H₀ fp,PE (ccx X scope C N' s₀ H₀ fp) elt te)
  (hs:∀ x,foldedSetIterable iter X.env x=pure x:=by intro _;rfl):PE X (.ListComp elt [⟨tgt,iter,[],0⟩] scope pos) (qr NL.length ρ wi g (cEl te)) :=
 sZ (body:=fun acc env=>do let x ← eval elt env;let _ ← call (.builtin "list.append") [acc,x];pure ()) hc S hi hg (fun C s₀ H₀ fp=>wj (he C s₀ H₀ fp)) (fun it acc env=>nc elt tgt iter scope pos it acc env) hs
end
section
variable {X:Cx}
inductive IsiB (K:PySem.W.Frag) (H:Hp):V→String→Bool→Prop
 | int_int {i}:IsiB K H (.int i) "int" true
 | int_str {i}:IsiB K H (.int i) "str" false
 | int_bool {i}:IsiB K H (.int i) "bool" false
 | int_tuple {i}:IsiB K H (.int i) "tuple" false
 | int_list {i}:IsiB K H (.int i) "list" false
 | str_int {x}:IsiB K H (.str x) "int" false
 | str_str {x}:IsiB K H (.str x) "str" true
 | str_bool {x}:IsiB K H (.str x) "bool" false
 | str_tuple {x}:IsiB K H (.str x) "tuple" false
 | str_list {x}:IsiB K H (.str x) "list" false
 | bl_int {b}:IsiB K H (.bl b) "int" true
 | bl_bool {b}:IsiB K H (.bl b) "bool" true
 | bl_str {b}:IsiB K H (.bl b) "str" false
 | bl_tuple {b}:IsiB K H (.bl b) "tuple" false
 | tup_int {a xs}:SqT K H a xs→IsiB K H (.ref a) "int" false
 | tup_str {a xs}:SqT K H a xs→IsiB K H (.ref a) "str" false
 | tup_bool {a xs}:SqT K H a xs→IsiB K H (.ref a) "bool" false
 | tup_tuple {a xs}:SqT K H a xs→IsiB K H (.ref a) "tuple" true
 | tup_list {a xs}:SqT K H a xs→IsiB K H (.ref a) "list" false
 | lst_int {a xs}:SqL K H a xs→IsiB K H (.ref a) "int" false
 | lst_str {a xs}:SqL K H a xs→IsiB K H (.ref a) "str" false
 | lst_tuple {a xs}:SqL K H a xs→IsiB K H (.ref a) "tuple" false
 | lst_list {a xs}:SqL K H a xs→IsiB K H (.ref a) "list" true
theorem dI (a b:String) (h:isSubtype (.type a) (.type b)=pure false:=by rw [isSubtype_type];kernel_rfl):isSubtype (.type a) (.type b)=pure false:=h
theorem rq (a b:String) (h:isSubtype (.type a) (.type b)=pure true:=by rw [isSubtype_type];kernel_rfl):isSubtype (.type a) (.type b)=pure true:=h
theorem rs:isSubtype (.type "int") (.type "str")=pure false:=dI _ _
theorem pj:isSubtype (.type "int") (.type "bool")=pure false:=dI _ _
theorem ng:isSubtype (.type "int") (.type "tuple")=pure false:=dI _ _
theorem pq:isSubtype (.type "int") (.type "list")=pure false:=dI _ _
theorem rA:isSubtype (.type "str") (.type "int")=pure false:=dI _ _
theorem pz:isSubtype (.type "str") (.type "bool")=pure false:=dI _ _
theorem nh:isSubtype (.type "str") (.type "tuple")=pure false:=dI _ _
theorem pA:isSubtype (.type "str") (.type "list")=pure false:=dI _ _
theorem pB:isSubtype (.type "bool") (.type "str")=pure false:=dI _ _
theorem lu:isSubtype (.type "bool") (.type "tuple")=pure false:=dI _ _
theorem nj:isSubtype (.type "tuple") (.type "int")=pure false:=dI _ _
theorem nn:isSubtype (.type "tuple") (.type "str")=pure false:=dI _ _
theorem lv:isSubtype (.type "tuple") (.type "bool")=pure false:=dI _ _
theorem lz:isSubtype (.type "tuple") (.type "list")=pure false:=dI _ _
theorem pC:isSubtype (.type "list") (.type "int")=pure false:=dI _ _
theorem pD:isSubtype (.type "list") (.type "str")=pure false:=dI _ _
theorem lA:isSubtype (.type "list") (.type "tuple")=pure false:=dI _ _
theorem F7:isSubtype (.type "int") (.type "int")=pure true:=rq _ _
theorem F8:isSubtype (.type "str") (.type "str")=pure true:=rq _ _
theorem z9:isSubtype (.type "bool") (.type "bool")=pure true:=rq _ _
theorem pE:isSubtype (.type "bool") (.type "int")=pure true:=rq _ _
theorem vj:isSubtype (.type "tuple") (.type "tuple")=pure true:=rq _ _
theorem Aa:isSubtype (.type "list") (.type "list")=pure true:=rq _ _
theorem nr:typeOf (.type "int")=pure (.type "type"):=by kernel_rfl
theorem nu:typeOf (.type "str")=pure (.type "type"):=by kernel_rfl
theorem lB:typeOf (.type "bool")=pure (.type "type"):=by kernel_rfl
theorem gp:typeOf (.type "tuple")=pure (.type "type"):=by kernel_rfl
theorem lC:typeOf (.type "list")=pure (.type "type"):=by kernel_rfl
theorem tj:aZ X (.builtin "isinstance") (fun xs H Q=>∃ x T b,xs=[x,.ty T]∧IsiB X.K H x T b∧Q (.bl b) H):=by
 intro pins s σ H xs us Q I r h;obtain ⟨x,T,b,rfl,hb,q⟩:=h;obtain ⟨u,w',rfl,rx,rT⟩:=qp r
 cases rT
 have fin:∀ t,EP X pins σ Q (.bool b) { s with toks:=t }:=fun t=>⟨.bl b,H,I.tok t,rfl,q⟩;have fin0:EP X pins σ Q (.bool b) s:=⟨.bl b,H,I,rfl,q⟩;have tup:∀ {a xs},SqT X.K H a xs→∃ o,s.heap.get? a=some o∧o.cls=.type "tuple" :=fun hq=>by
  obtain ⟨its,_,p,_⟩:=I.tuple hq;obtain ⟨o,e,c,_⟩:=p;exact ⟨o,e,c⟩
 have lst:∀ {a xs},SqL X.K H a xs→∃ o,s.heap.get? a=some o∧o.cls=.type "list" :=fun hq=>by
  obtain ⟨its,_,p,_⟩:=I.list hq;obtain ⟨o,e,c,_⟩:=p.isList;exact ⟨o,e,c⟩
 cases hb with
 | int_int=>obtain ⟨t,rfl⟩:=rx;exact call_isinstance (isinstance_true (Tx:= "int") nr F7) ⟨rfl,fin0⟩
 | int_str=>obtain ⟨t,rfl⟩:=rx;exact call_isinstance (isinstance_false_int (by decide) nu rs) (fin _)
 | int_bool=>obtain ⟨t,rfl⟩:=rx;exact call_isinstance (isinstance_false_int (by decide) lB pj) (fin _)
 | int_tuple=>obtain ⟨t,rfl⟩:=rx;exact call_isinstance (isinstance_false_int (by decide) gp ng) (fin _)
 | int_list=>obtain ⟨t,rfl⟩:=rx;exact call_isinstance (isinstance_false_int (by decide) lC pq) (fin _)
 | str_int=>obtain ⟨t,rfl⟩:=rx;exact call_isinstance (isinstance_false_str (by decide) nr rA) (fin _)
 | str_str=>obtain ⟨t,rfl⟩:=rx;exact call_isinstance (isinstance_true (Tx:= "str") nu F8) ⟨rfl,fin0⟩
 | str_bool=>obtain ⟨t,rfl⟩:=rx;exact call_isinstance (isinstance_false_str (by decide) lB pz) (fin _)
 | str_tuple=>obtain ⟨t,rfl⟩:=rx;exact call_isinstance (isinstance_false_str (by decide) gp nh) (fin _)
 | str_list=>obtain ⟨t,rfl⟩:=rx;exact call_isinstance (isinstance_false_str (by decide) lC pA) (fin _)
 | bl_int=>cases rx;exact call_isinstance (isinstance_true (Tx:= "bool") nr pE) ⟨rfl,fin0⟩
 | bl_bool=>cases rx;exact call_isinstance (isinstance_true (Tx:= "bool") lB z9) ⟨rfl,fin0⟩
 | bl_str=>cases rx;exact call_isinstance (isinstance_false_bool (by decide) nu pB) (fin _)
 | bl_tuple=>cases rx;exact call_isinstance (isinstance_false_bool (by decide) gp lu) (fin _)
 | tup_int hq=>cases rx;exact call_isinstance (isinstance_false_tuple (by decide) nr nj) ⟨tup hq,fin _⟩
 | tup_str hq=>cases rx;exact call_isinstance (isinstance_false_tuple (by decide) nu nn) ⟨tup hq,fin _⟩
 | tup_bool hq=>cases rx;exact call_isinstance (isinstance_false_tuple (by decide) lB lv) ⟨tup hq,fin _⟩
 | tup_tuple hq=>cases rx;exact call_isinstance (isinstance_true (Tx:= "tuple") gp vj) ⟨tup hq,fin0⟩
 | tup_list hq=>cases rx;exact call_isinstance (isinstance_false_tuple (by decide) lC lz) ⟨tup hq,fin _⟩
 | lst_int hq=>cases rx;exact call_isinstance (isinstance_false_list (by decide) nr pC) ⟨lst hq,fin _⟩
 | lst_str hq=>cases rx;exact call_isinstance (isinstance_false_list (by decide) nu pD) ⟨lst hq,fin _⟩
 | lst_tuple hq=>cases rx;exact call_isinstance (isinstance_false_list (by decide) gp lA) ⟨lst hq,fin _⟩
 | lst_list hq=>cases rx;exact call_isinstance (isinstance_true (Tx:= "list") lC Aa) ⟨lst hq,fin0⟩
def Its (z:Str):It:=⟨fun i _=>i < z.cps.size,fun i H x H'=>H'=H∧∃ c,z.cps[i]?=some c∧x=.str ⟨#[c]⟩,fun i _=>i=z.cps.size⟩
def G9 (te:TE):TI:=fun σ H R=>te σ H fun x H1=>∃ z,x=.str z∧R (Its z) H1
theorem nv {P:Program} {w:World} {K:PySem.W.Frag} {tg:Expr} (T:String) (it:Addr) (z:Str) (t:Tok)
  (W:∀ A:Around,A.handled=none→Walks P w A it [it] [it] z.cps.size (SignAt z) (fun i h=>h.IsStrIter it T z t i))
  (hT:["enumerate","zip","dict_itemiterator","dict_reverseitemiterator","odict_iterator","itertools.zip_longest","itertools.pairwise"].contains T=false)
  (hs:∀ (A:Around) (i:Nat) (s:Shared) (Q:Value→Shared→Prop) (E:Value→Shared→Prop),s.heap.IsStrIter it T z t i→Q (.ref it) s→wpAny (model P w) A (pyIter (.ref it)) Q E s) :
  Turn P w K tg (Its z) [it] it (fun i h=>h.IsStrIter it T z t i) where
 mem:=by simp
 obj:=fun i h st b hb=>by
  have e:b=it:=by simpa using hb
  subst e;obtain ⟨o,e,c,d⟩:=st;exact ⟨o,e,fun v z=>by rw [d] at z;cases z⟩
 keep:=fun i h h' st k=>by
  obtain ⟨o,e,c,d⟩:=st;exact ⟨o,k it (by simp) o e,c,d⟩
 item:=by
  intro X hP hw hK hc i pins s σ H E I hf st hg;subst hP hw hK;obtain ⟨f0,f1,f2,f3,f4,f5⟩:=hf it (by simp);refine (W X.A (I.ok.hd hc)).item i s _ _ hg st fun v h' tk hv st' kk=>?_;obtain ⟨c,u,hcz,rfl⟩:=hv;have I1:Inv X pins σ H { s with heap:=h',toks:=tk }:=I.turned (fun b o hb e=>kk b o (by simpa using hb) e) f0 f1 f3 f4 f5;obtain ⟨o,e,cl,d⟩:=id st';exact ⟨_,rfl,qk (s:={ s with heap:=h',toks:=tk }) e cl d hT ⟨.str ⟨#[c]⟩,H,I1,⟨u,rfl⟩,⟨rfl,c,hcz,rfl⟩,st',fun b hb=>(hf b hb).1⟩⟩
 done:=by
  intro X hP hw hK hc i pins s σ H E I hf st hg;subst hP hw hK;obtain ⟨f0,f1,f2,f3,f4,f5⟩:=hf it (by simp);have hi:i=z.cps.size:=hg;subst hi;exact (W X.A (I.ok.hd hc)).done s _ _ st fun h' tk kk=>⟨rfl,I.turned (fun b o hb e=>kk b o (by simpa using hb) e) f0 f1 f3 f4 f5⟩
 self:=hs
theorem pF {tg l:Expr} {tl:TE} (hl:PE X l tl):PI X tg l (G9 tl):=by
 intro pins s σ H R I h;refine thn (hl pins s σ H _ I h) fun v s1 ⟨x,H1,I1,r1,q1⟩=>?_;obtain ⟨z,rfl,q⟩:=q1;obtain ⟨t,rfl⟩:=r1;have fp:∀ (o:Obj),∀ b∈[s1.heap.objs.size],fA X pins H1 b:=fun o b hb=>by
  have e:b=s1.heap.objs.size:=by simpa using hb
  subst e;exact I1.fpOk (Nat.le_refl _) (I1.hok.fresh (Nat.le_refl _))
 cases ha:z.cps.all (· < 128)
 ·refine wpAny_pyIter_wide ha ?_;exact ⟨s1.heap.objs.size,[s1.heap.objs.size],_,_,H1,rfl,I1.kept (t':=s1.toks) fun b o e=>Heap.get?_push_of_some _ e,
   nv "str_iterator" _ z t (fun A hA=>Walks.strWide hA _ z t) (by decide) (fun _ _ _ _ _ st h=>wpAny_pyIter_striter_wide st h),⟨_,Heap.get?_push_size _ rfl,rfl,rfl⟩,fp default,q⟩
 ·refine wpAny_pyIter_ascii ha ?_;exact ⟨s1.heap.objs.size,[s1.heap.objs.size],_,_,H1,rfl,I1.kept (t':=s1.toks) fun b o e=>Heap.get?_push_of_some _ e,
   nv "str_ascii_iterator" _ z t (fun A hA=>Walks.strAscii hA _ z t) (by decide) (fun _ _ _ _ _ st h=>wpAny_pyIter_striter_ascii st h),⟨_,Heap.get?_push_size _ rfl,rfl,rfl⟩,fp default,q⟩
def bls:List Bool→List V:=List.map V.bl
theorem tq:aZ X (.builtin "all") (fun xs H Q=>∃ p ys,xs=[.ref p]∧X.calm=true∧SqL X.K H p (bls ys)∧Q (.bl (ys.all id)) H):=by
 intro pins s σ H xs us Q I r h;obtain ⟨p,ys,rfl,hcm,hq,q⟩:=h;obtain ⟨u,rfl,rx⟩:=cr r
 cases rx
 obtain ⟨its,r',pl,hz⟩:=I.list hq;have hh:X.A.in1.handled=none:=I.ok.hd hcm;have hne:p≠s.heap.objs.size:=by
  obtain ⟨o,e,_⟩:=pl.isList;exact Nat.ne_of_lt (Heap.lt_size e)
 have hlen:its.length=ys.length:=by rw [← r'.length];simp [bls]
 refine call_all_walk (wpAny_pyIter_list pl.isList ⟨s.heap.objs.size,_,_,_,_,_,fun i=>ys.getD i true,rfl,Walks.list hh _ p hne its.toArray,⟨⟨_,Heap.get?_push_size _ rfl,rfl,rfl⟩,pl.isList.at fun o e=>Heap.get?_push_of_some _ e⟩,?_,?_⟩)
 ·intro i v s' Q' E' hv hQ;have hv':its[i]?=some v:=by simpa using hv
  have hi:i < ys.length:=by
   rw [← hlen];exact (List.getElem?_eq_some_iff.mp hv').1
  have e1:(bls ys)[i]?=some (V.bl ys[i]):=by simp [bls,hi]
  obtain ⟨u,hu,ru⟩:=r'.get e1;rw [hv'] at hu;obtain rfl:=Option.some.inj hu
  cases ru
  refine wpAny_truthy_bool ?_;have e2:ys.getD i true=ys[i]:=by simp [List.getD_eq_getElem?_getD,hi]
  have hQ':Q' (ys.getD i true) s':=hQ;rw [e2] at hQ';exact hQ'
 ·intro h' tk kk;have e3:(List.range its.toArray.size).all (fun i=>ys.getD i true)=ys.all id:=by
   rw [List.size_toArray,hlen];rw [Bool.eq_iff_iff,List.all_eq_true,List.all_eq_true]
   constructor
   ·intro g x hx;obtain ⟨i,hi,rfl⟩:=List.mem_iff_getElem.mp hx;have:=g i (List.mem_range.mpr hi)
    simpa [List.getD_eq_getElem?_getD,hi] using this
   ·intro g i hi;have hi':=List.mem_range.mp hi;have:=g ys[i] (List.getElem_mem hi')
    simpa [List.getD_eq_getElem?_getD,hi'] using this
  rw [e3];refine ⟨.bl _,H,?_,rfl,q⟩;have I1:Inv X pins σ H { s with heap:=s.heap.push { cls:=.type "list_iterator",data:=.fields #[.ref p,.int 0 0] } }:=I.kept (t':=s.toks) fun b o e=>Heap.get?_push_of_some _ e;exact I.kept (t':=tk) fun b o e=>kk b o (by
   intro z;have z':b=s.heap.objs.size:=by simpa using z
   exact absurd (Heap.lt_size e) (by rw [z'];exact Nat.lt_irrefl _)) (Heap.get?_push_of_some _ e)
end
section
variable {X:Cx}
theorem iB (ns:List Int):∀ n,n≤ns.length→preSum (fun i=>ns.getD i 0) n=(ns.take n).sum
 | 0,_=>by simp [preSum]
 | n+1,h=>by
  have hn:n < ns.length:=h;rw [preSum,iB ns n (Nat.le_of_lt hn),List.take_add_one,List.sum_append];simp [List.getD_eq_getElem?_getD,hn]
theorem ny:aZ X (.builtin "sum") (fun xs H Q=>∃ (p:Addr) (ns:List Int),xs=[.ref p]∧X.calm=true∧SqL X.K H p (ns.map V.int)∧Q (.int ns.sum) H):=by
 intro pins s σ H xs us Q I r h;obtain ⟨p,ns,rfl,hcm,hq,q⟩:=h;obtain ⟨u,rfl,rx⟩:=cr r
 cases rx
 obtain ⟨its,r',pl,hz⟩:=I.list hq;have hh:X.A.in1.handled=none:=I.ok.hd hcm;have hlt:p < s.heap.objs.size:=by
  obtain ⟨o,e,_⟩:=pl.isList;exact Heap.lt_size e
 have hne:p≠s.heap.objs.size:=Nat.ne_of_lt hlt;have hlen:its.length=ns.length:=by rw [← r'.length];simp
 refine call_sum_walkG (wpAny_pyIter_list pl.isList ⟨s.heap.objs.size,_,_,_,_,_,fun i=>ns.getD i 0,rfl,Walks.list hh _ p hne its.toArray,⟨⟨_,Heap.get?_push_size _ rfl,rfl,rfl⟩,pl.isList.at fun o e=>Heap.get?_push_of_some _ e⟩,?_,?_,?_⟩)
 ·intro b hb;have hb':b=s.heap.objs.size∨b=p:=by simpa using hb
  show b < (s.heap.push _).objs.size;rw [Heap.size_push];rcases hb' with e | e
  ·exact e ▸ Nat.lt_succ_self _
  ·exact Nat.lt_succ_of_lt (e ▸ hlt)
 ·intro i v hv;have hv':its[i]?=some v:=by simpa using hv
  have hi:i < ns.length:=by
   rw [← hlen];exact (List.getElem?_eq_some_iff.mp hv').1
  have e1:(ns.map V.int)[i]?=some (V.int ns[i]):=by simp [hi]
  obtain ⟨u,hu,ru⟩:=r'.get e1;rw [hv'] at hu;obtain rfl:=Option.some.inj hu;obtain ⟨t,rfl⟩:=ru;exact ⟨t,by simp [List.getD_eq_getElem?_getD,hi]⟩
 ·intro h' tk t' kk;have e3:preSum (fun i=>ns.getD i 0) its.toArray.size=ns.sum:=by
   rw [List.size_toArray,hlen,iB ns _ (Nat.le_refl _),List.take_length]
  rw [e3];refine ⟨.int _,H,?_,⟨_,rfl⟩,q⟩;exact I.kept (t':=tk) fun b o e=>kk b o (by
   intro z;have z':b=s.heap.objs.size:=by simpa using z
   exact absurd (Heap.lt_size e) (by rw [z'];exact Nat.lt_irrefl _)) (Heap.get?_push_of_some _ e)
def Ha:V→Option Int→Option Int→Hp→VK→Prop:=fun x lo hi H Q=>∃ z,x=.str z∧z.length≤sizeLine∧Q (.str (Txt.slice z lo hi)) H
theorem sl_str:SlR X Ha:=by
 intro pins s σ H x v vl vu lo hi sl Q I rx hs pl pu h;obtain ⟨z,rfl,hz,q⟩:=h;obtain ⟨t,rfl⟩:=rx;refine ⟨"str",_,F.slot_str_getitem.lookup,typeIs_str _ _ _,?_⟩;have fin:∀ t' k,EP X pins σ Q (.str (Txt.slice z lo hi) t') { s with toks:=k }:=fun t' k=>⟨.str _,H,I.tok k,⟨t',rfl⟩,q⟩
 cases pl with
 | none =>
  cases pu with
  | none=>exact wpAny_getItem_str_slice (l:=none) (u:=none) (st:=none) hs rfl (post_val_or_str ⟨Nat.le_trans (Txt.slice_le z _ _) hz,fun t' k=>fin t' k⟩)
  | int j uj=>exact wpAny_getItem_str_slice (l:=none) (u:=some (j,uj)) (st:=none) hs rfl (post_val_or_str ⟨Nat.le_trans (Txt.slice_le z _ _) hz,fun t' k=>fin t' k⟩)
 | int i ui =>
  cases pu with
  | none=>exact wpAny_getItem_str_slice (l:=some (i,ui)) (u:=none) (st:=none) hs rfl (post_val_or_str ⟨Nat.le_trans (Txt.slice_le z _ _) hz,fun t' k=>fin t' k⟩)
  | int j uj=>exact wpAny_getItem_str_slice (l:=some (i,ui)) (u:=some (j,uj)) (st:=none) hs rfl (post_val_or_str ⟨Nat.le_trans (Txt.slice_le z _ _) hz,fun t' k=>fin t' k⟩)
end
theorem ah {H:Hp} {p:Addr} (h:H p=none) (o:HO):Same H (upd H p o):=fun b u q=>by rw [ae (ag q h)];exact q
def But (r:Addr) (H H':Hp):Prop:=∀ b o,b≠r→H b=some o→H' b=some o
theorem But.refl (r:Addr) (H:Hp):But r H H:=fun _ _ _ h=>h
theorem But.trans {r:Addr} {H H1 H2:Hp} (a:But r H H1) (b:But r H1 H2):But r H H2:=fun c o n h=>b c o n (a c o n h)
theorem But.same {r:Addr} {H H1:Hp} (a:Same H H1):But r H H1:=fun c o _ h=>a c o h
theorem But.put {r:Addr} {H:Hp} {o:HO}:But r H (upd H r o):=fun c u n h=>by rw [ae n];exact h
theorem But.seq {K:PySem.W.Frag} {r:Addr} {H H':Hp} {a:Addr} {xs:List V} (e:But r H H') (n:a≠r) (h:SqL K H a xs):SqL K H' a xs:=by
 rcases h with (h | ⟨o,h⟩) | h
 ·exact .inl (.inl (e _ _ n h))
 ·exact .inl (.inr ⟨o,e _ _ n h⟩)
 ·exact .inr h
theorem But.tup {K:PySem.W.Frag} {r:Addr} {H H':Hp} {a:Addr} {xs:List V} (e:But r H H') (n:a≠r) (h:SqT K H a xs):SqT K H' a xs:=by
 rcases h with (h | ⟨o,h⟩) | h
 ·exact .inl (.inl (e _ _ n h))
 ·exact .inl (.inr ⟨o,e _ _ n h⟩)
 ·exact .inr h
theorem Same.tup {K:PySem.W.Frag} {H H':Hp} {a:Addr} {xs:List V} (e:Same H H') (h:SqT K H a xs):SqT K H' a xs:=by
 rcases h with (h | ⟨o,h⟩) | h
 ·exact .inl (.inl (e _ _ h))
 ·exact .inl (.inr ⟨o,e _ _ h⟩)
 ·exact .inr h
theorem cs0 {X:Cx} {scope:Scope} {NL:List Str} (h1:scope.kind=.function) (h2:(scope.names.all fun x=>x.2 != .cell && x.2 != .free)=true)
  (h3:∀ x∈scope.names,x.2=.local→scope.names.lookup x.1=some .local):CScope X scope NL [] NL:=by
 rw [List.all_eq_true] at h2;refine ⟨h1,fun x hx e=>?_,h3,fun x hx e=>?_,by simp,fun j hj=>by simp at hj⟩
 ·have:=h2 x hx;rw [e] at this;exact absurd this (by decide)
 ·have:=h2 x hx;rw [e] at this;exact absurd this (by decide)
theorem jb {z:Str} {l:Addr} {g:TG} {tb:List V→Addr→St→Hp→(List V→St→Hp→Prop)→Prop} {Q:VK} {σ0:St} {H0:Hp} (Pv:Nat→List V→St→Hp→Prop) (h0:Pv 0 [] σ0 H0)
  (hs:∀ i c ys σ H (N:List V→St→Hp→Prop),z.cps[i]?=some c→Pv i ys σ H→(∀ ys' σ' H',Pv (i+1) ys' σ' H'→N ys' σ' H')→g (.str ⟨#[c]⟩) σ H fun σ2 H2=>tb ys l σ2 H2 N)
  (hd:∀ ys σ H,Pv z.cps.size ys σ H→Q (.ref l) H) :
  ∃ W:Nat→Nat→List V→St→Hp→Prop,(∃ m,W 0 m [] σ0 H0)∧∀ i m ys σ' H',W i m ys σ' H'→((Its z).stop i H'∧Q (.ref l) H') ∨
   ((Its z).go i H'∧∀ x H'',(Its z).yld i H' x H''→g x σ' H'' fun σ2 H2=>tb ys l σ2 H2 fun ys' σ3 H3=>∃ m',m' < m∧W (i+1) m' ys' σ3 H3):=by
 refine ⟨fun i m ys σ H=>m=z.cps.size - i∧i≤z.cps.size∧Pv i ys σ H,⟨z.cps.size,by simp,Nat.zero_le _,h0⟩,?_⟩;rintro i m ys σ H ⟨rfl,hi,p⟩
 by_cases hlt:i < z.cps.size
 ·refine .inr ⟨hlt,fun x H' y=>?_⟩;obtain ⟨e,c,hc,rfl⟩:=y;subst e;exact hs i c ys σ _ _ hc p fun ys' σ' H' q=>⟨_,by lia,rfl,hlt,q⟩
 ·have e:i=z.cps.size:=by lia
  subst e;exact .inl ⟨rfl,hd ys σ H p⟩
theorem pG {lo:Int} {n:Nat} {l:Addr} {g:TG} {tb:List V→Addr→St→Hp→(List V→St→Hp→Prop)→Prop} {Q:VK} {σ0:St} {H0:Hp} (Pv:Nat→List V→St→Hp→Prop) (h0:Pv 0 [] σ0 H0)
  (hs:∀ i ys σ H (N:List V→St→Hp→Prop),i < n→Pv i ys σ H→(∀ ys' σ' H',Pv (i+1) ys' σ' H'→N ys' σ' H')→g (.int (lo+i)) σ H fun σ2 H2=>tb ys l σ2 H2 N)
  (hd:∀ ys σ H,Pv n ys σ H→Q (.ref l) H) :
  ∃ W:Nat→Nat→List V→St→Hp→Prop,(∃ m,W 0 m [] σ0 H0)∧∀ i m ys σ' H',W i m ys σ' H'→((Itr lo n).stop i H'∧Q (.ref l) H') ∨
   ((Itr lo n).go i H'∧∀ x H'',(Itr lo n).yld i H' x H''→g x σ' H'' fun σ2 H2=>tb ys l σ2 H2 fun ys' σ3 H3=>∃ m',m' < m∧W (i+1) m' ys' σ3 H3):=by
 refine ⟨fun i m ys σ H=>m=n - i∧i≤n∧Pv i ys σ H,⟨n,by simp,Nat.zero_le _,h0⟩,?_⟩;rintro i m ys σ H ⟨rfl,hi,p⟩
 by_cases hlt:i < n
 ·refine .inr ⟨hlt,fun x H' y=>?_⟩;obtain ⟨e,rfl⟩:=y;subst e;exact hs i ys σ _ _ hlt p fun ys' σ' H' q=>⟨_,by lia,rfl,hlt,q⟩
 ·have e:i=n:=by lia
  subst e;exact .inl ⟨Nat.le_refl _,hd ys σ H p⟩
theorem rB {K:PySem.W.Frag} {a:Addr} {xs:List V} {l:Addr} {g:TG} {tb:List V→Addr→St→Hp→(List V→St→Hp→Prop)→Prop} {Q:VK} {σ0:St} {H0:Hp} (Pv:Nat→List V→St→Hp→Prop) (h0:Pv 0 [] σ0 H0) (hl:∀ i ys σ H,i≤xs.length→Pv i ys σ H→SqL K H a xs)
  (hs:∀ i x ys σ H (N:List V→St→Hp→Prop),xs[i]?=some x→Pv i ys σ H→(∀ ys' σ' H',Pv (i+1) ys' σ' H'→N ys' σ' H')→g x σ H fun σ2 H2=>tb ys l σ2 H2 N)
  (hd:∀ ys σ H,Pv xs.length ys σ H→Q (.ref l) H) :
  ∃ W:Nat→Nat→List V→St→Hp→Prop,(∃ m,W 0 m [] σ0 H0)∧∀ i m ys σ' H',W i m ys σ' H'→((Itl K a).stop i H'∧Q (.ref l) H') ∨
   ((Itl K a).go i H'∧∀ x H'',(Itl K a).yld i H' x H''→g x σ' H'' fun σ2 H2=>tb ys l σ2 H2 fun ys' σ3 H3=>∃ m',m' < m∧W (i+1) m' ys' σ3 H3):=by
 refine ⟨fun i m ys σ H=>m=xs.length - i∧i≤xs.length∧Pv i ys σ H,⟨xs.length,by simp,Nat.zero_le _,h0⟩,?_⟩;rintro i m ys σ H ⟨rfl,hi,p⟩;have q:=hl i ys σ H hi p
 by_cases hlt:i < xs.length
 ·refine .inr ⟨⟨xs,xs[i],q,by simp [hlt]⟩,fun x H' y=>?_⟩;obtain ⟨e,y⟩:=y;subst e;exact hs i x ys σ _ _ (y xs q) p fun ys' σ' H' q=>⟨_,by lia,rfl,hlt,q⟩
 ·have e:i=xs.length:=by lia
  subst e;exact .inl ⟨⟨xs,q,Nat.le_refl _⟩,hd ys σ H p⟩
theorem tt {K:PySem.W.Frag} {a:Addr} {xs:List V} {l:Addr} {g:TG} {tb:List V→Addr→St→Hp→(List V→St→Hp→Prop)→Prop} {Q:VK} {σ0:St} {H0:Hp} (Pv:Nat→List V→St→Hp→Prop) (h0:Pv 0 [] σ0 H0) (hl:∀ i ys σ H,i≤xs.length→Pv i ys σ H→SqT K H a xs)
  (hs:∀ i x ys σ H (N:List V→St→Hp→Prop),xs[i]?=some x→Pv i ys σ H→(∀ ys' σ' H',Pv (i+1) ys' σ' H'→N ys' σ' H')→g x σ H fun σ2 H2=>tb ys l σ2 H2 N)
  (hd:∀ ys σ H,Pv xs.length ys σ H→Q (.ref l) H) :
  ∃ W:Nat→Nat→List V→St→Hp→Prop,(∃ m,W 0 m [] σ0 H0)∧∀ i m ys σ' H',W i m ys σ' H'→((Itt K a).stop i H'∧Q (.ref l) H') ∨
   ((Itt K a).go i H'∧∀ x H'',(Itt K a).yld i H' x H''→g x σ' H'' fun σ2 H2=>tb ys l σ2 H2 fun ys' σ3 H3=>∃ m',m' < m∧W (i+1) m' ys' σ3 H3):=by
 refine ⟨fun i m ys σ H=>m=xs.length - i∧i≤xs.length∧Pv i ys σ H,⟨xs.length,by simp,Nat.zero_le _,h0⟩,?_⟩;rintro i m ys σ H ⟨rfl,hi,p⟩;have q:=hl i ys σ H hi p
 by_cases hlt:i < xs.length
 ·refine .inr ⟨⟨xs,xs[i],q,by simp [hlt]⟩,fun x H' y=>?_⟩;obtain ⟨e,y⟩:=y;subst e;exact hs i x ys σ _ _ (y xs q) p fun ys' σ' H' q=>⟨_,by lia,rfl,hlt,q⟩
 ·have e:i=xs.length:=by lia
  subst e;exact .inl ⟨⟨xs,q,Nat.le_refl _⟩,hd ys σ H p⟩
theorem pe_gint {X:Cx} {x:Str} {i:Int} {t:Tok} {pos:Pos} (hg:Gl X x) (hm:X.mg x=some (.int i t)) (hd:(x == ("__debug__" : Str))=false:=by decide):PE X (.Name x pos) (tC (.int i)):=le hg hm ⟨_,rfl⟩ hd
theorem pe_gstr {X:Cx} {x z:Str} {t:Tok} {pos:Pos} (hg:Gl X x) (hm:X.mg x=some (.str z t)) (hd:(x == ("__debug__" : Str))=false:=by decide):PE X (.Name x pos) (tC (.str z)):=le hg hm ⟨_,rfl⟩ hd
theorem iW {X:Cx} {x:Str} {a:Addr} {pos:Pos} (hg:Gl X x) (hm:X.mg x=some (.ref a)) (hd:(x == ("__debug__" : Str))=false:=by decide):PE X (.Name x pos) (tC (.ref a)):=le hg hm rfl hd
theorem dh {X:Cx} {x:Str} {n:String} {pos:Pos} (hg:Gl X x) (hm:X.mg x=none) (hv:bootBuiltins x=some (.type n)) (hn:x≠ "__name__" :=by decide) (hd:(x == ("__debug__" : Str))=false:=by decide):PE X (.Name x pos) (tC (.ty n)):=u0 hg hm hv rfl hn hd
structure Gn (K:PySem.W.Frag) (mg:Str→Option Value) (x:Str) (st:Stmt) (ps:List Str) (f:Addr) (fd:FuncData):Prop where
 F:Fun K x x st f fd
 b:Binds K fd ps []
 m:mg x=some (.ref f)
inductive Dt where
 | non | bl (b:Bool) | int (i:Int) | str (z:Str) | tup (l:List Dt)
mutual
inductive IsD (K:PySem.W.Frag) (H:Hp):Dt→V→Prop
 | non:IsD K H .non .non
 | bl {b}:IsD K H (.bl b) (.bl b)
 | int {i}:IsD K H (.int i) (.int i)
 | str {z}:IsD K H (.str z) (.str z)
 | tup {l:List Dt} {a:Addr} {xs:List V}:SqT K H a xs→IsDs K H l xs→IsD K H (.tup l) (.ref a)
inductive IsDs (K:PySem.W.Frag) (H:Hp):List Dt→List V→Prop
 | nil:IsDs K H [] []
 | cons {d:Dt} {l:List Dt} {x:V} {xs:List V}:IsD K H d x→IsDs K H l xs→IsDs K H (d :: l) (x :: xs)
end
mutual
def Dt.dep:Dt→Nat
 | .tup l=>dJ l+1
 | _=>0
def dJ:List Dt→Nat
 | []=>0
 | d :: l=>max d.dep (dJ l)
end
mutual
def eqD:Dt→Dt→Bool
 | .non,.non=>true
 | .bl a,.bl b=>a == b
 | .bl a,.int i=>(if a then 1 else 0) == i
 | .int i,.bl a=>i == (if a then 1 else 0)
 | .int i,.int j=>i == j
 | .str x,.str y=>x == y
 | .tup l,.tup m=>gW l m
 | _,_=>false
def gW:List Dt→List Dt→Bool
 | [],[]=>true
 | d :: l,e :: m=>eqD d e && gW l m
 | _,_=>false
end
mutual
def Dt.plain:Dt→Bool
 | .bl _=>false
 | .tup l=>jc l
 | _=>true
def jc:List Dt→Bool
 | []=>true
 | d :: l=>d.plain && jc l
end
mutual
theorem gq:∀ d:Dt,eqD d d=true
 | .non=>rfl
 | .bl a=>by simp [eqD]
 | .int i=>by simp [eqD]
 | .str z=>by simp [eqD]
 | .tup l=>by simp only [eqD];exact kE l
theorem kE:∀ l:List Dt,gW l l=true
 | []=>rfl
 | d :: l=>by simp only [gW,gq d,kE l,Bool.and_self]
end
mutual
theorem Ab:∀ d e:Dt,d.plain=true→e.plain=true→eqD d e=true→d=e
 | .non,e,_,_,h=>by cases e <;> simp_all [eqD]
 | .bl _,_,h,_,_=>by simp [Dt.plain] at h
 | .int i,e,_,he,h=>by cases e <;> simp_all [eqD,Dt.plain]
 | .str z,e,_,_,h=>by cases e <;> simp_all [eqD]
 | .tup l,e,hd,he,h=>by
  cases e with
  | tup m=>rw [qt l m (by simpa [Dt.plain] using hd) (by simpa [Dt.plain] using he) (by simpa [eqD] using h)]
  | _=>simp [eqD] at h
theorem qt:∀ l m:List Dt,jc l=true→jc m=true→gW l m=true→l=m
 | [],[],_,_,_=>rfl
 | [],_ :: _,_,_,h=>by simp [gW] at h
 | _ :: _,[],_,_,h=>by simp [gW] at h
 | d :: l,e :: m,hl,hm,h=>by
  simp only [jc,Bool.and_eq_true] at hl hm;simp only [gW,Bool.and_eq_true] at h;rw [Ab d e hl.1 hm.1 h.1,qt l m hl.2 hm.2 h.2]
end
section
variable {K:PySem.W.Frag} {H H':Hp}
mutual
theorem IsD.same (g:Same H H'):∀ {d:Dt} {v:V},IsD K H d v→IsD K H' d v
 | _,_,.non=>.non
 | _,_,.bl=>.bl
 | _,_,.int=>.int
 | _,_,.str=>.str
 | _,_,.tup h r=>.tup (g.tup h) (IsDs.same g r)
theorem IsDs.same (g:Same H H'):∀ {l:List Dt} {xs:List V},IsDs K H l xs→IsDs K H' l xs
 | _,_,.nil=>.nil
 | _,_,.cons h r=>.cons (IsD.same g h) (IsDs.same g r)
end
theorem tu {a r:Addr} {xs ys:List V} (hr:H r=some (.lst ys)) (h:SqT K H a xs):a≠r∨∀ H'',SqT K H'' a xs:=by
 rcases h with (h | ⟨o,h⟩) | h
 ·exact .inl (ko h hr (by intro z;cases z))
 ·exact .inl (ko h hr (by intro z;cases z))
 ·exact .inr fun _=>.inr h
mutual
theorem IsD.but {r:Addr} {ys:List V} (hr:H r=some (.lst ys)) (g:But r H H'):∀ {d:Dt} {v:V},IsD K H d v→IsD K H' d v
 | _,_,.non=>.non
 | _,_,.bl=>.bl
 | _,_,.int=>.int
 | _,_,.str=>.str
 | _,_,.tup h q=>.tup (by
   rcases tu hr h with n | n
   ·exact g.tup n h
   ·exact n _) (IsDs.but hr g q)
theorem IsDs.but {r:Addr} {ys:List V} (hr:H r=some (.lst ys)) (g:But r H H'):∀ {l:List Dt} {xs:List V},IsDs K H l xs→IsDs K H' l xs
 | _,_,.nil=>.nil
 | _,_,.cons h q=>.cons (IsD.but hr g h) (IsDs.but hr g q)
end
theorem IsDs.length {l:List Dt} {xs:List V} (h:IsDs K H l xs):l.length=xs.length:=by
 induction l generalizing xs with
 | nil=>cases h;rfl
 | cons d l ih=>cases h with | cons _ r=>simp [ih r]
theorem IsDs.get {l:List Dt} {xs:List V} (h:IsDs K H l xs) {i:Nat} {d:Dt} (e:l[i]?=some d):∃ x,xs[i]?=some x∧IsD K H d x:=by
 induction l generalizing xs i with
 | nil=>simp at e
 | cons c l ih =>
  cases h with
  | cons h r =>
   cases i with
   | zero=>simp at e;subst e;exact ⟨_,rfl,h⟩
   | succ i=>exact ih r (by simpa using e)
end
section
variable {X:Cx} {pins:List (Addr×Obj)} {σ:St} {H:Hp} {s:Shared}
mutual
theorem IsD.inj (I:Inv X pins σ H s):∀ {d e:Dt} {v:V},IsD X.K H d v→IsD X.K H e v→d=e
 | _,_,_,.non,.non=>rfl
 | _,_,_,.bl,.bl=>rfl
 | _,_,_,.int,.int=>rfl
 | _,_,_,.str,.str=>rfl
 | _,_,_,.tup h r,.tup h' r'=>by
  have e:=I.tuple_inj h h';subst e;rw [IsDs.inj I r r']
theorem IsDs.inj (I:Inv X pins σ H s):∀ {l m:List Dt} {xs:List V},IsDs X.K H l xs→IsDs X.K H m xs→l=m
 | _,_,_,.nil,.nil=>rfl
 | _,_,_,.cons h r,.cons h' r'=>by rw [IsD.inj I h h',IsDs.inj I r r']
end
theorem jd:∀ (l m:List Dt),gW l m=((List.range (min l.length m.length)).all (fun j=>eqD (l.getD j .non) (m.getD j .non)) && l.length == m.length)
 | [],[]=>rfl
 | [],_ :: _=>by simp [gW]
 | _ :: _,[]=>by simp [gW]
 | d :: l,e :: m=>by
  simp only [gW,List.length_cons];rw [jd l m,Nat.succ_min_succ,List.range_succ_eq_map,List.all_cons,List.all_map];have e1:(l.length+1 == m.length+1)=(l.length == m.length):=by
   rw [Bool.eq_iff_iff];simp
  rw [e1,Bool.and_assoc]
  rfl
theorem nz:∀ {l:List Dt} {j:Nat},j < l.length→(l.getD j .non).dep≤dJ l
 | [],_,h=>by simp at h
 | d :: l,0,_=>by simp only [List.getD_cons_zero,dJ];lia
 | d :: l,j+1,h=>by
  have q:=@nz l j (by simpa using h);simp only [List.getD_cons_succ,dJ];lia
theorem Inv.tup' (I:Inv X pins σ H s) {a:Addr} {xs:List V} (h:SqT X.K H a xs):∃ its:List Value,Vals xs its∧s.heap.IsTuple a its.toArray:=by
 obtain ⟨its,r,p,_⟩:=I.tuple h;exact ⟨its,r,p⟩
theorem rC (A:Around):A.in1.units=A.units+1:=by
 first | rfl | simp [Around.in1]
theorem F9 (I:Inv X pins σ H s):∀ (n:Nat) (d e:Dt) (x y:V) (u v:Value) (A:Around),d.dep≤n→IsD X.K H d x→IsD X.K H e y→RelV x u→RelV y v→A.units+n < cLine →
  SeqAt.EqAt A s u v (eqD d e)∧SeqAt.RcAt A s u v (eqD d e)∧SeqAt.RcNeAt A s u v (!eqD d e):=by
 intro n
 induction n with
 | zero =>
  intro d e x y u v A hd hx hy rx ry hu;have hu0:A.units < cLine:=by lia
  cases hx with
  | tup h r=>simp [Dt.dep] at hd
  | non =>
   cases rx
   cases hy with
   | non=>cases ry;exact ⟨.same _,.none_none,.none_none⟩
   | bl=>cases ry;exact ⟨.none_bool _,.none_bool _,.none_bool _⟩
   | int=>obtain ⟨t,rfl⟩:=ry;exact ⟨.none_int _ _,.none_int _ _,.none_int _ _⟩
   | str=>obtain ⟨t,rfl⟩:=ry;exact ⟨.none_str _ _,.none_str _ _,.none_str _ _⟩
   | tup h r=>cases ry;obtain ⟨its,_,p⟩:=I.tup' h;exact ⟨.none_tuple p hu0,.none_tuple p hu0,.none_tuple p hu0⟩
  | bl =>
   cases rx
   cases hy with
   | non=>cases ry;exact ⟨.bool_none _,.bool_none _,.bool_none _⟩
   | bl=>cases ry;exact ⟨.bool_bool _ _,.bool_bool _ _,.bool_bool _ _⟩
   | int=>obtain ⟨t,rfl⟩:=ry;exact ⟨.bool_int _ _ _,.bool_int _ _ _,.bool_int _ _ _⟩
   | str=>obtain ⟨t,rfl⟩:=ry;exact ⟨.bool_str _ _ _,.bool_str _ _ _,.bool_str _ _ _⟩
   | tup h r=>cases ry;obtain ⟨its,_,p⟩:=I.tup' h;exact ⟨.bool_tuple _ p hu0,.bool_tuple _ p hu0,.bool_tuple _ p hu0⟩
  | int =>
   obtain ⟨t0,rfl⟩:=rx
   cases hy with
   | non=>cases ry;exact ⟨.int_none _ _,.int_none _ _,.int_none _ _⟩
   | bl=>cases ry;exact ⟨.int_bool _ _ _,.int_bool _ _ _,.int_bool _ _ _⟩
   | int=>obtain ⟨t,rfl⟩:=ry;exact ⟨.int_int _ _ _ _,.int_int _ _ _ _,.int_int _ _ _ _⟩
   | str=>obtain ⟨t,rfl⟩:=ry;exact ⟨.int_str _ _ _ _,.int_str _ _ _ _,.int_str _ _ _ _⟩
   | tup h r=>cases ry;obtain ⟨its,_,p⟩:=I.tup' h;exact ⟨.int_tuple _ _ p hu0,.int_tuple _ _ p hu0,.int_tuple _ _ p hu0⟩
  | str =>
   obtain ⟨t0,rfl⟩:=rx
   cases hy with
   | non=>cases ry;exact ⟨.str_none _ _,.str_none _ _,.str_none _ _⟩
   | bl=>cases ry;exact ⟨.str_bool _ _ _,.str_bool _ _ _,.str_bool _ _ _⟩
   | int=>obtain ⟨t,rfl⟩:=ry;exact ⟨.str_int _ _ _ _,.str_int _ _ _ _,.str_int _ _ _ _⟩
   | str=>obtain ⟨t,rfl⟩:=ry;exact ⟨.str_str _ _ _ _,.str_str _ _ _ _,.str_str _ _ _ _⟩
   | tup h r=>cases ry;obtain ⟨its,_,p⟩:=I.tup' h;exact ⟨.str_tuple _ _ p hu0,.str_tuple _ _ p hu0,.str_tuple _ _ p hu0⟩
 | succ n ih =>
  intro d e x y u v A hd hx hy rx ry hu;have hu0:A.units < cLine:=by lia
  cases hx with
  | tup h r =>
   rename_i l a xs
   cases rx
   cases hy with
   | non=>cases ry;obtain ⟨its,_,p⟩:=I.tup' h;exact ⟨.tuple_none p hu0,.tuple_none p hu0,.tuple_none p hu0⟩
   | bl=>cases ry;obtain ⟨its,_,p⟩:=I.tup' h;exact ⟨.tuple_bool _ p hu0,.tuple_bool _ p hu0,.tuple_bool _ p hu0⟩
   | int=>obtain ⟨t,rfl⟩:=ry;obtain ⟨its,_,p⟩:=I.tup' h;exact ⟨.tuple_int _ _ p hu0,.tuple_int _ _ p hu0,.tuple_int _ _ p hu0⟩
   | str=>obtain ⟨t,rfl⟩:=ry;obtain ⟨its,_,p⟩:=I.tup' h;exact ⟨.tuple_str _ _ p hu0,.tuple_str _ _ p hu0,.tuple_str _ _ p hu0⟩
   | tup h' r' =>
    rename_i m b ys
    cases ry
    obtain ⟨its,q,p⟩:=I.tup' h;obtain ⟨its',q',p'⟩:=I.tup' h';have l1:its.length=l.length:=by rw [← q.length,← r.length]
    have l2:its'.length=m.length:=by rw [← q'.length,← r'.length]
    have he:∀ j (h1:j < its.toArray.size) (h2:j < its'.toArray.size),SeqAt.EqAt A.in1 s its.toArray[j] its'.toArray[j] (eqD (l.getD j .non) (m.getD j .non)):=by
     intro j h1 h2;have j1:j < l.length:=by simpa [l1] using h1
     have j2:j < m.length:=by simpa [l2] using h2
     obtain ⟨x1,ex,dx⟩:=r.get (i:=j) (d:=l.getD j .non) (by simp [List.getD_eq_getElem?_getD,j1]);obtain ⟨y1,ey,dy⟩:=r'.get (i:=j) (d:=m.getD j .non) (by simp [List.getD_eq_getElem?_getD,j2]);obtain ⟨u1,eu,ru⟩:=q.get ex;obtain ⟨v1,ev,rv⟩:=q'.get ey;have e1:its.toArray[j]=u1:=by
      have:its[j]?=some its[j]:=by simp [l1,j1]
      rw [this] at eu
      simpa using Option.some.inj eu
     have e2:its'.toArray[j]=v1:=by
      have:its'[j]?=some its'[j]:=by simp [l2,j2]
      rw [this] at ev
      simpa using Option.some.inj ev
     rw [e1,e2];have hdl:dJ l≤n:=by simp only [Dt.dep] at hd;lia
     exact (ih _ _ _ _ _ _ A.in1 (Nat.le_trans (nz j1) hdl) dx dy ru rv (by rw [rC];lia)).1
    have ev:eqD (.tup l) (.tup m)=((List.range (min its.toArray.size its'.toArray.size)).all (fun j=>eqD (l.getD j .non) (m.getD j .non)) && its.toArray.size == its'.toArray.size):=by
     simp only [eqD,List.size_toArray,l1,l2];exact jd l m
    rw [ev];refine ⟨?_,SeqAt.RcAt.tuples p p' hu0 he,SeqAt.RcNeAt.tuples p p' hu0 he⟩
    by_cases hab:a=b
    ·subst hab;have e3:=I.tuple_inj h h';subst e3;have e4:=IsDs.inj I r r';subst e4;rw [← ev,gq];exact .same _
    ·exact .of_refs hab (SeqAt.RcAt.tuples p p' hu0 he)
  | non=>exact ih _ _ _ _ _ _ A (by simp [Dt.dep]) .non hy rx ry (by lia)
  | bl=>exact ih _ _ _ _ _ _ A (by simp [Dt.dep]) .bl hy rx ry (by lia)
  | int=>exact ih _ _ _ _ _ _ A (by simp [Dt.dep]) .int hy rx ry (by lia)
  | str=>exact ih _ _ _ _ _ _ A (by simp [Dt.dep]) .str hy rx ry (by lia)
def Ga (K:PySem.W.Frag):R2:=fun x y H Q=>∃ d e,IsD K H d x∧IsD K H e y∧d.dep≤60∧Q (.bl (eqD d e)) H
def Gb (K:PySem.W.Frag):R2:=fun x y H Q=>∃ d e,IsD K H d x∧IsD K H e y∧d.dep≤60∧Q (.bl (!eqD d e)) H
theorem Ac (hu:X.A.units+64 < cLine):OpR X (compareOp .Eq) (Ga X.K):=by
 intro pins s σ H x y v u Q I rx ry h;obtain ⟨d,e,hd,he,hn,q⟩:=h;exact (F9 I 60 d e x y v u X.A hn hd he rx ry (by lia)).2.1 _ _ _ _ ⟨.bl _,H,I,rfl,q⟩
theorem Ad (hu:X.A.units+64 < cLine):OpR X (compareOp .NotEq) (Gb X.K):=by
 intro pins s σ H x y v u Q I rx ry h;obtain ⟨d,e,hd,he,hn,q⟩:=h;exact (F9 I 60 d e x y v u X.A hn hd he rx ry (by lia)).2.2 _ _ _ _ ⟨.bl _,H,I,rfl,q⟩
end
end L2
namespace PySem.W
open PySem PySem.Spec PyProof.Rows PySem.Calls
structure ExcK (K:Frag) (C:Addr):Prop where
 ga:findIn K (.ref C) "__getattribute__" = some (some (.builtin "BaseException.__getattribute__"))
 gt:findIn K (.ref C) "__getattr__" = some none
 cl:findIn K (.ref C) "__class__" = some (some (.builtin "object.__class__"))
 sb:mroIn K C (.type "BaseException")=some true
 so:mroIn K C (.type "object")=some true
 cd:∃ c,clsIn K C=some c
section
variable {prog:Program} {w:World} {A:Around} {E:Value→Shared→Prop} {h:Heap} {g:Array GenState} {d:Drawn} {t:Nat} {os:OsState} {a C:Addr} {o:Obj} {K:Frag}
end
end PySem.W
namespace L2
open PySem PySem.Spec PyProof.Rows
abbrev bmV:List Value:=[.type "ValueError",.type "Exception",.type "BaseException",.type "object"]
structure ExC (K:PySem.W.Frag) (mg:Str→Option Value) (x:Str) (C:Addr):Prop where
 m:mg x=some (.ref C)
 q:PySem.W.excIn K C bmV "ValueError.__new__" = true
 k:PySem.W.ExcK K C
 kp:PySem.W.keepIn K (.ref C)=true
theorem vm {K:PySem.W.Frag} {h:Heap} {C:Addr} {bmB:List Value} {newId:String} (X:K.In h) (q:PySem.W.excIn K C bmB newId=true) :
  ∃ bm N nm qn bs hd sn sub ab col dd k0 k1 k2 k3 k5 mN,h.get? C=some (excClassObj nm qn C N bs bm hd sn sub ab col dd k0 k1 k2 k3 k5 newId)∧h.Ns N mN∧mN "__init__" = none∧OwnTail h bmB bm:=by
 unfold PySem.W.excIn at q
 split at q
 case h_2=>cases q
 case h_1 dd cd sl ho =>
  split at q
  case h_2=>cases q
  case h_1 C' bm k0 k1 k2 k3 n k5 hm hs =>
   simp only [Bool.and_eq_true,beq_iff_eq,Bool.not_eq_true'] at q;obtain ⟨⟨⟨⟨⟨q1,q2⟩,q3⟩,q4⟩,q5⟩,q6⟩:=q;subst q1 q2;obtain ⟨nm,bs,mro,ns,qn,hd,sn,sub,ab,col,del⟩:=cd;dsimp only at hm q3 q5 q6;subst hm q3;obtain ⟨l⟩:=sl;dsimp only at hs;subst hs;exact ⟨bm,ns,nm,qn,bs,hd,sn,sub,ab,col,dd,k0,k1,k2,k3,k5,_,X _ _ ho,.of_isNs (PySem.W.isNs_of_in X q5),PySem.W.nsMap_none_of_in X q5 q6,PySem.W.tail_of_in X q4⟩
section
variable {X:Cx} {pins:List (Addr×Obj)} {σ:St} {H:Hp} {s:Shared}
end
def CXE (P:Program) (w:World):CXT:=fun outer H s E e s'=>∃ (ea C:Addr) (a0:Value) (B:Heap) (H':Hp),e=.ref ea∧Heap.FlyingW B outer ea (.ref C) a0 s'.heap∧s'.os=s.os∧AllBare s'.gens∧Un (frs outer) [] H H' s.heap s'.heap∧HOk P w H' B ∧
 (∀ b o,s.heap.get? b=some o→H b=none→b∉frs outer→B.get? b=some o)∧(∀ b o,s.heap.get? b=some o→b∉frs outer→∃ o',B.get? b=some o')∧E (.ref C) none H'
theorem tw {fs:List Addr} {H H1:Hp} {h h1 h' B:Heap} (u:Un fs [] H H1 h h1) (c1:∀ b o,h.get? b=some o→H b=none→b∉fs→B.get? b=some o) (c2:∀ b o,h.get? b=some o→b∉fs→∃ o',B.get? b=some o')
  (st:B.StaysIn h') (c3:∀ b o,h.get? b=some o→b∈fs→∃ sl,h'.get? b=some { o with slots:=sl }):Un fs [] H H1 h h' where
 keep:=fun b o q n hb _=>st b o (c1 b o q n hb)
 slot:=fun b o q n hb _=>c3 b o q hb
 free:=u.free
 there:=fun b o q hx=>by
  by_cases hb:b∈fs
  ·obtain ⟨sl,e⟩:=c3 b o q hb;exact ⟨_,e⟩
  ·obtain ⟨o',e⟩:=c2 b o q hb;exact ⟨o',st b o' e⟩
 tups:=u.tups
 frzs:=u.frzs
 tbls:=u.tbls
section
variable {X:Cx} {pins:List (Addr×Obj)} {σ:St} {H:Hp} {s:Shared}
theorem tz {base h:Heap} {l:List Env} {b:Addr} (f:h.FunFrames base l) (hb:b∈frs l):∃ o,h.get? b=some o∧∀ vs,o.data≠.fields vs:=by
 obtain ⟨_,o,ho,hn⟩:=f.mem hb;exact ⟨o,ho,hn⟩
def Ae (C:Addr) (E:XK) (t:TA):TS:=fun _ σ H=>t σ H fun xs H1=>xs.length≤sizeLine∧E (.ref C) none H1
end
section
variable {X:Cx} {pins:List (Addr×Obj)} {σ:St} {H:Hp} {s:Shared}
end
section
variable {X:Cx} {a b c d:Expr} {ta tb tc td:TE} {pos:Pos}
def vn (r r' r'':R2) (ta tb tc td:TE):TE:=fun σ H Q=>ta σ H fun x H1=>tb σ H1 fun y H2=>r x y H2 fun z H3=>∃ k,z=.bl k ∧
 (if k=true then tc σ H3 fun y' H4=>r' y y' H4 fun z' H5=>∃ k',z'=.bl k'∧(if k'=true then td σ H5 fun w' H6=>r'' y' w' H6 Q else Q (.bl false) H5) else Q (.bl false) H3)
theorem pe_chain3 {op op' op'':CmpOp} {r r' r'':R2} (ho:OpR X (compareOp op) r) (ho':OpR X (compareOp op') r') (ho'':OpR X (compareOp op'') r'') (ha:PE X a ta) (hb:PE X b tb) (hc:PE X c tc) (hd:PE X d td)
  (hm:lastMarks [op,op',op''] [b,c,d]=false:=by with_unfolding_all rfl):PE X (.Compare a [op,op',op''] [b,c,d] pos) (vn r r' r'' ta tb tc td):=by
 intro pins s σ H Q I h;refine Compare_chain (thn (ha pins s σ H _ I h) fun v s1 ⟨x,H1,I1,r1,q1⟩=>chain_link (thn (hb pins s1 σ H1 _ I1 q1) fun u s2 ⟨y,H2,I2,r2,q2⟩ =>
  thn (ho pins s2 σ H2 x y v u _ I2 r1 r2 q2) fun d' s3 ⟨z,H3,I3,r3,k,e,q3⟩=>?_)) hm
 subst e
 cases r3
 refine wpAny_truthy_bool ?_
 cases k with
 | false=>exact ite_ff ⟨.bl false,H3,I3,rfl,q3⟩
 | true =>
  refine ite_tt (chain_link (thn (hc pins s3 σ H3 _ I3 q3) fun w' s4 ⟨z',H4,I4,r4,q4⟩=>thn (ho' pins s4 σ H4 y z' u w' _ I4 r2 r4 q4) fun d2 s5 ⟨z2,H5,I5,r5,k2,e2,q5⟩=>?_));subst e2
  cases r5
  refine wpAny_truthy_bool ?_
  cases k2 with
  | false=>exact ite_ff ⟨.bl false,H5,I5,rfl,q5⟩
  | true=>exact ite_tt (chain_last (thn (hd pins s5 σ H5 _ I5 q5) fun w2 s6 ⟨z3,H6,I6,r6,q6⟩=>ho'' pins s6 σ H6 z' z3 w' w2 Q I6 r4 r6 q6))
end
def j0 (D:List (Str×Int)):List (Str×KTD.Dat):=D.map fun p=>(p.1,.flat (.int p.2))
def qu (K:PySem.W.Frag) (a:Addr) (D:List (Str×Int)):Prop:=∀ h,K.In h→KTD.TextTab h a (j0 D)
theorem tF {K:PySem.W.Frag} {a:Addr} {D:List (Str×Int)} (e:KTD.tabLook (KTD.datLooks fun b=>K.lookup b) (fun b=>K.lookup b) a (j0 D)=true):qu K a D:=fun h X=>KTD.text_of_look (fun b o q=>X b o q) e
def cV (k:Str):List (Str×Int)→V
 | []=>.non
 | (x,i) :: D=>if k=x then .int i else cV k D
theorem kF {k:Str}:∀ {D:List (Str×Int)} {d:KTD.Dat},KTD.datumAt k (j0 D)=some d→∃ i,d=.flat (.int i)∧cV k D=.int i
 | [],_,h=>by simp [j0,KTD.datumAt] at h
 | (x,i) :: D,d,h=>by
  simp only [j0,List.map_cons,KTD.datumAt,decide_eq_true_eq] at h
  by_cases hk:k=x
  ·rw [if_pos hk] at h;exact ⟨i,(Option.some.inj h).symm,by simp [cV,hk]⟩
  ·rw [if_neg hk] at h;obtain ⟨j,e1,e2⟩:=kF (D:=D) h;exact ⟨j,e1,by simp [cV,hk,e2]⟩
theorem fq {k:Str}:∀ {D:List (Str×Int)},KTD.datumAt k (j0 D)=none→cV k D=.non
 | [],_=>rfl
 | (x,i) :: D,h=>by
  simp only [j0,List.map_cons,KTD.datumAt,decide_eq_true_eq] at h
  by_cases hk:k=x
  ·rw [if_pos hk] at h;cases h
  ·rw [if_neg hk] at h;simp [cV,hk,fq (D:=D) h]
section
variable {X:Cx}
def Gc (D:List (Str×Int)) (t:TA):TE:=fun σ H Q=>t σ H fun vs H1=>∃ k,vs=[.str k]∧Q (cV k D) H1
theorem pe_kget {x:Str} {ad:Addr} {D:List (Str×Int)} {e:Expr} {t:TA} {p apos cpos:Pos} (hD:qu X.K ad D) (hg:Gl X x) (hm:X.mg x=some (.ref ad)) (ha:PA X [e] t) (hdb:(x == ("__debug__" : Str))=false:=by decide)
  (hbase:attributeBase (.Name x p) "get" X.env (eval (.Name x p) X.env)=eval (.Name x p) X.env:=by rfl)
  (hfew:((backTo cpos (starEach [e] X.env)).all (fun x=>!x.1) && (backToKw cpos (keywordEach [] X.env)).all (fun x=>x.1.isSome)
   && decide (([e]:List Expr).length+([]:List Keyword).length+(if ([]:List Keyword).isEmpty then 0 else 1) < 30))=true:=by rfl)
  (hline:(apos.endLine == cpos.line)=true:=by rfl) (hs:starEach [e] X.env=(false,eval e X.env) :: starEach [] X.env:=by rfl) :
  PE X (.Call (.Attribute (.Name x p) "get" apos) [e] [] cpos) (Gc D t):=by
 intro pins s σ H Q I h;refine wpAny_Call_method_late hbase hfew hline rfl (fj I hg hm ?_ hdb);have T:∀ {s':Shared} {σ':St} {H':Hp} {pins':List (Addr×Obj)},Inv X pins' σ' H' s'→KTD.Here X.base s'.heap ad (j0 D):=fun J=>⟨hD _ J.ok.mod.kin,J.bk⟩;refine ⟨"dict","dict.get",PySem.F.plainAttrs_dict,PySem.F.slot_dict_get,PySem.F.type_dict_get,(T I).typeIs,(T I).noDict,?_⟩;have hA:=ha cpos pins s σ H _ I h;rw [hs] at hA ⊢;refine Calls.callWith_builtin (by rfl) (Calls.evalArgs_plain ?_);refine thn hA fun us s2 ⟨vs,H2,I2,r2,k,e2,q2⟩=>?_;subst e2;obtain ⟨u,rfl,ru⟩:=cr r2;obtain ⟨tk,rfl⟩:=ru;refine call_meetsIn PySem.F.slot_dict_get (T I2).typeIs PySem.F.entry_dict_get (PySem.F.args_dict_get_2 _ _) (KTD.meets_get1 (h₀:=X.base) (D:=j0 D)) ⟨T I2,fun dd v hdd hv=>?_,fun hn=>?_⟩
 ·obtain ⟨i,rfl,el⟩:=kF hdd;have hv':Reads s2.heap v (.int i) []:=hv s2.heap;obtain ⟨t0,rfl⟩:∃ t0,v=.int i t0:=by cases hv';exact ⟨_,rfl⟩
  rw [el] at q2;exact ⟨.int i,H2,I2.tok _,⟨_,rfl⟩,q2⟩
 ·rw [fq hn] at q2;exact ⟨.non,H2,I2.tok _,rfl,q2⟩
end
theorem csR {X:Cx} {scope sc:Scope} {NL N N':List Str} {ρ:List Nat} (hsc:X.env.scope=sc) (hN:X.N=N) (h1:scope.kind=.function) (h2:(scope.names.all fun x=>x.2 != .cell)=true) (h3:∀ x∈scope.names,x.2=.local→scope.names.lookup x.1=some .local)
  (h4:(scope.names.all fun x=>x.2 != .free || sc.names.lookup x.1 == some .cell)=true) (h5:N'=NL++ρ.map fun j=>N.getD j "")
  (h6:(ρ.all fun j=>match N[j]? with | some x=>scope.names.lookup x == some .free && sc.names.lookup x == some .cell | none=>false)=true):CScope X scope NL ρ N':=by
 rw [List.all_eq_true] at h2 h4 h6;refine ⟨h1,fun x hx e=>?_,h3,fun x hx e=>.inl ?_,by rw [hN];exact h5,fun j hj=>?_⟩
 ·have:=h2 x hx;rw [e] at this;exact absurd this (by decide)
 ·have z:=h4 x hx;rw [e] at z;have z2:(sc.names.lookup x.1 == some NameKind.cell)=true:=by simpa using z
  show X.env.scope.names.lookup x.1=some .cell;rw [hsc];exact beq_iff_eq.mp z2
 ·have z:=h6 j hj
  cases q:N[j]? with
  | none=>rw [q] at z;cases z
  | some x =>
   rw [q] at z;simp only [Bool.and_eq_true,beq_iff_eq] at z;exact ⟨x,by rw [hN];exact q,z.1,.inl (by rw [hsc];exact z.2)⟩
structure RoomH (k:Nat) (A:Around):Prop where
 dp:A.depth+3*k+5 < recursionLimit
 un:A.units+16*k+200 < cLine
structure FnOkH (P:Program) (w:World) (K:PySem.W.Frag) (mg:Str→Option Value) (base:Heap) (k:Nat) (f:Addr) (fd:FuncData) (ps:List Str) (sp:Sp):Prop where
 len:∀ vs H Q E,sp vs H Q E→vs.length=ps.length
 run:∀ (A:Around) (outer:List Env) (s:Shared) (H:Hp) (args:Args) (us:List Value) (vs:List V) (Q:VK) (E:XK),RoomH k A→Env0 P w K mg base A outer s H→BindsTo s fd args (ps.zip us)→Vals vs us→sp vs H Q E →
  codeAny (model P w) A (.call (.ref f) args) (CR CX0 outer P w H s Q E) s
section
variable {X:Cx}
end
end L2
namespace HT
open PySem PySem.Spec PyProof.Rows
section
variable {prog:Program} {w:World} {A:Around} {E:Value→Shared→Prop} {s:Shared}
theorem cat_nil {t b:Addr} {ws:List Value} {Q:Value→Shared→Prop} (ht:IsTup s.heap t ([]:List Value).toArray) (hb:IsTup s.heap b ws.toArray) (h:Q (.ref b) s):wpAny (model prog w) A (binaryOp .Add (.ref t) (.ref b)) Q E s:=by
 obtain ⟨⟨cls,dd,data,sl⟩,ho,hc,n,hd⟩:=id ht;obtain ⟨⟨cls2,dd2,data2,sl2⟩,ho2,hc2,n2,hd2⟩:=id hb;simp only at hc hd hc2 hd2;subst hc hd hc2 hd2;exact concat_meets ⟨_,ho,rfl⟩ ⟨_,ho2,rfl⟩ noFill_tuple_add seq_tuple_add PySem.F.slot_tuple_add PySem.F.entry_tuple_add (PySem.F.args_tuple_add_2 _ _) (tuple_addW0 t b _ ws.toArray n n2 dd dd2 sl sl2 (by rfl)) ⟨ho,ho2,h⟩
theorem getItem_tuple_all {t sl:Addr} {items:Array Value} {vl vu:Value} {lo hi:Option Int} {Q:Value→Shared→Prop} (ht:IsTup s.heap t items) (hs:s.heap.IsSliceOf sl vl vu .none) (pl:IsPart vl lo) (pu:IsPart vu hi)
  (h1:sIx items.size 0 lo=0) (h2:sIx items.size items.size hi=items.size) (h:Q (.ref t) s):wpAny (model prog w) A (getItem (.ref t) (.ref sl)) Q E s:=by
 obtain ⟨os,hos,hcs,hds⟩:=id hs;have hTs:s.TypeIs (.ref sl) "slice" :=⟨os,hos,hcs⟩;unfold getItem
 try with_reducible refine wpAny_holding ?_
 first | refine wpAny_bind (wpAny_pure ?_) | skip
 refine wpAny_bind (wpAny_sequenceKey ht.typeIs (by decide) ?_);refine wpAny_bind (wpAny_callSpecial?_slot (name:=Str.ofString "__getitem__") ht.typeIs PyProof.Rows.slot_tuple_getitem (wpAny_call_entry PyProof.Rows.slot_tuple_getitem ht.typeIs entry_tuple_getitem ?_ (args_tuple_getitem _ _)));show wpAny _ _ (Builtin.Tuple.tupleItemsOf (.ref t) >>= _) _ _ s;refine wpAny_bind (tupleItemsOf_ ht ?_);refine wpAny_bind (wpAny_typeOf hTs ?_);rw [if_pos (by decide)];refine wpAny_bind (dr hs pl pu ?_);have hyes:(((sIx items.size 0 lo:Nat):Int) == 0 && (1:Int) == 1 && (sIx items.size items.size hi - sIx items.size 0 lo) == items.size)=true:=by
  rw [h1,h2];simp
 show wpAny _ _ (if (((sIx items.size 0 lo:Nat):Int) == 0 && (1:Int) == 1 && (sIx items.size items.size hi - sIx items.size 0 lo) == items.size)=true then _ else _) _ _ s;rw [if_pos hyes];refine wpAny_bind (m:=Builtin.Tuple.tupleIsExact _) (wpAny_bind (wpAny_typeOf ht.typeIs ?_));refine wpAny_pure ?_;rw [if_pos (by decide)];exact wpAny_bind (wpAny_rule (wpAny_pure ⟨_,rfl,wpAny_pure h⟩))
end
end HT
namespace L2
open PySem PySem.Spec PyProof.Rows
section
variable {X:Cx}
theorem IsD.unref {K:PySem.W.Frag} {H:Hp} {l:List Dt} {v:V} (h:IsD K H (.tup l) v):∃ a xs,v=.ref a∧SqT K H a xs∧IsDs K H l xs:=by
 cases h with
 | tup h r=>exact ⟨_,_,rfl,h,r⟩
def rD (l:List Dt) (lo hi:Option Int):List Dt:=(l.drop (HT.sIx l.length 0 lo)).take (HT.sIx l.length l.length hi - HT.sIx l.length 0 lo)
theorem vo:IxR X (fun x y H Q=>∃ l i d,IsD X.K H (.tup l) x∧y=.int i∧atI l i=some d∧∀ v,IsD X.K H d v→Q v H):=by
 intro value slice pins s σ H x y v u Q I rx ry h hs;obtain ⟨l,i,d,dx,rfl,ha,q⟩:=h;obtain ⟨a,xs,rfl,hx,ra⟩:=id dx.unref;obtain ⟨j,hj,hd,_⟩:=gj ha;have e1:=ra.length;obtain ⟨w',hw,dw⟩:=ra.get hd;have hat:atI xs i=some w':=by
  unfold atI at ha ⊢;rw [← e1]
  cases z:ixN l.length i with
  | none=>rw [z] at ha;cases ha
  | some j' =>
   rw [z] at ha;have ha':l[j']?=some d:=ha;obtain ⟨w2,hw2,dw2⟩:=ra.get ha';have z2:=iV z;rw [hj] at z2;have:j=j':=Option.some.inj z2.1;subst this;exact hw
 exact sU value slice pins s σ H (.ref a) (.int i) v u Q I rx ry ⟨a,xs,i,w',rfl,rfl,hx,hat,q w' dw⟩ hs
theorem rE:aZ X (.builtin "len") (fun xs H Q=>∃ x l,xs=[x]∧IsD X.K H (.tup l) x∧Q (.int l.length) H):=by
 intro pins s σ H xs us Q I r h;obtain ⟨x,l,rfl,dx,q⟩:=h;obtain ⟨a,ys,rfl,hx,ra⟩:=dx.unref;exact gn pins s σ H [.ref a] us Q I r ⟨a,ys,rfl,.inr hx,by rw [← ra.length];exact q⟩
end
end L2
namespace PySem
open Sem (wp)
section
variable {M:Model} {A:Around} {E:Value→Shared→Prop} {s:Shared}
def Heap.MadeB (base:Heap) (l:List Env) (e:Addr) (cls a0:Value) (h:Heap):Prop :=
 base.StaysIn h∧base.get? e=none∧h.FunFrames base l∧∃ oe vs,h.get? e=some oe∧oe.cls=cls∧oe.data=.fields vs∧vs[0]?=some a0∧vs[1]?=some .none
theorem rF {base:Heap} {env:Env} {outer:List Env} {L e:Addr} {cls a0:Value} {Q:Unit→Shared→Prop} (hfr:A.frames=some (env :: outer)) (hf:env.frame=some L) (hm:Heap.MadeB base (env :: outer) e cls a0 s.heap)
  (h:∀ h',Heap.HeldW base (env :: outer) e cls a0 L h'→s.heap.UpToSlots h'→Q () { s with heap:=h' }):wpAny M A (noteFrame (.ref e) env) Q E s:=by
 obtain ⟨hkb,hen,hl,oe,vs,he,hc,hd,h0,h1⟩:=hm;subst hc;unfold noteFrame;simp only [hf];refine wpAny_bind (wpAny_field he hd h1 ?_);rw [if_neg (by decide)];refine wpAny_entryW hfr hl hf he hkb hen hd (Array.getElem?_eq_some_iff.mp h1).1 h0 fun h' hN=>?_;obtain ⟨k1,k2,k3,k4⟩:=hN;exact h h' ⟨k1,hen,k2,k3⟩ k4
theorem pH {base:Heap} {env:Env} {outer:List Env} {L e:Addr} {cls a0:Value} {Q:Unit→Shared→Prop} (hfr:A.frames=some (env :: outer)) (hf:env.frame=some L) (hm:Heap.MadeB base (env :: outer) e cls a0 s.heap)
  (h:∀ h',Heap.FlyingW base outer e cls a0 h'→s.heap.UpToSlots h'→Q () { s with heap:=h' }):wpAny M A (leaving env (.ref e)) Q E s:=by
 obtain ⟨hkb,hen,hl,oe,vs,he,hc,hd,h0,h1⟩:=hm;subst hc;refine wpAny_leaving_firstW hfr hl hf he hkb hen hd h1 h0 fun h' hL=>?_;obtain ⟨k1,⟨_,_,k2⟩,k3,k4⟩:=hL;exact h h' ⟨k1,hen,k2,k3⟩ k4
theorem rG {base:Heap} {l:List Env} {e L:Addr} {cls a0:Value} {env:Env} {E2:Value→Shared→Prop} (hf:env.frame=some L) (R:Heap.HeldW base l e cls a0 L s.heap) (h:∀ h',Heap.HeldW base l e cls a0 L h'→s.heap.UpToSlots h'→E2 (.ref e) { s with heap:=h' }) :
  cameBackBy M A env E2 (.ref e) s:=by
 obtain ⟨hkb,hen,hl,oe,vs,T,oT,ts,he,hcls,hd,h1,hnT,hTe,hT,hdT,h3⟩:=R;have hsz3:3 < ts.size:=(Array.getElem?_eq_some_iff.mp h3).1;have other:∀ b,b≠T→∀ f:Obj→Obj,(s.heap.update T f).get? b=s.heap.get? b:=fun b hb f=>Heap.get?_update_other _ _ (Ne.symm hb);have noRec:∀ b o,s.heap.get? b=some o→(∀ vs,o.data≠.fields vs)→b≠T:=fun b o hb hnf q=>by
  rw [q,hT] at hb
  cases hb
  exact hnf ts hdT
 unfold cameBackBy;refine wpAny_bind (wpAny_field he hd h1 ?_);rw [if_neg (show ¬ ((Value.ref T == Value.none)=true) from by simp)];unfold setFlight;refine wpAny_bind (wpAny_field he hd h1 ?_);rw [if_pos (show (Value.ref T != Value.none)=true from by simp)];refine wpAny_setField hT hdT hsz3 (h _ ⟨fun b o hbo=>(other b (fun q=>by rw [q,hnT] at hbo;cases hbo) _).trans (hkb b o hbo),hen,
  hl.of_keeps fun b o hb hnf=>⟨o,(other b (noRec b o hb hnf) _).trans hb,rfl⟩,?_⟩ fun b o hb hnf=>⟨o.slots,(other b (noRec b o hb hnf) _).trans hb⟩)
 exact ⟨oe,vs,T,_,_,(other e (Ne.symm hTe) _).trans he,hcls,hd,h1,hnT,hTe,Heap.get?_update_self _ hT (Obj.isFreed_of_fields (Obj.data_mapFields hdT _)),Obj.data_mapFields hdT _,by simp [hsz3,hf]⟩
end
end PySem
namespace L2
open PySem PySem.Spec PyProof.Rows
def gX (X:Cx) (E:XK):Value→Shared→Prop:=fun e s'=>∃ (ea C:Addr) (a0:Value) (B:Heap) (H':Hp),e=.ref ea ∧
 (Heap.FlyingW B (X.env :: X.outer) ea (.ref C) a0 s'.heap∨Heap.HeldW B (X.env :: X.outer) ea (.ref C) a0 X.env.locals s'.heap∨Heap.MadeB B (X.env :: X.outer) ea (.ref C) a0 s'.heap)∧s'.os=X.s₀.os∧AllBare s'.gens ∧
 Un (frs X.outer) [] X.H₀ H' X.s₀.heap s'.heap∧HOk X.prog X.w H' B∧(∀ b o,X.s₀.heap.get? b=some o→X.H₀ b=none→b∉frs X.outer→B.get? b=some o) ∧
 (∀ b o,X.s₀.heap.get? b=some o→b∉frs X.outer→∃ o',B.get? b=some o')∧E (.ref C) none H'
section
variable {X:Cx} {E:XK}
theorem iX {H':Hp} {B h h2:Heap} (frf:∀ b∈frs X.outer,X.H₀ b=none) (u:Un (frs X.outer) [] X.H₀ H' X.s₀.heap h) (F:h.FunFrames B (X.env :: X.outer)) (up:h.UpToSlots h2) (st:B.StaysIn h2)
  (c1:∀ b o,X.s₀.heap.get? b=some o→X.H₀ b=none→b∉frs X.outer→B.get? b=some o) (c2:∀ b o,X.s₀.heap.get? b=some o→b∉frs X.outer→∃ o',B.get? b=some o'):Un (frs X.outer) [] X.H₀ H' X.s₀.heap h2:=by
 refine tw u c1 c2 st fun b o e hb=>?_;obtain ⟨sl,e1⟩:=u.slot b o e (frf b hb) hb (by simp);have mem:b∈frs (X.env :: X.outer):=by
  obtain ⟨env,he,hf⟩:=List.mem_filterMap.mp hb;exact List.mem_filterMap.mpr ⟨env,List.mem_cons_of_mem _ he,hf⟩
 obtain ⟨o2,e2,nf⟩:=tz F mem;rw [e1] at e2;obtain rfl:=Option.some.inj e2;obtain ⟨sl2,e3⟩:=up b _ e1 nf;exact ⟨sl2,e3⟩
theorem je {A:Around} (hA:A.frames=some (X.env :: X.outer)) (hfr:X.env.frame=some X.env.locals) (frf:∀ b∈frs X.outer,X.H₀ b=none):PassesOwn (model X.prog X.w) A X.env (gX X E):=by
 intro e s' h;obtain ⟨ea,C,a0,B,H',rfl,st,os,bare,un,hok,c1,c2,q⟩:=h;have fin:∀ {s2:Shared},s2.os=X.s₀.os→AllBare s2.gens→Un (frs X.outer) [] X.H₀ H' X.s₀.heap s2.heap→Heap.HeldW B (X.env :: X.outer) ea (.ref C) a0 X.env.locals s2.heap→cameBackBy (model X.prog X.w) A X.env (gX X E) (.ref ea) s2:=fun {s2} o2 b2 u2 hh =>
  rG hfr hh fun h' hh' up=>⟨ea,C,a0,B,H',rfl,.inr (.inl hh'),o2,b2,iX frf u2 hh.2.2.1 up hh'.1 c1 c2,hok,c1,c2,q⟩
 rcases st with fl | hh | hm
 ·exact wpAny_looks_onW hA hfr fl fun h' hh up=>fin (s2:={ s' with heap:=h' }) os bare (iX frf un fl.2.2.1 up hh.1 c1 c2) hh
 ·exact wpAny_noteFrame_againW hfr hh.2.2.2 (fin os bare un hh)
 ·exact rF hA hfr hm fun h' hh up=>fin (s2:={ s' with heap:=h' }) os bare (iX frf un hm.2.2.1 up hh.1 c1 c2) hh
theorem nA {A:Around} (hA:A.frames=some (X.env :: X.outer)) (hfr:X.env.frame=some X.env.locals) (frf:∀ b∈frs X.outer,X.H₀ b=none) {e:Value} {s':Shared} (h:gX X E e s') :
  wpAny (model X.prog X.w) A (leaving X.env e) (fun _ s''=>CXE X.prog X.w X.outer X.H₀ X.s₀ E e s'') (fun e' s''=>CXE X.prog X.w X.outer X.H₀ X.s₀ E e' s'') s':=by
 obtain ⟨ea,C,a0,B,H',rfl,st,os,bare,un,hok,c1,c2,q⟩:=h;have fin:∀ {h':Heap},s'.heap.FunFrames B (X.env :: X.outer)→Heap.FlyingW B X.outer ea (.ref C) a0 h'→s'.heap.UpToSlots h'→CXE X.prog X.w X.outer X.H₀ X.s₀ E (.ref ea) { s' with heap:=h' }:=fun {h'} F fl up =>
  ⟨ea,C,a0,B,H',rfl,fl,os,bare,iX frf un F up fl.1 c1 c2,hok,c1,c2,q⟩
 rcases st with fl | hh | hm
 ·exact wpAny_leaves_onW hA hfr fl fun h' fl' up=>fin fl.2.2.1 fl' up
 ·unfold leaving;refine wpAny_bind (wpAny_noteFrame_againW hfr hh.2.2.2 ?_);refine wpAny_landsW hh fun h' hfl up=>?_;obtain ⟨k1,k2,⟨_,_,k3⟩,k4⟩:=hfl;exact fin hh.2.2.1 ⟨k1,k2,k3,k4⟩ up
 ·exact pH hA hfr hm fun h' fl' up=>fin hm.2.2.1 fl' up
variable {pins:List (Addr×Obj)} {σ:St} {H:Hp} {s:Shared}
theorem rH {C:Addr} {ea:Addr} {vs:List Value} {h':Heap} {tk:Nat} (hstk:X.stack=X.env :: X.outer) (hfr:X.env.frame=some X.env.locals) (hex:X.ex=[]) (I:Inv X pins σ H s) (hm:Heap.MadeExcOf s.heap h' ea (.ref C) vs)
  (q:E (.ref C) none H):gX X E (.ref ea) { s with heap:=h',toks:=tk }:=by
 have F0:s.heap.FunFrames X.base (X.env :: X.outer):=by rw [← hstk];exact I.stack
 have mem:∀ b∈frs X.outer,b∈frs (X.env :: X.outer):=fun b hb=>by
  obtain ⟨env,he,hf⟩:=List.mem_filterMap.mp hb;exact List.mem_filterMap.mpr ⟨env,List.mem_cons_of_mem _ he,hf⟩
 have inv:∀ b,b∈frs (X.env :: X.outer)→b=X.env.locals∨b∈frs X.outer:=fun b hb=>by
  obtain ⟨env,he,hf⟩:=List.mem_filterMap.mp hb;rcases List.mem_cons.mp he with rfl | he
  ·rw [hfr] at hf;exact .inl (Option.some.inj hf).symm
  ·exact .inr (List.mem_filterMap.mpr ⟨env,he,hf⟩)
 have hin:∀ env∈(X.env :: X.outer),∀ b,env.frame=some b→b∈frs (X.env :: X.outer):=fun env he b hb=>List.mem_filterMap.mpr ⟨env,he,hb⟩;have stayB:∀ b o,s.heap.get? b=some o→b∉frs (X.env :: X.outer)→(PySem.W.hideAll s.heap (frs (X.env :: X.outer))).get? b=some o:=fun b o e n=>PySem.W.hideAll_get _ e n;have old:∀ b o,X.s₀.heap.get? b=some o→b∉frs X.outer→b∉frs (X.env :: X.outer):=fun b o e n z=>by
  rcases inv b z with rfl | z
  ·exact absurd (Nat.lt_of_lt_of_le (Heap.lt_size e) I.ok.above) (Nat.lt_irrefl _)
  ·exact n z
 have B0:Un X.fs [] X.H₀ H X.s₀.heap s.heap:=by have z:=I.base;rw [hex] at z;exact z
 have c1:∀ b o,X.s₀.heap.get? b=some o→X.H₀ b=none→b∉frs X.outer→(PySem.W.hideAll s.heap (frs (X.env :: X.outer))).get? b=some o:=fun b o e n hb=>stayB b o (B0.keep b o e n hb (by simp)) (old b o e hb);have c2:∀ b o,X.s₀.heap.get? b=some o→b∉frs X.outer→∃ o',(PySem.W.hideAll s.heap (frs (X.env :: X.outer))).get? b=some o':=fun b o e hb=>by
  obtain ⟨o',e'⟩:=B0.there b o e (by simp);exact ⟨o',stayB b o' e' (old b o e hb)⟩
 have FB:s.heap.FunFrames (PySem.W.hideAll s.heap (frs (X.env :: X.outer))) (X.env :: X.outer):=PySem.W.funFrames_hide F0 hin;obtain ⟨t,he,htn,ht⟩:=hm.there;have stays:(PySem.W.hideAll s.heap (frs (X.env :: X.outer))).StaysIn h':=fun b o e=>hm.keeps b o (PySem.W.of_hideAll _ e);have hen:(PySem.W.hideAll s.heap (frs (X.env :: X.outer))).get? ea=none:=by
  cases z:(PySem.W.hideAll s.heap (frs (X.env :: X.outer))).get? ea with
  | none=>rfl
  | some o =>
   have z2:=PySem.W.of_hideAll _ z;rw [hm.new] at z2
   cases z2
 refine ⟨ea,C,.ref t,_,H,rfl,.inr (.inr ⟨stays,hen,FB.of_keeps fun b o hb _=>⟨o,hm.keeps b o hb,rfl⟩,_,_,he,rfl,rfl,rfl,rfl⟩),I.os,I.bare,tw B0 c1 c2 stays fun b o e hb=>?_,fun b u e=>?_,c1,c2,q⟩
 ·obtain ⟨sl,e1⟩:=B0.slot b o e (I.ok.frf b hb) hb (by simp);exact ⟨sl,hm.keeps b _ e1⟩
 ·refine (I.hok b u e).stay (fun c v hc z=>stayB c v z fun hf=>?_) (fun _ z=>z) fun _ _ z=>z;have n0:H c=none:=by rw [← hstk] at hf;exact I.stkFree c hf
  rcases hc with rfl | hc
  ·rw [e] at n0;cases n0
  ·rw [hc] at n0;cases n0
theorem ps_raiseW {x:Str} {C:Addr} {e:Expr} {es:List Expr} {t:TA} {np cpos pos:Pos} (hstk:X.stack=X.env :: X.outer) (hfr:X.env.frame=some X.env.locals) (hex:X.ex=[]) (hc:X.calm=true) (G:ExC X.K X.mg x C) (hg:Gl X x) (ha:PA (X.wish (gX X E)) (e :: es) t)
  (hdb:(x == ("__debug__" : Str))=false:=by decide) (he:starEach (e :: es) X.env=(false,eval e X.env) :: starEach es X.env:=by rfl) (hpl:(backTo cpos (starEach es X.env)).any (·.1)=false:=by rfl) :
  PS (X.wish (gX X E)) (.Raise (some (.Call (.Name x np) (e :: es) [] cpos)) none pos) (Ae C E t):=by
 intro pins s σ H D I h;obtain ⟨bm,N,nm,qn,bs,hd,sn,sub,ab,col,dd,k0,k1,k2,k3,k5,mN,hC,hN,hni,T⟩:=vm (show X.K.In X.base from I.ok.mod.kin) G.q;refine wpAny_Raise_call_subT (C:=C) (nm:=nm) (q:=qn) (N:=N) (bs:=bs) (bm:=bm) (hdct:=hd) (sn:=sn) (sub:=sub) (ab:=ab) (col:=col) (dd:=dd) (k0:=k0) (k1:=k1) (k2:=k2) (k3:=k3) (k5:=k5) F.excBase_ValueError (mN:=mN) (T.hasType F.excBase_ValueError.hasBase) (I.ok.hd hc)
  (by show (backTo cpos (starEach (e :: es) X.env)).any (·.1)=false;rw [he];show (false || (backTo cpos (starEach es X.env)).any (·.1))=false;rw [hpl];rfl) hni (fj I hg G.m ⟨rfl,?_⟩ hdb)
 have z:=ha cpos pins s σ H _ I h;have he':starEach (e :: es) (X.wish (gX X E)).env=(false,eval e (X.wish (gX X E)).env) :: starEach es (X.wish (gX X E)).env:=he;rw [he'] at z ⊢;refine Calls.evalArgs_plain (wpAny_mono z (fun us s2 ⟨vs,H2,I2,r,hz,q⟩=>?_) fun _ _ y=>y);refine ⟨rfl,by show us.length≤sizeLine;rw [← r.length];exact hz,I2.bk _ _ hC,hN.keeps I2.bk,T.keeps I2.bk,fun h' ea hm=>?_⟩;exact rH (tk:=s2.toks) hstk hfr hex (Inv.unwish I2) hm q
theorem ao (hstk:X.stack=X.env :: X.outer) (hfr:X.env.frame=some X.env.locals) (hex:X.ex=[]):em (CXE X.prog X.w) (X.wish (gX X E)) E:=by
 intro pins σ H s e s' I' h;have I:Inv X pins σ H s:=Inv.unwish I';obtain ⟨ea,C,a0,B,H',rfl,fl,os,bare,un,hok,c1,c2,q⟩:=h;have hstk':(X.wish (gX X E)).stack=X.env :: X.outer:=hstk;rw [hstk'] at fl un c1 c2;have inv:∀ b,b∈frs (X.env :: X.outer)→b=X.env.locals∨b∈frs X.outer:=fun b hb=>by
  obtain ⟨env,he,hf⟩:=List.mem_filterMap.mp hb;rcases List.mem_cons.mp he with rfl | he
  ·rw [hfr] at hf;exact .inl (Option.some.inj hf).symm
  ·exact .inr (List.mem_filterMap.mpr ⟨env,he,hf⟩)
 have mem:∀ b∈frs X.outer,b∈frs (X.env :: X.outer):=fun b hb=>by
  obtain ⟨env,he,hf⟩:=List.mem_filterMap.mp hb;exact List.mem_filterMap.mpr ⟨env,List.mem_cons_of_mem _ he,hf⟩
 have old:∀ b o,X.s₀.heap.get? b=some o→b∉frs X.outer→b∉frs (X.env :: X.outer):=fun b o e n z=>by
  rcases inv b z with rfl | z
  ·exact absurd (Nat.lt_of_lt_of_le (Heap.lt_size e) I.ok.above) (Nat.lt_irrefl _)
  ·exact n z
 have B0:Un X.fs [] X.H₀ H X.s₀.heap s.heap:=by have z:=I.base;rw [hex] at z;exact z
 have d1:∀ b o,X.s₀.heap.get? b=some o→X.H₀ b=none→b∉frs X.outer→B.get? b=some o:=fun b o e n hb=>c1 b o (B0.keep b o e n hb (by simp)) (B0.free b o e n (by simp)) (old b o e hb);have d2:∀ b o,X.s₀.heap.get? b=some o→b∉frs X.outer→∃ o',B.get? b=some o':=fun b o e hb=>by
  obtain ⟨o',e'⟩:=B0.there b o e (by simp);exact c2 b o' e' (old b o e hb)
 refine ⟨ea,C,a0,B,H',rfl,.inl fl,os.trans I.os,bare,?_,hok,d1,d2,q⟩;refine ⟨fun b o e n hb _=>?_,fun b o e n hb _=>?_,fun b o e n _=>?_,fun b o e _=>?_,fun b xs e=>un.tups b xs (B0.tups b xs e),fun b o u e=>un.frzs b o u (B0.frzs b o u e),fun b ps e=>?_⟩
 ·exact un.keep b o (B0.keep b o e n hb (by simp)) (B0.free b o e n (by simp)) (old b o e hb) (by simp)
 ·obtain ⟨sl,e1⟩:=B0.slot b o e n hb (by simp);obtain ⟨sl2,e2⟩:=un.slot b _ e1 (B0.free b o e n (by simp)) (mem b hb) (by simp);exact ⟨sl2,e2⟩
 ·obtain ⟨o',e'⟩:=B0.there b o e (by simp);exact un.free b o' e' (B0.free b o e n (by simp)) (by simp)
 ·obtain ⟨o',e'⟩:=B0.there b o e (by simp);exact un.there b o' e' (by simp)
 ·obtain ⟨m1,e1⟩:=B0.tbls b ps e;obtain ⟨m2,e2⟩:=un.tbls b _ e1;exact ⟨m1++m2,by rw [e2,Array.append_assoc]⟩
end
theorem PSs.wing {X:Cx} {E:XK} {st:List Stmt} {t:TS} (hstk:X.stack=X.env :: X.outer) (hfr:X.env.frame=some X.env.locals) (hxe:X.xe=fun e s'=>wpAny (model X.prog X.w) X.A (leaving X.env e) (fun _ s''=>CXE X.prog X.w X.outer X.H₀ X.s₀ E e s'') (fun e' s''=>CXE X.prog X.w X.outer X.H₀ X.s₀ E e' s'') s')
  (h:PSs (X.wish (gX X E)) st t):PSs X st t:=fun pins s σ H D I hw =>
 wpAny_mono (h pins s σ H D (I.wish _) hw) (fun _ _ q=>q.unwish) fun e s' z=>by
  rw [hxe];exact nA (by rw [I.ok.frames,hstk]) hfr I.ok.frf z
theorem Fun.okW {P:Program} {w:World} {K:PySem.W.Frag} {mg:Str→Option Value} {base:Heap} {x qual:Str} {st:Stmt} {f:Addr} {fd:FuncData} {N ps:List Str} {k:Nat} {sp:Sp} (F:Fun K x qual st f fd) (S:FnScope N ps (ac st)) (len:∀ vs H Q E,sp vs H Q E→vs.length=ps.length)
  (hbody:∀ (cdv:Value) (A:Around) (outer:List Env) (s:Shared) (H:Hp) (vs:List V) (Q:VK) (E:XK),Room k (A.deeper (envOfC qual (ac st) s.heap.objs.size f cdv))→sp vs H Q E →
   ∃ t,PSs ((m7 (CXE P w) P w K mg base N qual (ac st) f cdv A outer s H E).wish (gX (m7 (CXE P w) P w K mg base N qual (ac st) f cdv A outer s H E) E)) (bj st) t∧t { nx:=fun _ H'=>Q .non H',rt:=Q } (gi N vs) H):FnOk P w K mg base (CXE P w) (k+1) f fd ps sp:=by
 obtain ⟨oc,od,kV,doc,pm,an,cdv,ct,osl,rfl,lk,hcd⟩:=F.ex;refine wf lk hcd S len fun A outer s H vs Q E hr hsp=>?_;obtain ⟨t,h,q⟩:=hbody cdv A outer s H vs Q E hr hsp;exact ⟨t,PSs.wing rfl rfl rfl h,q⟩
section
variable {κ:Type} [DecidableEq κ]
def nB (kvs:List (κ×V)) (k:κ):Option V:=(kvs.find? fun kv=>decide (kv.1=k)).map (·.2)
def vp (kvs:List (κ×V)) (k:κ) (v:V):List (κ×V) :=
 if (kvs.any fun kv=>decide (kv.1=k))=true then kvs.map (fun kv=>if kv.1=k then (kv.1,v) else kv) else kvs++[(k,v)]
theorem KV.any {kvs:List (κ×V)} {vs:List (κ×Value)} (r:KV kvs vs) (k:κ):(kvs.any fun kv=>decide (kv.1=k))=vs.any fun kv=>decide (kv.1=k):=by
 unfold KV at r
 induction r with
 | nil=>rfl
 | cons h t ih=>rw [List.any_cons,List.any_cons,ih,h.1]
theorem KV.length {kvs:List (κ×V)} {vs:List (κ×Value)} (r:KV kvs vs):kvs.length=vs.length:=Paired.length r
end
theorem tG {P:Program} {w:World} {k:Key} {u:Value} (r:RelV (kV k) u):(aI P w).is k u=true:=by
 cases k with
 | inl i=>obtain ⟨t,e⟩:=(show ∃ t,u=Value.int i t from r);subst e;exact mZ P w i t
 | inr x=>obtain ⟨t,e⟩:=(show ∃ t,u=Value.str x t from r);subst e;exact m4 P w x t
theorem kG {P:Program} {w:World}:∀ {ks:List Key} {us:List Value},Vals (ks.map kV) us→ItemsAre (aI P w) ks us
 | [],_,r=>by rw [List.map_nil] at r;cases r;exact .nil
 | k :: ks,_,r=>by
  rw [List.map_cons] at r
  cases r with
  | cons h t=>exact .cons (tG h) (kG t)
abbrev KT (H:Hp):List (List Key×V)→List (List Key×Addr×Value)→Prop:=Paired fun p q=>p.1=q.1∧H q.2.1=some (.tup (p.1.map kV))∧RelV p.2 q.2.2
theorem KT.keeps {H H':Hp} {kvs:List (List Key×V)} {xs:List (List Key×Addr×Value)} (r:KT H kvs xs) (ht:∀ b ys,H b=some (.tup ys)→H' b=some (.tup ys)):KT H' kvs xs :=
 Paired.mapP r fun _ _ z=>⟨z.1,ht _ _ z.2.1,z.2.2⟩
section
variable {P:Program} {w:World} {H:Hp} {h:Heap} {a:Addr}
end
def DGet (H:Hp) (a:Addr) (y:V) (r:Option V):Prop :=
 (∃ kvs k,Rd H a (.dK kvs)∧y=kV k∧r=nB kvs k)∨∃ kvs k b,Rd H a (.dT kvs)∧y=.ref b∧H b=some (.tup (k.map kV))∧r=nB kvs k
def DPut (H:Hp) (a:Addr) (y v:V) (H':Hp):Prop :=
 (∃ kvs k,H a=some (.dK kvs)∧y=kV k∧kvs.length < sizeLine∧H'=upd H a (.dK (vp kvs k v))) ∨
 ∃ kvs k b,H a=some (.dT kvs)∧y=.ref b∧H b=some (.tup (k.map kV))∧kvs.length < sizeLine∧H'=upd H a (.dT (vp kvs k v))
theorem DGet.k {H:Hp} {a:Addr} {kvs:List (Key×V)} {k:Key} (e:H a=some (.dK kvs)):DGet H a (kV k) (nB kvs k):=.inl ⟨kvs,k,.inl e,rfl,rfl⟩
theorem DGet.t {H:Hp} {a b:Addr} {kvs:List (List Key×V)} {k:List Key} (e:H a=some (.dT kvs)) (eb:H b=some (.tup (k.map kV))):DGet H a (.ref b) (nB kvs k):=.inr ⟨kvs,k,b,.inl e,rfl,eb,rfl⟩
theorem DPut.k {H:Hp} {a:Addr} {kvs:List (Key×V)} {k:Key} {v:V} (e:H a=some (.dK kvs)) (hl:kvs.length < sizeLine):DPut H a (kV k) v (upd H a (.dK (vp kvs k v))):=.inl ⟨kvs,k,e,rfl,hl,rfl⟩
theorem DPut.t {H:Hp} {a b:Addr} {kvs:List (List Key×V)} {k:List Key} {v:V} (e:H a=some (.dT kvs)) (eb:H b=some (.tup (k.map kV))) (hl:kvs.length < sizeLine) :
  DPut H a (.ref b) v (upd H a (.dT (vp kvs k v))):=.inr ⟨kvs,k,b,e,rfl,eb,hl,rfl⟩
section
variable {X:Cx} {pins:List (Addr×Obj)} {σ:St} {H:Hp} {s:Shared} {a:Addr} {y v:V} {u r:Value} {o:Option V} {A:Around} {E:Value→Shared→Prop}
end
section
variable {X:Cx} {pins:List (Addr×Obj)} {σ:St} {H:Hp} {s:Shared} {a:Addr} {kvs:List (Key×V)} {k:Key} {u:Value} {A:Around} {E:Value→Shared→Prop}
end
def Gd (i:Expr):Prop:=∀ ov iv,subscripted i false ov iv=operate [ov,iv] (getItem ov iv)
theorem vq {prog:Program} {w:World} {A:Around} {E:Value→Shared→Prop} {s:Shared} {env:Env} {value slice:Expr} {pos:Pos} {T id:String} {Q:Value→Shared→Prop}
  (hl:typeLookup (.type T) "__getitem__" = pure (some (.builtin id))) (hs:Gd slice)
  (h:wpAny (model prog w) A (eval value env) (fun o s₁=>wpAny (model prog w) A (eval slice env) (fun i s₂=>s₂.TypeIs o T∧wpAny (model prog w) A (getItem o i) Q E s₂) E s₁) E s) :
  wpAny (model prog w) A (eval (.Subscript value slice pos) env) Q E s:=by
 refine Subscript_ (wpAny_mono h (fun o s₁ h₁=>wpAny_mono h₁ (fun i s₂ h₂=>?_) fun _ _ x=>x) fun _ _ x=>x);obtain ⟨hT,h₂⟩:=h₂;unfold subscriptTail;refine wpAny_bind ?_;rw [getitemInPython_of_ne hT.not_modules];refine wpAny_bind (wpAny_specialOf hT hl ?_);have fin:wpAny (model prog w) A (subscripted slice false o i) (fun r s₃=>wpAny (model prog w) A (letTemporaryGo value o r >>= fun _=>pure r) Q E s₃) E s₂:=by
  rw [hs o i];exact wpAny_operating (wpAny_mono h₂ (fun r s₃ h₃=>wpAny_bind (wpAny_letTemporaryGo (wpAny_pure h₃))) fun _ _ x=>x)
 first
  | exact wpAny_pure (wpAny_bind fin)
  | exact wpAny_bind (wpAny_pure (wpAny_bind fin))
  | exact wpAny_bind fin
section
variable {X:Cx} {o i e value:Expr} {pos pos' tpos:Pos} {td ty tv:TE}
end
section
variable {X:Cx} {pos:Pos}
end
section
variable {X:Cx} {pins:List (Addr×Obj)} {σ:St} {H:Hp} {s:Shared} {a:Addr} {y d:V} {u r:Value} {o:Option V} {A:Around} {E:Value→Shared→Prop}
end
section
variable {X:Cx} {o e f:Expr} {apos cpos:Pos} {td ty tx:TE}
end
section
variable {X:Cx} {pins:List (Addr×Obj)} {σ:St} {H:Hp} {s:Shared} {a:Addr} {kvs:List (Key×V)} {A:Around} {E:Value→Shared→Prop}
end
section
variable {X:Cx} {pins:List (Addr×Obj)} {σ:St} {H:Hp} {s:Shared} {a:Addr} {y:V} {u:Value} {A:Around} {E:Value→Shared→Prop}
end
end L2
namespace PySem
open Sem (wp)
namespace F
end F
end PySem
namespace PySem
open Sem (wp)
section
variable {prog:Program} {w:World} {K:Type} [DecidableEq K] {knd:KeyKind prog w K} {A:Around} {E:Value→Shared→Prop}
def Heap.PairItems (h:Heap) (knd:KeyKind prog w K) (items:Array Value) (kvs:List (K×Value)):Prop :=
 items.size=kvs.length∧∀ (i:Nat) (kv:K×Value),kvs[i]?=some kv→∃ (a:Addr) (key:Value),items[i]?=some (.ref a)∧h.IsTuple a #[key,kv.2]∧knd.is kv.1 key=true
theorem Heap.PairItems.stay {h h':Heap} {items:Array Value} {kvs:List (K×Value)} (x:h.PairItems knd items kvs) (k:∀ (i:Nat) (a:Addr) (o:Obj),items[i]?=some (.ref a)→h.get? a=some o→h'.get? a=some o):h'.PairItems knd items kvs :=
 ⟨x.1,fun i kv e=>by
  obtain ⟨a,key,e1,⟨o,e2,r⟩,e3⟩:=x.2 i kv e;exact ⟨a,key,e1,⟨o,k i a o e1 e2,r⟩,e3⟩⟩
end
end PySem
namespace L2
open PySem PySem.Spec PyProof.Rows
def Pl (H:Hp) (a:Addr):Prop:=∃ o u,H a=some (.frz o u)∧o.dict=none
mutual
inductive IsP (K:PySem.W.Frag) (H:Hp):Dt→V→Prop
 | non:IsP K H .non .non
 | bl {b}:IsP K H (.bl b) (.bl b)
 | int {i}:IsP K H (.int i) (.int i)
 | str {z}:IsP K H (.str z) (.str z)
 | tup {l:List Dt} {a:Addr} {xs:List V}:SqT K H a xs→Pl H a→IsPs K H l xs→IsP K H (.tup l) (.ref a)
inductive IsPs (K:PySem.W.Frag) (H:Hp):List Dt→List V→Prop
 | nil:IsPs K H [] []
 | cons {d:Dt} {l:List Dt} {x:V} {xs:List V}:IsP K H d x→IsPs K H l xs→IsPs K H (d :: l) (x :: xs)
end
section
variable {K:PySem.W.Frag} {H H':Hp}
mutual
theorem IsP.d:∀ {d:Dt} {v:V},IsP K H d v→IsD K H d v
 | _,_,.non=>.non
 | _,_,.bl=>.bl
 | _,_,.int=>.int
 | _,_,.str=>.str
 | _,_,.tup h _ r=>.tup h (IsPs.d r)
theorem IsPs.d:∀ {l:List Dt} {xs:List V},IsPs K H l xs→IsDs K H l xs
 | _,_,.nil=>.nil
 | _,_,.cons h r=>.cons (IsP.d h) (IsPs.d r)
end
theorem Pl.same {a:Addr} (g:Same H H') (h:Pl H a):Pl H' a:=by
 obtain ⟨o,u,e,d⟩:=h;exact ⟨o,u,g _ _ e,d⟩
theorem Pl.but {a r:Addr} {ys:List V} (hr:H r=some (.lst ys)) (g:But r H H') (h:Pl H a):Pl H' a:=by
 obtain ⟨o,u,e,d⟩:=h;exact ⟨o,u,g _ _ (ko e hr (by intro z;cases z)) e,d⟩
mutual
theorem IsP.same (g:Same H H'):∀ {d:Dt} {v:V},IsP K H d v→IsP K H' d v
 | _,_,.non=>.non
 | _,_,.bl=>.bl
 | _,_,.int=>.int
 | _,_,.str=>.str
 | _,_,.tup h p r=>.tup (g.tup h) (p.same g) (IsPs.same g r)
theorem IsPs.same (g:Same H H'):∀ {l:List Dt} {xs:List V},IsPs K H l xs→IsPs K H' l xs
 | _,_,.nil=>.nil
 | _,_,.cons h r=>.cons (IsP.same g h) (IsPs.same g r)
end
mutual
theorem IsP.but {r:Addr} {ys:List V} (hr:H r=some (.lst ys)) (g:But r H H'):∀ {d:Dt} {v:V},IsP K H d v→IsP K H' d v
 | _,_,.non=>.non
 | _,_,.bl=>.bl
 | _,_,.int=>.int
 | _,_,.str=>.str
 | _,_,.tup h p q=>.tup (by
   rcases tu hr h with n | n
   ·exact g.tup n h
   ·exact n _) (p.but hr g) (IsPs.but hr g q)
theorem IsPs.but {r:Addr} {ys:List V} (hr:H r=some (.lst ys)) (g:But r H H'):∀ {l:List Dt} {xs:List V},IsPs K H l xs→IsPs K H' l xs
 | _,_,.nil=>.nil
 | _,_,.cons h q=>.cons (IsP.but hr g h) (IsPs.but hr g q)
end
theorem IsPs.length {l:List Dt} {xs:List V} (h:IsPs K H l xs):l.length=xs.length:=h.d.length
theorem IsPs.get {l:List Dt} {xs:List V} (h:IsPs K H l xs) {i:Nat} {d:Dt} (e:l[i]?=some d):∃ x,xs[i]?=some x∧IsP K H d x:=by
 induction l generalizing xs i with
 | nil=>simp at e
 | cons c l ih =>
  cases h with
  | cons h r =>
   cases i with
   | zero=>simp at e;subst e;exact ⟨_,rfl,h⟩
   | succ i=>exact ih r (by simpa using e)
theorem IsPs.get' {l:List Dt} {xs:List V} (h:IsPs K H l xs) {i:Nat} {x:V} (e:xs[i]?=some x):∃ d,l[i]?=some d∧IsP K H d x:=by
 induction l generalizing xs i with
 | nil=>cases h;simp at e
 | cons c l ih =>
  cases h with
  | cons h r =>
   cases i with
   | zero=>simp at e;subst e;exact ⟨_,rfl,h⟩
   | succ i=>exact ih r (by simpa using e)
theorem IsPs.append {l m:List Dt} {xs ys:List V} (h:IsPs K H l xs) (h':IsPs K H m ys):IsPs K H (l++m) (xs++ys):=by
 induction l generalizing xs with
 | nil=>cases h;exact h'
 | cons d l ih=>cases h with | cons h r=>exact .cons h (ih r)
theorem IsPs.drop:∀ {l:List Dt} {xs:List V} (n:Nat),IsPs K H l xs→IsPs K H (l.drop n) (xs.drop n)
 | _,_,0,h=>h
 | _,_,_+1,.nil=>.nil
 | _,_,n+1,.cons _ r=>IsPs.drop n r
theorem IsPs.take:∀ {l:List Dt} {xs:List V} (n:Nat),IsPs K H l xs→IsPs K H (l.take n) (xs.take n)
 | _,_,0,_=>.nil
 | _,_,_+1,.nil=>.nil
 | _,_,n+1,.cons h r=>.cons h (IsPs.take n r)
theorem IsP.unref {l:List Dt} {v:V} (h:IsP K H (.tup l) v):∃ a xs,v=.ref a∧SqT K H a xs∧Pl H a∧IsPs K H l xs:=by
 cases h with
 | tup h p r=>exact ⟨_,_,rfl,h,p,r⟩
end
def plO (xs:List V) (us:List Value):HO:=.frz { cls:=.type "tuple",data:=.seq us.toArray } (.tup xs)
section
variable {X:Cx} {pins:List (Addr×Obj)} {σ:St} {H:Hp} {s:Shared}
theorem Inv.plain {xs:List V} {us:List Value} {t':Nat} (I:Inv X pins σ H s) (r:Vals xs us) (z:xs.length≤sizeLine) :
  Inv X pins σ (upd H s.heap.objs.size (plO xs us)) { s with heap:=s.heap.push { cls:=.type "tuple",data:=.seq us.toArray },toks:=t' }∧H s.heap.objs.size=none :=
 ⟨I.laid (t':=t') (fun b ob q=>Heap.get?_push_of_some _ q) (Nat.le_refl _) ⟨Heap.get?_push_size _ rfl,z,us,r,IsTup.new _ _⟩,I.hok.fresh (Nat.le_refl _)⟩
theorem gr {p:Addr} {l:List Dt} {xs:List V} {us:List Value} (hf:H p=none) (d:IsPs X.K H l xs):Same H (upd H p (plO xs us))∧IsP X.K (upd H p (plO xs us)) (.tup l) (.ref p) :=
 ⟨ah hf _,.tup (.inl (.inr ⟨_,aa⟩)) ⟨_,_,aa,rfl⟩ (d.same (ah hf _))⟩
variable {e:Expr} {es:List Expr} {t:TA} {pos:Pos}
inductive ITup (K:PySem.W.Frag) (xs:List V) (H1:Hp) (Q:VK):Prop
 | mk (l:List Dt):(IsPs K H1 l xs)→(xs.length≤sizeLine)→(∀ v H',Same H1 H'→IsP K H' (.tup l) v→Q v H')→ITup K xs H1 Q
def wm (K:PySem.W.Frag) (t:TA):TE:=fun σ H Q=>t σ H fun xs H1=>ITup K xs H1 Q
theorem vt {x1} (h:PA X es t):PE X (.Tuple es x1 pos) (wm X.K t):=by
 intro pins s σ H Q I hq;refine wpAny_Tuple_spliced (thn (h pos pins s σ H _ I hq) fun us s1 ⟨xs,H1,I1,r,l,d,z,q⟩=>⟨by rw [← r.length];exact z,?_⟩);obtain ⟨I2,hf⟩:=I1.plain (t':=s1.toks) r z;obtain ⟨g,dp⟩:=gr (X:=X) (us:=us) hf d;exact ⟨.ref s1.heap.objs.size,_,I2,rfl,q _ _ g dp⟩
theorem nD:aZ X (.type "tuple") (fun xs H Q=>∃ p ys l,xs=[.ref p]∧SqL X.K H p ys∧IsPs X.K H l ys∧∀ v H',Same H H'→IsP X.K H' (.tup l) v→Q v H'):=by
 intro pins s σ H xs us Q I r h;obtain ⟨p,ys,l,rfl,hq,d,q⟩:=h;obtain ⟨u,rfl,rx⟩:=cr r
 cases rx
 obtain ⟨its,r',pl,hz⟩:=I.list hq;have hlen:=r'.length;refine call_tuple_list pl.isList (fun h' kp=>?_) (by simp only [List.size_toArray] <;> lia);have I1:Inv X pins σ H { s with heap:=h' }:=I.kept (t':=s.toks) kp;obtain ⟨I2,hf⟩:=I1.plain (t':=s.toks) r' hz;obtain ⟨g,dp⟩:=gr (X:=X) (us:=its) hf d;exact ⟨.ref h'.objs.size,_,I2,rfl,q _ _ g dp⟩
theorem vv:OpR X (binaryOp .Add) (fun x y H Q=>∃ l m,IsP X.K H (.tup l) x∧IsP X.K H (.tup m) y∧l.length+m.length≤sizeLine∧∀ v H',Same H H'→IsP X.K H' (.tup (l++m)) v→Q v H'):=by
 intro pins s σ H x y v u Q I rx ry h;obtain ⟨l,m,dx,dy,hz,q⟩:=h;obtain ⟨a,xs,rfl,ha,pa,ra⟩:=dx.unref;obtain ⟨b,ys,rfl,hb,pb,rb⟩:=dy.unref
 cases rx
 cases ry
 obtain ⟨its,r1,p1,_⟩:=I.tuple ha;obtain ⟨its2,r2,p2,_⟩:=I.tuple hb;have e1:=ra.length;have e2:=rb.length
 by_cases hx:xs=[]
 ·subst hx;have hi:its=[]:=r1.nil_iff.mpr rfl;subst hi;have hl:l=[]:=List.length_eq_zero_iff.mp (by rw [e1];rfl);subst hl;exact HT.cat_nil p1 p2 ⟨.ref b,H,I,rfl,q _ H (Same.refl H) dy⟩
 ·refine HT.cat_tup p1 p2 (fun z=>hx (r1.nil_iff.mp z)) (fun z=>?_) (fun z=>?_) (by rw [← r1.length,← r2.length,← e1,← e2];exact hz)
  ·have hy:=r2.nil_iff.mp z;subst hy;have hm:m=[]:=List.length_eq_zero_iff.mp (by rw [e2];rfl);subst hm;exact ⟨.ref a,H,I,rfl,q _ H (Same.refl H) (by rw [List.append_nil];exact dx)⟩
  ·obtain ⟨I2,hf⟩:=I.plain (t':=s.toks) (r1.append r2) (by rw [List.length_append,← e1,← e2];exact hz);obtain ⟨g,dp⟩:=gr (X:=X) (us:=its++its2) hf (ra.append rb);exact ⟨.ref s.heap.objs.size,_,I2,rfl,q _ _ g dp⟩
theorem vw:SlR X (fun x lo hi H Q=>∃ l,IsP X.K H (.tup l) x∧∀ v H',Same H H'→IsP X.K H' (.tup (rD l lo hi)) v→Q v H'):=by
 intro pins s σ H x v vl vu lo hi sl Q I rx hs pl pu h;obtain ⟨l,dx,q⟩:=h;obtain ⟨a,xs,rfl,hx,pa,ra⟩:=id dx.unref
 cases rx
 have e1:=ra.length;obtain ⟨its,r,ht,hz⟩:=I.tuple hx;have hlen:its.toArray.size=xs.length:=by rw [List.size_toArray];exact r.length.symm
 refine ⟨"tuple",_,PyProof.Rows.slot_tuple_getitem.lookup,ht.typeIs,?_⟩
 by_cases hw:HT.sIx xs.length 0 lo=0∧HT.sIx xs.length xs.length hi=xs.length
 ·refine HT.getItem_tuple_all ht hs pl pu (by rw [hlen];exact hw.1) (by rw [hlen];exact hw.2) ⟨.ref a,H,I,rfl,q _ H (Same.refl H) ?_⟩;have e:rD l lo hi=l:=by
   unfold rD;rw [e1,hw.1,hw.2,List.drop_zero,Nat.sub_zero,← e1,List.take_length]
  rw [e];exact dx
 ·refine HT.getItem_tuple_cut ht hs pl pu (by rw [hlen];exact hw) ?_ (by rw [hlen];exact hz);rw [hlen];obtain ⟨I2,hf⟩:=I.plain (t':=s.toks) ((r.drop (HT.sIx xs.length 0 lo)).take (HT.sIx xs.length xs.length hi - HT.sIx xs.length 0 lo)) (Nat.le_trans (iy xs lo hi) hz);have d2:IsPs X.K H (rD l lo hi) (i8 xs lo hi):=by
   unfold rD i8;rw [e1];exact (ra.drop _).take _
  obtain ⟨g,dp⟩:=gr (X:=X) (us:=(its.drop (HT.sIx xs.length 0 lo)).take (HT.sIx xs.length xs.length hi - HT.sIx xs.length 0 lo)) hf d2;exact ⟨.ref s.heap.objs.size,_,I2,rfl,q _ _ g dp⟩
theorem vx:IxR X (fun x y H Q=>∃ l i d,IsP X.K H (.tup l) x∧y=.int i∧atI l i=some d∧∀ v,IsP X.K H d v→Q v H):=by
 intro value slice pins s σ H x y v u Q I rx ry h hs;obtain ⟨l,i,d,dx,rfl,ha,q⟩:=h;obtain ⟨a,xs,rfl,hx,pa,ra⟩:=id dx.unref;obtain ⟨j,hj,hd,_⟩:=gj ha;have e1:=ra.length;obtain ⟨w',hw,dw⟩:=ra.get hd;have hat:atI xs i=some w':=by
  unfold atI at ha ⊢;rw [← e1]
  cases z:ixN l.length i with
  | none=>rw [z] at ha;cases ha
  | some j' =>
   rw [z] at ha;have ha':l[j']?=some d:=ha;obtain ⟨w2,hw2,dw2⟩:=ra.get ha';have z2:=iV z;rw [hj] at z2;have:j=j':=Option.some.inj z2.1;subst this;exact hw
 exact sU value slice pins s σ H (.ref a) (.int i) v u Q I rx ry ⟨a,xs,i,w',rfl,rfl,hx,hat,q w' dw⟩ hs
theorem qv:OpR X (binaryOp .Mult) (rI IntMulOk fun i j=>.int (i*j)):=opI fun _ _ _ _ _ _ _ hc q=>mul_int q hc
end
def eo (fs:List (Str×Dt)) (z:Str):Option Dt:=(fs.find? fun p=>decide (p.1=z)).map (·.2)
abbrev prD (p:Str×Dt):Dt:=.tup [.str p.1,p.2]
def Hb (K:PySem.W.Frag) (H:Hp) (p:Addr) (fs:List (Str×Dt)):Prop :=
 ∃ kvs,H p=some (.dK kvs)∧∀ z,(eo fs z=none→nB kvs (Sum.inr z:Key)=none)∧∀ d,eo fs z=some d→∃ v,nB kvs (Sum.inr z:Key)=some v∧IsP K H d v
section
variable {X:Cx} {pins:List (Addr×Obj)} {σ:St} {H:Hp} {s:Shared}
end
end L2
namespace PySem
open Sem (wp)
open Builtin
section
variable {prog:Program} {w:World} {A:Around} {E:Value→Shared→Prop} {s:Shared}
end
end PySem
namespace L2
open PySem PySem.Spec PyProof.Rows
section
variable {X:Cx}
variable {tg:Expr}
end
theorem tH {X:Cx} {st:Stmt} {t:TS} (h:X.Ok→PS X st t):PS X st t:=fun pins s σ H D I hw=>h I.ok pins s σ H D I hw
theorem Ge {P:Program} {w:World} {X:Cx}:em (CXE P w) X (fun _ _ _=>False):=by
 intro pins σ H s e s' I h;obtain ⟨_,_,_,_,_,_,_,_,_,_,_,_,_,q⟩:=h;exact q.elim
theorem u1 {A:Around} (h:A.units+64 < cLine):A.units+1 < cLine:=by lia
theorem bt {P:Program} {w:World} {K:PySem.W.Frag} {mg:Str→Option Value} {base:Heap} {CX:CXT} {k:Nat} {f:Addr} {fd:FuncData} {ps:List Str} {sp:Sp} (h:∀ vs H Q E,¬ sp vs H Q E):FnOk P w K mg base CX k f fd ps sp :=
 ⟨fun vs H Q E z=>(h vs H Q E z).elim,fun A outer s H args us vs Q E hr e0 hb r z=>(h vs H Q E z).elim⟩
section
variable {X:Cx}
theorem jf:OpR X (binaryOp .FloorDiv) (rI (fun _ j=>0 < j∧j < 10000000000000000000000000000000000000000000000000000000000000) fun i j=>.int (i / j)):=opI fun i j _ _ _ _ _ hc q=>by
 have h1:(0:Int) < j:=hc.1;have h2:j < 10000000000000000000000000000000000000000000000000000000000000:=hc.2;refine floordiv_int (by lia) (by rw [Int.fdiv_eq_ediv_of_nonneg i (by lia)];exact q) (.inl (PyProof.noPylong_of_log2 ?_));have h3:j.natAbs < 2 ^ 9000:=Nat.lt_of_lt_of_le (show j.natAbs < 10000000000000000000000000000000000000000000000000000000000000 by lia) (by decide +kernel);exact (Nat.log2_lt (by lia)).mpr h3
theorem mt_starts:MtM X "str.startswith" (fun x vs H Q=>∃ y z,x=.str y∧vs=[.str z]∧Q (.bl (Txt.startswith y z)) H):=by
 intro pins s σ H x vs v us Q I rx rv h;obtain ⟨y,z,rfl,rfl,q⟩:=h;obtain ⟨t,rfl⟩:=rx;obtain ⟨u,rfl,t',rfl⟩:=rv.one;exact SC.startswith ⟨.bl _,H,I,rfl,q⟩
theorem call_int_text:aZ X (.type "int") (fun xs H Q=>∃ z n,xs=[.str z]∧PySem.intText? z=some n∧z.length≤640∧Q (.int n) H):=by
 intro pins s σ H xs us Q I r h;obtain ⟨z,n,rfl,hn,hl,q⟩:=h;obtain ⟨u,rfl,t,rfl⟩:=cr r;exact PySem.W.KIN.call_text hn hl ⟨.int n,H,I.tok _,⟨_,rfl⟩,q⟩
inductive ICatS (K:PySem.W.Frag) (x y:V) (H:Hp) (Q:VK):Prop
 | mk (l b:Addr) (xs zs:List V):(x=.ref l)→(y=.ref b)→(SqL K H l xs)→(SqL K H b zs)→(xs.length+zs.length≤sizeLine)→(∀ p,H p=none→Q (.ref p) (upd H p (.lst (xs++zs))))→ICatS K x y H Q
def tI (K:PySem.W.Frag):R2:=fun x y H Q=>ICatS K x y H Q
theorem vy:OpR X (binaryOp .Add) (tI X.K):=by
 intro pins s σ H x y v u Q I rx ry h;obtain ⟨l,b,xs,zs,rfl,rfl,hH,hB,hz,q⟩:=h
 cases rx
 cases ry
 obtain ⟨its,r,pl,z⟩:=I.list hH;obtain ⟨its2,r2,pl2,z2⟩:=I.list hB;obtain ⟨⟨cls,dd,data,sl⟩,ho,hc,n,hd⟩:=pl.isList;obtain ⟨⟨cls2,dd2,data2,sl2⟩,ho2,hc2,n2,hd2⟩:=pl2.isList;simp only at hc hd hc2 hd2;subst hc hd hc2 hd2;have l1:=r.length;have l2:=r2.length;have ea:its.toArray++its2.toArray=(its++its2).toArray:=by simp
 refine concat_meets ⟨_,ho,rfl⟩ ⟨_,ho2,rfl⟩ noFill_list_add seq_list_add PySem.F.slot_list_add PySem.F.entry_list_add (PySem.F.args_list_add_2 _ _) (list_addW l b its.toArray its2.toArray n n2 dd dd2 sl sl2 (by simp only [List.size_toArray];lia)) ⟨ho,ho2,?_⟩;rw [ea];exact ⟨.ref _,_,I.lnew (t':=s.toks) (r.append r2) (by rw [List.length_append];lia),rfl,q _ I.fresh⟩
end
open PySem.NumText
def dg (m:Nat):List Nat:=(Nat.toDigits 10 m).map Char.toNat
theorem tK:∀ d:Nat,d < 10→(Nat.digitChar d).toNat=48+d:=by decide
theorem eA {m:Nat} (h:m < 10):dg m=[48+m]:=by
 unfold dg;rw [Nat.toDigits_of_lt_base h];show [(Nat.digitChar m).toNat]=_;rw [tK m h]
theorem qw {m:Nat} (h:10≤m):dg m=dg (m / 10)++[48+m % 10]:=by
 have hm:m % 10 < 10:=Nat.mod_lt m (by decide);have t:Nat.toDigits 10 (m / 10)++Nat.toDigits 10 (m % 10)=Nat.toDigits 10 (10*(m / 10)+m % 10):=Nat.toDigits_append_toDigits (by decide) (by lia) hm;rw [Nat.div_add_mod] at t;unfold dg;rw [← t,List.map_append]
 congr 1
 exact eA hm
theorem du (m:Nat):AllDigits (dg m):=by
 intro c hc;obtain ⟨ch,hch,e⟩:=List.mem_map.mp hc;rw [← e];exact digit_range (Nat.isDigit_of_mem_toDigits (by decide) (by decide) hch)
theorem tL (m:Nat):dg m≠[]:=by
 intro e;have h:=toDigits_len_ge 10 m;rw [List.map_eq_nil_iff.mp e] at h;exact absurd h (by decide)
theorem tM (m:Nat):digitsVal (dg m)=m:=PySem.W.KIN.val_back m
theorem qx:∀ (m:Nat),0 < m→∃ c r,dg m=c :: r∧49≤c:=by
 intro m
 induction m using Nat.strongRecOn with
 | _ m ih =>
  intro h
  by_cases h1:m < 10
  ·exact ⟨48+m,[],eA h1,by lia⟩
  ·obtain ⟨c,r,e,hc⟩:=ih (m / 10) (by lia) (by lia);exact ⟨c,r++[48+m % 10],by rw [qw (by lia),e];rfl,hc⟩
theorem pI:∀ (k m:Nat),m < 10 ^ (k+1)→(dg m).length≤k+1
 | 0,m,h=>by rw [eA (by simpa using h)];exact Nat.le_refl 1
 | k+1,m,h=>by
  by_cases h1:m < 10
  ·rw [eA h1];exact Nat.succ_le_succ (Nat.zero_le _)
  ·rw [qw (by lia),List.length_append,List.length_singleton];have:m / 10 < 10 ^ (k+1):=by
    rw [Nat.pow_succ] at h;exact Nat.div_lt_of_lt_mul (by rw [Nat.mul_comm];exact h)
   have:=pI k (m / 10) this;lia
def dM (n:Int):List Nat:=if n < 0 then 45 :: dg n.natAbs else dg n.natAbs
theorem str_int (n:Int):(Str.ofString (toString n)).cps.toList=dM n:=by
 rw [signs_ofString]
 cases n with
 | ofNat m =>
  have:¬ (Int.ofNat m < 0):=by simp
  unfold dM;rw [if_neg this];show (Nat.repr m).toList.map Char.toNat=_;rw [Nat.toList_repr]
  rfl
 | negSucc m =>
  have:Int.negSucc m < 0:=Int.negSucc_lt_zero m;unfold dM;rw [if_pos this];show ("-" ++Nat.repr (m+1)).toList.map Char.toNat=_;rw [String.toList_append,List.map_append,Nat.toList_repr]
  rfl
theorem b8 {x y:Str} (h:x.cps.toList=y.cps.toList):x=y:=by
 obtain ⟨a⟩:=x;obtain ⟨b⟩:=y
 congr 1
 exact Array.toList_inj.mp h
theorem jg (z:Str) (c:Nat):Txt.startswith z ⟨#[c]⟩=decide (z.cps.toList.head?=some c):=by
 obtain ⟨⟨l⟩⟩:=z
 cases l with
 | nil=>rfl
 | cons d r =>
  rw [Bool.eq_iff_iff,decide_eq_true_iff];simp [Txt.startswith,Builtin.Str.subAt,Str.length]
theorem pJ {z:Str} (h:1≤z.length):Txt.slice z (some 1) none=⟨(z.cps.toList.drop 1).toArray⟩:=by
 have e:=slice_from_eq (x:=z) (i:=1) (b:=z.length) (by decide) (by lia) rfl;rw [e];apply b8;show ((z.cps.toList.drop 1).take ((z.length:Int) - 1).toNat)=z.cps.toList.drop 1;apply List.take_of_length_le;have:z.cps.toList.length=z.length:=Array.length_toList;rw [List.length_drop];lia
end L2
namespace L2
open PySem PySem.Spec PyProof.Rows
section
variable {X:Cx} {pins:List (Addr×Obj)} {σ:St} {H:Hp} {s:Shared} {h':Heap}
theorem Inv.turnedT {t':Nat} {wr:List Addr} {T:Addr} {o:HO} (I:Inv X pins σ H s) (k:∀ b u,b∉wr→s.heap.get? b=some u→h'.get? b=some u) (f:∀ b∈wr,fA X pins H b)
  (hT:s.heap.objs.size≤T) (new:ObjOk X.prog X.w (upd H T o) h' T o):Inv X pins σ (upd H T o) { s with heap:=h',toks:=t' }:=by
 have nT:∀ b u,s.heap.get? b=some u→b≠T:=fun b u e z=>absurd (Nat.lt_of_lt_of_le (Heap.lt_size e) (z ▸ hT)) (Nat.lt_irrefl _);have nH:∀ b u,H b=some u→b≠T:=fun b u e z=>absurd (Nat.lt_of_lt_of_le (I.hok.lt e) (z ▸ hT)) (Nat.lt_irrefl _);have nw:∀ b u,H b=some u→b∉wr:=fun b u e z=>by rw [(f b z).1] at e;cases e
 refine I.step (g':=s.gens) (d':=s.drawn) (ch:=wr) (fun b hb=>?_) (fun b u _ _ hc e _=>k b u hc e) (fun b u _ _ hc e _=>⟨u.slots,k b u hc e⟩) (fun b u _ e n=>by rw [ae (nT b u e)];exact n)
  (fun b u hc e=>⟨u,k b u hc e⟩) (fun b xs e=>by rw [ae (nH b _ e)];exact e) (fun b u v e=>by rw [ae (nH b _ e)];exact e) (fun b ps e=>⟨#[],by rw [ae (nH b _ e),e];simp⟩) (fun m hm=>?_) (fun b u e=>?_) I.bare
 ·obtain ⟨f0,f1,f2,f3,f4,f5⟩:=f b hb;exact ⟨f3,f1,f4,f5⟩
 ·obtain ⟨u,es,ep,ho,r⟩:=hm;exact ⟨u,es,ep,k _ u (fun z=>(f _ z).2.1 rfl) ho,r⟩
 ·by_cases hb:b=T
  ·subst hb;rw [aa] at e
   cases e
   exact new
  ·rw [ae hb] at e;refine (I.hok b u e).stay (fun c v hc q=>k c v ?_ q) (fun c q=>?_) fun c xs q=>by rw [ae (nH c _ q)];exact q
   ·rcases hc with z | z
    ·rw [z];exact nw b u e
    ·exact nw c _ z
   ·rw [ae (nH c _ q)];exact q
theorem Inv.turnedL {t':Nat} {wr:List Addr} (I:Inv X pins σ H s) (k:∀ b u,b∉wr→s.heap.get? b=some u→h'.get? b=some u) (f:∀ b∈wr,fA X pins H b):Inv X pins σ H { s with heap:=h',toks:=t' }:=by
 have nw:∀ b u,H b=some u→b∉wr:=fun b u e z=>by rw [(f b z).1] at e;cases e
 refine I.step (g':=s.gens) (d':=s.drawn) (ch:=wr) (fun b hb=>?_) (fun b u _ _ hc e _=>k b u hc e) (fun b u _ _ hc e _=>⟨u.slots,k b u hc e⟩) (fun _ _ _ _ n=>n)
  (fun b u hc e=>⟨u,k b u hc e⟩) (fun _ _ e=>e) (fun _ _ _ e=>e) (fun b ps e=>⟨#[],by rw [e];simp⟩) (fun m hm=>?_) (fun b u e=>?_) I.bare
 ·obtain ⟨f0,f1,f2,f3,f4,f5⟩:=f b hb;exact ⟨f3,f1,f4,f5⟩
 ·obtain ⟨u,es,ep,ho,r⟩:=hm;exact ⟨u,es,ep,k _ u (fun z=>(f _ z).2.1 rfl) ho,r⟩
 ·refine (I.hok b u e).stay (fun c v hc q=>k c v ?_ q) (fun _ q=>q) fun _ _ q=>q;rcases hc with z | z
  ·rw [z];exact nw b u e
  ·exact nw c _ z
end
def Itz (K:PySem.W.Frag) (a b:Addr):It :=
 ⟨fun i H=>∃ xs ys x y,SqL K H a xs∧SqL K H b ys∧xs[i]?=some x∧ys[i]?=some y,
  fun i H v H'=>∃ T x y,v=.ref T∧H T=none∧H'=upd H T (.tup [x,y])∧(∀ xs,SqL K H a xs→xs[i]?=some x)∧(∀ ys,SqL K H b ys→ys[i]?=some y),
  fun i H=>∃ xs ys,SqL K H a xs∧SqL K H b ys∧min xs.length ys.length=i⟩
def Gf (z TI TO i1 i2 l1 l2:Addr) (i:Nat) (h:Heap):Prop:=IsZip h z TI TO .none∧IsPair h TI (.ref i1) (.ref i2)∧(∃ a b,IsPair h TO a b)∧h.IsListIter i1 l1 i∧h.IsListIter i2 l2 i
theorem tN {P:Program} {w:World} {K:PySem.W.Frag} {elts:List Expr} {k:Nat} {pos:Pos} (z TI TO i1 i2 l1 l2:Addr) (D:ZipApart z TI TO i1 i2 l1 l2) :
  Turn P w K (.Tuple elts k pos) (Itz K l1 l2) [z,TI,TO,i1,i2] z (Gf z TI TO i1 i2 l1 l2) where
 mem:=by simp
 obj:=fun i h st b hb=>by
  obtain ⟨hz,hTI,⟨a,c,hTO⟩,⟨o1,e1,c1,d1⟩,⟨o2,e2,c2,d2⟩⟩:=st;simp only [List.mem_cons,List.not_mem_nil,or_false] at hb;rcases hb with rfl | rfl | rfl | rfl | rfl
  ·exact ⟨_,hz,fun v q=>by cases q⟩
  ·exact ⟨_,hTI,fun v q=>by cases q⟩
  ·exact ⟨_,hTO,fun v q=>by cases q⟩
  ·exact ⟨o1,e1,fun v q=>by rw [d1] at q;cases q⟩
  ·exact ⟨o2,e2,fun v q=>by rw [d2] at q;cases q⟩
 keep:=fun i h h' st kk=>by
  obtain ⟨hz,hTI,⟨a,c,hTO⟩,h1,h2⟩:=st;exact ⟨kk z (by simp) _ hz,kk TI (by simp) _ hTI,⟨a,c,kk TO (by simp) _ hTO⟩,h1.at fun o e=>kk i1 (by simp) o e,h2.at fun o e=>kk i2 (by simp) o e⟩
 item:=by
  intro X hP hw hK hc i pins s σ H E I hf st hg;subst hP hw hK;obtain ⟨xs,ys,x,y,hx,hy,ex,ey⟩:=hg;obtain ⟨its,rv,p,hz⟩:=I.list hx;obtain ⟨its2,rv2,p2,hz2⟩:=I.list hy;obtain ⟨s1,s2,s3,s4,s5⟩:=st;have W:=WalksT.zip2 (prog:=X.prog) (w:=X.w) (I.ok.hd hc) z TI TO i1 i2 l1 l2 D its.toArray its2.toArray;have li:i < xs.length:=(List.getElem?_eq_some_iff.mp ex).1;have li2:i < ys.length:=(List.getElem?_eq_some_iff.mp ey).1;have el:=rv.length;have el2:=rv2.length;have wsub:∀ b∈[z,TO,i1,i2],b∈[z,TI,TO,i1,i2]:=fun b hb=>by
   simp only [List.mem_cons,List.not_mem_nil,or_false] at hb ⊢;rcases hb with rfl | rfl | rfl | rfl <;> simp
  refine W.item i s _ _ (by simp only [List.size_toArray];lia) ⟨s1,s2,s3,s4,s5,p.isList,p2.isList⟩ fun T vals h' tk hv hT hTup hm hk=>?_;obtain ⟨u,v,eu,ev,rfl⟩:=hv;obtain ⟨u',eu',ru⟩:=rv.get ex;obtain ⟨v',ev',rv'⟩:=rv2.get ey;have e1:u=u':=by
   have:its[i]?=some u:=by simpa using eu
   rw [eu'] at this;exact (Option.some.inj this).symm
  have e2:v=v':=by
   have:its2[i]?=some v:=by simpa using ev
   rw [ev'] at this;exact (Option.some.inj this).symm
  subst e1 e2;have hTn:H T=none:=I.hok.fresh hT;have I1:Inv X pins σ (upd H T (.tup [x,y])) { s with heap:=h',toks:=tk }:=I.turnedT hk (fun b hb=>hf b (wsub b hb)) hT ⟨by show 2≤sizeLine;decide,[u,v],.cons ru (.cons rv' .nil),hTup⟩;have ap:=W.apart i T h' hm;have f1:∀ b∈[z,TO,i1,i2],fA X pins (upd H T (.tup [x,y])) b:=fun b hb=>by
   obtain ⟨f0,f1⟩:=hf b (wsub b hb);exact ⟨by rw [ae (fun e:b=T=>ap (by rw [← e];exact hb))];exact f0,f1⟩
  refine ⟨_,rfl,W.go elts k pos i T _ _ _ hm fun h'' st2 hk2=>?_⟩;obtain ⟨t1,t2,t3,t4,t5,_,_⟩:=st2;refine ⟨.ref T,_,Inv.turnedL (s:={ s with heap:=h',toks:=tk }) (t':=tk) I1 hk2 f1,rfl,⟨T,x,y,rfl,hTn,rfl,fun zs q=>by rw [I.list_inj q hx];exact ex,fun zs q=>by rw [I.list_inj q hy];exact ey⟩,⟨t1,t2,t3,t4,t5⟩,fun b hb=>?_⟩;have fb:=(hf b hb).1
  by_cases e:b=T
  ·subst e;have lti:s.heap.objs.size > TI:=Heap.lt_size s2;simp only [List.mem_cons,List.not_mem_nil,or_false] at hb;rcases hb with rfl | rfl | rfl | rfl | rfl
   ·exact absurd (by simp) ap
   ·exact absurd lti (Nat.not_lt.mpr hT)
   ·exact absurd (by simp) ap
   ·exact absurd (by simp) ap
   ·exact absurd (by simp) ap
  ·rw [ae e];exact fb
 done:=by
  intro X hP hw hK hc i pins s σ H E I hf st hg;subst hP hw hK;obtain ⟨xs,ys,hx,hy,hi⟩:=hg;obtain ⟨its,rv,p,hz⟩:=I.list hx;obtain ⟨its2,rv2,p2,hz2⟩:=I.list hy;obtain ⟨s1,s2,s3,s4,s5⟩:=st;have W:=WalksT.zip2 (prog:=X.prog) (w:=X.w) (I.ok.hd hc) z TI TO i1 i2 l1 l2 D its.toArray its2.toArray;have el:=rv.length;have el2:=rv2.length;have en:min its.toArray.size its2.toArray.size=i:=by simp only [List.size_toArray];lia
  have wsub:∀ b∈[z,TO,i1,i2],b∈[z,TI,TO,i1,i2]:=fun b hb=>by
   simp only [List.mem_cons,List.not_mem_nil,or_false] at hb ⊢;rcases hb with rfl | rfl | rfl | rfl <;> simp
  refine W.done s _ _ ?_ fun h' tk hk=>⟨rfl,I.turnedL hk fun b hb=>hf b (wsub b hb)⟩;rw [en];exact ⟨s1,s2,s3,s4,s5,p.isList,p2.isList⟩
 self:=fun _ _ _ _ _ st h=>wpAny_pyIter_zip st.1 h
section
variable {X:Cx} {elts:List Expr} {k:Nat} {tpos:Pos}
def Hc (K:PySem.W.Frag) (ta:TA):TI:=fun σ H R=>ta σ H fun vs H1=>∃ a b,vs=[.ref a,.ref b]∧(∃ xs,SqL K H1 a xs)∧(∃ ys,SqL K H1 b ys)∧R (Itz K a b) H1
theorem Af {a b:Expr} {ta:TA} {p pos:Pos} (hg:Gl X "zip") (hm:X.mg "zip" = none) (ha:PA X [a,b] ta) (hs:starEach [a,b] X.env=[(false,eval a X.env),(false,eval b X.env)]:=by rfl) (hs2:starEach [b] X.env=[(false,eval b X.env)]:=by rfl) :
  PI X (.Tuple elts k tpos) (.Call (.Name "zip" p) [a,b] [] pos) (Hc X.K ta):=by
 intro pins s σ H R I h;refine Call_ (gP I hg hm boot_zip (PyProof.Rows.callWith_type1 (thn (ha pos pins s σ H _ I h) fun us s1 ⟨vs,H1,I1,r1,q1⟩=>?_) (by rw [hs,hs2]) (by rw [hs2];rfl)));obtain ⟨l1,l2,e,⟨xs,hx⟩,⟨ys,hy⟩,q⟩:=q1;subst e;obtain ⟨u,v,rfl,ru,rv⟩:=r1.two
 cases ru
 cases rv
 obtain ⟨its,rr,pl,hz⟩:=I1.list hx;obtain ⟨its2,rr2,pl2,hz2⟩:=I1.list hy;have lt1:l1 < s1.heap.objs.size:=by obtain ⟨o,e,_⟩:=pl.isList;exact Heap.lt_size e
 have lt2:l2 < s1.heap.objs.size:=by obtain ⟨o,e,_⟩:=pl2.isList;exact Heap.lt_size e
 refine call_zip_2 pl.isList pl2.isList fun h' z1 z2 z3 z4 z5 zs kk=>?_;have I2:Inv X pins σ H1 { s1 with heap:=h' }:=I1.kept (t':=s1.toks) kk;refine wpAny_pyIter_zip z1 ?_;refine ⟨_,_,_,_,H1,rfl,I2,tN _ _ _ _ _ l1 l2 ?_,⟨z1,z2,⟨_,_,z3⟩,z4,z5⟩,fun b hb=>?_,q⟩
 ·have lt1':s1.heap.objs.size > l1:=lt1;have lt2':s1.heap.objs.size > l2:=lt2
  constructor <;> (show ¬ (@Eq Nat _ _)) <;> lia
 ·have:s1.heap.objs.size≤b:=by
   simp only [List.mem_cons,List.not_mem_nil,or_false] at hb;rcases hb with rfl | rfl | rfl | rfl | rfl <;> lia
  exact I1.fpOk this (I1.hok.fresh this)
end
theorem tO {K:PySem.W.Frag} {a b l:Addr} {xs ys:List V} {g:TG} {tb:List V→Addr→St→Hp→(List V→St→Hp→Prop)→Prop} {Q:VK} {σ0:St} {H0:Hp} (Pv:Nat→List V→St→Hp→Prop) (h0:Pv 0 [] σ0 H0)
  (hla:∀ i us σ H,Pv i us σ H→SqL K H a xs∧SqL K H b ys)
  (hs:∀ i x y T us σ H (N:List V→St→Hp→Prop),xs[i]?=some x→ys[i]?=some y→H T=none→Pv i us σ H→(∀ us' σ' H',Pv (i+1) us' σ' H'→N us' σ' H')→g (.ref T) σ (upd H T (.tup [x,y])) fun σ2 H2=>tb us l σ2 H2 N)
  (hd:∀ us σ H,Pv (min xs.length ys.length) us σ H→Q (.ref l) H) :
  ∃ W:Nat→Nat→List V→St→Hp→Prop,(∃ m,W 0 m [] σ0 H0)∧∀ i m us σ' H',W i m us σ' H'→((Itz K a b).stop i H'∧Q (.ref l) H') ∨
   ((Itz K a b).go i H'∧∀ x H'',(Itz K a b).yld i H' x H''→g x σ' H'' fun σ2 H2=>tb us l σ2 H2 fun us' σ3 H3=>∃ m',m' < m∧W (i+1) m' us' σ3 H3):=by
 refine ⟨fun i m us σ H=>m=min xs.length ys.length - i∧i≤min xs.length ys.length∧Pv i us σ H,⟨_,rfl,Nat.zero_le _,h0⟩,?_⟩;rintro i m us σ H ⟨rfl,hi,p⟩;obtain ⟨sa,sb⟩:=hla i us σ H p
 by_cases hlt:i < min xs.length ys.length
 ·obtain ⟨x,ex⟩:∃ x,xs[i]?=some x:=⟨_,List.getElem?_eq_getElem (by lia)⟩;obtain ⟨y,ey⟩:∃ y,ys[i]?=some y:=⟨_,List.getElem?_eq_getElem (by lia)⟩;refine .inr ⟨⟨xs,ys,x,y,sa,sb,ex,ey⟩,fun v H' q=>?_⟩;obtain ⟨T,x',y',rfl,hT,rfl,q1,q2⟩:=q;have e1:=q1 xs sa;have e2:=q2 ys sb;exact hs i x' y' T us σ H _ e1 e2 hT p fun us' σ' H' w=>⟨_,by lia,rfl,hlt,w⟩
 ·have e:i=min xs.length ys.length:=by lia
  subst e;exact .inl ⟨⟨xs,ys,sa,sb,rfl⟩,hd us σ H p⟩
def met:List Key→List Key
 | []=>[]
 | k :: r=>if r.any (fun j=>decide (j=k)) then met r else k :: met r
theorem lD (k:Key):∀ l:List Key,(met l).any (fun j=>decide (j=k))=l.any (fun j=>decide (j=k))
 | []=>rfl
 | a :: r=>by
  unfold met
  split
  ·rename_i h
   rw [lD k r,List.any_cons]
   by_cases e:a=k
   ·subst e;rw [h];simp
   ·simp [e]
  ·rw [List.any_cons,List.any_cons,lD k r]
theorem tP:∀ l:List Key,(met l).length≤l.length
 | []=>Nat.le_refl _
 | a :: r=>by
  unfold met;have:=tP r
  split
  ·rw [List.length_cons];lia
  ·rw [List.length_cons,List.length_cons];lia
theorem qy:∀ {l:List Key},l.Nodup→(met l).length=l.length
 | [],_=>rfl
 | a :: r,h=>by
  obtain ⟨h1,h2⟩:=List.nodup_cons.mp h;unfold met;rw [if_neg,List.length_cons,List.length_cons,qy h2];intro z;obtain ⟨b,hb,e⟩:=List.any_eq_true.mp z;exact h1 (of_decide_eq_true e ▸ hb)
abbrev gY (ks:List Key) (i:Nat):List Key:=met (ks.take i).reverse
theorem kH {ks:List Key} {i:Nat} {k:Key} (h:ks[i]?=some k):gY ks (i+1)=if (gY ks i).any (fun j=>decide (j=k)) then gY ks i else k :: gY ks i:=by
 have e:(ks.take (i+1)).reverse=k :: (ks.take i).reverse:=by rw [List.take_add_one,h];simp
 show met (ks.take (i+1)).reverse=_;rw [e];show (if (ks.take i).reverse.any (fun j=>decide (j=k)) then met (ks.take i).reverse else k :: met (ks.take i).reverse)=_;rw [← lD k (ks.take i).reverse]
theorem vz (ks:List Key) (i:Nat):(gY ks i).length≤i:=by
 have h:=tP (ks.take i).reverse;rw [List.length_reverse,List.length_take] at h;show (met (ks.take i).reverse).length≤i;lia
section
variable {P:Program} {w:World} {A:Around} {R:Result→Shared→Prop} {it:Addr} {fp wr:List Addr} {G:Array GenState→Array GenState→Prop} {n:Nat} {Pt:Nat→Value→Prop} {St:Nat→Shared→Prop}
abbrev SetK (P:Program) (w:World) (h:Heap) (a:Addr) (l:List Key):Prop:=h.SetOf (aI P w) a (fun k=>l.any fun j=>decide (j=k)) l.length
theorem SetK.kept {h h':Heap} {a:Addr} {l:List Key} (x:SetK P w h a l) (k:∀ o,h.get? a=some o→h'.get? a=some o):SetK P w h' a l:=by
 obtain ⟨o,es,ep,tb,ho,rest⟩:=x;exact ⟨o,es,ep,tb,k o ho,rest⟩
theorem tQ {h:Heap} {a:Addr} {S S':Key→Bool} {n n':Nat} (x:h.SetOf (aI P w) a S n) (e:∀ k,S k=S' k) (en:n=n'):h.SetOf (aI P w) a S' n':=by
 cases en
 cases (funext e:S=S')
 exact x
theorem tR (W:WalksS P w A.in1 it fp wr G n Pt St) (S:Addr) (hS0:S∉fp) (ks:List Key) (hks:ks.length=n) (hv:∀ i v,Pt i v→∃ k,ks[i]?=some k∧(aI P w).is k v=true∧v.scannable=true) (hn:n+1 < scanBound) :
  ∀ (d i:Nat) (s:Shared),n - i=d→i≤n→St i s→SetK P w s.heap S (gY ks i) →
   (∀ s',Moved (S :: wr) G s s'→SetK P w s'.heap S (gY ks n)→R (.ok (.ret .none)) s')→codeAny (model P w) A (.builtin "set.update.loop" ⟨[.ref S,.ref it],[]⟩) R s:=by
 have nw:S∉wr:=fun z=>hS0 (W.sub _ z);have up:∀ b∈wr,b∈S :: wr:=fun b z=>List.mem_cons_of_mem _ z;intro d
 induction d with
 | zero =>
  intro i s e1 e2 st hS hR;obtain rfl:i=n:=by lia
  refine codeAny_builtin PyProof.Rows.F.entry_set_update_loop (by
   rw [Around.under_plainId PyProof.Rows.F.plain_set_update_loop _];show wpAny _ A.in1 (pyNext (.ref it) >>= _) _ _ s;refine wpAny_bind (W.done s _ _ st fun s' mv=>?_);exact wpAny_pure (hR s' (mv.mono up) (hS.kept fun o q=>mv.heap S o nw q)))
 | succ d ih =>
  intro i s e1 e2 st hS hR;have lt:i < n:=by lia
  refine codeAny_builtin PyProof.Rows.F.entry_set_update_loop (by
   rw [Around.under_plainId PyProof.Rows.F.plain_set_update_loop _];show wpAny _ A.in1 (pyNext (.ref it) >>= _) _ _ s;refine wpAny_bind (W.item i s _ _ lt st fun v s' pv st' mv=>?_);obtain ⟨k,ek,kv,sc⟩:=hv i v pv;have hS':=hS.kept (h':=s'.heap) fun o q=>mv.heap S o nw q;show wpAny _ A.in1 (holding [v] (setAdd S v) >>= _) _ _ s';refine wpAny_bind (wpAny_holding (by
    unfold setAdd;refine wpAny_holding (wpAny_bind ((aI P w).pyHash kv ?_));have room:(gY ks i).length+1 < scanBound:=by have:=vz ks i;lia
    refine wpAny_setAddHashed_of (knd:=aI P w) (s:={ s' with toks:=s'.toks+1 }) kv sc hS' room fun h2 sb hS2=>?_;have hS3:SetK P w h2 S (gY ks (i+1)):=by
     refine tQ hS2 (fun j=>?_) ?_
     ·rw [kH ek]
      split
      ·rename_i c
       by_cases z:j=k
       ·subst z;rw [c];simp
       ·simp [z]
      ·rw [List.any_cons,Bool.or_comm]
       congr 1
       exact decide_eq_decide.mpr eq_comm
     ·rw [kH ek]
      split <;> rfl
    refine wpAny_pure ⟨plainId_quiet PyProof.Rows.F.plain_set_update_loop _,ih (i+1) _ (by lia) lt (W.frame _ s' _ _ st' (Nat.le_succ _) fun b hb o q=>?_) hS3 fun s3 mv3 hS4=>?_⟩
    ·rw [sb.2 b (fun z:b=S=>hS0 (by rw [← z];exact hb))];exact q
    ·refine hR s3 (Moved.trans W.gtrans ((mv.mono up).then_heap (Nat.le_succ _) fun b o hb q=>?_) mv3) hS4;rw [sb.2 b (fun z:b=S=>hb (by rw [z];exact List.mem_cons_self))];exact q)))
theorem j3:isSubtype (.type "tuple") (.type "set")=pure false:=dI _ _
theorem fB:isSubtype (.type "tuple") (.type "frozenset")=pure false:=dI _ _
end
section
variable {P:Program} {w:World} {A:Around} {E:Value→Shared→Prop} {s:Shared}
def lE (b:Bool):Obj:={ cls:=.type "set",dict:=none,data:=.set #[] 0 (.fresh 0 0 b) }
set_option maxHeartbeats 3200000 in
theorem lG {t:Addr} {its:Array Value} {ks:List Key} {Q:Value→Shared→Prop} (hh:A.handled=none) (ht:s.heap.IsTuple t its) (hl:ks.length=its.size) (hv:∀ (i:Nat) v,its[i]?=some v→∃ k,ks[i]?=some k∧(aI P w).is k v=true∧v.scannable=true)
  (hn:its.size+1 < scanBound) (h:∀ (h':Heap) (tk:Nat),SetK P w h' s.heap.objs.size (gY ks its.size)→(∀ b o,s.heap.get? b=some o→h'.get? b=some o)→Q (.ref s.heap.objs.size) { s with heap:=h',toks:=tk }) :
  wpAny (model P w) A (call (.type "set") [.ref t]) Q E s:=by
 obtain ⟨c0,tl,hmro⟩:=PySem.F.called_set.mro;have k1:=PySem.F.called_set.made;have k2:=PySem.F.called_set.sub;refine wpAny_call (codeAny_of_tree (by
  show wpAny _ _ (callAny (.type "set") _) _ _ _;refine wpAny_pure ⟨Code.quiet_builtin _ (by decide +kernel),codeAny_builtin PySem.F.entry_type_call ?_⟩;rw [Around.under_plain (weight_type_call_type "set" [.ref t] []) rfl];have k3:=PySem.F.called_set.notType;have k4:=PySem.F.called_set.canCreate;have k5:=PySem.F.typeCall_set_1 (.ref t)
  repeat (any_goals (first | assumption | wp_step))
  refine codeAny_mono (code_set_new_1 (.ref t) (E:=E) (Q₁:=fun ob s1=>∃ b:Bool,ob=.ref s.heap.objs.size∧s1={ s with heap:=s.heap.push (lE b) }) fun b=>⟨b,rfl,rfl⟩) fun r s1 hr=>?_
  cases r with
  | error e=>exact hr
  | ok fl =>
   cases fl with
   | ret ob =>
    obtain ⟨b,rfl,rfl⟩:=hr;have g1:(s.heap.push (lE b)).get? s.heap.objs.size=some (lE b):=Heap.get?_push_size _ rfl;have tS:Shared.TypeIs { s with heap:=s.heap.push (lE b) } (.ref s.heap.objs.size) "set" :=⟨_,g1,rfl⟩;have k6:=PySem.F.called_set.init.lookup;have k7:=PySem.F.called_set.init.bind (.ref s.heap.objs.size)
    repeat (any_goals (first | assumption | wp_step))
    refine codeAny_mono (codeAny_call_builtin (R:=wants (fun r s2=>r=.none∧∃ h' tk,s2={ s with heap:=h',toks:=tk }∧SetK P w h' s.heap.objs.size (gY ks its.size)∧(∀ b o,s.heap.get? b=some o→h'.get? b=some o)) E)
     PySem.F.called_set.init.plain PySem.F.entry_set_init (check_set_init_1 tS ?_)) fun r2 s2 hr2=>?_
    ·obtain ⟨⟨oc,od,oa,osl⟩,ho,hcl,nl,hdt⟩:=id ht;simp only at hcl hdt;subst hcl hdt;have ht1:(s.heap.push (lE b)).IsTuple t its:=⟨_,Heap.get?_push_of_some _ ho,rfl,nl,rfl⟩;have ho1:(s.heap.push (lE b)).get? t=some { cls:=.type "tuple",dict:=od,data:=.seq its nl,slots:=osl }:=Heap.get?_push_of_some _ ho;have k8:=j3;have k9:=fB;have ka:(Value.type "tuple" == Value.type "dict")=false:=by decide
     unfold Builtin.«set.__init__» noKeywords Builtin.Frozenset.updateFrom
     generalize hPI:pyIter=PI
     wp_walk
     subst hPI;refine wpAny_pyIter_tuple ht1 ?_;refine wpAny_bind (wpAny_runValue ?_);have lt:s.heap.objs.size > t:=Heap.lt_size ho;have hh3:A.in1.in1.in1.handled=none:=by simp [hh]
     have sz:(s.heap.push (lE b)).objs.size=s.heap.objs.size+1:=Heap.size_push ..;have ne1:t≠(s.heap.push (lE b)).objs.size:=by rw [sz];exact Nat.ne_of_lt (Nat.lt_succ_of_lt lt)
     have nS:s.heap.objs.size∉[(s.heap.push (lE b)).objs.size,t]:=by
      rw [sz];intro z;rcases List.mem_cons.mp z with z | z
      ·exact absurd z (Nat.ne_of_lt (Nat.lt_succ_self _))
      ·exact absurd (List.mem_singleton.mp z) (Nat.ne_of_gt lt)
     refine tR ((Walks.tuple hh3 _ t ne1 its).toS) s.heap.objs.size nS ks hl hv hn (its.size - 0) 0 _ rfl (Nat.zero_le _) ⟨⟨_,Heap.get?_push_size _ rfl,rfl,rfl⟩,ht1.push _⟩ ?_ ?_
     ·exact ⟨_,#[],0,_,Heap.get?_push_of_some _ g1,⟨rfl,rfl,rfl⟩,rfl,(fun e he=>by simp at he),(fun k=>⟨fun z=>Bool.noConfusion (show false=true from z),fun ⟨e,he,_⟩=>(List.not_mem_nil he).elim⟩),by decide,rfl,rfl⟩
     ·intro s3 mv hS3;obtain ⟨h3,g3,d3,t3,o3⟩:=s3
      cases (mv.gens:g3=s.gens)
      cases (mv.drawn:d3=s.drawn)
      cases (mv.os:o3=s.os)
      refine wpAny_pure (wpAny_pure ⟨rfl,h3,t3,rfl,hS3,fun c o q=>?_⟩);have lc:s.heap.objs.size > c:=Heap.lt_size q;refine mv.heap c o ?_ (Heap.get?_push_of_some _ (Heap.get?_push_of_some _ q));intro z;rcases List.mem_cons.mp z with z | z
      ·exact absurd z (Nat.ne_of_lt lc)
      ·exact absurd ((List.mem_singleton.mp z).trans sz) (Nat.ne_of_lt (Nat.lt_succ_of_lt lc))
    ·cases r2 with
     | error e=>exact hr2
     | ok fl2 =>
      cases fl2 with
      | ret r =>
       obtain ⟨rfl,h',tk,rfl,q1,q2⟩:=hr2
       repeat (any_goals (first | assumption | wp_step))
       exact h _ _ q1 q2
      | _=>exact hr2.elim
   | _=>exact hr.elim))
end
def Ag (P:Program) (w:World) (p:Addr) (n:Nat):HO:=.ext fun h=>∃ l,SetK P w h p l∧l.length=n
section
variable {X:Cx}
theorem vA {k:Key} {u:Value} (r:RelV (kV k) u):u.scannable=true:=by
 cases k with
 | inl i=>obtain ⟨t,rfl⟩:=r;rfl
 | inr z=>obtain ⟨t,rfl⟩:=r;rfl
theorem rJ (hc:X.calm=true):aZ X (.type "set") (fun xs H Q=>∃ a ks,xs=[.ref a]∧SqT X.K H a (ks.map kV)∧ks.length≤1000∧∀ p,H p=none→Q (.ref p) (upd H p (Ag X.prog X.w p (gY ks ks.length).length))):=by
 intro pins s σ H xs us Q I r h;obtain ⟨a,ks,rfl,ha,hl,q⟩:=h;obtain ⟨u,rfl,rx⟩:=cr r
 cases rx
 obtain ⟨its,rv,ht,hz⟩:=I.tuple ha;have el:=rv.length;rw [List.length_map] at el;have ez:its.toArray.size=ks.length:=by rw [List.size_toArray,el]
 refine lG (ks:=ks) (I.ok.hd hc) (show s.heap.IsTuple a its.toArray from ht) ez.symm (fun i v e=>?_) (by rw [ez];unfold scanBound;lia) fun h' tk hS kk=>?_
 ·have e':its[i]?=some v:=by simpa using e
  have hi:i < ks.length:=by rw [el];exact (List.getElem?_eq_some_iff.mp e').1
  obtain ⟨v',ev,rk⟩:=rv.get (i:=i) (x:=kV ks[i]) (by rw [List.getElem?_map,List.getElem?_eq_getElem hi];rfl);rw [e'] at ev
  cases ev
  exact ⟨ks[i],List.getElem?_eq_getElem hi,tG rk,vA rk⟩
 ·rw [ez] at hS;refine ⟨.ref s.heap.objs.size,_,I.laid (a:=s.heap.objs.size) (o:=Ag X.prog X.w s.heap.objs.size (gY ks ks.length).length) kk (Nat.le_refl _) ?_,rfl,q _ (I.hok.fresh (Nat.le_refl _))⟩;obtain ⟨o,_,_,_,ho,_⟩:=id hS;exact ⟨⟨_,hS,rfl⟩,⟨o,ho⟩,fun h1 h2 ⟨l,hl,e⟩ k=>⟨l,hl.kept k,e⟩⟩
theorem rK:aZ X (.builtin "len") (fun xs H Q=>∃ p n,xs=[.ref p]∧H p=some (Ag X.prog X.w p n)∧Q (.int n) H):=by
 intro pins s σ H xs us Q I r h;obtain ⟨p,n,rfl,e,q⟩:=h;obtain ⟨u,rfl,rx⟩:=cr r
 cases rx
 obtain ⟨⟨l,hS,en⟩,_,_⟩:=I.hok p _ e;obtain ⟨o,es,ep,tb,ho,hex,hd,_,_,hb,hf,hn⟩:=hS;have e2:es.size=n:=hn.trans en;have hb':es.size < 4096:=hb;exact call_len_set ho hex hd hf (by lia) ⟨.int n,H,I.tok _,⟨_,by rw [e2]⟩,q⟩
end
section
variable {K:PySem.W.Frag} {a b l:Addr} {xs ys:List V} {g:TG} {tb:List V→Addr→St→Hp→(List V→St→Hp→Prop)→Prop} {R:Hp→Prop} {σ0:St} {H0:Hp}
theorem dv (Pv:Nat→List V→St→Hp→Prop) (h0:Pv 0 [] σ0 H0) (hl:∀ i ys σ H,i≤xs.length→Pv i ys σ H→SqT K H a xs)
  (hs:∀ i x ys σ H (N:List V→St→Hp→Prop),xs[i]?=some x→Pv i ys σ H→(∀ ys' σ' H',Pv (i+1) ys' σ' H'→N ys' σ' H')→g x σ H fun σ2 H2=>tb ys l σ2 H2 N)
  (hd:∀ ys σ H,Pv xs.length ys σ H→R H) :
  ∃ W:Nat→Nat→List V→St→Hp→Prop,(∃ m,W 0 m [] σ0 H0)∧∀ i m ys σ' H',W i m ys σ' H'→((Itt K a).stop i H'∧R H') ∨
   ((Itt K a).go i H'∧∀ x H'',(Itt K a).yld i H' x H''→g x σ' H'' fun σ2 H2=>tb ys l σ2 H2 fun ys' σ3 H3=>∃ m',m' < m∧W (i+1) m' ys' σ3 H3):=tt (Q:=fun _ H=>R H) Pv h0 hl hs hd
theorem fH (Pv:Nat→List V→St→Hp→Prop) (h0:Pv 0 [] σ0 H0) (hl:∀ i ys σ H,i≤xs.length→Pv i ys σ H→SqL K H a xs)
  (hs:∀ i x ys σ H (N:List V→St→Hp→Prop),xs[i]?=some x→Pv i ys σ H→(∀ ys' σ' H',Pv (i+1) ys' σ' H'→N ys' σ' H')→g x σ H fun σ2 H2=>tb ys l σ2 H2 N)
  (hd:∀ ys σ H,Pv xs.length ys σ H→R H) :
  ∃ W:Nat→Nat→List V→St→Hp→Prop,(∃ m,W 0 m [] σ0 H0)∧∀ i m ys σ' H',W i m ys σ' H'→((Itl K a).stop i H'∧R H') ∨
   ((Itl K a).go i H'∧∀ x H'',(Itl K a).yld i H' x H''→g x σ' H'' fun σ2 H2=>tb ys l σ2 H2 fun ys' σ3 H3=>∃ m',m' < m∧W (i+1) m' ys' σ3 H3):=rB (Q:=fun _ H=>R H) Pv h0 hl hs hd
theorem rL (Pv:Nat→List V→St→Hp→Prop) (h0:Pv 0 [] σ0 H0) (hla:∀ i us σ H,Pv i us σ H→SqL K H a xs∧SqL K H b ys)
  (hs:∀ i x y T us σ H (N:List V→St→Hp→Prop),xs[i]?=some x→ys[i]?=some y→H T=none→Pv i us σ H→(∀ us' σ' H',Pv (i+1) us' σ' H'→N us' σ' H')→g (.ref T) σ (upd H T (.tup [x,y])) fun σ2 H2=>tb us l σ2 H2 N)
  (hd:∀ us σ H,Pv (min xs.length ys.length) us σ H→R H) :
  ∃ W:Nat→Nat→List V→St→Hp→Prop,(∃ m,W 0 m [] σ0 H0)∧∀ i m us σ' H',W i m us σ' H'→((Itz K a b).stop i H'∧R H') ∨
   ((Itz K a b).go i H'∧∀ x H'',(Itz K a b).yld i H' x H''→g x σ' H'' fun σ2 H2=>tb us l σ2 H2 fun us' σ3 H3=>∃ m',m' < m∧W (i+1) m' us' σ3 H3):=tO (Q:=fun _ H=>R H) Pv h0 hla hs hd
end
theorem ft {X:Cx} {K:PySem.W.Frag} {es:List Expr} {k:Nat} {pos:Pos} {t:TGs} {n:Nat} (hK:X.K=K) (hc:X.calm=true) (h:PGs X es t)
  (hn:(assignEach es X.env).length=n:=by rfl) (hst:(assignEach es X.env).findIdx? (·.1)=none:=by rfl):PG X (.Tuple es k pos) (FQ K n t):=by
 subst hK;exact lf hc h hn hst
theorem bD {H H1:Hp} {l:Addr} {o:HO} (hl:H l=none) (g:Same H H1):Same H (upd H1 l o):=fun b u e=>by rw [ae (ag e hl)];exact g b u e
section
variable {X:Cx}
theorem tT {elt tgt iter:Expr} {ifs:List Expr} {scope:Scope} {pos spos py:Pos} {NL N':List Str} {ρ:List Nat} {wi:TI} {g:TG} {tb:List V→Addr→St→Hp→(List V→St→Hp→Prop)→Prop} {body:Value→Env→Sem Unit} {j:Nat} {y:Str}
  (hN:X.N.Nodup) (hj:X.N[j]?=some y) (hy:Loc X.env.scope y) (hfn:X.fn y=true∨X.env.scope.names.lookup y=some .local)
  (hsw:swapsWith (.ListComp elt [⟨tgt,iter,ifs,0⟩] scope pos) (some (.Name y py)) spos.line X.env=pure true)
  (hc:X.calm=true) (S:CScope X scope NL ρ N') (hi:PI X tgt iter wi)
  (hg:∀ C s₀ H₀ fp,PG (ccx X scope C N' s₀ H₀ fp) tgt g) (hb:∀ C s₀ H₀ fp,PB (ccx X scope C N' s₀ H₀ fp) (fun acc=>body acc (ccx X scope C N' s₀ H₀ fp).env) tb)
  (he:∀ (it acc:Value) (env:Env),compTurn (.ListComp elt [⟨tgt,iter,ifs,0⟩] scope pos) 0 it acc env=(standAt iter.pos >>= fun _=>pyNext it >>= fun r=>match r with
   | none=>pure (.done .next)
   | some v=>letOwnedTupleGo tgt it v >>= fun _=>assign tgt env v >>= fun _=>body acc env >>= fun _=>again (.compLoop (.ListComp elt [⟨tgt,iter,ifs,0⟩] scope pos) 0 it acc env)))
  (hs:∀ x,foldedSetIterable iter X.env x=pure x:=by intro _;rfl):PS X (.Assign [.Name y py] (.ListComp elt [⟨tgt,iter,ifs,0⟩] scope pos) spos) (u3 (qr NL.length ρ wi g tb) (i0 j)):=by
 intro pins s σ H D0 I h;have free_in:∀ x∈scope.names,x.2=.free→∃ c,X.env.cells.lookup x.1=some c:=fun x hx hk=>I.ok.has x.1 (S.frees x hx hk);rw [exec_Assign_Name_used _ _ _ _ hsw];refine wpAny_bind (wpAny_standAt (wpAny_bind ?_));rw [arm_evalThenUse_ListComp];refine wpAny_bind (thn (Q:=fun _ s'=>SP X pins D0 .next s') ?_ fun _ s' q0=>wpAny_pure (wpAny_pure q0));refine wpAny_comprehension_free (use:=some (assign (.Name y py) X.env)) (Q:=fun _ s'=>SP X pins D0 .next s') rfl hs (ja free_in) S.kind S.locs ?_;refine thn (hi pins s σ H _ I h) fun v s1 h1=>thn h1 fun itv s2 h2=>?_;obtain ⟨it,fp,tn,J,H2,e,I2,T,st2,f2,w⟩:=h2;subst e;refine wpAny_newObj_type (wpAny_newFunctionEnv S.nocell (by intro y hy;simp at hy) (fun h₁ hns₁ hsb₁=>?_) S.kind);dsimp only at hns₁ hsb₁ ⊢
 generalize hH2:s2.heap.push { cls:=.type "list",dict:=none,data:=.seq ([]:List Value).toArray }=h2' at hns₁ hsb₁ ⊢
 have hCs:h2'.objs.size=s2.heap.objs.size+1:=by rw [← hH2,Heap.size_push]
 have hDC:s2.heap.objs.size≠h2'.objs.size:=by rw [hCs];exact Nat.ne_of_lt (Nat.lt_succ_self _)
 have hC:s2.heap.objs.size≤h2'.objs.size:=by rw [hCs];exact Nat.le_succ _
 have old:∀ b o,s2.heap.get? b=some o→h₁.get? b=some o:=fun b o e=>hsb₁.extBut b o (Nat.ne_of_lt (Nat.lt_of_lt_of_le (Heap.lt_size e) hC)) (Heap.get?_push_of_some _ (hH2 ▸ Heap.get?_push_of_some _ e));have hd:h₁.get? s2.heap.objs.size=some { cls:=.type "list",data:=.seq #[] 0 }:=hsb₁.extBut _ _ hDC (Heap.get?_push_of_some _ (hH2 ▸ Heap.get?_push_size _ rfl));have hfo:∀ b∈fp,∃ o,s2.heap.get? b=some o:=fun b hb=>let ⟨o,e,_⟩:=T.obj _ _ st2 b hb;⟨o,e⟩;have I4:Inv (ccx X scope h2'.objs.size N' s2 H2 fp) (X.pn++pins) (cst NL.length ρ σ) (upd H2 s2.heap.objs.size (.lst [])) { s2 with heap:=h₁,toks:=s2.toks+([]:List (Str×Value)).length } :=
  Inv.comp S I2 f2 hfo hC (Nat.le_refl _) hDC old hd (by simpa using hns₁)
 have hD0:H2 s2.heap.objs.size=none:=I2.hok.fresh (Nat.le_refl _);have nfp:s2.heap.objs.size∉fp:=fun z=>by
  obtain ⟨o,e⟩:=hfo _ z;exact absurd (Heap.lt_size e) (Nat.lt_irrefl _)
 obtain ⟨W,⟨m0,w0⟩,turn⟩:=w s2.heap.objs.size hD0;have stat:∀ {H':Hp},(∀ b∈fp,H' b=none)→∀ b∈fp,fA (ccx X scope h2'.objs.size N' s2 H2 fp) (X.pn++pins) H' b:=fun {H'} hn b hb=>by
  obtain ⟨f0,f1,f2',f3,f4,f5⟩:=f2 b hb;have ok:=I4.ok;refine ⟨hn b hb,(ok.exf b hb).1,ok.exfs b hb,.inl hb,(ok.exf b hb).2,fun p hp=>f5 p hp⟩
 have loop:∀ s₃:Shared,s₃={ s2 with heap:=h₁,toks:=s2.toks+([]:List (Str×Value)).length } →
   codeAny (model X.prog X.w) X.A (.compLoop (.ListComp elt [⟨tgt,iter,ifs,0⟩] scope pos) 0 (.ref it) (.ref s2.heap.objs.size) (compEnvC scope (cU X.env scope.names []) h2'.objs.size X.env))
    (compPost (model X.prog X.w) X.A X.xe (some (assign (.Name y py) X.env)) (fun _ s'=>SP X pins D0 .next s') (.ref s2.heap.objs.size) h2'.objs.size) s₃:=by
  rintro s₃ rfl;refine codeAny_loop rfl (fun n s'=>∃ i ys σ' H',Inv (ccx X scope h2'.objs.size N' s2 H2 fp) (X.pn++pins) σ' H' s'∧tn i s'.heap∧(∀ b∈fp,H' b=none)∧W i n ys σ' H') (fun n s3 hI=>?_) m0
   ⟨0,[],_,_,I4,T.keep _ _ _ st2 (fun b _ o e=>old b o e),fun b hb=>?_,w0⟩
  ·obtain ⟨i,ys,σ3,H3,I3,st3,fr3,w3⟩:=hI;show wpAny _ _ ((compTurn (.ListComp elt [⟨tgt,iter,ifs,0⟩] scope pos) 0 (.ref it) (.ref s2.heap.objs.size) (compEnvC scope (cU X.env scope.names []) h2'.objs.size X.env)).onRaise (fun x=>do noteFrame x _;theTreesLotGoes x)) _ _ s3;refine wpAny_noted ?_;rw [he];refine wpAny_bind (wpAny_standAt (wpAny_bind ?_));rcases turn i n ys σ3 H3 w3 with ⟨stop,qn⟩ | ⟨go,step⟩
   ·refine thn (T.done (ccx X scope h2'.objs.size N' s2 H2 fp) rfl rfl rfl hc i _ s3 σ3 H3 _ I3 (stat fr3) st3 stop) fun r s4 ⟨hr,I5⟩=>?_;subst hr;refine wpAny_pure ?_;obtain ⟨m,hm,_⟩:=id I5.loc;have IX:Inv X pins σ H3 { s4 with heap:=s4.heap }:=Inv.compEnd I2 f2 hC I5 (Heap.SameBut.refl _ _);have cne:∀ x c,X.env.cells.lookup x=some c→c≠h2'.objs.size:=fun x c ec z=>by
     obtain ⟨v0,oc,hoc,_⟩:=I2.cell x c ec;exact absurd (Nat.lt_of_lt_of_le (Heap.lt_size hoc) hC) (by rw [z];exact Nat.lt_irrefl _)
    have lne:h2'.objs.size≠X.env.locals:=Nat.ne_of_gt (Nat.lt_of_lt_of_le I2.lt hC);refine wpAny_assign_Name (kq IX hN hj hy (v:=.ref s2.heap.objs.size) rfl (fun s5 I6 ⟨a,sb,ha⟩=>?_) hfn);have na:h2'.objs.size≠a:=fun z=>by
     rcases ha with e | e
     ·exact lne (z.trans e)
     ·exact cne _ _ e z.symm
    refine ⟨m,hm.at' fun o e=>(sb.2 _ na).trans e,fun h' hs'=>⟨_,H3,?_,qn⟩⟩;exact I6.turned (t':=s5.toks) (fun b o hb' e=>(hs'.2 b hb').trans e) I5.free lne (.inr (Nat.le_trans I2.sz hC)) cne fun q hq z=>by
     obtain ⟨e,_⟩:=I2.pin q hq;exact absurd (Nat.lt_of_lt_of_le (Heap.lt_size e) hC) (by rw [z];exact Nat.lt_irrefl _)
   ·refine thn (T.item (ccx X scope h2'.objs.size N' s2 H2 fp) rfl rfl rfl hc i _ s3 σ3 H3 _ I3 (stat fr3) st3 go) fun r s4 ⟨u,hr,h4⟩=>?_;subst hr;refine wpAny_bind (thn h4 fun _ s5 ⟨x,H5,I5,r5,y5,st5,fr5⟩=>?_);have I5':=I5.pinned (stat fr5) (T.obj _ _ st5);refine wpAny_bind (wpAny_mono (hg h2'.objs.size s2 H2 fp _ s5 σ3 H5 x u _ I5' r5 (step x H5 y5)) (fun _ s6 ⟨σ6,H6,I6,q6⟩=>?_) fun _ _ z=>z.elim);refine wpAny_bind (wpAny_mono (hb h2'.objs.size s2 H2 fp _ s6 σ6 H6 s2.heap.objs.size ys _ I6 q6) (fun _ s7 ⟨ys7,σ7,H7,I7,m',hm,w7⟩=>?_) fun _ _ z=>z.elim);refine wpAny_pure ⟨rfl,m',hm,i+1,ys7,σ7,H7,I7.unpinned,T.keep _ _ _ st5 fun b hb o e=>(I7.pin (b,o) (List.mem_append_right _ (List.mem_append_right _ (bT hb e)))).1,fun b hb=>?_,w7⟩;obtain ⟨o,e,d⟩:=T.obj _ _ st5 b hb;exact (I7.pin (b,o) (List.mem_append_right _ (List.mem_append_right _ (bT hb e)))).2.1
  ·rw [ae (show b≠s2.heap.objs.size from fun z=>nfp (by rw [← z];exact hb))];exact (f2 b hb).1
 refine codeAny_compStart_list (loop _ rfl) (T.self _ 0 _ _ _ ?_ (loop _ rfl));exact T.keep _ _ _ st2 fun b _ o e=>old b o e
theorem ps_setC {elt tgt iter:Expr} {scope:Scope} {pos spos py:Pos} {NL N':List Str} {ρ:List Nat} {wi:TI} {g:TG} {te:TE} {j:Nat} {y:Str} (hN:X.N.Nodup) (hj:X.N[j]?=some y) (hy:Loc X.env.scope y)
  (hc:X.calm=true) (S:CScope X scope NL ρ N') (hi:PI X tgt iter wi) (hg:∀ C s₀ H₀ fp,PG (ccx X scope C N' s₀ H₀ fp) tgt g) (he:∀ C s₀ H₀ fp,PE (ccx X scope C N' s₀ H₀ fp) elt te)
  (hsw:swapsWith (.ListComp elt [⟨tgt,iter,[],0⟩] scope pos) (some (.Name y py)) spos.line X.env=pure true:=by rfl) (hfn:X.fn y=true∨X.env.scope.names.lookup y=some .local:=by first | exact .inl rfl | exact .inr rfl | assumption)
  (hs:∀ x,foldedSetIterable iter X.env x=pure x:=by intro _;rfl):PS X (.Assign [.Name y py] (.ListComp elt [⟨tgt,iter,[],0⟩] scope pos) spos) (u3 (qr NL.length ρ wi g (cEl te)) (i0 j)) :=
 tT (body:=fun acc env=>do let x ← eval elt env;let _ ← call (.builtin "list.append") [acc,x];pure ()) hN hj hy hfn hsw hc S hi hg (fun C s₀ H₀ fp=>wj (he C s₀ H₀ fp)) (fun it acc env=>nc elt tgt iter scope pos it acc env) hs
end
section
variable {X:Cx}
variable {K:PySem.W.Frag}
theorem pe_tupPK {es:List Expr} {x1:Nat} {pos:Pos} {t:TA} (hK:X.K=K) (h:PA X es t):PE X (.Tuple es x1 pos) (wm K t):=by subst hK;exact vt h
theorem aU (hK:X.K=K):IxR X (F3 K):=by subst hK;exact vd
theorem vB (hK:X.K=K) (hu:X.A.units+64 < cLine):OpR X (compareOp .Eq) (Ga K):=by subst hK;exact Ac hu
theorem op_in_seqK (hK:X.K=K):OpR X (compareOp .In) (rIn K false):=by subst hK;exact rm
end
section
variable {X:Cx}
end
section
variable {X:Cx}
theorem kI:∀ {ss:List Str} {us:List Value},Vals (ss.map V.str) us→StrsAre us ss
 | [],us,h=>by cases h;exact .nil
 | z :: ss,us,h=>by
  cases h with
  | cons r rr =>
   obtain ⟨t,rfl⟩:=r;exact .cons z t (kI rr)
theorem gZ:∀ {ss:List Str} {us:List Value},StrsAre us ss→Vals (ss.map V.str) us
 | _,_,.nil=>.nil
 | _,_,.cons z t r=>.cons ⟨t,rfl⟩ (gZ r)
theorem pK:aZ X (.builtin "sorted") (fun xs H Q=>∃ (p:Addr) (ss:List Str),xs=[.ref p]∧SqL X.K H p (ss.map V.str)∧ss.length < 64∧∀ a ss',H a=none→ss'.Perm ss→sortedS ss'=true→Q (.ref a) (upd H a (.lst (ss'.map V.str)))):=by
 intro pins s σ H xs us Q I r h;obtain ⟨p,ss,rfl,hp,hl,q⟩:=h;obtain ⟨u,rfl,rx⟩:=cr r
 cases rx
 obtain ⟨its,rv,pl,hz⟩:=I.list hp;have el:=rv.length;rw [List.length_map] at el;refine sorted_strs pl.isList (kI rv) (by lia) fun out ss' h1 h2 h3=>?_;obtain ⟨e,he⟩:=sortedAll_at s.heap its out;have hn:H (s.heap.objs.size+1)=none:=I.hok.fresh (Nat.le_succ _);refine ⟨.ref (s.heap.objs.size+1),_,I.laid (t':=s.toks) (o:=.lst (ss'.map V.str)) (fun b o=>sortedAll_old) (Nat.le_succ _) ?_,rfl,q _ _ hn h2 h3⟩;have e2:seqObj "list" out e=seqObj "list" out.toList.toArray e:=by rw [Array.toArray_toList]
 refine ⟨?_,out.toList,e,gZ h1,?_⟩
 ·rw [List.length_map,h2.length_eq];exact Nat.le_of_lt (Nat.lt_trans hl (by decide))
 ·rw [he,e2]
end
abbrev two (v:Value) (c:Nat):Obj:={ cls:=.type "list",dict:=none,data:=.seq #[v,v] c,slots:=#[] }
section
variable {prog:Program} {w:World} {A:Around} {R:Result→Shared→Prop} {it:Addr} {fp wr:List Addr} {n:Nat} {P:Nat→Value→Prop} {St:Nat→Heap→Prop}
end
section
variable {prog:Program} {w:World} {A:Around} {E:Value→Shared→Prop} {s:Shared} {l:Addr} {zs:Array (Int×Tok)} {d:Value} {Q:Value→Shared→Prop}
end
section
variable {X:Cx}
end
section
variable {X:Cx} {K:PySem.W.Frag}
end
section
variable {l:Addr} {g:TG} {tb:List V→Addr→St→Hp→(List V→St→Hp→Prop)→Prop} {R:Hp→Prop} {σ0:St} {H0:Hp} {lo:Int} {n:Nat} {z:Str}
theorem eB (Pv:Nat→List V→St→Hp→Prop) (h0:Pv 0 [] σ0 H0) (hs:∀ i ys σ H (N:List V→St→Hp→Prop),i < n→Pv i ys σ H→(∀ ys' σ' H',Pv (i+1) ys' σ' H'→N ys' σ' H')→g (.int (lo+i)) σ H fun σ2 H2=>tb ys l σ2 H2 N) (hd:∀ ys σ H,Pv n ys σ H→R H) :
  ∃ W:Nat→Nat→List V→St→Hp→Prop,(∃ m,W 0 m [] σ0 H0)∧∀ i m ys σ' H',W i m ys σ' H'→((Itr lo n).stop i H'∧R H')∨((Itr lo n).go i H'∧∀ x H'',(Itr lo n).yld i H' x H''→g x σ' H'' fun σ2 H2=>tb ys l σ2 H2 fun ys' σ3 H3=>∃ m',m' < m∧W (i+1) m' ys' σ3 H3):=pG (Q:=fun _ H=>R H) Pv h0 hs hd
theorem rM (Pv:Nat→List V→St→Hp→Prop) (h0:Pv 0 [] σ0 H0) (hs:∀ i c ys σ H (N:List V→St→Hp→Prop),z.cps[i]?=some c→Pv i ys σ H→(∀ ys' σ' H',Pv (i+1) ys' σ' H'→N ys' σ' H')→g (.str ⟨#[c]⟩) σ H fun σ2 H2=>tb ys l σ2 H2 N) (hd:∀ ys σ H,Pv z.cps.size ys σ H→R H) :
  ∃ W:Nat→Nat→List V→St→Hp→Prop,(∃ m,W 0 m [] σ0 H0)∧∀ i m ys σ' H',W i m ys σ' H'→((Its z).stop i H'∧R H')∨((Its z).go i H'∧∀ x H'',(Its z).yld i H' x H''→g x σ' H'' fun σ2 H2=>tb ys l σ2 H2 fun ys' σ3 H3=>∃ m',m' < m∧W (i+1) m' ys' σ3 H3):=jb (Q:=fun _ H=>R H) Pv h0 hs hd
end
section
variable {X:Cx} {K:PySem.W.Frag}
inductive JIxP (K:PySem.W.Frag) (x y:V) (H:Hp) (Q:VK):Prop
 | mk (l:List Dt) (i:Int) (d:Dt):(IsP K H (.tup l) x)→(y=.int i)→(atI l i=some d)→(∀ v,IsP K H d v→Q v H)→JIxP K x y H Q
def Gg (K:PySem.W.Frag):R2:=fun x y H Q=>JIxP K x y H Q
def Hd (K:PySem.W.Frag):R2:=fun x y H Q=>∃ l i d,IsD K H (.tup l) x∧y=.int i∧atI l i=some d∧∀ v,IsD K H d v→Q v H
inductive JCatP (K:PySem.W.Frag) (x y:V) (H:Hp) (Q:VK):Prop
 | mk (l m:List Dt):(IsP K H (.tup l) x)→(IsP K H (.tup m) y)→(l.length+m.length≤sizeLine)→(∀ v H',Same H H'→IsP K H' (.tup (l++m)) v→Q v H')→JCatP K x y H Q
def Gh (K:PySem.W.Frag):R2:=fun x y H Q=>JCatP K x y H Q
inductive JLenD (K:PySem.W.Frag) (xs:List V) (H:Hp) (Q:VK):Prop
 | mk (x:V) (l:List Dt):(xs=[x])→(IsD K H (.tup l) x)→(Q (.int l.length) H)→JLenD K xs H Q
def Gi (K:PySem.W.Frag):List V→Hp→VK→Prop:=fun xs H Q=>JLenD K xs H Q
inductive JIsi (K:PySem.W.Frag) (xs:List V) (H:Hp) (Q:VK):Prop
 | mk (x:V) (T:String) (b:Bool):(xs=[x,.ty T])→(IsiB K H x T b)→(Q (.bl b) H)→JIsi K xs H Q
def He (K:PySem.W.Frag):List V→Hp→VK→Prop:=fun xs H Q=>JIsi K xs H Q
inductive JTupP (K:PySem.W.Frag) (xs:List V) (H:Hp) (Q:VK):Prop
 | mk (p:Addr) (ys:List V) (l:List Dt):(xs=[.ref p])→(SqL K H p ys)→(IsPs K H l ys)→(∀ v H',Same H H'→IsP K H' (.tup l) v→Q v H')→JTupP K xs H Q
def Gj (K:PySem.W.Frag):List V→Hp→VK→Prop:=fun xs H Q=>JTupP K xs H Q
theorem jh (hK:X.K=K):IxR X (Gg K):=by
 subst hK;intro e1 e2 pins s σ H x y v u Q I rx ry h hs;obtain ⟨l,i,d,a,b,c,q⟩:=h;exact vx _ _ _ _ _ _ _ _ _ _ _ I rx ry ⟨l,i,d,a,b,c,q⟩ hs
theorem nE (hK:X.K=K):IxR X (Hd K):=by subst hK;exact vo
theorem ji (hK:X.K=K):OpR X (binaryOp .Add) (Gh K):=by
 subst hK;intro pins s σ H x y v u Q I rx ry h;obtain ⟨l,m,a,b,c,q⟩:=h;exact vv _ _ _ _ _ _ _ _ _ I rx ry ⟨l,m,a,b,c,q⟩
theorem lI (hK:X.K=K) (hu:X.A.units+64 < cLine):OpR X (compareOp .NotEq) (Gb K):=by subst hK;exact Ad hu
theorem call_lenDN (hK:X.K=K):aZ X (.builtin "len") (Gi K):=by
 subst hK;intro pins s σ H xs us Q I r h;obtain ⟨x,l,a,b,q⟩:=h;exact rE _ _ _ _ _ _ _ I r ⟨x,l,a,b,q⟩
theorem call_isiN' (hK:X.K=K):aZ X (.builtin "isinstance") (He K):=by
 subst hK;intro pins s σ H xs us Q I r h;obtain ⟨x,l,m,a,b,q⟩:=h;exact tj _ _ _ _ _ _ _ I r ⟨x,l,m,a,b,q⟩
theorem bM (hK:X.K=K):aZ X (.type "tuple") (Gj K):=by
 subst hK;intro pins s σ H xs us Q I r h;obtain ⟨x,l,m,a,b,c,q⟩:=h;exact nD _ _ _ _ _ _ _ I r ⟨x,l,m,a,b,c,q⟩
theorem bG {tg l:Expr} {tl:TE} (hK:X.K=K) (hl:PE X l tl):PI X tg l (FR K tl):=by subst hK;exact zY hl
theorem dz {tg l:Expr} {tl:TE} (hK:X.K=K) (hl:PE X l tl):PI X tg l (v9 K tl):=by subst hK;exact u4 hl
end
section
variable {prog:Program} {w:World} {A:Around} {E:Value→Shared→Prop} {s:Shared}
theorem fI {b t:Addr} {k:Nat} {its:Array Value} {v:Value} {Q:Value→Shared→Prop} (hb:IsTupIter s.heap b t k) (ht:IsTup s.heap t its) (hv:its[k]?=some v)
  (q:∀ h',IsTupIter h' b t (k+1)→Heap.SameBut b s.heap h'→Q v { s with heap:=h' }):wpAny (model prog w) A (Builtin.SmallTypes.nextOf (.ref b)) Q E s:=by
 obtain ⟨ob,gb,cb,db⟩:=id hb;obtain ⟨ot,gt,_,nt,dt⟩:=ht;unfold Builtin.SmallTypes.nextOf;refine wpAny_bind (wpAny_callSpecial?_slot (name:=Str.ofString "__next__") hb.typeIs slot_tupleiter_next (wpAny_call_entry slot_tupleiter_next hb.typeIs entry_tupleiter_next ?_ (args_tupleiter_next _)));refine show wpAny _ _ (field (.ref b) 0 >>= _) _ _ s from wpAny_bind (wpAny_field gb db (x:=.ref t) rfl ?_);refine show wpAny _ _ (if (Value.ref t == Value.none)=true then _ else _) _ _ s from ?_;rw [if_neg (by exact Bool.false_ne_true)];refine show wpAny _ _ (field (.ref b) 1 >>= _) _ _ s from wpAny_bind (wpAny_field gb db (x:=.int k 0) rfl ?_);refine show wpAny _ _ (seqItems? (.ref t) >>= _) _ _ s from wpAny_bind (wpAny_seqItems gt dt ?_);simp only [hv,Int.toNat_natCast];refine wpAny_bind (wpAny_setField gb db (by simp) (wpAny_pure ⟨v,rfl,wpAny_pure (q _ ⟨_,Heap.get?_update_self _ gb (Obj.isFreed_of_fields (Obj.data_mapFields db _)),(Obj.cls_mapFields ..).trans cb,?_⟩ (Heap.SameBut.update ..))⟩));rw [Obj.data_mapFields db];simp [rawInt]
theorem kJ {b t:Addr} {k:Nat} {its:Array Value} {Q:Value→Shared→Prop} (hh:A.handled=none) (hb:IsTupIter s.heap b t k) (ht:IsTup s.heap t its) (hv:its[k]?=none)
  (q:∀ h' e,Heap.ExtBut b s.heap h'→(∃ o,h'.get? e=some o∧o.cls=.type "StopIteration")→E (.ref e) { s with heap:=h' }):wpAny (model prog w) A (Builtin.SmallTypes.nextOf (.ref b)) Q E s:=by
 obtain ⟨ob,gb,cb,db⟩:=id hb;obtain ⟨ot,gt,_,nt,dt⟩:=ht;unfold Builtin.SmallTypes.nextOf;refine wpAny_bind (wpAny_callSpecial?_slot (name:=Str.ofString "__next__") hb.typeIs slot_tupleiter_next (wpAny_call_entry slot_tupleiter_next hb.typeIs entry_tupleiter_next ?_ (args_tupleiter_next _)));refine show wpAny _ _ (field (.ref b) 0 >>= _) _ _ s from wpAny_bind (wpAny_field gb db (x:=.ref t) rfl ?_);refine show wpAny _ _ (if (Value.ref t == Value.none)=true then _ else _) _ _ s from ?_;rw [if_neg (by exact Bool.false_ne_true)];refine show wpAny _ _ (field (.ref b) 1 >>= _) _ _ s from wpAny_bind (wpAny_field gb db (x:=.int k 0) rfl ?_);refine show wpAny _ _ (seqItems? (.ref t) >>= _) _ _ s from wpAny_bind (wpAny_seqItems gt dt ?_);simp only [hv,Int.toNat_natCast];refine wpAny_bind (wpAny_rule (wpAny_bind (wpAny_setField gb db (by simp) ?_)));refine show wpAny _ _ (newExc (.type "StopIteration") [] >>= _) _ _ _ from wpAny_bind ?_;simp only [newTuple,newExc];refine wpAny_bind (wpAny_newObj_type (wpAny_bind (m:=firstArgMember _ _) (wpAny_of_eq (a:=Value.none) (by first | rfl | (simp only [firstArgMember];rfl)) (wpAny_newObj_type ?_ (by size_fits)))) (by size_fits));simp only [raiseNew];refine wpAny_bind (wpAny_handled ?_);rw [show A.in1.handled=none from hh];exact wpAny_bind (wpAny_pure (wpAny_throw (q _ _ (((Heap.SameBut.update ..).extBut.push _).push _) ⟨_,Heap.get?_push_size _ rfl,rfl⟩)))
theorem rN {z P0 P1 u v l m:Addr} {k:Nat} {xs ys:Array Value} {x y a b:Value} {Q:Option Value→Shared→Prop} (D:ZipApart z P0 P1 u v l m) (Z:IsZip s.heap z P0 P1 .none) (I0:IsPair s.heap P0 (.ref u) (.ref v)) (I1:IsPair s.heap P1 a b)
  (wu:IsTupIter s.heap u l k) (wv:IsTupIter s.heap v m k) (tl:IsTup s.heap l xs) (tm:IsTup s.heap m ys) (ex:xs[k]?=some x) (ey:ys[k]?=some y)
  (q:∀ h',IsZip h' z P0 P1 (rawInt s.heap.objs.size)→IsPair h' P1 x y→IsTupIter h' u l (k+1)→IsTupIter h' v m (k+1)→IsPair h' s.heap.objs.size x y→h'.objs.size=s.heap.objs.size+1 →
   (∀ c o,c≠z→c≠P1→c≠u→c≠v→s.heap.get? c=some o→h'.get? c=some o)→Q (some (.ref s.heap.objs.size)) { s with heap:=h' }):wpAny (model prog w) A (pyNext (.ref z)) Q E s:=by
 have hT:s.TypeIs (.ref z) "zip" :=⟨_,Z,rfl⟩;unfold pyNext;refine wpAny_bind (wpAny_attempt (wpAny_callSpecial?_slot (name:=Str.ofString "__next__") hT F.slot_zip_next (wpAny_call_entry F.slot_zip_next hT F.entry_zip_next ?_ (F.args_zip_next_1 _))));refine show wpAny _ _ (field (.ref z) 2 >>= _) _ _ _ from wpAny_bind (wpAny_field Z rfl (x:=.bool false) rfl ?_);refine show wpAny _ _ (field (.ref z) 3 >>= _) _ _ _ from wpAny_bind (wpAny_field Z rfl (x:=.ref P0) rfl (wpAny_bind (wpAny_seqItems I0 rfl ?_)));refine show wpAny _ _ (Builtin.SmallTypes.ownedTupleIsFree (.ref z) >>= _) _ _ _ from wpAny_bind ?_;unfold Builtin.SmallTypes.ownedTupleIsFree;refine wpAny_bind (wpAny_field Z rfl (x:=.none) rfl (wpAny_pure ?_));rw [if_pos rfl];refine wpAny_bind (wpAny_rule (wpAny_bind (wpAny_field Z rfl (x:=.ref P1) rfl (wpAny_bind (wpAny_setField_rec Z (by simp) fun ha Za sa=>?_)))));replace Za:IsZip ha z P0 P1 .ellipsis:=Za;refine wpAny_bind ?_;simp only [List.zipIdx_cons,List.forIn_cons,List.zipIdx_nil,List.forIn_nil];refine wpAny_bind (wpAny_bind (wpAny_onRaise ?_));refine show wpAny _ _ (Builtin.SmallTypes.nextOf (.ref u) >>= _) _ _ _ from wpAny_bind (fI (wu.extBut sa.extBut D.i1z) (tl.extBut sa.extBut D.l1z) ex fun hb wb sb=>wpAny_pure ?_);have Ib:IsPair hb P1 a b:=sb.extBut _ _ D.TOi1 (sa.extBut _ _ D.TOz I1);refine wpAny_bind (wpAny_seqItems Ib rfl (wpAny_bind (wpAny_updateSeq_pair Ib fun hc Ic sc=>wpAny_bind (wpAny_letGo (wpAny_pure ?_)))));replace Ic:IsPair hc P1 x b:=Ic;refine wpAny_bind (wpAny_bind (wpAny_onRaise ?_));refine show wpAny _ _ (Builtin.SmallTypes.nextOf (.ref v) >>= _) _ _ _ from wpAny_bind (fI (((wv.extBut sa.extBut D.i2z).extBut sb.extBut D.i12.symm).extBut sc.extBut D.TOi2.symm) (((tm.extBut sa.extBut D.l2z).extBut sb.extBut D.l2i1).extBut sc.extBut D.l2TO) ey fun hd wd sd=>wpAny_pure ?_);have Id:IsPair hd P1 x b:=sd.extBut _ _ D.TOi2 Ic;refine wpAny_bind (wpAny_seqItems Id rfl (wpAny_bind (wpAny_updateSeq_pair Id fun he Ie se=>wpAny_bind (wpAny_letGo (wpAny_pure (wpAny_pure ?_))))));replace Ie:IsPair he P1 x y:=Ie;refine wpAny_bind (wpAny_seqItems Ie rfl (wpAny_bind (wpAny_newTuple ?_)));have size:he.objs.size=s.heap.objs.size:=by rw [se.1,sd.1,sc.1,sb.1,sa.1]
 have Ze:IsZip he z P0 P1 .ellipsis:=se.extBut _ _ D.TOz.symm (sd.extBut _ _ D.i2z.symm (sc.extBut _ _ D.TOz.symm (sb.extBut _ _ D.i1z.symm Za)));have keep:∀ c o,c≠z→c≠P1→c≠u→c≠v→s.heap.get? c=some o→he.get? c=some o:=fun c o n1 n2 n3 n4 e=>se.extBut _ _ n2 (sd.extBut _ _ n4 (sc.extBut _ _ n2 (sb.extBut _ _ n3 (sa.extBut _ _ n1 e))));have we:IsTupIter he u l (k+1):=((wb.extBut sc.extBut D.TOi1.symm).extBut sd.extBut D.i12).extBut se.extBut D.TOi1.symm;have we':IsTupIter he v m (k+1):=wd.extBut se.extBut D.TOi2.symm;have ltz:z < he.objs.size:=Heap.lt_size Ze;refine show wpAny _ _ (Builtin.SmallTypes.ownedTupleHandOut (.ref z) (.ref he.objs.size) >>= _) _ _ _ from wpAny_bind ?_;unfold Builtin.SmallTypes.ownedTupleHandOut;have Zf:IsZip (he.push { cls:=.type "tuple",data:=.seq #[x,y] }) z P0 P1 .ellipsis:=Heap.get?_push_of_some _ Ze;refine wpAny_bind (wpAny_setField_rec Zf (by simp) fun hg Zg sg=>?_);replace Zg:IsZip hg z P0 P1 (rawInt he.objs.size):=Zg;refine wpAny_setField_rec Zg (by simp) fun hi Zi si=>?_;replace Zi:IsZip hi z P0 P1 (rawInt he.objs.size):=Zi;have up:∀ c o,c≠z→he.get? c=some o→hi.get? c=some o:=fun c o n e=>si.extBut _ _ n (sg.extBut _ _ n (Heap.get?_push_of_some _ e));have Ti:IsPair hi he.objs.size x y:=si.extBut _ _ (Nat.ne_of_gt ltz) (sg.extBut _ _ (Nat.ne_of_gt ltz) (Heap.get?_push_size _ rfl));have size':hi.objs.size=he.objs.size+1:=by rw [si.1,sg.1,Heap.size_push]
 refine wpAny_pure ⟨_,rfl,wpAny_pure ?_⟩;rw [size] at Zi Ti size';have go:=q hi Zi (up _ _ D.TOz Ie) (by obtain ⟨o,e,r⟩:=we;exact ⟨o,up _ o D.i1z e,r⟩) (by obtain ⟨o,e,r⟩:=we';exact ⟨o,up _ o D.i2z e,r⟩) Ti size' fun c o n1 n2 n3 n4 e=>up c o n1 (keep c o n1 n2 n3 n4 e);rw [← size] at go;exact go
theorem tU {z P0 P1 u v l m:Addr} {k:Nat} {xs ys:Array Value} {a b:Value} {Q:Option Value→Shared→Prop} (hh:A.handled=none) (D:ZipApart z P0 P1 u v l m) (Z:IsZip s.heap z P0 P1 .none) (I0:IsPair s.heap P0 (.ref u) (.ref v)) (I1:IsPair s.heap P1 a b)
  (wu:IsTupIter s.heap u l k) (wv:IsTupIter s.heap v m k) (tl:IsTup s.heap l xs) (tm:IsTup s.heap m ys) (no:xs[k]?=none∨ys[k]?=none)
  (q:∀ h',(∀ c o,c≠z→c≠P1→c≠u→c≠v→s.heap.get? c=some o→h'.get? c=some o)→Q none { s with heap:=h' }):wpAny (model prog w) A (pyNext (.ref z)) Q E s:=by
 have hT:s.TypeIs (.ref z) "zip" :=⟨_,Z,rfl⟩;unfold pyNext;refine wpAny_bind (wpAny_attempt (wpAny_callSpecial?_slot (name:=Str.ofString "__next__") hT F.slot_zip_next (wpAny_call_entry F.slot_zip_next hT F.entry_zip_next ?_ (F.args_zip_next_1 _))));refine show wpAny _ _ (field (.ref z) 2 >>= _) _ _ _ from wpAny_bind (wpAny_field Z rfl (x:=.bool false) rfl ?_);refine show wpAny _ _ (field (.ref z) 3 >>= _) _ _ _ from wpAny_bind (wpAny_field Z rfl (x:=.ref P0) rfl (wpAny_bind (wpAny_seqItems I0 rfl ?_)));refine show wpAny _ _ (Builtin.SmallTypes.ownedTupleIsFree (.ref z) >>= _) _ _ _ from wpAny_bind ?_;unfold Builtin.SmallTypes.ownedTupleIsFree;refine wpAny_bind (wpAny_field Z rfl (x:=.none) rfl (wpAny_pure ?_));rw [if_pos rfl];refine wpAny_bind (wpAny_rule (wpAny_bind (wpAny_field Z rfl (x:=.ref P1) rfl (wpAny_bind (wpAny_setField_rec Z (by simp) fun ha Za sa=>?_)))));replace Za:IsZip ha z P0 P1 .ellipsis:=Za;refine wpAny_bind ?_;simp only [List.zipIdx_cons,List.forIn_cons,List.zipIdx_nil,List.forIn_nil];refine wpAny_bind (wpAny_bind (wpAny_onRaise ?_));have stop:∀ {h':Heap} {e:Addr},(∃ o,h'.get? e=some o∧o.cls=.type "StopIteration")→IsZip h' z P0 P1 .ellipsis→e≠z:=fun he hz c=>by
  obtain ⟨o,ho,hc⟩:=he;subst c;rw [hz] at ho
  cases ho
  simp at hc
 have fin:∀ {h':Heap} {e:Addr},(∃ o,h'.get? e=some o∧o.cls=.type "StopIteration")→(∀ c o,c≠z→c≠P1→c≠u→c≠v→s.heap.get? c=some o→h'.get? c=some o) →
   wpAny (model prog w) A (do if (← isInstance (.ref e) (.type "StopIteration")) then pure none else throw (.ref e)) Q E { s with heap:=h' }:=fun {h' e} he hk=>by
  obtain ⟨o,ho,hc⟩:=he;exact wpAny_bind (wpAny_isInstance (T:= "StopIteration") (b:=true) ⟨o,ho,hc⟩ isSubtype_stop (wpAny_pure (q _ hk)))
 cases ex:xs[k]? with
 | none =>
  refine show wpAny _ _ (Builtin.SmallTypes.nextOf (.ref u) >>= _) _ _ _ from wpAny_bind (kJ hh (wu.extBut sa.extBut D.i1z) (tl.extBut sa.extBut D.l1z) ex fun hb e sb he=>?_);have Zb:IsZip hb z P0 P1 .ellipsis:=sb _ _ D.i1z.symm Za;have ne:=stop he Zb;obtain ⟨o,ho,hc⟩:=he;exact wpAny_setField_rec Zb (by simp) fun hd _ sd=>fin ⟨o,sd.extBut _ _ ne ho,hc⟩ fun c o n1 _ n3 _ e=>sd.extBut _ _ n1 (sb _ _ n3 (sa.extBut _ _ n1 e))
 | some x =>
  have ey:ys[k]?=none:=no.resolve_left (by rw [ex];simp);refine show wpAny _ _ (Builtin.SmallTypes.nextOf (.ref u) >>= _) _ _ _ from wpAny_bind (fI (wu.extBut sa.extBut D.i1z) (tl.extBut sa.extBut D.l1z) ex fun hb wb sb=>wpAny_pure ?_);have Ib:IsPair hb P1 a b:=sb.extBut _ _ D.TOi1 (sa.extBut _ _ D.TOz I1);refine wpAny_bind (wpAny_seqItems Ib rfl (wpAny_bind (wpAny_updateSeq_pair Ib fun hc Ic sc=>wpAny_bind (wpAny_letGo (wpAny_pure (wpAny_bind (wpAny_bind (wpAny_onRaise ?_))))))));refine show wpAny _ _ (Builtin.SmallTypes.nextOf (.ref v) >>= _) _ _ _ from wpAny_bind (kJ hh (((wv.extBut sa.extBut D.i2z).extBut sb.extBut D.i12.symm).extBut sc.extBut D.TOi2.symm) (((tm.extBut sa.extBut D.l2z).extBut sb.extBut D.l2i1).extBut sc.extBut D.l2TO) ey fun hd e sd he=>?_);have Zd:IsZip hd z P0 P1 .ellipsis:=sd _ _ D.i2z.symm (sc.extBut _ _ D.TOz.symm (sb.extBut _ _ D.i1z.symm Za));have ne:=stop he Zd;obtain ⟨o,ho,hcl⟩:=he;exact wpAny_setField_rec Zd (by simp) fun hf _ sf=>fin ⟨o,sf.extBut _ _ ne ho,hcl⟩ fun c o n1 n2 n3 n4 e=>sf.extBut _ _ n1 (sd _ _ n4 (sc.extBut _ _ n2 (sb.extBut _ _ n3 (sa.extBut _ _ n1 e))))
theorem wn (hh:A.handled=none) (z P0 P1 u v l m:Addr) (D:ZipApart z P0 P1 u v l m) (xs ys:Array Value) :
  WalksT prog w A z [z,P0,P1,u,v,l,m] [z,P1,u,v] (min xs.size ys.size) (fun i vals=>∃ x y,xs[i]?=some x∧ys[i]?=some y∧vals=#[x,y])
   (fun i h=>IsZip h z P0 P1 .none∧IsPair h P0 (.ref u) (.ref v)∧(∃ a b,IsPair h P1 a b)∧IsTupIter h u l i∧IsTupIter h v m i∧IsTup h l xs∧IsTup h m ys)
   (fun i T h=>IsZip h z P0 P1 (rawInt T)∧IsPair h P0 (.ref u) (.ref v)∧(∃ a b,IsPair h P1 a b)∧IsTupIter h u l (i+1)∧IsTupIter h v m (i+1)∧IsTup h l xs∧IsTup h m ys∧T≠z∧T≠P1∧T≠u∧T≠v) where
 sub:=fun c hc=>by
  simp only [List.mem_cons,List.not_mem_nil,or_false] at hc ⊢;rcases hc with h | h | h | h <;> simp [h]
 frame:=fun i h h' st kk=>by
  obtain ⟨Z,I0,⟨a,b,I1⟩,⟨o1,e1,r1⟩,⟨o2,e2,r2⟩,⟨o3,e3,r3⟩,⟨o4,e4,r4⟩⟩:=st;exact ⟨kk z (by simp) _ Z,kk P0 (by simp) _ I0,⟨a,b,kk P1 (by simp) _ I1⟩,⟨o1,kk u (by simp) _ e1,r1⟩,⟨o2,kk v (by simp) _ e2,r2⟩,⟨o3,kk l (by simp) _ e3,r3⟩,⟨o4,kk m (by simp) _ e4,r4⟩⟩
 item:=fun i s Q E hi st q=>by
  obtain ⟨Z,I0,⟨a,b,I1⟩,wu,wv,tl,tm⟩:=st;have h1:i < xs.size:=by lia
  have h2:i < ys.size:=by lia
  refine rN D Z I0 I1 wu wv tl tm (Array.getElem?_eq_getElem h1) (Array.getElem?_eq_getElem h2) fun h' a1 a2 a3 a4 a5 a6 kk=>?_;have far:∀ {c o},s.heap.get? c=some o→s.heap.objs.size≠c:=fun e=>Nat.ne_of_gt (Heap.lt_size e);obtain ⟨o1,e1,_⟩:=wu;obtain ⟨o2,e2,_⟩:=wv;obtain ⟨o3,e3,r3⟩:=tl;obtain ⟨o4,e4,r4⟩:=tm;refine q s.heap.objs.size #[xs[i],ys[i]] h' s.toks ⟨_,_,Array.getElem?_eq_getElem h1,Array.getElem?_eq_getElem h2,rfl⟩ (Nat.le_refl _) ⟨_,a5,rfl,_,rfl⟩ ⟨a1,kk _ _ D.TIz D.TITO D.TIi1 D.TIi2 I0,⟨_,_,a2⟩,a3,a4,⟨o3,kk _ _ D.l1z D.l1TO D.l1i1 D.l1i2 e3,r3⟩,⟨o4,kk _ _ D.l2z D.l2TO D.l2i1 D.l2i2 e4,r4⟩,far Z,far I1,far e1,far e2⟩ fun c o hc e=>?_;simp only [List.mem_cons,List.not_mem_nil,or_false,not_or] at hc;exact kk c o hc.1 hc.2.1 hc.2.2.1 hc.2.2.2 e
 go:=fun elts k pos i T s Q E st q=>by
  obtain ⟨Z,I0,⟨a,b,I1⟩,wu,wv,tl,tm,_⟩:=st;refine wpAny_letOwnedTupleGo_zip Z fun h' Z' s'=>q h' ⟨Z',s'.extBut _ _ D.TIz I0,⟨a,b,s'.extBut _ _ D.TOz I1⟩,wu.extBut s'.extBut D.i1z,wv.extBut s'.extBut D.i2z,tl.extBut s'.extBut D.l1z,tm.extBut s'.extBut D.l2z⟩ fun c o hc e=>?_;simp only [List.mem_cons,List.not_mem_nil,or_false,not_or] at hc;exact s'.extBut _ _ hc.1 e
 apart:=fun i T h st hT=>by
  obtain ⟨_,_,_,_,_,_,_,n1,n2,n3,n4⟩:=st;simp only [List.mem_cons,List.not_mem_nil,or_false] at hT;rcases hT with h | h | h | h
  ·exact n1 h
  ·exact n2 h
  ·exact n3 h
  ·exact n4 h
 done:=fun s Q E st q=>by
  obtain ⟨Z,I0,⟨a,b,I1⟩,wu,wv,tl,tm⟩:=st;have no:xs[min xs.size ys.size]?=none∨ys[min xs.size ys.size]?=none:=by
   rcases Nat.le_total xs.size ys.size with h | h
   ·exact .inl (Array.getElem?_eq_none (by lia))
   ·exact .inr (Array.getElem?_eq_none (by lia))
  refine tU hh D Z I0 I1 wu wv tl tm no fun h' kk=>q h' s.toks fun c o hc e=>?_;simp only [List.mem_cons,List.not_mem_nil,or_false,not_or] at hc;exact kk c o hc.1 hc.2.1 hc.2.2.1 hc.2.2.2 e
 self:=fun i s Q E st q=>wpAny_pyIter_zip st.1 q
abbrev zT1 (h:Heap) (l:Addr):Heap:=h.push { cls:=.type "tuple_iterator",data:=.fields #[.ref l,.int 0 0] }
abbrev zT2 (h:Heap) (l m:Addr):Heap:=(zT1 h l).push { cls:=.type "tuple_iterator",data:=.fields #[.ref m,.int 0 0] }
abbrev zT3 (h:Heap) (l m:Addr):Heap:=(zT2 h l m).push { cls:=.type "tuple",data:=.seq #[.ref h.objs.size,.ref (zT1 h l).objs.size] }
abbrev zT4 (h:Heap) (l m:Addr):Heap:=(zT3 h l m).push { cls:=.type "tuple",data:=.seq #[.none,.none] }
abbrev zT5 (h:Heap) (l m:Addr):Heap:=(zT4 h l m).push { cls:=.type "zip",data:=.fields #[.none,.bool false,.bool false,.ref (zT2 h l m).objs.size,.ref (zT3 h l m).objs.size] }
theorem pL (l m:Addr) (xs ys:Array Value) :
  Meets (Builtin.«zip.__new__» ⟨[.type "zip",.ref l,.ref m],[]⟩) (fun _ R s=>IsTup s.heap l xs∧IsTup s.heap m ys∧R (.ok (.ret (.ref (zT4 s.heap l m).objs.size))) { s with heap:=zT5 s.heap l m }) :=
 .of_wp fun prog w A R s h=>by
  obtain ⟨hp,g,d,tk,os⟩:=s;obtain ⟨tl,tm,h⟩:=h;have sub:=sub_zip;have T1:IsTup (Shared.heap ⟨hp,g,d,tk,os⟩) l xs:=tl;have T2:IsTup (Shared.heap ⟨hp.push { cls:=.type "tuple_iterator",data:=.fields #[.ref l,.int 0 0] },g,d,tk,os⟩) m ys:=IsTup.push tm _
  wp_walk using iter_tuple T1,iter_tuple T2
  exact ⟨_,rfl,h⟩
theorem rO {l m:Addr} {xs ys:Array Value} {Q:Value→Shared→Prop} (tl:IsTup s.heap l xs) (tm:IsTup s.heap m ys)
  (q:∀ h',IsZip h' (s.heap.objs.size+4) (s.heap.objs.size+2) (s.heap.objs.size+3) .none→IsPair h' (s.heap.objs.size+2) (.ref s.heap.objs.size) (.ref (s.heap.objs.size+1))→IsPair h' (s.heap.objs.size+3) .none .none →
   IsTupIter h' s.heap.objs.size l 0→IsTupIter h' (s.heap.objs.size+1) m 0→h'.objs.size=s.heap.objs.size+5→(∀ c o,s.heap.get? c=some o→h'.get? c=some o)→Q (.ref (s.heap.objs.size+4)) { s with heap:=h' }) :
  wpAny (model prog w) A (call (.type "zip") [.ref l,.ref m]) Q E s:=by
 refine callType_new F.called_zip (by decide) (F.typeCall_zip_2 _ _) (F.newCall_zip_2 _ _) (fun obj=>F.args_object_init_3 obj _ _) F.entry_zip_new (pL l m xs ys) ⟨tl,tm,?_⟩;have n1:(zT1 s.heap l).objs.size=s.heap.objs.size+1:=Heap.size_push ..;have n2:(zT2 s.heap l m).objs.size=s.heap.objs.size+2:=by rw [Heap.size_push,n1]
 have n3:(zT3 s.heap l m).objs.size=s.heap.objs.size+3:=by rw [Heap.size_push,n2]
 have n4:(zT4 s.heap l m).objs.size=s.heap.objs.size+4:=by rw [Heap.size_push,n3]
 have n5:(zT5 s.heap l m).objs.size=s.heap.objs.size+5:=by rw [Heap.size_push,n4]
 have e5:(zT5 s.heap l m).get? (zT4 s.heap l m).objs.size=some _:=Heap.get?_push_size _ rfl;have e4:(zT5 s.heap l m).get? (zT3 s.heap l m).objs.size=some _:=Heap.get?_push_of_some _ (Heap.get?_push_size _ rfl);have e3:(zT5 s.heap l m).get? (zT2 s.heap l m).objs.size=some _:=Heap.get?_push_of_some _ (Heap.get?_push_of_some _ (Heap.get?_push_size _ rfl));have e2:(zT5 s.heap l m).get? (zT1 s.heap l).objs.size=some _:=Heap.get?_push_of_some _ (Heap.get?_push_of_some _ (Heap.get?_push_of_some _ (Heap.get?_push_size _ rfl)));have e1:(zT5 s.heap l m).get? s.heap.objs.size=some _:=Heap.get?_push_of_some _ (Heap.get?_push_of_some _ (Heap.get?_push_of_some _ (Heap.get?_push_of_some _ (Heap.get?_push_size _ rfl))));refine show _∧_ from ?_;rw [n2,n3,n4] at e5;rw [n1,n2] at e3;rw [n3] at e4;rw [n1] at e2;rw [n4];exact ⟨⟨_,e5,rfl⟩,q _ e5 e3 e4 ⟨_,e1,rfl,rfl⟩ ⟨_,e2,rfl,rfl⟩ n5 fun c o x=>Heap.get?_push_of_some _ (Heap.get?_push_of_some _ (Heap.get?_push_of_some _ (Heap.get?_push_of_some _ (Heap.get?_push_of_some _ x))))⟩
end
def nF (K:PySem.W.Frag) (a b:Addr):It :=
 ⟨fun i H=>∃ xs ys x y,SqT K H a xs∧SqT K H b ys∧xs[i]?=some x∧ys[i]?=some y,
  fun i H v H'=>∃ T x y,v=.ref T∧H T=none∧H'=upd H T (.tup [x,y])∧(∀ xs,SqT K H a xs→xs[i]?=some x)∧(∀ ys,SqT K H b ys→ys[i]?=some y),
  fun i H=>∃ xs ys,SqT K H a xs∧SqT K H b ys∧min xs.length ys.length=i⟩
def Ah (z TI TO i1 i2 l1 l2:Addr) (i:Nat) (h:Heap):Prop:=IsZip h z TI TO .none∧IsPair h TI (.ref i1) (.ref i2)∧(∃ a b,IsPair h TO a b)∧IsTupIter h i1 l1 i∧IsTupIter h i2 l2 i
theorem rP {P:Program} {w:World} {K:PySem.W.Frag} {elts:List Expr} {k:Nat} {pos:Pos} (z TI TO i1 i2 l1 l2:Addr) (D:ZipApart z TI TO i1 i2 l1 l2) :
  Turn P w K (.Tuple elts k pos) (nF K l1 l2) [z,TI,TO,i1,i2] z (Ah z TI TO i1 i2 l1 l2) where
 mem:=by simp
 obj:=fun i h st b hb=>by
  obtain ⟨hz,hTI,⟨a,c,hTO⟩,⟨o1,e1,c1,d1⟩,⟨o2,e2,c2,d2⟩⟩:=st;simp only [List.mem_cons,List.not_mem_nil,or_false] at hb;rcases hb with rfl | rfl | rfl | rfl | rfl
  ·exact ⟨_,hz,fun v q=>by cases q⟩
  ·exact ⟨_,hTI,fun v q=>by cases q⟩
  ·exact ⟨_,hTO,fun v q=>by cases q⟩
  ·exact ⟨o1,e1,fun v q=>by rw [d1] at q;cases q⟩
  ·exact ⟨o2,e2,fun v q=>by rw [d2] at q;cases q⟩
 keep:=fun i h h' st kk=>by
  obtain ⟨hz,hTI,⟨a,c,hTO⟩,⟨o1,e1,r1⟩,⟨o2,e2,r2⟩⟩:=st;exact ⟨kk z (by simp) _ hz,kk TI (by simp) _ hTI,⟨a,c,kk TO (by simp) _ hTO⟩,⟨o1,kk i1 (by simp) _ e1,r1⟩,⟨o2,kk i2 (by simp) _ e2,r2⟩⟩
 item:=by
  intro X hP hw hK hc i pins s σ H E I hf st hg;subst hP hw hK;obtain ⟨xs,ys,x,y,hx,hy,ex,ey⟩:=hg;obtain ⟨its,rv,p,hz⟩:=I.tuple hx;obtain ⟨its2,rv2,p2,hz2⟩:=I.tuple hy;obtain ⟨s1,s2,s3,s4,s5⟩:=st;have W:=wn (prog:=X.prog) (w:=X.w) (I.ok.hd hc) z TI TO i1 i2 l1 l2 D its.toArray its2.toArray;have li:i < xs.length:=(List.getElem?_eq_some_iff.mp ex).1;have li2:i < ys.length:=(List.getElem?_eq_some_iff.mp ey).1;have el:=rv.length;have el2:=rv2.length;have wsub:∀ b∈[z,TO,i1,i2],b∈[z,TI,TO,i1,i2]:=fun b hb=>by
   simp only [List.mem_cons,List.not_mem_nil,or_false] at hb ⊢;rcases hb with rfl | rfl | rfl | rfl <;> simp
  refine W.item i s _ _ (by simp only [List.size_toArray];lia) ⟨s1,s2,s3,s4,s5,p,p2⟩ fun T vals h' tk hv hT hTup hm hk=>?_;obtain ⟨u,v,eu,ev,rfl⟩:=hv;obtain ⟨u',eu',ru⟩:=rv.get ex;obtain ⟨v',ev',rv'⟩:=rv2.get ey;have e1:u=u':=by
   have:its[i]?=some u:=by simpa using eu
   rw [eu'] at this;exact (Option.some.inj this).symm
  have e2:v=v':=by
   have:its2[i]?=some v:=by simpa using ev
   rw [ev'] at this;exact (Option.some.inj this).symm
  subst e1 e2;have hTn:H T=none:=I.hok.fresh hT;have I1:Inv X pins σ (upd H T (.tup [x,y])) { s with heap:=h',toks:=tk }:=I.turnedT hk (fun b hb=>hf b (wsub b hb)) hT ⟨by show 2≤sizeLine;decide,[u,v],.cons ru (.cons rv' .nil),hTup⟩;have ap:=W.apart i T h' hm;have f1:∀ b∈[z,TO,i1,i2],fA X pins (upd H T (.tup [x,y])) b:=fun b hb=>by
   obtain ⟨f0,f1⟩:=hf b (wsub b hb);exact ⟨by rw [ae (fun e:b=T=>ap (by rw [← e];exact hb))];exact f0,f1⟩
  refine ⟨_,rfl,W.go elts k pos i T _ _ _ hm fun h'' st2 hk2=>?_⟩;obtain ⟨t1,t2,t3,t4,t5,_,_⟩:=st2;refine ⟨.ref T,_,Inv.turnedL (s:={ s with heap:=h',toks:=tk }) (t':=tk) I1 hk2 f1,rfl,⟨T,x,y,rfl,hTn,rfl,fun zs q=>by rw [I.tuple_inj q hx];exact ex,fun zs q=>by rw [I.tuple_inj q hy];exact ey⟩,⟨t1,t2,t3,t4,t5⟩,fun b hb=>?_⟩;have fb:=(hf b hb).1
  by_cases e:b=T
  ·subst e;have lti:s.heap.objs.size > TI:=Heap.lt_size s2;simp only [List.mem_cons,List.not_mem_nil,or_false] at hb;rcases hb with rfl | rfl | rfl | rfl | rfl
   ·exact absurd (by simp) ap
   ·exact absurd lti (Nat.not_lt.mpr hT)
   ·exact absurd (by simp) ap
   ·exact absurd (by simp) ap
   ·exact absurd (by simp) ap
  ·rw [ae e];exact fb
 done:=by
  intro X hP hw hK hc i pins s σ H E I hf st hg;subst hP hw hK;obtain ⟨xs,ys,hx,hy,hi⟩:=hg;obtain ⟨its,rv,p,hz⟩:=I.tuple hx;obtain ⟨its2,rv2,p2,hz2⟩:=I.tuple hy;obtain ⟨s1,s2,s3,s4,s5⟩:=st;have W:=wn (prog:=X.prog) (w:=X.w) (I.ok.hd hc) z TI TO i1 i2 l1 l2 D its.toArray its2.toArray;have el:=rv.length;have el2:=rv2.length;have en:min its.toArray.size its2.toArray.size=i:=by simp only [List.size_toArray];lia
  have wsub:∀ b∈[z,TO,i1,i2],b∈[z,TI,TO,i1,i2]:=fun b hb=>by
   simp only [List.mem_cons,List.not_mem_nil,or_false] at hb ⊢;rcases hb with rfl | rfl | rfl | rfl <;> simp
  refine W.done s _ _ ?_ fun h' tk hk=>⟨rfl,I.turnedL hk fun b hb=>hf b (wsub b hb)⟩;rw [en];exact ⟨s1,s2,s3,s4,s5,p,p2⟩
 self:=fun _ _ _ _ _ st h=>wpAny_pyIter_zip st.1 h
section
variable {X:Cx} {elts:List Expr} {k:Nat} {tpos:Pos}
def Gk (K:PySem.W.Frag) (ta:TA):TI:=fun σ H R=>ta σ H fun vs H1=>∃ a b,vs=[.ref a,.ref b]∧(∃ xs,SqT K H1 a xs)∧(∃ ys,SqT K H1 b ys)∧R (nF K a b) H1
theorem vC {a b:Expr} {ta:TA} {p pos:Pos} (hg:Gl X "zip") (hm:X.mg "zip" = none) (ha:PA X [a,b] ta) (hs:starEach [a,b] X.env=[(false,eval a X.env),(false,eval b X.env)]:=by rfl) (hs2:starEach [b] X.env=[(false,eval b X.env)]:=by rfl) :
  PI X (.Tuple elts k tpos) (.Call (.Name "zip" p) [a,b] [] pos) (Gk X.K ta):=by
 intro pins s σ H R I h;refine Call_ (gP I hg hm boot_zip (PyProof.Rows.callWith_type1 (thn (ha pos pins s σ H _ I h) fun us s1 ⟨vs,H1,I1,r1,q1⟩=>?_) (by rw [hs,hs2]) (by rw [hs2];rfl)));obtain ⟨l1,l2,e,⟨xs,hx⟩,⟨ys,hy⟩,q⟩:=q1;subst e;obtain ⟨u,v,rfl,ru,rv⟩:=r1.two
 cases ru
 cases rv
 obtain ⟨its,rr,pl,hz⟩:=I1.tuple hx;obtain ⟨its2,rr2,pl2,hz2⟩:=I1.tuple hy;have lt1:l1 < s1.heap.objs.size:=by obtain ⟨o,e,_⟩:=pl;exact Heap.lt_size e
 have lt2:l2 < s1.heap.objs.size:=by obtain ⟨o,e,_⟩:=pl2;exact Heap.lt_size e
 refine rO pl pl2 fun h' z1 z2 z3 z4 z5 zs kk=>?_;have I2:Inv X pins σ H1 { s1 with heap:=h' }:=I1.kept (t':=s1.toks) kk;refine wpAny_pyIter_zip z1 ?_;refine ⟨_,_,_,_,H1,rfl,I2,rP _ _ _ _ _ l1 l2 ?_,⟨z1,z2,⟨_,_,z3⟩,z4,z5⟩,fun b hb=>?_,q⟩
 ·have lt1':s1.heap.objs.size > l1:=lt1;have lt2':s1.heap.objs.size > l2:=lt2
  constructor <;> (show ¬ (@Eq Nat _ _)) <;> lia
 ·have:s1.heap.objs.size≤b:=by
   simp only [List.mem_cons,List.not_mem_nil,or_false] at hb;rcases hb with rfl | rfl | rfl | rfl | rfl <;> lia
  exact I1.fpOk this (I1.hok.fresh this)
end
theorem rQ {K:PySem.W.Frag} {a b l:Addr} {xs ys:List V} {g:TG} {tb:List V→Addr→St→Hp→(List V→St→Hp→Prop)→Prop} {Q:VK} {σ0:St} {H0:Hp} (Pv:Nat→List V→St→Hp→Prop) (h0:Pv 0 [] σ0 H0)
  (hla:∀ i us σ H,Pv i us σ H→SqT K H a xs∧SqT K H b ys)
  (hs:∀ i x y T us σ H (N:List V→St→Hp→Prop),xs[i]?=some x→ys[i]?=some y→H T=none→Pv i us σ H→(∀ us' σ' H',Pv (i+1) us' σ' H'→N us' σ' H')→g (.ref T) σ (upd H T (.tup [x,y])) fun σ2 H2=>tb us l σ2 H2 N)
  (hd:∀ us σ H,Pv (min xs.length ys.length) us σ H→Q (.ref l) H) :
  ∃ W:Nat→Nat→List V→St→Hp→Prop,(∃ m,W 0 m [] σ0 H0)∧∀ i m us σ' H',W i m us σ' H'→((nF K a b).stop i H'∧Q (.ref l) H') ∨
   ((nF K a b).go i H'∧∀ x H'',(nF K a b).yld i H' x H''→g x σ' H'' fun σ2 H2=>tb us l σ2 H2 fun us' σ3 H3=>∃ m',m' < m∧W (i+1) m' us' σ3 H3):=by
 refine ⟨fun i m us σ H=>m=min xs.length ys.length - i∧i≤min xs.length ys.length∧Pv i us σ H,⟨_,rfl,Nat.zero_le _,h0⟩,?_⟩;rintro i m us σ H ⟨rfl,hi,p⟩;obtain ⟨sa,sb⟩:=hla i us σ H p
 by_cases hlt:i < min xs.length ys.length
 ·obtain ⟨x,ex⟩:∃ x,xs[i]?=some x:=⟨_,List.getElem?_eq_getElem (by lia)⟩;obtain ⟨y,ey⟩:∃ y,ys[i]?=some y:=⟨_,List.getElem?_eq_getElem (by lia)⟩;refine .inr ⟨⟨xs,ys,x,y,sa,sb,ex,ey⟩,fun v H' q=>?_⟩;obtain ⟨T,x',y',rfl,hT,rfl,q1,q2⟩:=q;have e1:=q1 xs sa;have e2:=q2 ys sb;exact hs i x' y' T us σ H _ e1 e2 hT p fun us' σ' H' w=>⟨_,by lia,rfl,hlt,w⟩
 ·have e:i=min xs.length ys.length:=by lia
  subst e;exact .inl ⟨⟨xs,ys,sa,sb,rfl⟩,hd us σ H p⟩
section
variable {X:Cx} {K:PySem.W.Frag}
theorem kK:OpR X (compareOp .LtE) (fun x y H Q=>∃ i j,x=.str i∧y=.str j∧Q (.bl (!decide (j.cps.toList < i.cps.toList))) H):=by
 intro pins s σ H x y v u Q I rx ry h;obtain ⟨i,j,rfl,rfl,q⟩:=h;obtain ⟨t,rfl⟩:=rx;obtain ⟨t',rfl⟩:=ry;exact PySem.P.le_str (ax I q rfl)
end
section
variable {prog:Program} {w:World} {A:Around} {E:Value→Shared→Prop} {s:Shared}
end
section
variable {X:Cx}
def DicQ (K:PySem.W.Frag) (H:Hp) (p:Addr) (fs:List (Str×Dt)):Prop :=
 ∃ kvs,H p=some (.dK kvs)∧kvs.map (·.1)=fs.map (fun p=>(Sum.inr p.1:Key))∧∀ z,(eo fs z=none→nB kvs (Sum.inr z:Key)=none)∧∀ d,eo fs z=some d→∃ v,nB kvs (Sum.inr z:Key)=some v∧IsP K H d v
theorem DicQ.p {K:PySem.W.Frag} {H:Hp} {p:Addr} {fs:List (Str×Dt)} (h:DicQ K H p fs):Hb K H p fs:=by
 obtain ⟨kvs,e,_,k⟩:=h;exact ⟨kvs,e,k⟩
end
section
variable {prog:Program} {w:World} {A:Around} {E:Value→Shared→Prop} {s:Shared}
end
section
variable {prog:Program} {w:World} {A:Around} {E:Value→Shared→Prop} {s:Shared}
end
section
variable {X:Cx} {pins:List (Addr×Obj)} {σ:St} {H H':Hp} {s:Shared} {h':Heap}
end
abbrev Gm (j tk:Nat) (x:Value):Obj:={ cls:=.type "tuple",data:=.seq #[.int j tk,x] }
inductive Rws (h:Heap) (lo:Nat):Nat→List V→List (Addr×HO)→Prop
 | nil {j:Nat}:Rws h lo j [] []
 | cons {j T tk:Nat} {x:Value} {v:V} {vs:List V} {r:List (Addr×HO)}:lo < T→RelV v x→h.get? T=some (Gm j tk x)→Rws h lo (j+1) vs r→Rws h lo j (v :: vs) ((T,plO [.int j,v] [.int j tk,x]) :: r)
theorem Rws.length {h:Heap} {lo:Nat}:∀ {j:Nat} {vs:List V} {r:List (Addr×HO)},Rws h lo j vs r→r.length=vs.length
 | _,_,_,.nil=>rfl
 | _,_,_,.cons _ _ _ r=>by rw [List.length_cons,List.length_cons,r.length]
section
variable {X:Cx}
end
section
variable {prog:Program} {w:World} {A:Around} {E:Value→Shared→Prop} {s:Shared}
end
section
variable {X:Cx}
end
section
variable {X:Cx} {tg:Expr} {pins:List (Addr×Obj)} {σ:St} {H:Hp} {s:Shared}
end
section
variable {X:Cx}
end
section
variable {a:Addr} {ob:Obj} {kvs:List (Key×V)} {g:TG} {l:Addr} {σ0:St} {H0:Hp} {R:Hp→Prop} {tb:List V→Addr→St→Hp→(List V→St→Hp→Prop)→Prop}
end
section
variable {X:Cx}
end
section
variable {prog:Program} {w:World} {A:Around} {E:Value→Shared→Prop} {s:Shared}
end
section
variable {X:Cx}
end
section
variable {X:Cx} {K:PySem.W.Frag}
end
section
variable {X:Cx} {K:PySem.W.Frag}
inductive JSlP (K:PySem.W.Frag) (x:V) (lo hi:Option Int) (H:Hp) (Q:VK):Prop
 | mk (l:List Dt):(IsP K H (.tup l) x)→(∀ v H',Same H H'→IsP K H' (.tup (rD l lo hi)) v→Q v H')→JSlP K x lo hi H Q
def Hf (K:PySem.W.Frag):V→Option Int→Option Int→Hp→VK→Prop:=fun x lo hi H Q=>JSlP K x lo hi H Q
inductive JLenS (K:PySem.W.Frag) (xs:List V) (H:Hp) (Q:VK):Prop
 | mk (p:Addr) (ys:List V):(xs=[.ref p])→((SqL K H p ys∨SqT K H p ys))→(Q (.int ys.length) H)→JLenS K xs H Q
def Go (K:PySem.W.Frag):List V→Hp→VK→Prop:=fun xs H Q=>JLenS K xs H Q
def vD (K:PySem.W.Frag):List V→Hp→VK→Prop:=fun xs H Q=>∃ p ys,xs=[.ref p]∧(SqL K H p ys∨SqT K H p ys)∧∀ l,H l=none→Q (.ref l) (upd H l (.lst ys))
def Ai (K:PySem.W.Frag):List V→Hp→VK→Prop:=fun xs H Q=>∃ (p:Addr) (ss:List Str),xs=[.ref p]∧SqL K H p (ss.map V.str)∧ss.length < 64∧∀ a ss',H a=none→ss'.Perm ss→sortedS ss'=true→Q (.ref a) (upd H a (.lst (ss'.map V.str)))
def Hg (K:PySem.W.Frag):List V→Hp→VK→Prop:=fun xs H Q=>∃ p ys,xs=[.ref p]∧true=true∧SqL K H p (bls ys)∧Q (.bl (ys.all id)) H
theorem eC (hK:X.K=K):SlR X (Hf K):=by
 subst hK;intro pins s σ H x v vl vu lo hi sl Q I rx hs pl pu h;obtain ⟨l,a,q⟩:=h;exact vw _ _ _ _ _ _ _ _ _ _ _ _ I rx hs pl pu ⟨l,a,q⟩
theorem nG (hK:X.K=K):SlR X (F5 K):=by subst hK;exact ve
theorem be (hK:X.K=K):OpR X (binaryOp .Add) (tI K):=by subst hK;exact vy
theorem bh (hK:X.K=K):aZ X (.builtin "len") (Go K):=by
 subst hK;intro pins s σ H xs us Q I r h;obtain ⟨x,l,a,b,q⟩:=h;exact gn _ _ _ _ _ _ _ I r ⟨x,l,a,b,q⟩
theorem j4 (hK:X.K=K):aZ X (.type "list") (vD K):=by subst hK;exact ls
theorem iC (hK:X.K=K):aZ X (.builtin "sorted") (Ai K):=by subst hK;exact pK
theorem call_allN (hK:X.K=K) (hc:X.calm=true):aZ X (.builtin "all") (Hg K):=by
 subst hK;intro pins s σ H xs us Q I r h;obtain ⟨p,ys,rfl,_,hs,q⟩:=h;exact tq _ _ _ _ _ _ _ I r ⟨p,ys,rfl,hc,hs,q⟩
end
section
variable {K:PySem.W.Frag} {a b l:Addr} {xs ys:List V} {g:TG} {tb:List V→Addr→St→Hp→(List V→St→Hp→Prop)→Prop} {R:Hp→Prop} {σ0:St} {H0:Hp}
theorem pM (Pv:Nat→List V→St→Hp→Prop) (h0:Pv 0 [] σ0 H0) (hla:∀ i us σ H,Pv i us σ H→SqT K H a xs∧SqT K H b ys)
  (hs:∀ i x y T us σ H (N:List V→St→Hp→Prop),xs[i]?=some x→ys[i]?=some y→H T=none→Pv i us σ H→(∀ us' σ' H',Pv (i+1) us' σ' H'→N us' σ' H')→g (.ref T) σ (upd H T (.tup [x,y])) fun σ2 H2=>tb us l σ2 H2 N)
  (hd:∀ us σ H,Pv (min xs.length ys.length) us σ H→R H) :
  ∃ W:Nat→Nat→List V→St→Hp→Prop,(∃ m,W 0 m [] σ0 H0)∧∀ i m us σ' H',W i m us σ' H'→((nF K a b).stop i H'∧R H') ∨
   ((nF K a b).go i H'∧∀ x H'',(nF K a b).yld i H' x H''→g x σ' H'' fun σ2 H2=>tb us l σ2 H2 fun us' σ3 H3=>∃ m',m' < m∧W (i+1) m' us' σ3 H3):=rQ (Q:=fun _ H=>R H) Pv h0 hla hs hd
end
section
variable {X:Cx} {K:PySem.W.Frag}
end
end L2
namespace PySem
open Sem (wp)
namespace F
end F
section
variable {prog:Program} {w:World} {K:Type} [DecidableEq K] {kd:KeyKind prog w K} {A:Around} {E:Value→Shared→Prop}
end
end PySem
namespace L2
open PySem PySem.Spec PyProof.Rows
def kDt:Key→Dt
 | .inl i=>.int i
 | .inr z=>.str z
theorem vE {K:PySem.W.Frag} {H:Hp} {k:Key} {v:V} (h:IsP K H (kDt k) v):v=kV k:=by
 cases k <;> (cases h;rfl)
theorem kL {K:PySem.W.Frag} {H:Hp}:∀ {ks:List Key} {xs:List V},IsPs K H (ks.map kDt) xs→xs=ks.map kV
 | [],_,h=>by cases h;rfl
 | k :: ks,_,h=>by
  cases h with
  | cons h r=>rw [vE h,kL r];rfl
def wo (P:Program) (w:World) (p:Addr) (xs:List (List Key×Addr×Value)) (h:Heap):Prop :=
 ∃ o es ep,h.get? p=some o∧o.ExactDict∧o.data=.dict es ep∧es.toList=xs.map (entryOfKey (tupleKind (aI P w)))∧(xs.map (·.1)).Nodup
def DicT (P:Program) (w:World) (K:PySem.W.Frag) (H:Hp) (p:Addr) (kvs:List (List Key×Dt)):Prop :=
 (p == sysModules)=false∧∃ xs:List (List Key×Addr×Value),H p=some (.ext (wo P w p xs)) ∧
  Paired (fun (a:List Key×Dt) (b:List Key×Addr×Value)=>a.1=b.1∧IsP K H (.tup (a.1.map kDt)) (.ref b.2.1)∧∃ v,RelV v b.2.2∧IsP K H a.2 v) kvs xs
section
variable {X:Cx} {pins:List (Addr×Obj)} {σ:St} {H:Hp} {s:Shared}
theorem qz (I:Inv X pins σ H s) {ks:List Key} {a:Addr} (h:IsP X.K H (.tup (ks.map kDt)) (.ref a)):IsTupleKey (aI X.prog X.w) s.heap ks a:=by
 obtain ⟨b,ys,e,ha,_,ra⟩:=h.unref
 cases e
 obtain ⟨its,r,⟨o,h1,h2,n,h3⟩,_⟩:=I.tuple ha;rw [kL ra] at r;exact ⟨o,its.toArray,n,h1,h2,h3,by simpa using kG r⟩
theorem DicT.dict {p:Addr} {kvs:List (List Key×Dt)} (I:Inv X pins σ H s) (h:DicT X.prog X.w X.K H p kvs):(p == sysModules)=false∧∃ xs:List (List Key×Addr×Value),s.heap.DictOfH (tupleKind (aI X.prog X.w)) p xs ∧
  Paired (fun (a:List Key×Dt) (b:List Key×Addr×Value)=>a.1=b.1∧IsP X.K H (.tup (a.1.map kDt)) (.ref b.2.1)∧∃ v,RelV v b.2.2∧IsP X.K H a.2 v) kvs xs:=by
 obtain ⟨e0,xs,e,r⟩:=h;obtain ⟨⟨o,es,ep,h1,h2,h3,h4,h5⟩,_⟩:=(show ObjOk X.prog X.w H s.heap p (.ext (wo X.prog X.w p xs)) from I.hok p _ e);refine ⟨e0,xs,⟨o,es,ep,h1,h2,h3,h4,fun y hy=>?_,h5⟩,r⟩;have all:∀ {l:List (List Key×Dt)} {m:List (List Key×Addr×Value)},Paired (fun (a:List Key×Dt) (b:List Key×Addr×Value)=>a.1=b.1∧IsP X.K H (.tup (a.1.map kDt)) (.ref b.2.1)∧∃ v,RelV v b.2.2∧IsP X.K H a.2 v) l m→∀ y∈m,IsTupleKey (aI X.prog X.w) s.heap y.1 y.2.1:=by
  intro l m q
  induction q with
  | nil=>intro y hy;exact nomatch hy
  | @cons p q ps qs hq t ih =>
   intro y hy;rcases List.mem_cons.mp hy with rfl | hy
   ·rw [← hq.1];exact qz I hq.2.1
   ·exact ih y hy
 exact all r y hy
end
end L2
namespace PySem
open Sem (wp)
section
variable {prog:Program} {w:World} {K:Type} [DecidableEq K] {knd:HeapKind prog w K} {A:Around} {E:Value→Shared→Prop} {s:Shared}
end
end PySem
namespace L2
open PySem PySem.Spec PyProof.Rows
section
variable {X:Cx} {pins:List (Addr×Obj)} {σ:St} {H:Hp} {s:Shared}
end
theorem u2 {A:Around} (h:A.units+64 < cLine):A.units+2 < cLine:=by lia
section
variable {X:Cx} {o e f:Expr} {apos cpos:Pos} {td ty tx:TE}
end
end L2
namespace PySem
open Sem (wp)
open PyProof.Rows
section
variable {prog:Program} {w:World} {A:Around} {E:Value→Shared→Prop} {s:Shared} {δ:Type} {R:δ→Value→Prop} {h₀:Heap} {a:Addr} {D:List (Str×δ)} {k:Str} {tk:Tok}
theorem eD {Q:Option Value→Shared→Prop} (T:KTD.TabOf R h₀ a D) (kp:∀ b o,h₀.get? b=some o→s.heap.get? b=some o) (q1:∀ d v,KTD.datumAt k D=some d→R d v→Q (some v) { s with toks:=s.toks+1 })
  (q2:KTD.datumAt k D=none→Q none { s with toks:=s.toks+1 }):wpAny (model prog w) A (dictGet a (.str k tk)) Q E s:=by
 obtain ⟨_,o,es,ep,ho0,hc,hd,hr⟩:=T;have ho:=kp _ _ ho0;obtain ⟨l⟩:=es;unfold dictGet
 try with_reducible refine wpAny_holding ?_
 refine wpAny_bind (wpAny_pyHash_str (wpAny_bind (KTD.kt_dictFind_strs (s:={ s with toks:=s.toks+1 }) ho hd (by simpa using hr.exact) ?_)));have hq:Q (findBy (fun k v=>v.isStr k) (Array.mk l) k) { s with toks:=s.toks+1 }:=by
  rw [show findBy (fun k v=>v.isStr k) (Array.mk l) k=(l.find? fun e=>e.key.isStr k).map (·.val) by simp [findBy]]
  cases hat:KTD.datumAt k D with
  | none=>rw [show (l.find? fun e=>e.key.isStr k).map (·.val)=none by have:=hr.find_none hat;simpa using this];exact q2 hat
  | some d =>
   obtain ⟨v,hv,rv⟩:=hr.find_some hat;rw [show (l.find? fun e=>e.key.isStr k).map (·.val)=some v from hv];exact q1 d v hat rv
 rw [findBy_of_findIdx?] at hq
 cases hi:(Array.mk l).findIdx? fun e=>e.key.isStr k with
 | some i=>rw [hi] at hq;exact wpAny_bind (wpAny_dictEntries (s:={ s with toks:=s.toks+1 }) ho hd (wpAny_pure hq))
 | none=>rw [hi] at hq;exact wpAny_pure hq
end
end PySem
namespace L2
open PySem PySem.Spec PyProof.Rows
def jj (K:PySem.W.Frag) (a:Addr) (D:List (Str×Addr)):Prop:=∀ h,K.In h→KTD.TabOf (fun b v=>v=Value.ref b) h a D
theorem AQ {K:PySem.W.Frag} {a:Addr} {D:List (Str×Addr)} (e:KTD.tabLook (fun b v=>v == Value.ref b) (fun b=>K.lookup b) a D=true):jj K a D :=
 fun _ X=>KTD.tab_of_look (L:=fun b v=>v == Value.ref b) (R:=fun b v=>v=Value.ref b) (fun _ _ z=>eq_of_beq z) (fun b o q=>X b o q) e
def lJ (K:PySem.W.Frag) (b:Addr) (ws:List Str):Bool:=match K.lookup b with
 | some o=>o.cls == .type "tuple" && (match o.data with | .seq vs _=>KTD.strsLook vs.toList ws && decide (vs.size≤1000) | _=>false)
 | none=>false
def tV (K:PySem.W.Frag) (D:List (Addr×List Str)):Bool:=D.all fun p=>lJ K p.1 p.2
def jk (K:PySem.W.Frag) (D:List (Addr×List Str)):Prop:=∀ p∈D,∀ H:Hp,SqT K H p.1 (p.2.map V.str)
theorem Gp {K:PySem.W.Frag} {D:List (Addr×List Str)} (e:tV K D=true):jk K D:=by
 intro p hp H;have e1:lJ K p.1 p.2=true:=List.all_eq_true.mp e p hp;unfold lJ at e1
 split at e1
 ·rename_i o ho
  simp only [Bool.and_eq_true] at e1;obtain ⟨e2,e3⟩:=e1
  split at e3
  ·rename_i vs n hd
   simp only [Bool.and_eq_true] at e3;exact .inr ⟨o,vs,n,ho,eq_of_beq e2,hd,Nat.le_of_lt (aw (of_decide_eq_true e3.2)),gZ (KTD.strs_of_look e3.1)⟩
  ·cases e3
 ·cases e1
def eE (k:Str):List (Str×Addr)→Option Addr
 | []=>none
 | (x,b) :: D=>if k=x then some b else eE k D
theorem jl {k:Str}:∀ D:List (Str×Addr),KTD.datumAt k D=eE k D
 | []=>rfl
 | (x,b) :: D=>by
  show (if decide (k=x)=true then some b else KTD.datumAt k D)=_
  by_cases h:k=x
  ·simp [eE,h]
  ·simp [eE,h,jl D]
section
variable {X:Cx}
end
section
variable {prog:Program} {w:World} {A:Around} {E:Value→Shared→Prop} {s:Shared}
end
section
variable {prog:Program} {w:World} {A:Around} {E:Value→Shared→Prop} {s:Shared}
end
section
variable {prog:Program} {w:World} {K:Type} [DecidableEq K] {knd:KeyKind prog w K} {A:Around} {E:Value→Shared→Prop}
end
section
variable {prog:Program} {w:World} {K:Type} [DecidableEq K] {knd:KeyKind prog w K} {A:Around} {E:Value→Shared→Prop}
end
section
variable {X:Cx}
end
section
variable {X:Cx}
end
open AutoSeq1 (wpAny_loadPart')
structure ZOut (lo:Nat) (xs ys acc:Array Value) (h:Heap):Prop where
 pr:∀ (j:Nat) (e:Value),acc[j]?=some e→∃ (T:Addr) (x y:Value),e=.ref T∧lo≤T∧xs[j]?=some x∧ys[j]?=some y∧IsPair h T x y
 ij:∀ (j k:Nat) (e:Value),acc[j]?=some e→acc[k]?=some e→j=k
theorem ZOut.keep {lo:Nat} {xs ys acc:Array Value} {h h':Heap} (Z:ZOut lo xs ys acc h) (k:∀ T x y,lo≤T→IsPair h T x y→IsPair h' T x y):ZOut lo xs ys acc h' :=
 ⟨fun j e hj=>by obtain ⟨T,x,y,a,b,c,d,f⟩:=Z.pr j e hj;exact ⟨T,x,y,a,b,c,d,k T x y b f⟩,Z.ij⟩
section
variable {prog:Program} {w:World} {A:Around} {E:Value→Shared→Prop} {s:Shared}
end
section
variable {prog:Program} {w:World} {A:Around} {E:Value→Shared→Prop} {s:Shared}
end
abbrev Gq (x y:Value):Obj:={ cls:=.type "tuple",data:=.seq #[x,y] }
inductive RwZ (h:Heap) (lo:Nat):List V→List V→List (Addr×HO)→Prop
 | nil:RwZ h lo [] [] []
 | cons {T:Nat} {x y:Value} {v u:V} {vs us:List V} {r:List (Addr×HO)}:lo≤T→RelV v x→RelV u y→h.get? T=some (Gq x y)→RwZ h lo vs us r→RwZ h lo (v :: vs) (u :: us) ((T,plO [v,u] [x,y]) :: r)
theorem RwZ.length {h:Heap} {lo:Nat} {vs us:List V} {r:List (Addr×HO)} (R:RwZ h lo vs us r):r.length=vs.length:=by
 induction R with
 | nil=>rfl
 | cons _ _ _ _ _ ih=>rw [List.length_cons,List.length_cons,ih]
section
variable {X:Cx}
end
end L2
namespace L2
open PySem PySem.Spec PyProof.Rows
open AutoSeq1 (wpAny_loadPart')
section
variable {prog:Program} {w:World} {A:Around} {E:Value→Shared→Prop} {s:Shared}
end
section
variable {X:Cx}
end
end L2
namespace L2
open PySem PySem.Spec PyProof.Rows
section
variable {X:Cx} {o e:Expr} {es:List Expr} {to:TE} {t:TA} {name:Str} {apos cpos:Pos} {T id:String} {r:V→List V→Hp→VK→Prop}
end
section
variable {P:Program} {w:World} {A:Around} {E:Value→Shared→Prop} {s:Shared}
end
section
variable {P:Program} {w:World} {A:Around} {R:Result→Shared→Prop} {it:Addr} {fp wr:List Addr} {G:Array GenState→Array GenState→Prop} {n:Nat} {Pt:Nat→Value→Prop} {St:Nat→Shared→Prop}
end
section
variable {P:Program} {w:World} {A:Around} {E:Value→Shared→Prop} {s:Shared}
end
section
variable {P:Program} {w:World} {A:Around} {E:Value→Shared→Prop} {s:Shared}
def SIt (h:Heap) (I a:Addr) (first:Value) (i n ep:Nat):Prop:=∃ o,h.get? I=some o∧o.cls=.type "set_iterator" ∧o.data=.fields #[first,.int i 0,.ref a,.int n 0,.int ep 0]
theorem SIt.type {I a:Addr} {first:Value} {i n ep:Nat} (x:SIt s.heap I a first i n ep):s.TypeIs (.ref I) "set_iterator" :=let ⟨o,ho,hc,_⟩:=x;⟨o,ho,hc⟩
theorem SIt.at {h h':Heap} {I a:Addr} {first:Value} {i n ep:Nat} (x:SIt h I a first i n ep) (e:∀ o,h.get? I=some o→h'.get? I=some o):SIt h' I a first i n ep:=let ⟨o,ho,r⟩:=x;⟨o,e _ ho,r⟩
end
section
variable {P:Program} {w:World} {A:Around} {E:Value→Shared→Prop} {s:Shared}
end
section
variable {P:Program} {w:World} {A:Around} {E:Value→Shared→Prop} {s:Shared}
end
section
variable {P:Program} {w:World} {A:Around} {E:Value→Shared→Prop} {s:Shared}
end
section
variable {P:Program} {w:World} {A:Around} {E:Value→Shared→Prop} {s:Shared}
end
section
variable {P:Program} {w:World} {A:Around} {E:Value→Shared→Prop} {s:Shared}
end
section
variable {X:Cx}
end
section
variable {X:Cx} {elts:List Expr} {k:Nat} {tpos:Pos}
end
section
variable {X:Cx} {o e f:Expr} {apos cpos:Pos} {td ty tx:TE}
end
section
variable {X:Cx} {e st:Expr} {te tst:TE} {p2 pos:Pos}
end
end L2
namespace PySem
open Sem (wp)
section
variable {M:Model} {A:Around} {E:Value→Shared→Prop} {s:Shared}
end
end PySem
namespace PySem
open Sem (wp)
section
variable {prog:Program} {w:World} {A:Around} {E:Value→Shared→Prop} {s:Shared} {env:Env}
variable {nm q:Str} {C N:Addr} {bs bm bmB:List Value} {hdct:Bool} {sn:List Str} {sub:List Value} {ab:Bool} {col:Option Bool} {dd:Option Addr} {k0 k1 k2 k3 k5:Option Value} {B newId initId:String}
end
end PySem
namespace L2
open PySem PySem.Spec PyProof.Rows
section
variable {X:Cx} {pins:List (Addr×Obj)} {σ:St} {H:Hp} {s:Shared}
end
end L2
namespace PySem
open Sem (wp)
section
variable {prog:Program} {w:World} {A:Around} {E:Value→Shared→Prop} {s:Shared} {env:Env}
variable {nm q:Str} {C N:Addr} {bs bm bmB:List Value} {hdct:Bool} {sn:List Str} {sub:List Value} {ab:Bool} {col:Option Bool} {dd:Option Addr} {k0 k1 k2 k3 k5:Option Value} {B newId initId:String}
end
end PySem
namespace L2
open PySem PySem.Spec PyProof.Rows
section
variable {X:Cx} {pins:List (Addr×Obj)} {σ:St} {H:Hp} {s:Shared}
end
end L2
namespace PySem
open Sem (wp)
section
variable {prog:Program} {w:World} {K:Type} [DecidableEq K] {kd:KeyKind prog w K} {k0:K} {A:Around} {E:Value→Shared→Prop} {s:Shared}
def IsBoxKey (kd:KeyKind prog w K) (k0:K) (h:Heap) (k:K) (a:Addr):Prop :=
 ∃ o u b n,h.get? a=some o∧o.cls=.type "tuple" ∧o.data=.seq #[u,.ref b] n∧kd.is k0 u=true∧IsTupleKey kd h [k] b
theorem IsBoxKey.tuple {k:K} {a:Addr} (x:IsBoxKey kd k0 s.heap k a):s.TypeIs (.ref a) "tuple" :=let ⟨o,_,_,_,q,c,_⟩:=x;⟨o,q,c⟩
theorem IsBoxKey.one {h:Heap} {a:Addr} {x y:K} (p:IsBoxKey kd k0 h x a) (q:IsBoxKey kd k0 h y a):x=y:=by
 obtain ⟨o,u,b,n,p1,p2,p3,p4,p5⟩:=p;obtain ⟨o',u',b',n',q1,q2,q3,q4,q5⟩:=q;obtain rfl:o=o':=Option.some.inj (p1.symm.trans q1);rw [p3] at q3;injection q3 with e _
 have e2:u=u'∧b=b':=by simpa using e
 obtain ⟨rfl,rfl⟩:=e2;exact List.cons.inj (p5.inj q5) |>.1
theorem IsBoxKey.stay {h h':Heap} {k:K} {a d:Addr} {o:Obj} {es ep} (x:IsBoxKey kd k0 h k a) (q:h.get? d=some o) (qd:o.data=.dict es ep) (sb:Heap.SameBut d h h'):IsBoxKey kd k0 h' k a:=by
 obtain ⟨o',u,b,n,p1,p2,p3,p4,p5⟩:=x;have ne:a≠d:=by
  rintro rfl;obtain rfl:o'=o:=Option.some.inj (p1.symm.trans q);rw [qd] at p3;exact nomatch p3
 exact ⟨o',u,b,n,(sb.2 a ne).trans p1,p2,p3,p4,p5.keeps q qd sb⟩
def lK (kd:KeyKind prog w K) (k0 k:K):Int:=reduceHash (Builtin.Tuple.tupleHashOf [kd.hash k0,tupleKeyHash kd [k]])
theorem tW {k:K} {a:Addr} {Q:Int→Shared→Prop} (hu:A.units+1 < cLine) (x:IsBoxKey kd k0 s.heap k a) (z:Q (lK kd k0 k) { s with toks:=s.toks+4 }) :
  wpAny (model prog w) A (pyHash (.ref a)) Q E s:=by
 have ty:=x.tuple;obtain ⟨o,u,b,n,p1,_,p3,p4,p5⟩:=x;unfold pyHash
 first | unfold pyHashByItsType | skip
 first | refine wpAny_bind (wpAny_cRoomFor_or (.inr (Nat.lt_trans (Nat.lt_succ_self _) hu)) ?_) | skip
 refine wpAny_bind (wpAny_specialOf ty F.slot_tuple_hash.lookup ?_);show wpAny _ _ (if (some (Value.builtin "tuple.__hash__") == some Value.none)=true then _ else _) Q E s;rw [if_neg (by rw [beq_builtin_none];exact Bool.false_ne_true)];refine wpAny_bind (wpAny_specialOf ty F.slot_tuple_hash.lookup ?_);show wpAny _ _ (callSpecialIfBoundUnlessNone? (.ref a) "__hash__" _ >>= _) Q E s;refine wpAny_bind (wpAny_callSpecialIfBoundUnlessNone?_slot ty F.slot_tuple_hash (wpAny_call_entry F.slot_tuple_hash ty F.entry_tuple_hash ?_ (F.args_tuple_hash_1 _)));show wpAny _ _ (Builtin.Tuple.tupleItemsOf (.ref a) >>= _) _ _ s;refine wpAny_bind (wpAny_tupleItemsOf p1 p3 ?_);refine wpAny_bind ?_;rw [← Array.forIn_toList];show wpAny _ _ (forIn [u,Value.ref b] _ _) _ _ _;rw [List.forIn_cons];refine wpAny_bind (wpAny_bind (kd.pyHash p4 ?_))
 first | refine wpAny_pure ?_ | refine wpAny_bind (wpAny_pure (wpAny_pure ?_))
 show wpAny _ _ (forIn [Value.ref b] _ _) _ _ _;rw [List.forIn_cons];refine wpAny_bind (wpAny_bind (wpAny_pyHash_tuple (knd:=kd) (ks:=[k]) (by exact hu) (by exact p5) ?_))
 first | refine wpAny_pure ?_ | refine wpAny_bind (wpAny_pure (wpAny_pure ?_))
 show wpAny _ _ (forIn ([]:List Value) _ _) _ _ _;rw [List.forIn_nil];refine wpAny_pure ?_;show wpAny _ _ (retInt (Builtin.Tuple.tupleHashOf [kd.hash k0,tupleKeyHash kd [k]])) _ _ _;refine wpAny_ret_mkInt ?_;show wpAny _ _ (if (decide (-(2:Int) ^ 63≤Builtin.Tuple.tupleHashOf [kd.hash k0,tupleKeyHash kd [k]]) && decide (Builtin.Tuple.tupleHashOf [kd.hash k0,tupleKeyHash kd [k]] < 2 ^ 63))=true then _ else _) Q E _;unfold lK reduceHash at z
 split
 ·rename_i q
  rw [if_pos q] at z;exact wpAny_pure z
 ·rename_i q
  rw [if_neg q] at z;exact wpAny_bind (wpAny_rule (wpAny_pure z))
theorem tX {x y:K} {a b:Addr} {P:Fin→Shared→Prop} (hu:A.units+1 < cLine) (p:IsBoxKey kd k0 s.heap x a) (q:IsBoxKey kd k0 s.heap y b) (z:P (.done (.ret (.bool (decide (x=y))))) s) :
  wpAny (model prog w) A (Builtin.«tuple.__eq__» ⟨[.ref a,.ref b],[]⟩) P E s:=by
 have ty:=q.tuple;obtain ⟨oa,ua,ba,na,a1,_,a3,a4,a5⟩:=p;obtain ⟨ob,ub,bb,nb,b1,_,b3,b4,b5⟩:=q;show wpAny _ _ (isInstance (.ref b) (.type "tuple") >>= _) _ _ s;refine wpAny_bind (wpAny_isInstance ty isSubtype_tuple_tuple ?_);simp only [Bool.not_true,Bool.false_eq_true,if_false];refine wpAny_bind (wpAny_tupleItemsOf a1 a3 ?_);refine wpAny_bind (wpAny_tupleItemsOf b1 b3 ?_);refine wpAny_bind ?_;show wpAny _ _ (forIn [(ua,ub),(Value.ref ba,Value.ref bb)] _ _) _ _ _;rw [List.forIn_cons];refine wpAny_bind (wpAny_bind (kd.eqBool (a:=k0) (b:=k0) a4 b4 ?_));rw [decide_eq_true rfl];simp only [Bool.not_true,Bool.false_eq_true,if_false];refine wpAny_pure ?_;show wpAny _ _ (forIn [(Value.ref ba,Value.ref bb)] _ _) _ _ _;rw [List.forIn_cons];refine wpAny_bind (wpAny_bind (wpAny_eqBool_tuple (knd:=kd) (x:=[x]) (y:=[y]) (by lia) a5 b5 ?_))
 by_cases e:x=y
 ·subst e;rw [decide_eq_true rfl];rw [decide_eq_true rfl] at z;simp only [Bool.not_true,Bool.false_eq_true,if_false];refine wpAny_pure ?_;show wpAny _ _ (forIn ([]:List (Value×Value)) _ _) _ _ _;rw [List.forIn_nil];exact wpAny_pure (wpAny_pure z)
 ·have e':¬ [x]=[y]:=fun c=>e (List.cons.inj c).1;rw [decide_eq_false e'];rw [decide_eq_false e] at z;simp only [Bool.not_false,if_true];exact wpAny_bind (wpAny_pure (wpAny_pure (wpAny_pure (wpAny_pure z))))
theorem Aj {x y:K} {a b:Addr} {Q:Bool→Shared→Prop} (hu:A.units+2 < cLine) (p:IsBoxKey kd k0 s.heap x a) (q:IsBoxKey kd k0 s.heap y b) (z:Q (decide (x=y)) s) :
  wpAny (model prog w) A (eqBool (.ref a) (.ref b)) Q E s:=by
 unfold eqBool
 try with_reducible refine wpAny_holding ?_
 show wpAny _ _ (if (Value.ref a == Value.ref b)=true then _ else _) Q E s
 by_cases ab:(Value.ref a == Value.ref b)=true
 ·rw [if_pos ab];have e:a=b:=by have:=eq_of_beq ab;injection this
  subst e;obtain rfl:=p.one q;exact wpAny_bind (wpAny_rule (wpAny_pure (by simpa using z)))
 ·rw [if_neg ab];exact wpAny_bind (wpAny_richCompare_same_room (op:=.Eq) p.tuple q.tuple F.slot_tuple_eq
   (wpAny_call_entry F.slot_tuple_eq p.tuple F.entry_tuple_eq (tX (by exact hu) p q ⟨_,rfl,(fun e=>nomatch e),wpAny_truthy_bool z⟩) (F.args_tuple_eq_2 _ _)) (by lia))
theorem nI (m:Nat) {ks:List K} {a:Addr} {Q:Bool→Shared→Prop} (x:IsTupleKey kd s.heap ks a) (z:Q true s):wpAny (model prog w) A (eqIsQuiet (m+1) (.ref a)) Q E s:=by
 have ty:=x.typeIs;obtain ⟨o,its,n,p1,_,p3,p4⟩:=x;unfold eqIsQuiet;refine wpAny_bind (wpAny_specialOf ty F.slot_tuple_eq.lookup ?_);show wpAny _ _ (isInstance (.ref a) (.type "tuple") >>= _) _ _ s;refine wpAny_bind (wpAny_isInstance ty isSubtype_tuple_tuple ?_);simp only [Bool.not_true,Bool.false_eq_true,if_false];refine wpAny_bind (wpAny_seqItems p1 p3 ?_);refine wpAny_bind ?_;show wpAny _ _ (forIn its _ _) _ _ s;rw [← Array.forIn_toList];refine wpAny_forIn_list _ (fun rest r s'=>r.1=none∧s'=s∧∀ v∈rest,carriedByValue v=true) _ ?_ ?_ _ _ ⟨rfl,rfl,p4.byValue⟩
 ·rintro v rest r s' ⟨hr,rfl,al⟩;rw [eqIsQuiet_byValue _ (al v List.mem_cons_self)];refine wpAny_bind (wpAny_pure ?_);simp only [Bool.not_true,Bool.false_eq_true,if_false];exact wpAny_pure ⟨rfl,rfl,fun u hu'=>al u (List.mem_cons_of_mem _ hu')⟩
 ·rintro ⟨r1,r2⟩ s' ⟨hr,rfl,_⟩;simp only at hr;subst hr;exact wpAny_pure z
theorem rR {k:K} {a:Addr} {Q:Bool→Shared→Prop} (x:IsBoxKey kd k0 s.heap k a) (z:Q true s):wpAny (model prog w) A (eqIsQuiet 8 (.ref a)) Q E s:=by
 have ty:=x.tuple;obtain ⟨o,u,b,n,p1,_,p3,p4,p5⟩:=x;unfold eqIsQuiet;refine wpAny_bind (wpAny_specialOf ty F.slot_tuple_eq.lookup ?_);show wpAny _ _ (isInstance (.ref a) (.type "tuple") >>= _) _ _ s;refine wpAny_bind (wpAny_isInstance ty isSubtype_tuple_tuple ?_);simp only [Bool.not_true,Bool.false_eq_true,if_false];refine wpAny_bind (wpAny_seqItems p1 p3 ?_);refine wpAny_bind ?_;show wpAny _ _ (forIn #[u,Value.ref b] _ _) _ _ s;rw [← Array.forIn_toList];show wpAny _ _ (forIn [u,Value.ref b] _ _) _ _ s;rw [List.forIn_cons,eqIsQuiet_byValue _ (kd.byValue _ _ p4)];refine wpAny_bind (wpAny_bind (wpAny_pure ?_));simp only [Bool.not_true,Bool.false_eq_true,if_false];refine wpAny_pure ?_;show wpAny _ _ (forIn [Value.ref b] _ _) _ _ s;rw [List.forIn_cons];refine wpAny_bind (wpAny_bind (nI _ p5 ?_));simp only [Bool.not_true,Bool.false_eq_true,if_false];refine wpAny_pure ?_;show wpAny _ _ (forIn ([]:List Value) _ _) _ _ s;rw [List.forIn_nil];exact wpAny_pure (wpAny_pure z)
end
def vF {prog:Program} {w:World} {K:Type} [DecidableEq K] (kd:KeyKind prog w K) (k0:K):HeapKind prog w K where
 is:=IsBoxKey kd k0
 hash:=lK kd k0
 draws:=fun _=>4
 room:=fun A=>A.units+2 < cLine
 inj:=fun p q=>p.one q
 keeps:=fun x q qd sb=>x.stay q qd sb
 pyHash:=fun hu x z=>tW (Nat.lt_trans (Nat.lt_succ_self _) hu) x z
 eqBool:=fun hu p q z=>Aj hu p q z
 quiet:=fun x z=>rR x z
section
variable {prog:Program} {w:World} {K:Type} [DecidableEq K] {knd:HeapKind prog w K} {A:Around} {E:Value→Shared→Prop} {s:Shared}
end
end PySem
namespace L2
open PySem PySem.Spec PyProof.Rows
theorem kM {α β:Type} {F:α→β→Prop}:∀ {l:List α} {m:List β},Paired F l m→∀ {i:Nat} {p:α} {q:β},l[i]?=some p→m[i]?=some q→F p q
 | _,_,.nil,i,p,q,h,_=>by simp at h
 | _,_,.cons r t,0,p,q,h,g=>by
  obtain rfl:_=p:=by simpa using h
  obtain rfl:_=q:=by simpa using g
  exact r
 | _,_,.cons r t,i+1,p,q,h,g=>kM t (by simpa using h) (by simpa using g)
theorem tY {H:Hp} {a p:Addr} {o:Obj} {u:HO} (mu:Mut (H p)) (e:H a=some (.frz o u)):a≠p:=by
 intro c;subst c;rw [e] at mu;exact mu
mutual
theorem vG {K:PySem.W.Frag} {H H':Hp} {p:Addr} (mu:Mut (H p)) (g:But p H H'):∀ {d:Dt} {v:V},IsP K H d v→IsP K H' d v
 | _,_,.non=>.non
 | _,_,.bl=>.bl
 | _,_,.int=>.int
 | _,_,.str=>.str
 | _,_,.tup h pl q=>.tup (g.tup (by obtain ⟨o,u,e,dn⟩:=pl;exact tY mu e) h) (by
   obtain ⟨o,u,e,dn⟩:=pl;exact ⟨o,u,g _ _ (tY mu e) e,dn⟩) (bf mu g q)
theorem bf {K:PySem.W.Frag} {H H':Hp} {p:Addr} (mu:Mut (H p)) (g:But p H H'):∀ {l:List Dt} {xs:List V},IsPs K H l xs→IsPs K H' l xs
 | _,_,.nil=>.nil
 | _,_,.cons h q=>.cons (vG mu g h) (bf mu g q)
end
def Ak (k:Key):Dt:=.tup [.str "list",.tup [kDt k]]
abbrev qA (P:Program) (w:World):HeapKind P w Key:=vF (aI P w) (Sum.inr ("list" : Str))
def lL (P:Program) (w:World) (p:Addr) (ob:Obj) (xs:List (Key×Addr×Value)) (h:Heap):Prop :=
 h.get? p=some ob∧ob.ExactDict∧∃ es ep,ob.data=.dict es ep∧es.toList=xs.map (entryOfKey (qA P w))∧(xs.map (·.1)).Nodup
def DicO (P:Program) (w:World) (K:PySem.W.Frag) (H:Hp) (a:Addr) (ob:Obj) (kvs:List (Key×V)):Prop:=(a == sysModules)=false∧kvs.length≤sizeLine∧∃ xs,H a=some (.ext (lL P w a ob xs)) ∧
 Paired (fun (p:Key×V) (q:Key×Addr×Value)=>p.1=q.1∧IsP K H (Ak p.1) (.ref q.2.1)∧RelV p.2 q.2.2) kvs xs
def DicE (P:Program) (w:World) (m:Bool) (K:PySem.W.Frag) (H:Hp) (a:Addr) (kvs:List (Key×V)):Prop:=match m with
 | false=>H a=some (.dK kvs)
 | true=>(∃ ob,DicO P w K H a ob kvs)∨(kvs=[]∧H a=some (.dK []))
section
variable {P:Program} {w:World} {K:PySem.W.Frag} {m:Bool} {H H':Hp} {a:Addr} {ob:Obj} {kvs:List (Key×V)}
theorem DicE.ne {r:Addr} {ys:List V} (h:DicE P w m K H a kvs) (hr:H r=some (.lst ys)):r≠a:=by
 intro c;subst c
 cases m with
 | false=>rw [show H r=some (.dK kvs) from h] at hr;cases hr
 | true =>
  rcases h with ⟨ob,_,_,_,e,_⟩ | ⟨_,e⟩
  ·rw [e] at hr;cases hr
  ·rw [e] at hr;cases hr
end
section
variable {X:Cx} {pins:List (Addr×Obj)} {σ:St} {H:Hp} {s:Shared}
theorem Al (I:Inv X pins σ H s) {k:Key} {a:Addr} (h:IsP X.K H (Ak k) (.ref a)):IsBoxKey (aI X.prog X.w) (Sum.inr ("list" : Str)) s.heap k a:=by
 obtain ⟨b,ys,e,ha,_,ra⟩:=IsP.unref h
 cases e
 obtain ⟨its,r,⟨o,h1,h2,n,h3⟩,_⟩:=I.tuple ha
 cases ra with
 | cons d1 ra =>
  cases ra with
  | cons d2 ra =>
   cases ra
   cases d1
   obtain ⟨c,zs,rfl,hc,pc,rc⟩:=IsP.unref d2
   cases r with
   | cons q1 r =>
    cases r with
    | cons q2 r =>
     cases r
     cases q2
     exact ⟨o,_,c,n,h1,h2,h3,tG (k:=Sum.inr ("list" : Str)) q1,qz I (ks:=[k]) (show IsP X.K H (.tup ([k].map kDt)) (.ref c) from d2)⟩
theorem DicO.dict {a:Addr} {ob:Obj} {kvs:List (Key×V)} (I:Inv X pins σ H s) (h:DicO X.prog X.w X.K H a ob kvs):(a == sysModules)=false∧kvs.length≤sizeLine∧∃ xs,s.heap.DictOfH (qA X.prog X.w) a xs∧lL X.prog X.w a ob xs s.heap∧H a=some (.ext (lL X.prog X.w a ob xs)) ∧
  Paired (fun (p:Key×V) (q:Key×Addr×Value)=>p.1=q.1∧IsP X.K H (Ak p.1) (.ref q.2.1)∧RelV p.2 q.2.2) kvs xs:=by
 obtain ⟨e0,e1,xs,e,r⟩:=h;obtain ⟨oo,_⟩:=(show ObjOk X.prog X.w H s.heap a (.ext (lL X.prog X.w a ob xs)) from I.hok a _ e);obtain ⟨h1,h2,es,ep,h3,h4,h5⟩:=id oo;refine ⟨e0,e1,xs,⟨ob,es,ep,h1,h2,h3,h4,fun y hy=>?_,h5⟩,oo,e,r⟩;obtain ⟨i,hi⟩:=List.getElem?_of_mem hy;have hl:i < kvs.length:=by rw [Paired.length r];exact (List.getElem?_eq_some_iff.mp hi).1
 have q:=kM r (List.getElem?_eq_getElem hl) hi;rw [← q.1];exact Al I q.2.1
end
section
variable {X:Cx} {P:Program} {w:World} {K:PySem.W.Frag} {o e f:Expr} {apos cpos pos:Pos} {td ty tx:TE}
end
section
variable {X:Cx} {tg:Expr} {P:Program} {w:World} {K:PySem.W.Frag}
end
section
variable {prog:Program} {w:World} {A:Around} {E:Value→Shared→Prop} {s:Shared}
end
section
variable {X:Cx} {K:PySem.W.Frag}
end
end L2
namespace PySem
open PyProof.Rows PySem.Spec
section
variable {prog:Program} {w:World} {h₀:Heap} {k:Str} {tk:Tok} {a:Addr} {α:Type} {R:α→Value→Prop} {D:List (Str×α)}
theorem nJ:MeetsIn prog w (Builtin.«dict.get» ⟨[.ref a,.str k tk],[]⟩) (fun _ Rr s=>KTD.TabOf R h₀ a D∧(∀ b o,h₀.get? b=some o→s.heap.get? b=some o)∧(∀ d v,KTD.datumAt k D=some d→R d v→Rr (.ok (.ret v)) { s with toks:=s.toks+1 }) ∧
  (KTD.datumAt k D=none→Rr (.ok (.ret .none)) { s with toks:=s.toks+1 })) :=
 .of_wp fun A Rr s ⟨T,kp,h1,h2⟩=>by
  show wpAny _ _ (dictGet a (.str k tk) >>= _) _ _ s;refine wpAny_bind (eD T kp (fun d v ha hv=>wpAny_pure ⟨v,rfl,h1 d v ha hv⟩) fun hn=>wpAny_bind (m:=Builtin.Dict.missed a (.str k tk)) (wpAny_missed_other T.1 (wpAny_pure ⟨.none,rfl,h2 hn⟩)))
end
end PySem
namespace L2
open PySem PySem.Spec PyProof.Rows
structure Mn (K:PySem.W.Frag) (C:Addr) (m q:Str) (st:Stmt) (ps:List Str) (f:Addr) (fd:FuncData):Prop where
 meth:Meth K C m f
 F:Fun K m q st f fd
 b:Binds K fd ps []
structure Mi (K:PySem.W.Frag) (C:Addr) (m q:Str) (st:Stmt) (ps:List Str) (f:Addr) (fd:FuncData):Prop where
 makes:Mk K C f
 F:Fun K m q st f fd
 b:Binds K fd ps []
def tZ (y z:Str) (i:Int):Int:=match Builtin.Str.occurrences y z (PySem.fromIndex y.length i) y.length 1 with
 | k :: _=>(k:Int)
 | []=>-1
theorem jm:∀ {zs:List Str} {us:List Value},Vals (zs.map V.str) us→StrsAre us zs
 | [],us,h=>by cases h;exact .nil
 | z :: zs,us,h=>by
  cases h with
  | cons r h =>
   obtain ⟨t,rfl⟩:=r;exact .cons z t (jm h)
section
variable {X:Cx}
theorem uc:MtM X "str.find" (fun x vs H Q=>∃ y z i,x=.str y∧vs=[.str z,.int i]∧Q (.int (tZ y z i)) H):=by
 intro pins s σ H x vs v us Q I rx rv h;obtain ⟨y,z,i,rfl,rfl,q⟩:=h;obtain ⟨t,rfl⟩:=rx;obtain ⟨u1,u2,rfl,⟨t1,rfl⟩,⟨t2,rfl⟩⟩:=qp rv;exact call_gives PySem.F.slot_str_find (typeIs_str _ _ _) PySem.F.entry_str_find (PySem.F.args_str_find_3 _ _ _) (gives_str_find_from y z i t t1 t2) ⟨.int _,H,I.tok _,⟨_,rfl⟩,q⟩
theorem pN:MtM X "str.lstrip" (fun x vs H Q=>∃ y z,x=.str y∧vs=[.str z]∧y.length≤sizeLine∧Q (.str (Txt.lstripChars y z)) H):=by
 intro pins s σ H x vs v us Q I rx rv h;obtain ⟨y,z,rfl,rfl,hl,q⟩:=h;obtain ⟨t,rfl⟩:=rx;obtain ⟨u,rfl,t1,rfl⟩:=rv.one;exact SC.lstripChars (fun t' k=>⟨.str _,H,I.kept (t':=k) (fun _ _ e=>e),⟨t',rfl⟩,q⟩) hl
theorem jn:MtM X "str.join" (fun x vs H Q=>∃ (sp:Str) (p:Addr) (zs:List Str),x=.str sp∧vs=[.ref p]∧(SqL X.K H p (zs.map V.str)∨SqT X.K H p (zs.map V.str))∧(zs.map (·.length)).sum+zs.length*sp.length≤16777216∧Q (.str (Txt.join sp zs)) H):=by
 intro pins s σ H x vs v us Q I rx rv h;obtain ⟨sp,p,zs,rfl,rfl,hp,hz,q⟩:=h;obtain ⟨t,rfl⟩:=rx;obtain ⟨u,rfl,e⟩:=rv.one
 cases e
 rcases hp with hp | hp
 ·obtain ⟨its,rr,pl,_⟩:=I.list hp;exact join_list pl.isList (by simpa using jm rr) hz fun t' k=>⟨.str _,H,I.kept (t':=k) (fun _ _ e=>e),⟨t',rfl⟩,q⟩
 ·obtain ⟨its,rr,pl,_⟩:=I.tuple hp;exact join_tuple pl (by simpa using jm rr) hz fun t' k=>⟨.str _,H,I.kept (t':=k) (fun _ _ e=>e),⟨t',rfl⟩,q⟩
abbrev TJ:=St→Hp→Str→(Str→Hp→Prop)→Prop
def PJ (X:Cx) (es:List Expr) (t:TJ):Prop:=∀ (pins:List (Addr×Obj)) (s:Shared) (σ:St) (H:Hp) (out:Str) (Q:Str→Hp→Prop),Inv X pins σ H s→t σ H out Q→wpAny (model X.prog X.w) X.A (joinParts out (evalEach es X.env)) (EP X pins σ fun x H'=>∃ z,x=.str z∧Q z H') X.xe s
def tJn:TJ:=fun _ H out Q=>out.length≤sizeLine∧Q out H
def tJe (te:TE) (t:TJ):TJ:=fun σ H out Q=>te σ H fun x H1=>∃ y,x=.str y∧y.length≤sizeLine∧(out++y).length≤sizeLine∧t σ H1 (out++y) Q
def tJ (t:TJ):TE:=fun σ H Q=>t σ H Str.empty fun z H'=>Q (.str z) H'
theorem ud:PJ X [] tJn:=fun pins s σ H out Q I h=>joinParts_nil ⟨.str out,H,I.tok _,⟨_,rfl⟩,out,rfl,h.2⟩ h.1
theorem pO {e:Expr} {es:List Expr} {te:TE} {t:TJ} (he:PE X e te) (hr:PJ X es t):PJ X (e :: es) (tJe te t):=fun pins s σ H out Q I h =>
 joinParts_cons (thn (he pins s σ H _ I h) fun v s1 ⟨x,H1,I1,rx,y,ex,_,hl,q⟩=>by
  subst ex;obtain ⟨t0,rfl⟩:=rx;exact ⟨hl,hr pins s1 σ H1 _ Q I1 q⟩)
theorem lM {e:Expr} {es:List Expr} {te:TE} {t:TJ} {pos:Pos} (he:PE X e te) (hr:PJ X es t):PJ X (.FormattedValue e (-1) none pos :: es) (tJe te t):=fun pins s σ H out Q I h =>
 joinParts_cons (PyProof.Rows.FormattedValue_plain (thn (he pins s σ H _ I h) fun v s1 ⟨x,H1,I1,rx,y,ex,hy,hl,q⟩=>by
  subst ex;obtain ⟨t0,rfl⟩:=rx;exact formatField_str (fun t' tk=>⟨hl,hr pins _ σ H1 _ Q (I1.kept (t':=tk) fun _ _ e=>e) q⟩) hy))
theorem qB {e1 e2:Expr} {es:List Expr} {t:TJ} {pos:Pos} (h:PJ X (e1 :: e2 :: es) t):PE X (.JoinedStr (e1 :: e2 :: es) pos) (tJ t):=fun pins s σ H Q I q =>
 JoinedStr_many (thn (h pins s σ H Str.empty _ I q) fun v s1 ⟨x,H1,I1,rx,z,ex,q1⟩=>by
  subst ex;exact ⟨.str z,H1,I1,rx,q1⟩)
def Am (D:List (Str×Addr)) (t:TA):TE:=fun σ H Q=>t σ H fun vs H1=>∃ k,vs=[.str k]∧Q (match eE k D with | some b=>.ref b | none=>.non) H1
theorem jo {x:Str} {ad:Addr} {D:List (Str×Addr)} {e:Expr} {t:TA} {p apos cpos:Pos} (hD:jj X.K ad D) (hg:Gl X x) (hm:X.mg x=some (.ref ad)) (ha:PA X [e] t) (hdb:(x == ("__debug__" : Str))=false:=by decide)
  (hbase:attributeBase (.Name x p) "get" X.env (eval (.Name x p) X.env)=eval (.Name x p) X.env:=by rfl)
  (hfew:((backTo cpos (starEach [e] X.env)).all (fun x=>!x.1) && (backToKw cpos (keywordEach [] X.env)).all (fun x=>x.1.isSome)
   && decide (([e]:List Expr).length+([]:List Keyword).length+(if ([]:List Keyword).isEmpty then 0 else 1) < 30))=true:=by rfl)
  (hline:(apos.endLine == cpos.line)=true:=by rfl) (hs:starEach [e] X.env=(false,eval e X.env) :: starEach [] X.env:=by rfl) :
  PE X (.Call (.Attribute (.Name x p) "get" apos) [e] [] cpos) (Am D t):=by
 intro pins s σ H Q I h;have T:∀ {s':Shared} {σ':St} {H':Hp} {pins':List (Addr×Obj)},Inv X pins' σ' H' s'→KTD.TabOf (fun b v=>v=Value.ref b) X.base ad D:=fun J=>hD _ J.ok.mod.kin;have ty0:∀ {s':Shared} {σ':St} {H':Hp} {pins':List (Addr×Obj)},Inv X pins' σ' H' s'→s'.TypeIs (.ref ad) "dict" ∧(∀ b,Value.ref ad=.ref b→∃ ob,s'.heap.get? b=some ob∧ob.dict=none):=fun {s' σ' H' pins'} J=>by
  obtain ⟨_,o,_,_,ho,hc,_⟩:=T J;refine ⟨⟨o,J.bk _ _ ho,hc.1⟩,fun b q=>?_⟩;injection q with q
  subst q;exact ⟨o,J.bk _ _ ho,hc.2.1⟩
 refine wpAny_Call_method_late hbase hfew hline rfl (fj I hg hm ?_ hdb);refine ⟨"dict","dict.get",PySem.F.plainAttrs_dict,PySem.F.slot_dict_get,PySem.F.type_dict_get,(ty0 I).1,(ty0 I).2,?_⟩;have hA:=ha cpos pins s σ H _ I h;rw [hs] at hA ⊢;refine Calls.callWith_builtin (by rfl) (Calls.evalArgs_plain ?_);refine thn hA fun us s2 ⟨vs,H2,I2,r2,k,e2,q2⟩=>?_;subst e2;obtain ⟨u,rfl,ru⟩:=cr r2;obtain ⟨tk,rfl⟩:=ru;refine call_meetsIn PySem.F.slot_dict_get (ty0 I2).1 PySem.F.entry_dict_get (PySem.F.args_dict_get_2 _ _) (nJ (h₀:=X.base) (D:=D) (R:=fun b v=>v=Value.ref b)) ⟨T I2,fun b o z=>I2.bk b o z,fun b v hb hv=>?_,fun hn=>?_⟩
 ·subst hv;rw [← jl,hb] at q2;exact ⟨.ref b,H2,I2.tok _,rfl,q2⟩
 ·rw [← jl,hn] at q2;exact ⟨.non,H2,I2.tok _,rfl,q2⟩
end
def lN (K:PySem.W.Frag) (a:Addr) (D:List (Str×Str)):Prop:=∀ h,K.In h→KTD.TabOf (fun z v=>∃ t,v=Value.str z t) h a D
theorem AR {K:PySem.W.Frag} {a:Addr} {D:List (Str×Str)} (e:KTD.tabLook (fun z v=>v.isStr z) (fun b=>K.lookup b) a D=true):lN K a D :=
 fun _ X=>KTD.tab_of_look (L:=fun z v=>v.isStr z) (R:=fun z v=>∃ t,v=Value.str z t) (fun z v h=>by
  cases v with
  | str y t=>exact ⟨t,by have:(y == z)=true:=h;rw [eq_of_beq this]⟩
  | _=>cases h) (fun b o q=>X b o q) e
def eG (k:Str):List (Str×Str)→Option Str
 | []=>none
 | (x,b) :: D=>if k=x then some b else eG k D
theorem dA {k:Str}:∀ D:List (Str×Str),KTD.datumAt k D=eG k D
 | []=>rfl
 | (x,b) :: D=>by
  show (if decide (k=x)=true then some b else KTD.datumAt k D)=_
  by_cases h:k=x
  ·simp [eG,h]
  ·simp [eG,h,dA D]
section
variable {X:Cx} {K:PySem.W.Frag}
theorem An (hK:X.K=K):OpR X (compareOp .In) (fun x y H Q=>∃ k ad D,x=.str k∧y=.ref ad∧lN K ad D∧Q (.bl (eG k D).isSome) H):=by
 subst hK;intro pins s σ H x y v u Q I rx ry h;obtain ⟨k,ad,D,rfl,rfl,hD,q⟩:=h;obtain ⟨tk,rfl⟩:=rx
 cases ry
 have T:=hD _ I.ok.mod.kin;have ty:s.TypeIs (.ref ad) "dict" :=by
  obtain ⟨_,o,_,_,ho,hc,_⟩:=T;exact ⟨o,I.bk _ _ ho,hc.1⟩
 show wpAny _ _ ((do return Value.bool (← contains (.ref ad) (.str k tk))):Sem Value) _ _ s;refine wpAny_bind ?_;unfold contains
 try with_reducible refine wpAny_holding ?_
 refine wpAny_bind (wpAny_specialOf ty slot_dict_contains.lookup ?_);show wpAny _ _ (if (some (Value.builtin "dict.__contains__") == some Value.none)=true then _ else _) _ _ s;rw [if_neg (by rw [beq_builtin_none];exact Bool.false_ne_true)];refine wpAny_bind (wpAny_callSpecialUnlessNone?_slot (name:=Str.ofString "__contains__") ty slot_dict_contains
  (wpAny_call_entry slot_dict_contains ty entry_dict_contains ?_ (args_dict_contains _ _)))
 show wpAny _ _ (dictGet ad (.str k tk) >>= _) _ _ s;refine wpAny_bind (eD T (fun b o z=>I.bk b o z) (fun z v hz hv=>?_) fun hn=>?_)
 ·rw [dA] at hz;rw [hz] at q;exact wpAny_pure ⟨_,rfl,wpAny_truthy_bool (wpAny_pure ⟨.bl true,H,I.tok _,rfl,q⟩)⟩
 ·rw [dA] at hn;rw [hn] at q;exact wpAny_bind (m:=Builtin.Dict.pendingKey? ad (.str k tk)) (wpAny_pendingKey_other T.1 (wpAny_pure ⟨_,rfl,wpAny_truthy_bool (wpAny_pure ⟨.bl false,H,I.tok _,rfl,q⟩)⟩))
def Gr (K:PySem.W.Frag) (td ty:TE):TE:=fun σ H Q=>td σ H fun x H1=>ty σ H1 fun y H2=>∃ k ad D z,x=.ref ad∧y=.str k∧lN K ad D∧eG k D=some z∧Q (.str z) H2
theorem vH {o e:Expr} {td ty:TE} {pos:Pos} (hK:X.K=K) (ho:PE X o td) (hi:PE X e ty) (hs:Gd e):PE X (.Subscript o e pos) (Gr K td ty):=by
 subst hK;intro pins s σ H Q I h;refine vq PySem.F.slot_dict_getitem.lookup hs (thn (ho pins s σ H _ I h) fun u s1 ⟨x,H1,I1,rx,q1⟩=>thn (hi pins s1 σ H1 _ I1 q1) fun iv s2 ⟨y,H2,I2,ry,k,ad,D,z,ex,ey,hD,hz,q2⟩=>?_);subst ex ey;obtain rfl:u=Value.ref ad:=rx;obtain ⟨tk,rfl⟩:=ry;have T:=hD _ I2.ok.mod.kin;have ty:s2.TypeIs (.ref ad) "dict" :=by
  obtain ⟨_,o,_,_,ho,hc,_⟩:=T;exact ⟨o,I2.bk _ _ ho,hc.1⟩
 refine ⟨ty,?_⟩;unfold getItem
 try with_reducible refine wpAny_holding ?_
 refine wpAny_bind (wpAny_sequenceKey ty (by decide) ?_);refine wpAny_bind (wpAny_callSpecial?_slot (name:=Str.ofString "__getitem__") ty slot_dict_getitem
  (wpAny_call_entry slot_dict_getitem ty entry_dict_getitem ?_ (args_dict_getitem _ _)))
 show wpAny _ _ (dictGet ad (.str k tk) >>= _) _ _ s2;refine wpAny_bind (eD T (fun b o z=>I2.bk b o z) (fun z' v hz' hv=>?_) fun hn=>?_)
 ·rw [dA,hz] at hz'
  cases hz'
  obtain ⟨t,rfl⟩:=hv;exact wpAny_pure ⟨_,rfl,wpAny_pure ⟨.str z,H2,I2.tok _,⟨t,rfl⟩,q2⟩⟩
 ·rw [dA,hz] at hn
  cases hn
end
def wq (K:PySem.W.Frag) (a:Addr) (bs:List Addr):Prop:=∀ H:Hp,SqT K H a (bs.map V.ref)
end L2
namespace PySem
namespace StrLaws
open Builtin Builtin.Str
theorem nK (s sub:Str) (hi:Nat):∀ (l:List Nat) (a:Array Nat) (fr:Nat),1≤a.size→(forIn l (a,fr) (occBody s sub hi 1)).run.fst=a
 | [],a,fr,h=>rfl
 | j :: l,a,fr,h=>by
  rw [List.forIn_cons];unfold occBody;rw [if_neg (fun z=>by have:a.size < 1:=z.1.1.1;lia)];exact nK s sub hi l a fr h
theorem nL (s sub:Str) (hi:Nat):∀ (l:List Nat) (fr:Nat),(∀ i∈l,fr≤i) →
  (forIn l ((#[]:Array Nat),fr) (occBody s sub hi 1)).run.fst=match l.find? (fun i=>decide (i+sub.length≤hi∧subAt s sub i=true)) with | some i=>#[i] | none=>#[]
 | [],fr,_=>rfl
 | a :: l,fr,hf=>by
  rw [List.forIn_cons];unfold occBody;have ha:fr≤a:=hf a (List.mem_cons_self ..)
  by_cases hc:a+sub.length≤hi∧subAt s sub a=true
  ·rw [if_pos ⟨⟨⟨by show 0 < 1;decide,ha⟩,hc.1⟩,hc.2⟩,List.find?_cons,decide_eq_true hc];exact nK s sub hi l _ _ (by simp)
  ·rw [if_neg (fun h=>hc ⟨h.1.2,h.2⟩),List.find?_cons,decide_eq_false hc];exact nL s sub hi l fr fun i hi'=>hf i (List.mem_cons_of_mem _ hi')
theorem occ_one (x:Str) (c lo:Nat):occurrences x ⟨#[c]⟩ lo x.length 1=match (x.cps.toList.drop lo).findIdx? (· == c) with | some i=>[lo+i] | none=>[]:=by
 rw [occ_eq,nL x ⟨#[c]⟩ x.length _ lo (fun i hi=>by rw [List.mem_range'_1] at hi;exact hi.1)];have key:∀ (n lo:Nat),lo+n=x.length+1→(List.range' lo n).find? (fun i=>decide (i+(⟨#[c]⟩:Str).length≤x.length∧subAt x ⟨#[c]⟩ i=true))=((x.cps.toList.drop lo).findIdx? (· == c)).map (lo + ·):=by
  intro n
  induction n with
  | zero =>
   intro lo h;rw [List.drop_eq_nil_of_le (by rw [Array.length_toList];have:x.length=x.cps.size:=rfl;lia)]
   rfl
  | succ n ih =>
   intro lo h;rw [List.range'_succ];have dk:decide (lo+(⟨#[c]⟩:Str).length≤x.length∧subAt x ⟨#[c]⟩ lo=true)=decide (x.cps.toList[lo]?=some c):=by
    rw [decide_eq_decide];exact subAt_one x c lo
   by_cases hlt:lo < x.cps.toList.length
   ·rw [List.drop_eq_getElem_cons hlt]
    by_cases e:x.cps.toList[lo]=c
    ·rw [List.find?_cons_of_pos (by rw [dk,List.getElem?_eq_getElem hlt,e];simp),List.findIdx?_cons];simp [e]
    ·rw [List.find?_cons_of_neg (by rw [dk,List.getElem?_eq_getElem hlt];simpa using e),ih (lo+1) (by lia),List.findIdx?_cons];have:(x.cps.toList[lo] == c)=false:=by simpa using e
     rw [this]
     cases (x.cps.toList.drop (lo+1)).findIdx? (· == c) with
     | none=>rfl
     | some i=>simp;lia
   ·rw [List.find?_cons_of_neg (by rw [dk,List.getElem?_eq_none (by lia)];simp),ih (lo+1) (by lia),List.drop_eq_nil_of_le (by lia),List.drop_eq_nil_of_le (by lia)]
    rfl
 by_cases hlo:lo≤x.length+1
 ·rw [key (x.length+1 - lo) lo (by lia)]
  cases (x.cps.toList.drop lo).findIdx? (· == c) <;> rfl
 ·rw [show x.length+1 - lo=0 by lia,List.drop_eq_nil_of_le (by rw [Array.length_toList];have:x.length=x.cps.size:=rfl;lia)]
  rfl
end StrLaws
end PySem
namespace L2
open PySem PySem.Spec PyProof.Rows
section
variable {X:Cx}
theorem fJ:OpR X (binaryOp .Mult) (fun x y H Q=>∃ (z:Str) (n:Int),x=.str z∧y=.int n∧1≤z.length∧z.length≤100∧0≤n∧n≤100∧∀ z':Str,z'.cps.toList=(List.replicate n.toNat z.cps.toList).flatten→Q (.str z') H):=by
 intro pins s σ H x y v u Q I rx ry h;obtain ⟨z,n,rfl,rfl,hz1,hz,h0,h1,q⟩:=h;obtain ⟨t,rfl⟩:=rx;obtain ⟨t',rfl⟩:=ry;have hm:z.length*n.toNat≤10000:=Nat.le_trans (Nat.mul_le_mul hz (show n.toNat≤100 by lia)) (by decide);refine PySem.P.mul_str ?_ (fun c0 _=>?_) (fun _ _=>?_) ?_
 ·rw [decide_eq_false (by lia),decide_eq_false (by lia)]
  rfl
 ·intro c1;have c2:(z.length:Int) > (2 ^ 63 - 1) / n:=c1;have:(z.length:Int)≤(2 ^ 63 - 1) / n:=(Int.le_ediv_iff_mul_le (by lia)).mpr (by
   have hm':((z.length*n.toNat:Nat):Int)≤10000:=by lia
   rw [Int.natCast_mul,Int.toNat_of_nonneg h0] at hm';lia)
  lia
 ·exact decide_eq_false (Nat.not_lt.mpr (Nat.le_trans hm (by decide)))
 ·by_cases c1:n < 1
  ·rw [if_pos c1];refine ⟨Nat.zero_le _,.str _,H,I.tok _,⟨_,rfl⟩,q _ ?_⟩;rw [show n.toNat=0 by lia]
   rfl
  ·rw [if_neg c1]
   by_cases c2:n=1
   ·subst c2;exact ⟨.str _,H,I,⟨_,rfl⟩,q _ (by simp)⟩
   ·have c3:¬ (n == 1 || z.length == 0)=true:=by
     rw [show (z.length == 0)=false from by simp;lia,Bool.or_false]
     simpa using c2
    rw [if_neg c3];have e:((List.replicate n.toNat z.cps).foldl (·++·) #[]).toList=(List.replicate n.toNat z.cps.toList).flatten:=by
     have key:∀ (k:Nat) (acc:Array Nat),((List.replicate k z.cps).foldl (·++·) acc).toList=acc.toList++(List.replicate k z.cps.toList).flatten:=by
      intro k
      induction k with
      | zero=>intro acc;simp
      | succ k ih =>
       intro acc;rw [List.replicate_succ,List.foldl_cons,ih,List.replicate_succ,List.flatten_cons,Array.toList_append,List.append_assoc]
     have:=key n.toNat #[]
     simpa using this
    refine ⟨?_,.str _,H,I.tok _,⟨_,rfl⟩,q _ e⟩;show (((List.replicate n.toNat z.cps).foldl (·++·) #[])).size≤sizeLine;rw [← Array.length_toList,e,List.length_flatten,List.map_replicate,List.sum_replicate_nat];rw [Array.length_toList,Nat.mul_comm];exact Nat.le_trans hm (by decide)
end
def ue (vs:List Value) (bs:List Addr):Bool:=vs == bs.map Value.ref
def nM (K:PySem.W.Frag) (b:Addr) (bs:List Addr):Bool:=match K.lookup b with
 | some o=>o.cls == .type "tuple" && (match o.data with | .seq vs _=>ue vs.toList bs && decide (vs.size≤1000) | _=>false)
 | none=>false
theorem jp:∀ bs:List Addr,Vals (bs.map V.ref) (bs.map Value.ref)
 | []=>.nil
 | b :: bs=>.cons rfl (jp bs)
theorem Gs {K:PySem.W.Frag} {a:Addr} {bs:List Addr} (e:nM K a bs=true):wq K a bs:=by
 intro H;unfold nM at e
 split at e
 ·rename_i o ho
  simp only [Bool.and_eq_true] at e;obtain ⟨e2,e3⟩:=e
  split at e3
  ·rename_i vs n hd
   simp only [Bool.and_eq_true] at e3;have ev:vs.toList=bs.map Value.ref:=eq_of_beq e3.1;exact .inr ⟨o,vs,n,ho,eq_of_beq e2,hd,Nat.le_of_lt (aw (of_decide_eq_true e3.2)),by rw [ev];exact jp bs⟩
  ·cases e3
 ·cases e
theorem mnM {K:PySem.W.Frag} {C f:Addr} {m q:Str} {st:Stmt} {ps:List Str} {od an:Option Addr} {sl:Array (Option Value)} {oc kV dc pm cd ct:Value} (a:PySem.W.findIn K (.ref C) m=some (some (.ref f))) (i:PySem.W.isFn K (.ref f)=true)
  (l:K.lookup f=some ⟨oc,od,.func (PySem.W.fnOf m q (bF st) (bj st) (ac st) .none kV dc pm an cd ct),sl⟩) (c:PySem.W.codeIn K cd q=true) (k:PySem.W.keepIn K (.ref f)=true)
  (b:∀ (kV doc pm:Value) (an:Option Addr) (cdv ct:Value) (us:List Value),us.length=ps.length→bindArgs (PySem.W.fnOf m q (bF st) (bj st) (ac st) .none kV doc pm an cdv ct) ⟨us,[]⟩=pure (ps.zip us)):∃ f fd,Mn K C m q st ps f fd :=
 ⟨f,_,⟨a,i,k⟩,gT (st:=st) l c k,(gT (st:=st) l c k).binds b⟩
theorem miM {K:PySem.W.Frag} {C f:Addr} {q:Str} {st:Stmt} {ps:List Str} {od an:Option Addr} {sl:Array (Option Value)} {oc kV dc pm cd ct:Value} (mk:PySem.W.makesIn K C=true) (a:PySem.W.findIn K (.ref C) "__init__" = some (some (.ref f))) (i:PySem.W.isFn K (.ref f)=true) (kc:PySem.W.keepIn K (.ref C)=true)
  (l:K.lookup f=some ⟨oc,od,.func (PySem.W.fnOf "__init__" q (bF st) (bj st) (ac st) .none kV dc pm an cd ct),sl⟩) (c:PySem.W.codeIn K cd q=true) (k:PySem.W.keepIn K (.ref f)=true)
  (b:∀ (kV doc pm:Value) (an:Option Addr) (cdv ct:Value) (us:List Value),us.length=ps.length→bindArgs (PySem.W.fnOf "__init__" q (bF st) (bj st) (ac st) .none kV doc pm an cdv ct) ⟨us,[]⟩=pure (ps.zip us)):∃ f fd,Mi K C "__init__" q st ps f fd :=
 ⟨f,_,⟨mk,a,i,kc⟩,gT (st:=st) l c k,(gT (st:=st) l c k).binds b⟩
end L2
namespace K85
open PySem L2 PyProof.Rows
abbrev ik:Stmt:=top 15
abbrev fX:Stmt:=top 16
abbrev bP:Stmt:=top 17
abbrev eP:Stmt:=top 18
abbrev bK:Stmt:=top 19
abbrev eQ:Stmt:=top 20
abbrev dR:Stmt:=top 21
abbrev eR:Stmt:=top 22
abbrev bx:Stmt:=top 23
abbrev cL:Stmt:=top 24
abbrev cM:Stmt:=top 25
abbrev dS:Stmt:=top 26
abbrev eS:Stmt:=top 27
abbrev cN:Stmt:=top 28
abbrev c8:Stmt:=top 29
abbrev im:Stmt:=top 32
abbrev dU:Stmt:=top 35
abbrev eT:Stmt:=top 36
abbrev cO:Stmt:=top 41
abbrev cf:Stmt:=top 42
abbrev bX:Stmt:=top 43
abbrev dW:Stmt:=top 44
abbrev oM:Stmt:=top 45
abbrev cg:Stmt:=top 46
abbrev cj:Stmt:=top 47
abbrev di:Stmt:=top 48
abbrev dj:Stmt:=top 49
abbrev eU:Stmt:=top 50
abbrev jW:Stmt:=top 51
abbrev fY:Stmt:=top 62
abbrev fZ:Stmt:=top 63
abbrev io:Stmt:=top 64
abbrev eV:Stmt:=top 65
abbrev bI:Stmt:=top 66
abbrev eW:Stmt:=top 71
abbrev f9:Stmt:=top 72
abbrev bp:Stmt:=top 73
abbrev eX:Stmt:=top 74
abbrev eY:Stmt:=top 75
abbrev mM:Stmt:=top 76
abbrev oN:Stmt:=top 77
abbrev oO:Stmt:=top 78
abbrev c9:Stmt:=top 79
abbrev da:Stmt:=top 80
abbrev cP:Stmt:=top 81
abbrev dm:Stmt:=top 83
abbrev eZ:Stmt:=top 84
abbrev ip:Stmt:=top 85
abbrev e9:Stmt:=top 86
abbrev ck:Stmt:=top 87
abbrev bQ:Stmt:=top 88
abbrev cp:Stmt:=top 89
abbrev aS:Stmt:=top 90
abbrev bg:Stmt:=top 91
abbrev bY:Stmt:=top 92
abbrev bz:Stmt:=top 93
abbrev fc:Stmt:=top 94
abbrev de:Stmt:=top 95
abbrev qW:Stmt:=top 96
abbrev cQ:Stmt:=a7 (top 67) 0
abbrev bZ:Stmt:=a7 (top 67) 1
abbrev cq:Stmt:=a7 (top 67) 2
abbrev cR:Stmt:=a7 (top 67) 3
abbrev bC:Stmt:=a7 (top 67) 4
theorem iS:FnScope ["self","text"] ["self","text"] (ac cQ):=by constructor <;> first | rfl | decide +kernel
theorem df:FnScope ["self","ahead","at"] ["self","ahead"] (ac bZ):=by constructor <;> first | rfl | decide +kernel
theorem iq:FnScope ["self","mark"] ["self","mark"] (ac cq):=by constructor <;> first | rfl | decide +kernel
theorem dZ:FnScope ["self","sort","found"] ["self","sort"] (ac cR):=by constructor <;> first | rfl | decide +kernel
theorem fe:FnScope ["self","mark"] ["self","mark"] (ac bC):=by constructor <;> first | rfl | decide +kernel
theorem qh:FnScope ["text"] ["text"] (ac ik):=by constructor <;> first | rfl | decide +kernel
theorem oP:FnScope ["thing"] ["thing"] (ac fX):=by constructor <;> first | rfl | decide +kernel
theorem gc:FnScope ["thing","low","high"] ["thing","low","high"] (ac bP):=by constructor <;> first | rfl | decide +kernel
theorem mO:FnScope ["kind"] ["kind"] (ac eP):=by constructor <;> first | rfl | decide +kernel
theorem sc_is_formed:FnScope ["thing","room","word"] ["thing","room"] (ac bK):=by constructor <;> first | rfl | decide +kernel
theorem mP:FnScope ["thing"] ["thing"] (ac eQ):=by constructor <;> first | rfl | decide +kernel
theorem kj:FnScope ["low","high"] ["low","high"] (ac dR):=by constructor <;> first | rfl | decide +kernel
theorem mQ:FnScope ["words"] ["words"] (ac eR):=by constructor <;> first | rfl | decide +kernel
theorem fG:FnScope ["fields","room","names"] ["fields","room"] (ac bx):=by constructor <;> first | rfl | decide +kernel
theorem oQ:FnScope ["field","room"] ["field","room"] (ac cL):=by constructor <;> first | rfl | decide +kernel
theorem sc_are_rows:FnScope ["key","items","room","key_kind"] ["key","items","room"] (ac cM):=by constructor <;> first | rfl | decide +kernel
theorem dq:FnScope ["kind","name","own","inner"] ["kind","name"] (ac dS):=by constructor <;> first | rfl | decide +kernel
theorem mR:FnScope ["kind"] ["kind"] (ac eS):=by constructor <;> first | rfl | decide +kernel
theorem d9:FnScope ["kind","inner"] ["kind"] (ac cN):=by constructor <;> first | rfl | decide +kernel
theorem mS:FnScope ["kind"] ["kind"] (ac c8):=by constructor <;> first | rfl | decide +kernel
theorem qi:FnScope ["letter"] ["letter"] (ac im):=by constructor <;> first | rfl | decide +kernel
theorem km:FnScope ["number"] ["number"] (ac dU):=by constructor <;> first | rfl | decide +kernel
theorem gF:FnScope ["text","figures"] ["text"] (ac eT):=by constructor <;> first | rfl | decide +kernel
theorem iT:FnScope ["sort","word"] ["sort","word"] (ac cO):=by constructor <;> first | rfl | decide +kernel
theorem gG:FnScope ["kind","word"] ["kind"] (ac cf):=by constructor <;> first | rfl | decide +kernel
theorem gH:FnScope ["word","parts"] ["word","parts"] (ac bX):=by constructor <;> first | rfl | decide +kernel
theorem sc_value_text:FnScope ["value","inner"] ["value"] (ac dW):=by constructor <;> first | rfl | decide +kernel
theorem gI:FnScope ["sort","thing","form"] ["sort","thing"] (ac cg):=by constructor <;> first | rfl | decide +kernel
theorem mU:FnScope ["part","sort"] ["part","sort"] (ac cj):=by constructor <;> first | rfl | decide +kernel
theorem fg:FnScope ["word","texts","inner"] ["word","texts"] (ac di):=by constructor <;> first | rfl | decide +kernel
theorem jX:FnScope ["texts"] ["texts"] (ac dj):=by constructor <;> first | rfl | decide +kernel
theorem mV:FnScope ["word","text"] ["word","text"] (ac eU):=by constructor <;> first | rfl | decide +kernel
theorem sE:FnScope ["text"] ["text"] (ac jW):=by constructor <;> first | rfl | decide +kernel
theorem cm:FnScope ["text","found","at","end"] ["text"] (ac fY):=by constructor <;> first | rfl | decide +kernel
theorem iF:FnScope ["text","at","close"] ["text","at"] (ac fZ):=by constructor <;> first | rfl | decide +kernel
theorem gd:FnScope ["text","at","letters","end"] ["text","at","letters"] (ac io):=by constructor <;> first | rfl | decide +kernel
theorem gJ:FnScope ["text","number"] ["text"] (ac eV):=by constructor <;> first | rfl | decide +kernel
theorem au:FnScope ["words","deepest","here","sort","told"] ["words"] (ac bI):=by constructor <;> first | rfl | decide +kernel
theorem mW:FnScope ["text"] ["text"] (ac eW):=by constructor <;> first | rfl | decide +kernel
theorem fh:FnScope ["text","sort","row","told"] ["text","sort"] (ac f9):=by constructor <;> first | rfl | decide +kernel
theorem gK:FnScope ["row","sort","path"] ["row","sort"] (ac bp):=by constructor <;> first | rfl | decide +kernel
theorem gL:FnScope ["row","sort","word"] ["row","sort"] (ac eX):=by constructor <;> first | rfl | decide +kernel
theorem dX:FnScope ["row","word","found"] ["row"] (ac eY):=by constructor <;> first | rfl | decide +kernel
theorem cy:FnScope ["row","sort","word","form","found","part_sort"] ["row","sort","word"] (ac c9):=by constructor <;> first | rfl | decide +kernel
theorem gM:FnScope ["row","sort","closing","found"] ["row","sort","closing"] (ac da):=by constructor <;> first | rfl | decide +kernel
theorem iU:FnScope ["parts"] ["parts"] (ac cP):=by constructor <;> first | rfl | decide +kernel
theorem jY:FnScope ["script","k"] ["script","k"] (ac dm):=by constructor <;> first | rfl | decide +kernel
theorem gN:FnScope ["cell","k","stir"] ["cell","k"] (ac eZ):=by constructor <;> first | rfl | decide +kernel
theorem cS:FnScope ["script","k","turn","cell","found","j"] ["script","k","turn"] (ac ip):=by constructor <;> first | rfl | decide +kernel
theorem gO:FnScope ["row","many","digit"] ["row","many"] (ac e9):=by constructor <;> first | rfl | decide +kernel
theorem bR:FnScope ["row","many","base","tail","way","words"] ["row","many"] (ac ck):=by constructor <;> first | rfl | decide +kernel
theorem bJ:FnScope ["row","low","high"] ["row"] (ac bQ):=by constructor <;> first | rfl | decide +kernel
theorem b6:FnScope ["row","way","words"] ["row"] (ac cp):=by constructor <;> first | rfl | decide +kernel
theorem bc:FnScope ["row","deep","room","many","fields","name"] ["row","deep","room"] (ac aS):=by constructor <;> first | rfl | decide +kernel
theorem az:FnScope ["row","deep","room","names","key","fields","name","inner"] ["row","deep","room"] (ac bg):=by constructor <;> first | rfl | decide +kernel
theorem iG:FnScope ["row","deep","room","way"] ["row","deep","room"] (ac bY):=by constructor <;> first | rfl | decide +kernel
theorem ai:FnScope ["kind","word","words","name","inner","number"] ["kind"] (ac bz):=by constructor <;> first | rfl | decide +kernel
theorem mX:FnScope ["words"] ["words"] (ac fc):=by constructor <;> first | rfl | decide +kernel
theorem mY:FnScope ["words","row"] ["words","row"] (ac de):=by constructor <;> first | rfl | decide +kernel
theorem ge:FnScope ["script","k","turn","row","kind","words","text"] ["script"] (ac qW):=by constructor <;> first | rfl | decide +kernel
theorem pi1 {K:PySem.W.Frag} {X:Cx} {a:Expr} {ta:TE} {i j pos pos'} (hK:X.K=K) (ha:PE X a ta):PE X (.Subscript a (.Constant (.int i) j pos) pos') (tOp (Gg K) ta (tC (.int i))):=pe_ix (jh hK) ha pe_int fun _ _=>rfl
theorem isS {K : PySem.W.Frag} {H : Hp} {z : Str} {Q : V → Prop} (h : Q (.str z)) : ∀ v, IsP K H (.str z) v → Q v := fun v hv => by cases hv; exact h
theorem isI {K : PySem.W.Frag} {H : Hp} {z : Int} {Q : V → Prop} (h : Q (.int z)) : ∀ v, IsP K H (.int z) v → Q v := fun v hv => by cases hv; exact h
theorem sz1 : 1 ≤ sizeLine := by decide
theorem sz2 : 2 ≤ sizeLine := by decide
theorem sz3 : 3 ≤ sizeLine := by decide
theorem pcl {X:Cx} {x:Str} {st:Stmt} {ps:List Str} {f:Addr} {fd:FuncData} {k:Nat} {sp:Sp} {e:Expr} {es:List Expr} {t:TA} {p pos:Pos} (D:Gn X.K X.mg x st ps f fd) (F:FnOk X.prog X.w X.K X.mg X.base CX0 k f fd ps sp) (hr:Room k X.A) (hg:Gl X x) (ha:PA X (e :: es) t) (hdb:(x == ("__debug__" : Str))=false:=by decide) (he:starEach (e :: es) X.env=(false,eval e X.env) :: starEach es X.env:=by rfl) (hpl:(backTo pos (starEach es X.env)).any (·.1)=false:=by rfl):PE X (.Call (.Name x p) (e :: es) [] pos) (wc sp [] E0 t):=aF F hr hg D.m D.F.kp D.b .nil kD ha hdb he hpl
theorem pa1 {X:Cx} {e:Expr} {te:TE} (ha:PE X e te) (hs:starEach [e] X.env=(false,eval e X.env) :: starEach [] X.env):PA X [e] (ix te sQ):=bo ha ei hs
theorem pa2 {X:Cx} {e f:Expr} {te tf:TE} (ha:PE X e te) (hb:PE X f tf) (hs:starEach [e,f] X.env=(false,eval e X.env) :: starEach [f] X.env) (ht:starEach [f] X.env=(false,eval f X.env) :: starEach [] X.env):PA X [e,f] (ix te (ix tf sQ)):=bo ha (bo hb ei ht) hs
theorem pa3 {X:Cx} {e f g:Expr} {te tf tg:TE} (ha:PE X e te) (hb:PE X f tf) (hc:PE X g tg) (hs:starEach [e,f,g] X.env=(false,eval e X.env) :: starEach [f,g] X.env) (ht:starEach [f,g] X.env=(false,eval f X.env) :: starEach [g] X.env) (hu:starEach [g] X.env=(false,eval g X.env) :: starEach [] X.env):PA X [e,f,g] (ix te (ix tf (ix tg sQ))):=bo ha (bo hb (bo hc ei hu) ht) hs
structure Ads where
 HandError:Addr
 BadKind:Addr
 BadText:Addr
 WordRow:Addr
structure Tx (K:PySem.W.Frag) (mg:Str→Option Value) (ad:Ads):Prop where
 is_name:∃ f fd,Gn K mg "is_name" ik ["text"] f fd
 is_whole:∃ f fd,Gn K mg "is_whole" fX ["thing"] f fd
 is_whole_within:∃ f fd,Gn K mg "is_whole_within" bP ["thing","low","high"] f fd
 made_kind:∃ f fd,Gn K mg "made_kind" eP ["kind"] f fd
 is_formed:∃ f fd,Gn K mg "is_formed" bK ["thing","room"] f fd
 has_parts:∃ f fd,Gn K mg "has_parts" eQ ["thing"] f fd
 are_bounds:∃ f fd,Gn K mg "are_bounds" dR ["low","high"] f fd
 are_words:∃ f fd,Gn K mg "are_words" eR ["words"] f fd
 are_fields:∃ f fd,Gn K mg "are_fields" bx ["fields","room"] f fd
 is_field:∃ f fd,Gn K mg "is_field" cL ["field","room"] f fd
 are_rows:∃ f fd,Gn K mg "are_rows" cM ["key","items","room"] f fd
 field_kind:∃ f fd,Gn K mg "field_kind" dS ["kind","name"] f fd
 item_kind:∃ f fd,Gn K mg "item_kind" eS ["kind"] f fd
 kinds_within:∃ f fd,Gn K mg "kinds_within" cN ["kind"] f fd
 kind_many:∃ f fd,Gn K mg "kind_many" c8 ["kind"] f fd
 is_sign:∃ f fd,Gn K mg "is_sign" im ["letter"] f fd
 figures_of:∃ f fd,Gn K mg "figures_of" dU ["number"] f fd
 number_of:∃ f fd,Gn K mg "number_of" eT ["text"] f fd
 parts_behind:∃ f fd,Gn K mg "parts_behind" cO ["sort","word"] f fd
 kind_text:∃ f fd,Gn K mg "kind_text" cf ["kind"] f fd
 most_exchanged:∃ f fd,Gn K mg "most_exchanged" bX ["word","parts"] f fd
 value_text:∃ f fd,Gn K mg "value_text" dW ["value"] f fd
 turn_text:∃ f fd,Gn K mg "turn_text" oM ["turn"] f fd
 form_text:∃ f fd,Gn K mg "form_text" cg ["sort","thing"] f fd
 part_text:∃ f fd,Gn K mg "part_text" cj ["part","sort"] f fd
 in_brackets:∃ f fd,Gn K mg "in_brackets" di ["word","texts"] f fd
 with_commas:∃ f fd,Gn K mg "with_commas" dj ["texts"] f fd
 pair_text:∃ f fd,Gn K mg "pair_text" eU ["word","text"] f fd
 quoted:∃ f fd,Gn K mg "quoted" jW ["text"] f fd
 words_of:∃ f fd,Gn K mg "words_of" fY ["text"] f fd
 word_end:∃ f fd,Gn K mg "word_end" fZ ["text","at"] f fd
 run_end:∃ f fd,Gn K mg "run_end" io ["text","at","letters"] f fd
 made_word:∃ f fd,Gn K mg "made_word" eV ["text"] f fd
 deepest_brackets:∃ f fd,Gn K mg "deepest_brackets" bI ["words"] f fd
 read_kind:∃ f fd,Gn K mg "read_kind" eW ["text"] f fd
 read_all:∃ f fd,Gn K mg "read_all" f9 ["text","sort"] f fd
 part_read:∃ f fd,Gn K mg "part_read" bp ["row","sort"] f fd
 pair_read:∃ f fd,Gn K mg "pair_read" eX ["row","sort"] f fd
 kind_read:∃ f fd,Gn K mg "kind_read" eY ["row"] f fd
 value_read:∃ f fd,Gn K mg "value_read" mM ["row"] f fd
 turn_read:∃ f fd,Gn K mg "turn_read" oN ["row"] f fd
 path_read:∃ f fd,Gn K mg "path_read" oO ["row"] f fd
 form_read:∃ f fd,Gn K mg "form_read" c9 ["row","sort","word"] f fd
 list_read:∃ f fd,Gn K mg "list_read" da ["row","sort","closing"] f fd
 at_least_one:∃ f fd,Gn K mg "at_least_one" cP ["parts"] f fd
 law_cell_at:∃ f fd,Gn K mg "_law_cell_at" dm ["script","k"] f fd
 law_mixed:∃ f fd,Gn K mg "_law_mixed" eZ ["cell","k"] f fd
 law_own:∃ f fd,Gn K mg "_law_own" ip ["script","k","turn"] f fd
 law_digit:∃ f fd,Gn K mg "_law_digit" e9 ["row","many"] f fd
 law_names:∃ f fd,Gn K mg "_law_names" ck ["row","many"] f fd
 law_number_kind:∃ f fd,Gn K mg "_law_number_kind" bQ ["row"] f fd
 law_leaf_kind:∃ f fd,Gn K mg "_law_leaf_kind" cp ["row"] f fd
 law_record_kind:∃ f fd,Gn K mg "_law_record_kind" aS ["row","deep","room"] f fd
 law_rows_kind:∃ f fd,Gn K mg "_law_rows_kind" bg ["row","deep","room"] f fd
 law_kind:∃ f fd,Gn K mg "_law_kind" bY ["row","deep","room"] f fd
 law_kind_words:∃ f fd,Gn K mg "_law_kind_words" bz ["kind"] f fd
 law_tight:∃ f fd,Gn K mg "_law_tight" fc ["words"] f fd
 law_loose:∃ f fd,Gn K mg "_law_loose" de ["words","row"] f fd
 law:∃ f fd,Gn K mg "law" qW ["script"] f fd
 o_WordRow:mg "WordRow" = some (.ref ad.WordRow)
 c_WordRow:Cls K ad.WordRow
 n_WordRow_all_words:NoAttr K ad.WordRow "all_words"
 n_WordRow_place:NoAttr K ad.WordRow "place"
 m_WordRow_init:∃ f fd,Mi K ad.WordRow "__init__" "WordRow.__init__" cQ ["self","text"] f fd
 m_WordRow_coming:∃ f fd,Mn K ad.WordRow "coming" "WordRow.coming" bZ ["self","ahead"] f fd
 m_WordRow_comes:∃ f fd,Mn K ad.WordRow "comes" "WordRow.comes" cq ["self","mark"] f fd
 m_WordRow_take:∃ f fd,Mn K ad.WordRow "take" "WordRow.take" cR ["self","sort"] f fd
 m_WordRow_take_mark:∃ f fd,Mn K ad.WordRow "take_mark" "WordRow.take_mark" bC ["self","mark"] f fd
 x_HandError:ExC K mg "HandError" ad.HandError
 x_BadKind:ExC K mg "BadKind" ad.BadKind
 x_BadText:ExC K mg "BadText" ad.BadText
 LETTERS:∃ t,mg "LETTERS" = some (.str "abcdefghijklmnopqrstuvwxyz" t)
 LONGEST_NAME:∃ t,mg "LONGEST_NAME" = some (.int 8 t)
 EACH:∃ t,mg "EACH" = some (.str "each" t)
 MOST_SIGNS:∃ t,mg "MOST_SIGNS" = some (.int 60 t)
 MOST_WORDS:∃ t,mg "MOST_WORDS" = some (.int 8 t)
 MOST_FIELDS:∃ t,mg "MOST_FIELDS" = some (.int 8 t)
 MOST_ITEMS:∃ t,mg "MOST_ITEMS" = some (.int 8 t)
 MOST_KINDS:∃ t,mg "MOST_KINDS" = some (.int 40 t)
 DEEPEST:∃ t,mg "DEEPEST" = some (.int 5 t)
 PART_COUNTS:∃ a,mg "PART_COUNTS" = some (.ref a)∧qu K a [("number",3),("text",2),("choice",2),("list",3),("record",2),("rows",4)]
 PERCENT:∃ t,mg "PERCENT" = some (.int 37 t)
 FIGURES:∃ t,mg "FIGURES" = some (.str "0123456789" t)
 KIND_PARTS:mg "KIND_PARTS" = some (.ref 167)∧jj K 167 [("number",168),("text",169),("list",170),("rows",171)]∧jk K [(168,["number","number"]),(169,["number"]),(170,["number","kind"]),(171,["word","number","kind"])]
 TURN_PARTS:mg "TURN_PARTS" = some (.ref 172)∧jj K 172 [("bounds",173),("scale",174),("shrink",175),("figures",176),("number",177),("cut",178),("first",179),("one",180),("out",181),("items",182)]∧jk K [(173,["number","number"]),(174,["number"]),(175,["number"]),(176,["number"]),(177,["number","number"]),(178,["number"]),(179,["number"]),(180,["number"]),(181,[]),(182,["turn"])]
 PIECE_PARTS:mg "PIECE_PARTS" = some (.ref 183)∧jj K 183 [("put",184),("drop",185),("name",186),("sink",187),("lift",188),("turn",189),("split",190),("join",191),("part",192),("whole",193)]∧jk K [(184,["word","kind","value"]),(185,["word","value"]),(186,["word","word"]),(187,["word","word"]),(188,["word","word"]),(189,["word","turn"]),(190,["word","text","word","word"]),(191,["word","word","text","word"]),(192,["word","number","word","word"]),(193,["word","word","number","word","number","number"])]
 BLANK:∃ t,mg "BLANK" = some (.str " " t)
 QUOTE:∃ t,mg "QUOTE" = some (.str "\"" t)
 MINUS:∃ t,mg "MINUS" = some (.str "-" t)
 OPENING:∃ t,mg "OPENING" = some (.str "([{" t)
 CLOSING:∃ t,mg "CLOSING" = some (.str ")]}" t)
 MARKS:∃ t,mg "MARKS" = some (.str "()[]{},:;/" t)
 MOST_FIGURES:∃ t,mg "MOST_FIGURES" = some (.int 60 t)
 MOST_BRACKETS:∃ t,mg "MOST_BRACKETS" = some (.int 40 t)
 END:mg "END" = some (.ref 263)∧jk K [(263,["end",""])]
 PAIR_SORTS:∃ a,mg "PAIR_SORTS" = some (.ref a)∧lN K a [("field","kind"),("entry","value"),("way","word")]
 BRACKETED:mg "BRACKETED" = some (.ref 350)∧wq K 350 [347,348,349]∧jk K [(347,["[","list","value","]"]),(348,["{","record","entry","}"]),(349,["(","rows","value",")"])]
 z_all:mg "all" = none
 z_bool:mg "bool" = none
 z_int:mg "int" = none
 z_isinstance:mg "isinstance" = none
 z_len:mg "len" = none
 z_list:mg "list" = none
 z_max:mg "max" = none
 z_min:mg "min" = none
 z_ord:mg "ord" = none
 z_range:mg "range" = none
 z_set:mg "set" = none
 z_sorted:mg "sorted" = none
 z_str:mg "str" = none
 z_sum:mg "sum" = none
 z_tuple:mg "tuple" = none
 z_zip:mg "zip" = none
abbrev depth:Nat:=60
def Gu (K:PySem.W.Frag):Sp:=fun vs H Q _=>∃ (a:Addr) (ns:List Int),vs=[.ref a]∧SqL K H a (ns.map V.int)∧ns.length≤63∧∀ H',Q (.bl true) H'
section
variable {P:Program} {w:World} {K:PySem.W.Frag} {mg:Str→Option Value} {ad:Ads} {base:Heap}
theorem cD {K:PySem.W.Frag} {H:Hp} {z:Str} {v:V} (h:IsP K H (.str z) v):v=.str z:=by cases h;rfl
theorem uf {K:PySem.W.Frag} {H:Hp} {i:Int} {v:V} (h:IsP K H (.int i) v):v=.int i:=by cases h;rfl
theorem bB {A B:Prop} {x:V} (h:A):if decide (x=x)=true then A else B:=by rw [if_pos (decide_eq_true rfl)];exact h
theorem iteN {A B:Prop} {x y:V} (n:x≠y) (h:B):if decide (x=y)=true then A else B:=by rw [if_neg (fun c=>n (of_decide_eq_true c))];exact h
theorem Gv {A B:Prop} {x y:V} (n:x≠y) (h:A):if (!decide (x=y))=true then A else B:=by rw [if_pos (by rw [decide_eq_false n];rfl)];exact h
theorem nN {A B:Prop} {x:V} (h:B):if (!decide (x=x))=true then A else B:=by rw [if_neg (by rw [decide_eq_true rfl];decide)];exact h
theorem am {a b:Str} (h:a≠b):V.str a≠V.str b:=fun e=>h (V.str.inj e)
theorem at0 {α:Type} (c:α) (r:List α):atI (c :: r) 0=some c:=by
 have e:atI (c :: r) ((0:Nat):Int)=some c:=fm (by rfl);exact e
theorem aj (z:Str):z.cps.toList.length=z.length:=Array.length_toList
theorem bU {n:Nat} (h:n≤100000):n≤sizeLine:=Nat.le_trans h (by decide)
theorem nO {α:Type} {l:List α} {n:Nat} {c:α} (h:l[n]?=some c):atI l (n:Int)=some c:=fm h
theorem cB {α β:Type} {xs:List α} {i:Nat} {x:α} (f:α→β) (h:xs[i]?=some x):(xs.take i).map f++[f x]=(xs.take (i+1)).map f:=by
 rw [List.take_add_one,h,List.map_append];rfl
abbrev letters:Str:= "abcdefghijklmnopqrstuvwxyz"
def inB (c:Nat):Bool:=!(Builtin.Str.occurrences letters ⟨#[c]⟩ 0 letters.length 1).isEmpty
def aE (z:Str):Bool:=decide (1≤z.length) && decide (z.length≤8) && !decide (z= "each") && z.cps.toList.all inB
def ltS (a b:Str):Prop:=a.cps.toList < b.cps.toList
instance (a b:Str):Decidable (ltS a b):=inferInstanceAs (Decidable (a.cps.toList < b.cps.toList))
def dN (ws:List Str):Bool:=decide (1≤ws.length) && decide (ws.length≤8) && ws.all aE && decide ws.Nodup
abbrev G4:=Str×Dt×Nat×Nat
abbrev nk (g:G4):Str×Dt:=(g.1,g.2.1)
abbrev prG (g:G4):Dt:=.tup [.str g.1,g.2.1]
def sumN:List Nat→Nat
 | []=>0
 | n :: r=>n+sumN r
def iI:List Nat→Nat
 | []=>0
 | n :: r=>max n (iI r)
def Ao (l:List Dt) (z:Str):Prop:=∃ w r,Dt.tup [.str z,.tup (.str w :: r)]∈l∧(w= "number" ∨w= "text")
inductive FK:Nat→Nat→Dt→Prop
 | text (i:Int):0≤i→i≤60→FK 1 1 (.tup [.str "text",.int i])
 | choice (ws:List Str):dN ws=true→FK 1 1 (.tup [.str "choice",.tup (ws.map Dt.str)])
 | number (i j:Int):-1000000000000000000000000000000≤i→i≤j→j≤1000000000000000000000000000000→FK 1 1 (.tup [.str "number",.int i,.int j])
 | list {a c:Nat} {k:Dt} {i:Int}:FK a c k→0≤i→i≤8→FK (a+1) (c+1) (.tup [.str "list",k,.int i])
 | rows {a c:Nat} {z:Str} {l:List Dt} {i:Int}:FK a c (.tup [.str "record",.tup l])→Ao l z→0≤i→i≤8→FK (a+1) (c+1) (.tup [.str "rows",.str z,.tup [.str "record",.tup l],.int i])
 | rcd {gs:List G4}:(∀ g∈gs,FK g.2.2.1 g.2.2.2 g.2.1)→(gs.map (·.1)).Pairwise ltS→(∀ g∈gs,aE g.1=true∧g.1≠ "noneone")→gs.length≤8→FK (iI (gs.map (·.2.2.1))+1) (sumN (gs.map (·.2.2.2))+1) (.tup [.str "record",.tup (gs.map prG)])
theorem FK.pos {a c:Nat} {d:Dt} (h:FK a c d):1≤a:=by cases h <;> lia
theorem jq {n:Nat}:∀ {l:List Nat},n∈l→n≤iI l
 | m :: l,h=>by
  show n≤max m (iI l);rcases List.mem_cons.mp h with rfl | h
  ·exact Nat.le_max_left _ _
  ·exact Nat.le_trans (jq h) (Nat.le_max_right _ _)
theorem max_le {b:Nat}:∀ {l:List Nat},(∀ n∈l,n≤b)→iI l≤b
 | [],_=>Nat.zero_le _
 | m :: l,h=>by
  show max m (iI l)≤b;exact Nat.max_le.mpr ⟨h m List.mem_cons_self,max_le fun n hn=>h n (List.mem_cons_of_mem _ hn)⟩
def Gw (d:Dt):Option Dt:=match d with
 | .tup [.str w,k,_]=>if w= "list" then some k else none
 | .tup [.str w,_,k,_]=>if w= "rows" then some k else none
 | _=>none
def Gx (K:PySem.W.Frag) (H:Hp) (r:Option Dt) (Q:VK):Prop:=match r with
 | none=>Q .non H
 | some e=>∀ v,IsP K H e v→Q v H
def pP (_:PySem.W.Frag) (_:Ads):Sp:=fun vs H Q _=>∃ z:Str,vs=[.str z]∧z.length≤sizeLine∧∀ H',Same H H'→Q (.bl (aE z)) H'
def j5 (K:PySem.W.Frag) (_:Ads):Sp:=fun vs H Q _=>∃ (fs:List (Str×Dt)) (z:Str) (x:V),vs=[x,.str z]∧IsP K H (.tup [.str "record",.tup (fs.map prD)]) x∧Gx K H (eo fs z) Q
def lO (K:PySem.W.Frag) (_:Ads):Sp:=fun vs H Q _=>∃ (a c:Nat) (d:Dt) (x:V),vs=[x]∧IsP K H d x∧FK a c d∧Gx K H (Gw d) Q
theorem ug {n:Nat} (h:n≤1000):n≤sizeLine:=Nat.le_of_lt (aw h)
theorem nP {l:List Str} (h:l.Pairwise ltS):l.Nodup:=List.Pairwise.imp (fun {a b} hab e=>by
 subst e;exact absurd hab (List.lt_irrefl _)) h
theorem Ap {K:PySem.W.Frag} {H:Hp} {l:Addr} {z:Str} {Q:VK} {nm:L2.St} (hl:H l=none) (hz:z.length≤sizeLine) (q:∀ H',Same H H'→Q (.bl (z.cps.toList.all inB)) H')
  (hn:nm=[none]):∃ W:Nat→Nat→List V→L2.St→Hp→Prop,(∃ m,W 0 m [] nm (upd H l (.lst [])))∧∀ i m ys σ' H',W i m ys σ' H'→((Its z).stop i H'∧(fun (v:V) (H':Hp)=>∃ p ys,[v]=[V.ref p]∧true=true∧SqL K H' p (bls ys)∧Q (.bl (ys.all id)) H') (.ref l) H') ∨
   ((Its z).go i H'∧∀ x H'',(Its z).yld i H' x H''→i0 0 x σ' H'' fun σ2 H2=>cEl (tOp (fun x y H Q=>∃ i j,x=.str i∧y=.str j∧Q (.bl (!(Builtin.Str.occurrences j i 0 j.length 1).isEmpty)) H) (sG 0) (tC (.str letters))) ys l σ2 H2 fun ys' σ3 H3=>∃ m',m' < m∧W (i+1) m' ys' σ3 H3):=by
 subst hn;refine jb (Q:=fun (v:V) (H':Hp)=>∃ p ys,[v]=[V.ref p]∧true=true∧SqL K H' p (bls ys)∧Q (.bl (ys.all id)) H') (fun i ys σ H'=>ys=bls ((z.cps.toList.take i).map inB)∧H'=upd H l (.lst ys)∧σ.length=1) ⟨rfl,rfl,rfl⟩ ?_ ?_
 ·rintro i c ys σ H1 N hc ⟨rfl,rfl,hσ⟩ next;have hc':z.cps.toList[i]?=some c:=by rw [Array.getElem?_toList];exact hc
  have hi:i < z.cps.toList.length:=(List.getElem?_eq_some_iff.mp hc').1;have hlen:(bls ((z.cps.toList.take i).map inB)).length < sizeLine:=by
   have:z.length=z.cps.toList.length:=by simp [Str.length]
   simp only [bls,List.length_map,List.length_take];lia
  match σ,hσ with
  | [_],_ =>
   refine ⟨.str ⟨#[c]⟩,rfl,_,_,rfl,rfl,aa,hlen,next _ _ _ ⟨?_,qj,rfl⟩⟩;show bls ((z.cps.toList.take i).map inB)++[V.bl (inB c)]=bls ((z.cps.toList.take (i+1)).map inB);unfold bls;rw [List.map_map,List.map_map];exact cB (V.bl ∘ inB) hc'
 ·rintro ys σ H1 ⟨rfl,rfl,hσ⟩;refine ⟨l,(z.cps.toList).map inB,rfl,rfl,SqL.of ?_,?_⟩
  ·rw [aa];have:z.cps.toList.take z.cps.size=z.cps.toList:=List.take_of_length_le (by simp);rw [this]
  ·rw [List.all_map];exact q _ (ah hl _)
theorem jr (T:Tx K mg ad) {f:Addr} {fd:FuncData} (F:Gn K mg "is_name" ik ["text"] f fd):FnOk P w K mg base CX0 1 f fd ["text"] (pP K ad):=by
 obtain ⟨t_LONGEST_NAME,c_LONGEST_NAME⟩:=T.LONGEST_NAME;obtain ⟨t_EACH,c_EACH⟩:=T.EACH;obtain ⟨t_LETTERS,c_LETTERS⟩:=T.LETTERS;refine F.F.ok qh (fun vs H Q E h=>?_) (fun cdv A outer s H vs Q E hr h=>?_)
 ·obtain ⟨z,rfl,_⟩:=h
  rfl
 obtain ⟨z,rfl,hz,q⟩:=h;refine ⟨_,(@pss_cons _ _ _ _ _ (@ps_if _ _ _ _ _ _ _ _ (PW.pt (@pw_or _ _ _ _ _ _ _ (@pt_not _ _ _ _ (@pt_val _ _ _ (pe_callB (call_isiN' (K:=K) rfl) rfl T.z_isinstance boot_isinstance (@pa2 _ _ _ _ _ (pv 0) (dh rfl T.z_str boot_str) (by rfl) (by rfl))) (by intro _;rfl))) (@pw_or1 _ _ _ _ (@pt_not _ _ _ _ (pt_chain op_le op_le pe_int (pe_callB call_len_str rfl T.z_len PySem.boot_len (@pa1 _ _ _ (pv 0) (by rfl))) (pe_gint rfl c_LONGEST_NAME)))))) (@pss_one _ _ _ (@ps_ret _ _ _ _ pe_bl)) pss_nil) (@pss_one _ _ _ (@ps_ret _ _ _ _ (pe_and (pe_cmpR op_ne (pv 0) (pe_gstr rfl c_EACH) (nomark _)) (pe_one (pe_callB (call_allN (K:=K) rfl rfl) rfl T.z_all boot_all (@pa1 _ _ _ (pe_comp rfl (cs0 (NL:=["letter"]) rfl (by decide +kernel) (by decide +kernel)) (pF (pv 0)) (fun _ _ _ _=>(ak (i:=0) (show List.Nodup (α:=Str) ["letter"] by decide +kernel) rfl (Or.inl rfl))) (fun _ _ _ _=>(pe_cmpR op_in_str (pv 0) (pe_gstr rfl c_LETTERS) rfl))) (by rfl)))))))),?_⟩;refine ⟨_,rfl,_,_,_,rfl,.str_str,_,rfl,bq ?_⟩;refine ⟨_,rfl,z,rfl,hz,_,_,rfl,rfl,_,rfl,?_⟩;refine aJ (fun c1=>?_) (fun c1=>?_)
 ·refine ⟨_,_,rfl,rfl,_,rfl,?_⟩;refine aJ (fun c2=>?_) (fun c2=>?_)
  ·have e:aE z=false:=by
    have c2':¬ ((z.length:Int)≤8):=by simpa using c2
    have:¬ z.length≤8:=by lia
    simp [aE,this]
   rw [← e];exact q H (Same.refl H)
  ·have l1:1≤z.length:=by
    have:(1:Int)≤z.length:=of_decide_eq_true c1;lia
   have l2:z.length≤8:=by
    have:((z.length:Int)≤8):=by simpa using c2
    lia
   refine ⟨_,rfl,rfl,_,rfl,?_⟩;refine aJ (fun c3=>?_) (fun c3=>?_)
   ·refine ⟨_,rfl,z,rfl,fun l hl=>Ap (K:=K) hl hz (fun H' g=>?_) rfl⟩;have n3:¬ (z= "each"):=by simpa using c3
    have e:aE z=z.cps.toList.all inB:=by simp [aE,l1,l2,n3]
    rw [← e];exact q H' g
   ·have n3:z= "each" :=by simpa using c3
    have e:aE z=false:=by simp [aE,n3]
    rw [← e];exact q H (Same.refl H)
 ·refine ⟨_,rfl,bL ?_⟩;have e:aE z=false:=by
   have:¬ (1:Int)≤z.length:=by simpa using c1
   have:¬ 1≤z.length:=by lia
   simp [aE,this]
  rw [← e];exact q H (Same.refl H)
theorem lP (T:Tx K mg ad) {f:Addr} {fd:FuncData} (F:Gn K mg "item_kind" eS ["kind"] f fd):FnOk P w K mg base CX0 1 f fd ["kind"] (lO K ad):=by
 refine F.F.ok mR (fun vs H Q E h=>?_) (fun cdv A outer s H vs Q E hr h=>?_)
 ·obtain ⟨a,c,d,x,rfl,_⟩:=h
  rfl
 obtain ⟨a,c,d,x,rfl,hd,gk,q⟩:=h;refine ⟨_,(@pss_cons _ _ _ _ _ (@ps_if _ _ _ _ _ _ _ _ (pt_cmpR op_eq (@pi1 K _ _ _ _ _ _ _ rfl (pv 0)) pe_str (nomark _)) (@pss_one _ _ _ (@ps_ret _ _ _ _ (@pi1 K _ _ _ _ _ _ _ rfl (pv 0)))) pss_nil) (@pss_cons _ _ _ _ _ (@ps_if _ _ _ _ _ _ _ _ (pt_cmpR op_eq (@pi1 K _ _ _ _ _ _ _ rfl (pv 0)) pe_str (nomark _)) (@pss_one _ _ _ (@ps_ret _ _ _ _ (@pi1 K _ _ _ _ _ _ _ rfl (pv 0)))) pss_nil) (@pss_one _ _ _ (@ps_ret _ _ _ _ pe_non)))),?_⟩
 cases gk with
 | list g =>
  refine ⟨_,rfl,_,_,_,hd,rfl,rfl,isS ?_⟩;refine ⟨rfl,_,rfl,bB ⟨_,rfl,_,_,_,hd,rfl,rfl,fun v hv=>?_⟩⟩;exact q v hv
 | rows g =>
  refine ⟨_,rfl,_,_,_,hd,rfl,rfl,isS ?_⟩;refine ⟨rfl,_,rfl,iteN (am (by decide)) ⟨_,rfl,_,_,_,hd,rfl,rfl,fun v hv=>?_⟩⟩;obtain rfl:=cD hv;refine ⟨rfl,_,rfl,bB ⟨_,rfl,_,_,_,hd,rfl,rfl,fun v hv=>?_⟩⟩;exact q v hv
 | _ =>
  refine ⟨_,rfl,_,_,_,hd,rfl,rfl,isS ?_⟩;refine ⟨rfl,_,rfl,iteN (am (by decide)) ⟨_,rfl,_,_,_,hd,rfl,rfl,fun v hv=>?_⟩⟩;obtain rfl:=cD hv;exact ⟨rfl,_,rfl,iteN (am (by decide)) q⟩
theorem fq {fs:List (Str×Dt)} {z:Str} (h:∀ f∈fs,f.1≠z):eo fs z=none:=by
 unfold eo;rw [List.find?_eq_none.mpr (fun f hf=>by simpa using h f hf)]
 rfl
theorem lQ {z:Str} {e:Dt}:∀ {fs:List (Str×Dt)} {i:Nat},fs[i]?=some (z,e)→(∀ j f,j < i→fs[j]?=some f→f.1≠z)→eo fs z=some e
 | [],i,h,_=>by simp at h
 | f :: fs,0,h,_=>by
  obtain rfl:f=(z,e):=by simpa using h
  simp [eo]
 | f :: fs,i+1,h,n=>by
  have n0:f.1≠z:=n 0 f (Nat.succ_pos _) rfl;have r:=lQ (fs:=fs) (i:=i) (by simpa using h) (fun j g hj hg=>n (j+1) g (Nat.succ_lt_succ hj) (by simpa using hg));rw [← r];simp [eo,n0]
theorem j6 (T:Tx K mg ad) {f:Addr} {fd:FuncData} (F:Gn K mg "field_kind" dS ["kind","name"] f fd):FnOk P w K mg base CX0 1 f fd ["kind","name"] (j5 K ad):=by
 refine F.F.ok dq (fun vs H Q E h=>?_) (fun cdv A outer s H vs Q E hr h=>?_)
 ·obtain ⟨fs,z,x,rfl,_⟩:=h
  rfl
 obtain ⟨fs,z,x,rfl,hd,q'⟩:=h;refine ⟨_,(@pss_cons _ _ _ _ _ (@ps_if _ _ _ _ _ _ _ _ (pt_cmpR op_ne (@pi1 K _ _ _ _ _ _ _ rfl (pv 0)) pe_str (nomark _)) (@pss_one _ _ _ (@ps_ret _ _ _ _ pe_non)) pss_nil) (@pss_cons _ _ _ _ _ (cC PassesOwn.never rfl (bG (K:=K) rfl (@pi1 K _ _ _ _ _ _ _ rfl (pv 0))) (lf rfl (aC (ak (i:=2) dq.nd rfl (Or.inl rfl)) (aC (ak (i:=3) dq.nd rfl (Or.inl rfl)) cu)))
    (@pss_one _ _ _ (@ps_if _ _ _ _ _ _ _ _ (pt_cmpR op_eq (pv 2) (pv 1) (nomark _)) (@pss_one _ _ _ (@ps_ret _ _ _ _ (pv 3))) pss_nil))) (@pss_one _ _ _ (@ps_ret _ _ _ _ pe_non)))),?_⟩
 refine ⟨_,rfl,_,_,_,hd,rfl,rfl,isS ?_⟩;refine ⟨rfl,_,rfl,nN ⟨_,rfl,_,_,_,hd,rfl,rfl,fun v hv=>?_⟩⟩;obtain ⟨a,xs,rfl,ha,pa,ra⟩:=hv.unref;have el:=ra.length;rw [List.length_map] at el;refine ⟨a,rfl,⟨xs,ha⟩,gh (xs:=xs) (fun i σ H'=>H'=H∧(∀ j f,j < i→fs[j]?=some f→f.1≠z)∧∃ v1 v2,σ=[some x,some (.str z),v1,v2]) ⟨rfl,fun j f hj=>absurd hj (Nat.not_lt_zero _),_,_,rfl⟩ (fun i σ H' _ p=>p.1 ▸ ha) ?_ ?_⟩
 ·rintro i y σ H' hy ⟨rfl,pre,v1,v2,rfl⟩;obtain ⟨e,he,hp⟩:=ra.get' hy;rw [List.getElem?_map] at he;obtain ⟨⟨w,e'⟩,hf,rfl⟩:=Option.map_eq_some_iff.mp he;obtain ⟨b,ys,rfl,hb,pb,rb⟩:=hp.unref
  cases rb with
  | cons r1 rb =>
   cases rb with
   | @cons _ _ y2 _ r2 rb =>
    cases rb
    obtain rfl:=cD r1;refine ⟨b,_,rfl,hb,rfl,_,_,rfl,_,_,rfl,rfl,?_⟩;refine ⟨_,rfl,_,rfl,rfl,_,rfl,?_⟩
    by_cases hz:w=z
    ·subst hz;refine bB ⟨_,rfl,?_⟩;rw [lQ hf pre] at q';exact q' _ r2
    ·refine iteN (am hz) ⟨rfl,fun j f hj hjf=>?_,_,_,rfl⟩;rcases Nat.lt_succ_iff_lt_or_eq.mp hj with h1 | h1
     ·exact pre j f h1 hjf
     ·subst h1;rw [hf] at hjf;obtain rfl:=Option.some.inj hjf;exact hz
 ·rintro σ H' ⟨rfl,pre,v1,v2,rfl⟩;rw [fq (fun f hf=>by
   obtain ⟨j,hj,e⟩:=List.mem_iff_getElem.mp hf;exact pre j f (by lia) (by rw [List.getElem?_eq_getElem hj,e]))] at q'
  exact q'
def nQ (_:PySem.W.Frag) (_:Ads):Sp:=fun vs H Q _=>∃ i:Int,vs=[.int i]∧Q (.bl true) H
def fK (_:PySem.W.Frag) (_:Ads):Sp:=fun vs H Q _=>∃ i j k:Int,vs=[.int i,.int j,.int k]∧j≤i∧i≤k∧Q (.bl true) H
def j7 (_:PySem.W.Frag) (_:Ads):Sp:=fun vs H Q _=>∃ i j:Int,vs=[.int i,.int j]∧-1000000000000000000000000000000≤i∧j≤1000000000000000000000000000000∧Q (.bl (decide (i≤j))) H
def lR (K:PySem.W.Frag) (_:Ads):Sp:=fun vs H Q _=>∃ (a c:Nat) (d:Dt) (x:V),vs=[x]∧IsP K H d x∧FK a c d∧Q (.bl true) H
def lS (K:PySem.W.Frag) (_:Ads):Sp:=fun vs H Q _=>∃ (ws:List Str) (x:V),vs=[x]∧IsP K H (.tup (ws.map Dt.str)) x∧dN ws=true∧∀ H',Same H H'→Q (.bl true) H'
theorem iD (T:Tx K mg ad) {f:Addr} {fd:FuncData} (F:Gn K mg "is_whole" fX ["thing"] f fd):FnOk P w K mg base CX0 1 f fd ["thing"] (nQ K ad):=by
 refine F.F.ok oP (fun vs H Q E h=>?_) (fun cdv A outer s H vs Q E hr h=>?_)
 ·obtain ⟨i,rfl,_⟩:=h
  rfl
 obtain ⟨i,rfl,q⟩:=h;refine ⟨_,(@pss_one _ _ _ (@ps_ret _ _ _ _ (pe_and (pe_callB (call_isiN' (K:=K) rfl) rfl T.z_isinstance boot_isinstance (@pa2 _ _ _ _ _ (pv 0) (dh rfl T.z_int boot_int) (by rfl) (by rfl))) (pe_one (zT (pe_callB (call_isiN' (K:=K) rfl) rfl T.z_isinstance boot_isinstance (@pa2 _ _ _ _ _ (pv 0) (dh rfl T.z_bool boot_bool) (by rfl) (by rfl)))))))),?_⟩;exact ⟨_,rfl,_,_,_,rfl,.int_int,_,rfl,bL ⟨_,rfl,_,_,_,rfl,.int_bool,_,rfl,q⟩⟩
theorem fM (T:Tx K mg ad) {f:Addr} {fd:FuncData} (F:Gn K mg "is_whole_within" bP ["thing","low","high"] f fd):FnOk P w K mg base CX0 2 f fd ["thing","low","high"] (fK K ad):=by
 obtain ⟨_,_,HS⟩:=T.is_whole;have Ix:=iD (P:=P) (w:=w) (base:=base) T HS;refine F.F.ok gc (fun vs H Q E h=>?_) (fun cdv A outer s H vs Q E hr h=>?_)
 ·obtain ⟨i,j,k,rfl,_⟩:=h
  rfl
 obtain ⟨i,j,k,rfl,h1,h2,q⟩:=h;refine ⟨_,(@pss_one _ _ _ (@ps_ret _ _ _ _ (pe_and (pcl HS Ix (hr.mono (by lia)) rfl (@pa1 _ _ _ (pv 0) (by rfl))) (pe_one (m6 op_le op_le (pv 1) (pv 0) (pv 2)))))),?_⟩;refine ⟨_,rfl,i,rfl,_,rfl,bL ?_⟩;refine ⟨_,rfl,_,rfl,_,_,rfl,rfl,_,rfl,?_⟩;rw [decide_eq_true h1];refine bL ⟨_,rfl,_,_,rfl,rfl,?_⟩;show Q (.bl (decide (i≤k))) H;rw [decide_eq_true h2];exact q
theorem wt:(10:Int) ^ (30:Int).toNat=1000000000000000000000000000000:=by decide +kernel
theorem j8 (T:Tx K mg ad) {f:Addr} {fd:FuncData} (F:Gn K mg "are_bounds" dR ["low","high"] f fd):FnOk P w K mg base CX0 2 f fd ["low","high"] (j7 K ad):=by
 obtain ⟨_,_,HS⟩:=T.is_whole;have Ix:=iD (P:=P) (w:=w) (base:=base) T HS;refine F.F.ok kj (fun vs H Q E h=>?_) (fun cdv A outer s H vs Q E hr h=>?_)
 ·obtain ⟨i,j,rfl,_⟩:=h
  rfl
 obtain ⟨i,j,rfl,h1,h2,q⟩:=h;refine ⟨_,(@pss_cons _ _ _ _ _ (@ps_if _ _ _ _ _ _ _ _ (PW.pt (@pw_or _ _ _ _ _ _ _ (@pt_not _ _ _ _ (@pt_val _ _ _ (pcl HS Ix (hr.mono (by lia)) rfl (@pa1 _ _ _ (pv 0) (by rfl))) (by intro _;rfl))) (@pw_or1 _ _ _ _ (@pt_not _ _ _ _ (@pt_val _ _ _ (pcl HS Ix (hr.mono (by lia)) rfl (@pa1 _ _ _ (pv 1) (by rfl))) (by intro _;rfl)))))) (@pss_one _ _ _ (@ps_ret _ _ _ _ pe_bl)) pss_nil) (@pss_one _ _ _ (@ps_ret _ _ _ _ (pe_chain3 op_le op_le op_le (@pe_un _ _ _ _ _ _ un_neg (@pe_op _ _ _ _ _ _ _ _ op_pow pe_int pe_int)) (pv 0) (pv 1) (@pe_op _ _ _ _ _ _ _ _ op_pow pe_int pe_int))))),?_⟩;refine ⟨_,rfl,i,rfl,_,rfl,bq ⟨_,rfl,j,rfl,_,rfl,bq ?_⟩⟩;refine ⟨_,_,rfl,rfl,⟨by decide,by decide,by decide⟩,_,rfl,_,rfl,_,_,rfl,rfl,_,rfl,?_⟩;rw [wt,decide_eq_true (by exact h1)];refine bL ⟨_,rfl,_,_,rfl,rfl,_,rfl,?_⟩;refine aJ (fun c=>?_) (fun c=>?_)
 ·refine ⟨_,_,rfl,rfl,⟨by decide,by decide,by decide⟩,_,_,rfl,rfl,?_⟩;rw [wt];show Q (.bl (decide (j≤1000000000000000000000000000000))) H;rw [decide_eq_true h2];rw [c] at q;exact q
 ·rw [Bool.eq_false_iff.mpr c] at q;exact q
theorem Aq:cV "number" [("number",3),("text",2),("choice",2),("list",3),("record",2),("rows",4)]=.int 3:=by decide +kernel
theorem Ar:cV "text" [("number",3),("text",2),("choice",2),("list",3),("record",2),("rows",4)]=.int 2:=by decide +kernel
theorem As:cV "choice" [("number",3),("text",2),("choice",2),("list",3),("record",2),("rows",4)]=.int 2:=by decide +kernel
theorem At:cV "list" [("number",3),("text",2),("choice",2),("list",3),("record",2),("rows",4)]=.int 3:=by decide +kernel
theorem Au:cV "record" [("number",3),("text",2),("choice",2),("list",3),("record",2),("rows",4)]=.int 2:=by decide +kernel
theorem Av:cV "rows" [("number",3),("text",2),("choice",2),("list",3),("record",2),("rows",4)]=.int 4:=by decide +kernel
theorem qC {a c:Nat} {d:Dt} (h:FK a c d):∃ w l,d=.tup (.str w :: l)∧cV w [("number",3),("text",2),("choice",2),("list",3),("record",2),("rows",4)]=.int (((Dt.str w :: l).length:Nat):Int):=by
 cases h
 case text=>exact ⟨_,_,rfl,Ar⟩
 case choice=>exact ⟨_,_,rfl,As⟩
 case number=>exact ⟨_,_,rfl,Aq⟩
 case list=>exact ⟨_,_,rfl,At⟩
 case rows=>exact ⟨_,_,rfl,Av⟩
 case rcd=>exact ⟨_,_,rfl,Au⟩
theorem lT (T:Tx K mg ad) {f:Addr} {fd:FuncData} (F:Gn K mg "has_parts" eQ ["thing"] f fd):FnOk P w K mg base CX0 1 f fd ["thing"] (lR K ad):=by
 obtain ⟨t_PART_COUNTS,c_PART_COUNTS,d_PART_COUNTS⟩:=T.PART_COUNTS;refine F.F.ok mP (fun vs H Q E h=>?_) (fun cdv A outer s H vs Q E hr h=>?_)
 ·obtain ⟨a0,c0,d,x,rfl,_⟩:=h
  rfl
 obtain ⟨a0,c0,d,x,rfl,hd,pk,q⟩:=h;refine ⟨_,(@pss_cons _ _ _ _ _ (@ps_if _ _ _ _ _ _ _ _ (PW.pt (@pw_or _ _ _ _ _ _ _ (@pt_not _ _ _ _ (@pt_val _ _ _ (pe_callB (call_isiN' (K:=K) rfl) rfl T.z_isinstance boot_isinstance (@pa2 _ _ _ _ _ (pv 0) (dh rfl T.z_tuple boot_tuple) (by rfl) (by rfl))) (by intro _;rfl))) (@pw_or _ _ _ _ _ _ _ (pt_cmpR op_eq (pe_callB (call_lenDN (K:=K) rfl) rfl T.z_len PySem.boot_len (@pa1 _ _ _ (pv 0) (by rfl))) pe_int (nomark _)) (@pw_or1 _ _ _ _ (@pt_not _ _ _ _ (@pt_val _ _ _ (pe_callB (call_isiN' (K:=K) rfl) rfl T.z_isinstance boot_isinstance (@pa2 _ _ _ _ _ (@pi1 K _ _ _ _ _ _ _ rfl (pv 0)) (dh rfl T.z_str boot_str) (by rfl) (by rfl))) (by intro _;rfl))))))) (@pss_one _ _ _ (@ps_ret _ _ _ _ pe_bl)) pss_nil) (@pss_one _ _ _ (@ps_ret _ _ _ _ (pe_cmpR op_eq (pe_kget d_PART_COUNTS rfl c_PART_COUNTS (@pa1 _ _ _ (@pi1 K _ _ _ _ _ _ _ rfl (pv 0)) (by rfl))) (pe_callB (call_lenDN (K:=K) rfl) rfl T.z_len PySem.boot_len (@pa1 _ _ _ (pv 0) (by rfl))) (nomark _))))),?_⟩;obtain ⟨w0,l,rfl,hw⟩:=qC pk;obtain ⟨a,xs,rfl,ha,pa,ra⟩:=id hd.unref;have e0:atI (Dt.str w0 :: l) 0=some (.str w0):=at0 _ _;refine ⟨_,rfl,_,_,_,rfl,.tup_tuple ha,_,rfl,bq ?_⟩;refine ⟨_,rfl,_,_,rfl,hd.d,rfl,_,rfl,?_⟩;refine iteN (fun z=>?_) ?_
 ·injection z with z
  rw [List.length_cons] at z;lia
 refine ⟨_,rfl,_,_,_,hd,rfl,e0,isS ?_⟩;refine ⟨_,_,_,rfl,.str_str,_,rfl,bq ?_⟩;refine ⟨_,rfl,_,_,_,hd,rfl,e0,isS ?_⟩;refine ⟨_,rfl,?_⟩;rw [hw];refine ⟨_,rfl,_,_,rfl,hd.d,rfl,?_⟩;show Q (.bl (decide (V.int _=V.int _))) H;rw [decide_eq_true rfl];exact q
theorem lU {ws:List Str} (h:dN ws=true):1≤ws.length∧ws.length≤8∧ws.all aE=true∧ws.Nodup:=by
 simp only [dN,Bool.and_eq_true,decide_eq_true_eq] at h;exact ⟨h.1.1.1,h.1.1.2,h.1.2,h.2⟩
theorem pQ {ws:List Str} (h:ws.Nodup):(L2.gY (ws.map Sum.inr) (ws.map (Sum.inr:Str→Key)).length).length=ws.length:=by
 unfold L2.gY;rw [List.take_length,qy,List.length_reverse,List.length_map];exact List.pairwise_reverse.mpr (List.Pairwise.map _ (fun a b n e=>n (Sum.inr.inj e).symm) h)
theorem jt {z:Str} (h:aE z=true):z.length≤8:=by
 simp only [aE,Bool.and_eq_true,decide_eq_true_eq] at h;exact h.1.1.2
theorem bV {K:PySem.W.Frag} {H:Hp}:∀ {ws:List Str} {xs:List V},IsPs K H (ws.map Dt.str) xs→xs=ws.map V.str
 | [],xs,h=>by cases h;rfl
 | w :: ws,xs,h=>by
  cases h with
  | cons h1 h2=>rw [cD h1,bV h2];rfl
theorem lV (T:Tx K mg ad) {f:Addr} {fd:FuncData} (F:Gn K mg "are_words" eR ["words"] f fd):FnOk P w K mg base CX0 2 f fd ["words"] (lS K ad):=by
 obtain ⟨_,_,Iv⟩:=T.is_name;have IJ:=jr (P:=P) (w:=w) (base:=base) T Iv;obtain ⟨t_MOST_WORDS,c_MOST_WORDS⟩:=T.MOST_WORDS;refine F.F.ok mQ (fun vs H Q E h=>?_) (fun cdv A outer s H vs Q E hr h=>?_)
 ·obtain ⟨ws,x,rfl,_⟩:=h
  rfl
 obtain ⟨ws,x,rfl,hd,hw,q⟩:=h;obtain ⟨l1,l2,ha,hn⟩:=lU hw;refine ⟨_,(@pss_cons _ _ _ _ _ (@ps_if _ _ _ _ _ _ _ _ (PW.pt (@pw_or _ _ _ _ _ _ _ (@pt_not _ _ _ _ (@pt_val _ _ _ (pe_callB (call_isiN' (K:=K) rfl) rfl T.z_isinstance boot_isinstance (@pa2 _ _ _ _ _ (pv 0) (dh rfl T.z_tuple boot_tuple) (by rfl) (by rfl))) (by intro _;rfl))) (@pw_or1 _ _ _ _ (@pt_not _ _ _ _ (pt_chain op_le op_le pe_int (pe_callB (call_lenDN (K:=K) rfl) rfl T.z_len PySem.boot_len (@pa1 _ _ _ (pv 0) (by rfl))) (pe_gint rfl c_MOST_WORDS)))))) (@pss_one _ _ _ (@ps_ret _ _ _ _ pe_bl)) pss_nil) (@pss_one _ _ _ (@ps_ret _ _ _ _ (pe_and (pe_callB (call_allN (K:=K) rfl rfl) rfl T.z_all boot_all (@pa1 _ _ _ (pe_comp rfl (cs0 (NL:=["word"]) rfl (by decide +kernel) (by decide +kernel)) (bG (K:=K) rfl (pv 0)) (fun _ _ _ _=>(ak (i:=0) (show List.Nodup (α:=Str) ["word"] by decide +kernel) rfl (Or.inl rfl))) (fun _ _ _ _=>(pcl Iv IJ (hr.mono (by lia)) rfl (@pa1 _ _ _ (pv 0) (by rfl))))) (by rfl))) (pe_one (pe_cmpR op_eq (pe_callB rK rfl T.z_len PySem.boot_len (@pa1 _ _ _ (pe_callTy (rJ rfl) rfl T.z_set boot_set (@pa1 _ _ _ (pv 0) (by rfl))) (by rfl))) (pe_callB (call_lenDN (K:=K) rfl) rfl T.z_len PySem.boot_len (@pa1 _ _ _ (pv 0) (by rfl))) (nomark _))))))),?_⟩;obtain ⟨a,xs,rfl,hT,pa,ra⟩:=id hd.unref;have ex:=bV ra;subst ex;refine ⟨_,rfl,_,_,_,rfl,.tup_tuple hT,_,rfl,bq ?_⟩;refine ⟨_,rfl,_,_,rfl,hd.d,_,_,rfl,rfl,_,rfl,?_⟩;rw [List.length_map,decide_eq_true (by lia)];refine bL ⟨_,_,rfl,rfl,_,rfl,?_⟩;rw [decide_eq_true (by lia)];refine bq ?_;refine ⟨_,rfl,a,rfl,⟨_,hT⟩,fun l hln=>?_⟩;refine dv (K:=K) (xs:=ws.map V.str) (fun i ys σ H'=>ys=bls ((ws.take i).map aE)∧Same H H'∧H' l=some (.lst ys)∧σ.length=1) ⟨rfl,ah hln _,aa,rfl⟩ (fun i ys σ H' _ r=>r.2.1.tup hT) ?_ ?_
 ·rintro i y ys σ H1 N hy ⟨rfl,g,e1,hσ⟩ next;rw [List.getElem?_map] at hy;obtain ⟨z,hz,rfl⟩:=Option.map_eq_some_iff.mp hy;have hb:=List.all_eq_true.mp ha z (List.mem_of_getElem? hz);have nx:bls ((ws.take i).map aE)++[V.bl (aE z)]=bls ((ws.take (i+1)).map aE):=by
   unfold bls;rw [List.map_map,List.map_map];exact cB (V.bl ∘ aE) hz
  have hlen:(bls ((ws.take i).map aE)).length < sizeLine:=by
   simp only [bls,List.length_map,List.length_take];exact aw (by lia)
  match σ,hσ with
  | [_],_ =>
   have:=jt hb;exact ⟨_,rfl,z,rfl,ug (by lia),fun H2 g2=>⟨g2 _ _ e1,hlen,next _ _ _ ⟨nx,bD hln (g.trans g2),aa,rfl⟩⟩⟩
 ·rintro ys σ H1 ⟨rfl,g,e1,_⟩;rw [List.length_map,List.take_length] at e1;refine ⟨l,ws.map aE,rfl,rfl,SqL.of e1,?_⟩;rw [List.all_map];refine ⟨_,rfl,?_⟩;rw [show (ws.all (id ∘ aE))=true from ha];refine bL ?_;refine ⟨_,rfl,a,ws.map Sum.inr,rfl,by rw [List.map_map];exact g.tup hT,by rw [List.length_map];lia,fun p hp=>?_⟩;refine ⟨p,_,rfl,aa,?_⟩;rw [pQ hn];refine ⟨_,rfl,_,_,rfl,((hd.same g).same (ah hp _)).d,rfl,?_⟩;rw [List.length_map];show Q (.bl (decide (V.int _=V.int _))) _;rw [decide_eq_true rfl];exact q _ (g.trans (ah hp _))
def nR (K:PySem.W.Frag) (n:Nat):Sp:=fun vs H Q _=>∃ (r a c:Nat) (d:Dt) (x:V),n=r+1∧vs=[x,.int r]∧IsP K H d x∧FK a c d∧a≤r∧∀ H',Same H H'→Q (.bl true) H'
def uh (K:PySem.W.Frag) (n:Nat):Sp:=fun vs H Q _=>∃ (r a c:Nat) (z:Str) (d:Dt) (x:V),n=r+1∧vs=[x,.int r]∧IsP K H (prD (z,d)) x∧aE z=true∧FK a c d∧a≤r∧∀ H',Same H H'→Q (.bl true) H'
def qD (K:PySem.W.Frag) (n:Nat):Sp:=fun vs H Q _=>∃ (r:Nat) (gs:List G4) (x:V),n=r+1∧vs=[x,.int r]∧IsP K H (.tup (gs.map prG)) x∧(∀ g∈gs,FK g.2.2.1 g.2.2.2 g.2.1)∧(gs.map (·.1)).Pairwise ltS∧(∀ g∈gs,aE g.1=true)∧gs.length≤8∧(∀ g∈gs,g.2.2.1≤r) ∧
 ∀ H',Same H H'→Q (.bl true) H'
def uk (K:PySem.W.Frag) (n:Nat):Sp:=fun vs H Q _=>∃ (r a c:Nat) (z:Str) (l:List Dt) (x:V),n=r+1∧vs=[.str z,x,.int r]∧IsP K H (.tup [.str "record",.tup l]) x∧FK a c (.tup [.str "record",.tup l])∧a≤r∧Ao l z∧∀ H',Same H H'→Q (.bl true) H'
theorem nU (T:Tx K mg ad) {f ff:Addr} {fd fdf:FuncData} (n:Nat) (F:Gn K mg "is_field" cL ["field","room"] f fd) (Hw:Gn K mg "is_formed" bK ["thing","room"] ff fdf)
  (HK:FnOk P w K mg base CX0 (3*n+3) ff fdf ["thing","room"] (nR K n)):FnOk P w K mg base CX0 (3*n+3+1) f fd ["field","room"] (uh K n):=by
 obtain ⟨_,_,Iv⟩:=T.is_name;have IJ:=jr (P:=P) (w:=w) (base:=base) T Iv;refine F.F.ok oQ (fun vs H Q E h=>?_) (fun cdv A outer s H vs Q E hr h=>?_)
 ·obtain ⟨r,a0,c0,z,d,x,_,rfl,_⟩:=h
  rfl
 obtain ⟨r,a0,c0,z,d,x,rfl,rfl,hd,hb,pk,hle,q⟩:=h;refine ⟨_,(@pss_cons _ _ _ _ _ (@ps_if _ _ _ _ _ _ _ _ (PW.pt (@pw_or _ _ _ _ _ _ _ (@pt_not _ _ _ _ (@pt_val _ _ _ (pe_callB (call_isiN' (K:=K) rfl) rfl T.z_isinstance boot_isinstance (@pa2 _ _ _ _ _ (pv 0) (dh rfl T.z_tuple boot_tuple) (by rfl) (by rfl))) (by intro _;rfl))) (@pw_or1 _ _ _ _ (pt_cmpR op_ne (pe_callB (call_lenDN (K:=K) rfl) rfl T.z_len PySem.boot_len (@pa1 _ _ _ (pv 0) (by rfl))) pe_int (nomark _))))) (@pss_one _ _ _ (@ps_ret _ _ _ _ pe_bl)) pss_nil) (@pss_one _ _ _ (@ps_ret _ _ _ _ (pe_and (pcl Iv IJ (hr.mono (by lia)) rfl (@pa1 _ _ _ (@pi1 K _ _ _ _ _ _ _ rfl (pv 0)) (by rfl))) (pe_one (pcl Hw HK (hr.mono (by lia)) rfl (@pa2 _ _ _ _ _ (@pi1 K _ _ _ _ _ _ _ rfl (pv 0)) (pv 1) (by rfl) (by rfl)))))))),?_⟩;obtain ⟨a,xs,rfl,ha,pa,ra⟩:=id hd.unref;refine ⟨_,rfl,_,_,_,rfl,.tup_tuple ha,_,rfl,bq ?_⟩;refine ⟨_,rfl,_,_,rfl,hd.d,rfl,_,rfl,nN ?_⟩;refine ⟨_,rfl,_,_,_,hd,rfl,rfl,isS ?_⟩;have:=jt hb;refine ⟨z,rfl,ug (by lia),fun H1 g1=>⟨_,rfl,?_⟩⟩;rw [hb];refine bL ?_;refine ⟨_,rfl,_,_,_,hd.same g1,rfl,rfl,fun v hv=>?_⟩;exact ⟨_,rfl,r,a0,c0,d,v,rfl,rfl,hv,pk,hle,fun H2 g2=>q H2 (g1.trans g2)⟩
theorem ul:∀ {l:List Str},l.Pairwise ltS→∀ (i:Nat) (a b:Str),l[i]?=some a→(l.drop 1)[i]?=some b→ltS a b
 | [],_,i,a,b,h,_=>by simp at h
 | x :: l,p,i,a,b,h,h2=>by
  have p':=List.pairwise_cons.mp p
  cases i with
  | zero =>
   have e:x=a:=by simpa using h
   subst e;exact p'.1 b (List.mem_of_getElem? (by simpa using h2))
  | succ i =>
   refine ul p'.2 i a b (by simpa using h) ?_;rw [List.getElem?_drop] at h2 ⊢;rw [show 1+(i+1)=(1+i)+1 by lia,List.getElem?_cons_succ] at h2;exact h2
theorem nV {K:PySem.W.Frag} {H:Hp} {z:Str} {d:Dt} {v:V} (h:IsP K H (prD (z,d)) v):∃ b y,v=.ref b∧SqT K H b [.str z,y]∧IsP K H d y:=by
 obtain ⟨b,ys,rfl,hb,pb,rb⟩:=h.unref
 cases rb with
 | cons r1 rb =>
  cases rb with
  | @cons _ _ y2 _ r2 rb =>
   cases rb
   obtain rfl:=cD r1;exact ⟨b,_,rfl,hb,r2⟩
theorem rS (xs:List V):i8 xs (some 1) none=xs.drop 1:=by
 unfold i8
 cases xs with
 | nil=>rfl
 | cons x r =>
  have e1:HT.sIx (x :: r).length 0 (some 1)=1:=by
   have:=HT.sIx_nat (x :: r).length 0 1;rw [List.length_cons] at this ⊢;rw [show (1:Int)=((1:Nat):Int) from rfl,this];lia
  have e2:HT.sIx (x :: r).length (x :: r).length none=(x :: r).length:=rfl;rw [e1,e2];apply List.take_of_length_le;rw [List.length_drop];exact Nat.le_refl _
theorem j9 (T:Tx K mg ad) {f ff:Addr} {fd fdf:FuncData} (n:Nat) (F:Gn K mg "are_fields" bx ["fields","room"] f fd) (JP:Gn K mg "is_field" cL ["field","room"] ff fdf)
  (JJ:FnOk P w K mg base CX0 (3*n+4) ff fdf ["field","room"] (uh K n)):FnOk P w K mg base CX0 (3*n+4+1) f fd ["fields","room"] (qD K n):=by
 obtain ⟨t_MOST_FIELDS,c_MOST_FIELDS⟩:=T.MOST_FIELDS;refine F.F.ok fG (fun vs H Q E h=>?_) (fun cdv A outer s H vs Q E hr h=>?_)
 ·obtain ⟨r,gs,x,_,rfl,_⟩:=h
  rfl
 obtain ⟨r,gs,x,rfl,rfl,hd,pk,hs,hnm,hl,hdp,q⟩:=h;refine ⟨_,(@pss_cons _ _ _ _ _ (@ps_if _ _ _ _ _ _ _ _ (PW.pt (@pw_or _ _ _ _ _ _ _ (@pt_not _ _ _ _ (@pt_val _ _ _ (pe_callB (call_isiN' (K:=K) rfl) rfl T.z_isinstance boot_isinstance (@pa2 _ _ _ _ _ (pv 0) (dh rfl T.z_tuple boot_tuple) (by rfl) (by rfl))) (by intro _;rfl))) (@pw_or1 _ _ _ _ (pt_cmpR op_gt (pe_callB (call_lenDN (K:=K) rfl) rfl T.z_len PySem.boot_len (@pa1 _ _ _ (pv 0) (by rfl))) (pe_gint rfl c_MOST_FIELDS) (nomark _))))) (@pss_one _ _ _ (@ps_ret _ _ _ _ pe_bl)) pss_nil) (@pss_cons _ _ _ _ _ (@ps_if _ _ _ _ _ _ _ _ (@pt_not _ _ _ _ (@pt_val _ _ _ (pe_callB (call_allN (K:=K) rfl rfl) rfl T.z_all boot_all (@pa1 _ _ _ (pe_comp rfl (csR (sc:=ac bx) (NL:=["field"]) (N:=["fields","room","names"]) (ρ:=[1]) (N':=["field","room"]) rfl rfl rfl (by decide +kernel) (by decide +kernel) (by decide +kernel) rfl (by decide +kernel)) (bG (K:=K) rfl (pv 0)) (fun _ _ _ _=>(ak (i:=0) (show List.Nodup (α:=Str) ["field","room"] by decide +kernel) rfl (Or.inl rfl))) (fun _ _ _ _=>(pcl JP JJ (hr.mono (by lia)) rfl (@pa2 _ _ _ _ _ (pv 0) (pv 1) (by rfl) (by rfl))))) (by rfl))) (by intro _;rfl))) (@pss_one _ _ _ (@ps_ret _ _ _ _ pe_bl)) pss_nil) (@pss_cons _ _ _ _ _ (ps_setC (j:=2) fG.nd rfl (Or.inl rfl) rfl (cs0 (NL:=["name","kind"]) rfl (by decide +kernel) (by decide +kernel)) (bG (K:=K) rfl (pv 0)) (fun _ _ _ _=>(ft (K:=K) (n:=2) rfl rfl (aC (ak (i:=0) (show List.Nodup (α:=Str) ["name","kind"] by decide +kernel) rfl (Or.inl rfl)) (aC (ak (i:=1) (show List.Nodup (α:=Str) ["name","kind"] by decide +kernel) rfl (Or.inl rfl)) cu)))) (fun _ _ _ _=>(pv 0))) (@pss_one _ _ _ (@ps_ret _ _ _ _ (pe_callB (call_allN (K:=K) rfl rfl) rfl T.z_all boot_all (@pa1 _ _ _ (pe_comp rfl (cs0 (NL:=["ahead","behind"]) rfl (by decide +kernel) (by decide +kernel)) (Af rfl T.z_zip (@pa2 _ _ _ _ _ (pv 2) (pe_slice (nG (K:=K) rfl) (pv 2) (po_some pe_int) cw) (by rfl) (by rfl))) (fun _ _ _ _=>(ft (K:=K) (n:=2) rfl rfl (aC (ak (i:=0) (show List.Nodup (α:=Str) ["ahead","behind"] by decide +kernel) rfl (Or.inl rfl)) (aC (ak (i:=1) (show List.Nodup (α:=Str) ["ahead","behind"] by decide +kernel) rfl (Or.inl rfl)) cu)))) (fun _ _ _ _=>(pe_cmpR re (pv 0) (pv 1) (nomark _)))) (by rfl)))))))),?_⟩;obtain ⟨a,xs,rfl,ha,pa,ra⟩:=id hd.unref;have el:=ra.length;rw [List.length_map] at el;refine ⟨_,rfl,_,_,_,rfl,.tup_tuple ha,_,rfl,bq ?_⟩;refine ⟨_,rfl,_,_,rfl,hd.d,_,_,rfl,rfl,_,rfl,?_⟩;rw [List.length_map,decide_eq_false (by lia)];refine bq ?_;refine ⟨_,rfl,a,rfl,⟨_,ha⟩,fun l hln=>?_⟩;refine dv (K:=K) (xs:=xs) (fun i ys σ H'=>ys=bls (List.replicate i true)∧i≤8∧Same H H'∧H' l=some (.lst ys)∧∃ v,σ=[v,some (.int r)]) ⟨rfl,Nat.zero_le _,ah hln _,aa,none,rfl⟩ (fun i ys σ H' _ r=>r.2.2.1.tup ha) ?_ ?_
 ·rintro i y ys σ H1 N hy ⟨rfl,hi8,g,e1,v,rfl⟩ next;obtain ⟨d,hdi,hp⟩:=ra.get' hy;rw [List.getElem?_map] at hdi;obtain ⟨fi,hfi,rfl⟩:=Option.map_eq_some_iff.mp hdi;have mem:=List.mem_of_getElem? hfi;have li:=(List.getElem?_eq_some_iff.mp hfi).1;have nx:bls (List.replicate i true)++[V.bl true]=bls (List.replicate (i+1) true):=by
   unfold bls;rw [List.replicate_succ',List.map_append]
   rfl
  have hlen:(bls (List.replicate i true)).length < sizeLine:=by
   simp only [bls,List.length_map,List.length_replicate];exact aw (by lia)
  exact ⟨_,rfl,_,rfl,r,fi.2.2.1,fi.2.2.2,fi.1,fi.2.1,y,rfl,rfl,hp.same g,hnm fi mem,pk fi mem,hdp fi mem,fun H2 g2=>⟨g2 _ _ e1,hlen,next _ _ _ ⟨nx,by lia,bD hln (g.trans g2),aa,_,rfl⟩⟩⟩
 ·rintro ys σ H1 ⟨rfl,_,g,e1,v,rfl⟩;refine ⟨l,List.replicate xs.length true,rfl,rfl,SqL.of e1,_,rfl,?_⟩;have e:(List.replicate xs.length true).all id=true:=List.all_eq_true.mpr fun b hb=>(List.mem_replicate.mp hb).2 ▸ rfl;rw [e];refine bq ?_;refine ⟨_,rfl,a,rfl,⟨_,g.tup ha⟩,fun l2 hl2=>?_⟩;refine dv (K:=K) (xs:=xs) (fun i ys σ H'=>ys=(gs.take i).map (fun f:G4=>V.str f.1)∧Same H1 H'∧H' l2=some (.lst ys)∧σ.length=2) ⟨rfl,ah hl2 _,aa,rfl⟩ (fun i ys σ H' _ r=>(g.trans r.2.1).tup ha) ?_ ?_
  ·rintro i y ys σ H2 N hy ⟨rfl,g2,e2,hσ⟩ next;obtain ⟨d,hdi,hp⟩:=ra.get' hy;rw [List.getElem?_map] at hdi;obtain ⟨⟨z,k,u1,u2⟩,hfi,rfl⟩:=Option.map_eq_some_iff.mp hdi;obtain ⟨b,y2,rfl,hb,hp2⟩:=nV ((hp.same g).same g2)
   match σ,hσ with
   | [_,_],_ =>
    refine ⟨b,_,rfl,hb,rfl,_,_,rfl,_,_,rfl,rfl,?_⟩;refine ⟨_,rfl,e2,?_,next _ _ _ ⟨cB (fun f:G4=>V.str f.1) hfi,bD hl2 g2,aa,rfl⟩⟩;rw [List.length_map,List.length_take];exact aw (by lia)
  ·rintro ys σ H2 ⟨rfl,g2,e2,hσ⟩;rw [← el,List.take_length] at e2;have en:gs.map (fun f:G4=>V.str f.1)=(gs.map (·.1)).map V.str:=by rw [List.map_map];rfl
   rw [en] at e2;refine ⟨_,rfl,_,rfl,_,rfl,l2,_,rfl,SqL.of e2,fun l3 hl3=>?_⟩;have n23:l2≠l3:=ag e2 hl3;have ec:i8 ((gs.map (·.1)).map V.str) (some 1) none=((gs.map (·.1)).drop 1).map V.str:=by
    rw [rS,List.map_drop]
   rw [ec];have e2':(upd H2 l3 (.lst (((gs.map (·.1)).drop 1).map V.str))) l2=some (.lst ((gs.map (·.1)).map V.str)):=by rw [ae n23];exact e2
   refine ⟨l2,l3,rfl,⟨_,SqL.of e2'⟩,⟨_,SqL.of aa⟩,fun l4 hl4=>?_⟩;have g4:=(ah hl3 (.lst (((gs.map (·.1)).drop 1).map V.str)));refine rL (K:=K) (xs:=(gs.map (·.1)).map V.str) (ys:=((gs.map (·.1)).drop 1).map V.str) (fun i ys σ H'=>ys=bls (List.replicate i true)∧i≤8∧Same (upd H2 l3 (.lst (((gs.map (·.1)).drop 1).map V.str))) H'∧H' l4=some (.lst ys)∧σ.length=2) ⟨rfl,Nat.zero_le _,ah hl4 _,aa,rfl⟩ (fun i us σ H' r=>⟨SqL.of (r.2.2.1 _ _ e2'),SqL.of (r.2.2.1 _ _ aa)⟩) ?_ ?_
   ·rintro i x y T us σ H5 N hx hy hT ⟨rfl,hi8,g5,e5,hσ⟩ next;rw [List.getElem?_map] at hx hy;obtain ⟨a1,ha1,rfl⟩:=Option.map_eq_some_iff.mp hx;obtain ⟨b1,hb1,rfl⟩:=Option.map_eq_some_iff.mp hy;have lt:=ul hs i a1 b1 ha1 hb1;have n4:l4≠T:=ag e5 hT;have li:i < gs.length:=by
     have:=(List.getElem?_eq_some_iff.mp ha1).1
     rwa [List.length_map] at this
    match σ,hσ with
    | [_,_],_ =>
     refine ⟨T,_,rfl,.inl (.inl aa),rfl,_,_,rfl,_,_,rfl,rfl,?_⟩;refine ⟨_,rfl,_,rfl,_,_,rfl,rfl,by rw [ae n4];exact e5,?_,next _ _ _ ⟨?_,by lia,?_,aa,rfl⟩⟩
     ·rw [bls,List.length_map,List.length_replicate];exact aw (by lia)
     ·rw [show decide (a1.cps.toList < b1.cps.toList)=true from decide_eq_true lt];unfold bls;rw [List.replicate_succ',List.map_append]
      rfl
     ·exact bD hl4 (g5.trans (ah hT _))
   ·rintro us σ H5 ⟨rfl,hi8,g5,e5,hσ⟩;refine ⟨l4,_,rfl,rfl,SqL.of e5,?_⟩;have e:(List.replicate (min ((gs.map (·.1)).map V.str).length (((gs.map (·.1)).drop 1).map V.str).length) true).all id=true:=List.all_eq_true.mpr fun b hb=>(List.mem_replicate.mp hb).2 ▸ rfl;rw [e];exact q H5 (((g.trans g2).trans g4).trans g5)
theorem Aw (w:Str):inV (.str w) [.str "number",.str "text"]=(decide (w= "number") || decide (w= "text")):=by
 have e:∀ a:Str,eqV (.str a) (.str w)=decide (w=a):=fun a=>by
  show (a == w)=decide (w=a);rw [Bool.eq_iff_iff,decide_eq_true_iff,beq_iff_eq];exact ⟨Eq.symm,Eq.symm⟩
 show (eqV (.str "number") (.str w) || (eqV (.str "text") (.str w) || false))=_;rw [e,e,Bool.or_false]
theorem Ax {a c:Nat} {l:List Dt} (h:FK a c (.tup [.str "record",.tup l])):∃ gs:List G4,l=gs.map prG∧a=iI (gs.map (·.2.2.1))+1∧c=sumN (gs.map (·.2.2.2))+1∧(∀ g∈gs,FK g.2.2.1 g.2.2.2 g.2.1)∧(gs.map (·.1)).Pairwise ltS∧(∀ g∈gs,aE g.1=true)∧gs.length≤8:=by
 cases h with
 | rcd h1 h2 h3 h4=>exact ⟨_,rfl,rfl,rfl,h1,h2,(fun g hg=>(h3 g hg).1),h4⟩
theorem Ay (gs:List G4):gs.map prG=(gs.map nk).map prD:=by rw [List.map_map];rfl
theorem vI {gs:List G4} (nd:(gs.map (·.1)).Pairwise ltS) {g:G4} (h:g∈gs):eo (gs.map nk) g.1=some g.2.1:=by
 obtain ⟨i,hi,e⟩:=List.mem_iff_getElem.mp h;have e1:gs[i]?=some g:=by rw [List.getElem?_eq_getElem hi,e]
 refine lQ (i:=i) (by rw [List.getElem?_map,e1];rfl) fun j f hj hf c=>?_;rw [List.getElem?_map] at hf;obtain ⟨g',hg',rfl⟩:=Option.map_eq_some_iff.mp hf;have hjl:=(List.getElem?_eq_some_iff.mp hg').1;have nd':=nP nd;have f1:(gs.map (·.1))[j]'(by simpa using hjl)=g.1:=by
  rw [List.getElem_map,(List.getElem?_eq_some_iff.mp hg').2];exact c
 have f2:(gs.map (·.1))[i]'(by simpa using hi)=g.1:=by
  rw [List.getElem_map,(List.getElem?_eq_some_iff.mp e1).2]
 exact List.pairwise_iff_getElem.mp nd' j i (by simpa using hjl) (by simpa using hi) hj (f1.trans f2.symm)
theorem nW (T:Tx K mg ad) {f ff:Addr} {fd fdf:FuncData} (n:Nat) (F:Gn K mg "are_rows" cM ["key","items","room"] f fd) (Hw:Gn K mg "is_formed" bK ["thing","room"] ff fdf)
  (HK:FnOk P w K mg base CX0 (3*n+3) ff fdf ["thing","room"] (nR K n)):FnOk P w K mg base CX0 (3*n+3+1) f fd ["key","items","room"] (uk K n):=by
 obtain ⟨_,_,IL⟩:=T.field_kind;have Jq:=j6 (P:=P) (w:=w) (base:=base) T IL;refine F.F.ok sc_are_rows (fun vs H Q E h=>?_) (fun cdv A outer s H vs Q E hr h=>?_)
 ·obtain ⟨r,a0,c0,z,l,x,_,rfl,_⟩:=h
  rfl
 obtain ⟨r,a0,c0,z,l,x,rfl,rfl,hd,pk,hle,hkey,q⟩:=h;refine ⟨_,(@pss_cons _ _ _ _ _ (@ps_if _ _ _ _ _ _ _ _ (PW.pt (@pw_or _ _ _ _ _ _ _ (@pt_not _ _ _ _ (@pt_val _ _ _ (pcl Hw HK (hr.mono (by lia)) rfl (@pa2 _ _ _ _ _ (pv 1) (pv 2) (by rfl) (by rfl))) (by intro _;rfl))) (@pw_or1 _ _ _ _ (pt_cmpR op_ne (@pi1 K _ _ _ _ _ _ _ rfl (pv 1)) pe_str (nomark _))))) (@pss_one _ _ _ (@ps_ret _ _ _ _ pe_bl)) pss_nil) (@pss_cons _ _ _ _ _ (@ps_set _ _ 3 _ _ _ _ sc_are_rows.nd rfl (Or.inl rfl) (pcl IL Jq (hr.mono (by lia)) rfl (@pa2 _ _ _ _ _ (pv 1) (pv 0) (by rfl) (by rfl))) (by rfl) (by first | exact .inl rfl | exact .inr rfl | assumption)) (@pss_one _ _ _ (@ps_ret _ _ _ _ (pe_and (pe_cmpR op_notN (pv 3) pe_non (nomark _)) (pe_one (pe_cmpR (op_in_seqK (K:=K) rfl) (@pi1 K _ _ _ _ _ _ _ rfl (pv 3)) (@pe_tupPK _ K _ _ _ _ rfl (@pa2 _ _ _ _ _ pe_str pe_str (by rfl) (by rfl))) rfl))))))),?_⟩;refine ⟨_,rfl,_,rfl,r,a0,c0,_,x,rfl,rfl,hd,pk,hle,fun H1 g1=>⟨_,rfl,bq ?_⟩⟩;refine ⟨_,rfl,_,_,_,hd.same g1,rfl,rfl,fun v hv=>?_⟩;obtain rfl:=cD hv;refine ⟨rfl,_,rfl,nN ?_⟩;obtain ⟨gs,rfl,_,_,_,nd,_,_⟩:=Ax pk;obtain ⟨w1,l1,hm,hw⟩:=hkey;obtain ⟨g,hg,eg⟩:=List.mem_map.mp hm;have eg1:g.1=z:=by injection eg with e;injection e with e _;injection e
 have eg2:g.2.1=.tup (.str w1 :: l1):=by injection eg with e;injection e with _ e;injection e
 have lk:=vI nd hg;rw [eg1,eg2] at lk;have hd1:=hd.same g1;rw [Ay] at hd1;refine ⟨_,rfl,_,rfl,gs.map nk,z,x,rfl,hd1,?_⟩;rw [lk];intro v hv;obtain ⟨av,xv,rfl,_⟩:=id hv.unref;refine ⟨_,rfl,rfl,_,rfl,?_⟩;rw [decide_eq_false (show ¬ (V.ref av=V.non) by intro z;cases z)];refine bL ?_;refine ⟨_,rfl,_,_,_,hv,rfl,at0 _ _,isS ?_⟩;refine ⟨[.str "number",.str "text"],.cons .str (.cons .str .nil),sz2,fun v3 H3 g3 hv3=>?_⟩;obtain ⟨a3,x3,rfl,hT3,_,r3⟩:=id hv3.unref;obtain rfl:=bV (ws:=["number","text"]) r3;refine ⟨a3,_,rfl,.inr hT3,rfl,rfl,?_⟩;show Q (.bl (inV (.str w1) [.str "number",.str "text"])) H3;rw [Aw,show (decide (w1= "number") || decide (w1= "text"))=true by simpa using hw];exact q H3 (g1.trans g3)
theorem lW (T:Tx K mg ad) {f ff fr:Addr} {fd fdf fdr:FuncData} (n:Nat) (Hw:Gn K mg "is_formed" bK ["thing","room"] f fd) (Jo:Gn K mg "are_fields" bx ["fields","room"] ff fdf) (JN:Gn K mg "are_rows" cM ["key","items","room"] fr fdr)
  (HK:FnOk P w K mg base CX0 (3*n+3) f fd ["thing","room"] (nR K n)) (Jl:FnOk P w K mg base CX0 (3*n+5) ff fdf ["fields","room"] (qD K n)) (JK:FnOk P w K mg base CX0 (3*n+4) fr fdr ["key","items","room"] (uk K n)) :
  FnOk P w K mg base CX0 (3*n+5+1) f fd ["thing","room"] (nR K (n+1)):=by
 obtain ⟨_,_,I8⟩:=T.has_parts;have Jt:=lT (P:=P) (w:=w) (base:=base) T I8;obtain ⟨_,_,IM⟩:=T.are_bounds;have Jn:=j8 (P:=P) (w:=w) (base:=base) T IM;obtain ⟨_,_,HL⟩:=T.is_whole_within;have HV:=fM (P:=P) (w:=w) (base:=base) T HL;obtain ⟨_,_,IS⟩:=T.are_words;have JH:=lV (P:=P) (w:=w) (base:=base) T IS;obtain ⟨t_MOST_SIGNS,c_MOST_SIGNS⟩:=T.MOST_SIGNS;obtain ⟨t_MOST_ITEMS,c_MOST_ITEMS⟩:=T.MOST_ITEMS;refine Hw.F.ok sc_is_formed (fun vs H Q E h=>?_) (fun cdv A outer s H vs Q E hr h=>?_)
 ·obtain ⟨r,a0,c0,d,x,_,rfl,_⟩:=h
  rfl
 obtain ⟨r,a0,c0,d,x,e0,rfl,hd,pk,hle,q⟩:=h;have pp:=pk.pos;obtain rfl:n=r:=Nat.succ.inj e0;refine ⟨_,(@pss_cons _ _ _ _ _ (@ps_if _ _ _ _ _ _ _ _ (PW.pt (@pw_or _ _ _ _ _ _ _ (pt_cmpR op_eq (pv 1) pe_int (nomark _)) (@pw_or1 _ _ _ _ (@pt_not _ _ _ _ (@pt_val _ _ _ (pcl I8 Jt (hr.mono (by lia)) rfl (@pa1 _ _ _ (pv 0) (by rfl))) (by intro _;rfl)))))) (@pss_one _ _ _ (@ps_ret _ _ _ _ pe_bl)) pss_nil) (@pss_cons _ _ _ _ _ (@ps_set _ _ 2 _ _ _ _ sc_is_formed.nd rfl (Or.inl rfl) (@pi1 K _ _ _ _ _ _ _ rfl (pv 0)) (by rfl) (by first | exact .inl rfl | exact .inr rfl | assumption)) (@pss_cons _ _ _ _ _ (@ps_if _ _ _ _ _ _ _ _ (pt_cmpR op_eq (pv 2) pe_str (nomark _)) (@pss_one _ _ _ (@ps_ret _ _ _ _ (pcl IM Jn (hr.mono (by lia)) rfl (@pa2 _ _ _ _ _ (@pi1 K _ _ _ _ _ _ _ rfl (pv 0)) (@pi1 K _ _ _ _ _ _ _ rfl (pv 0)) (by rfl) (by rfl))))) pss_nil) (@pss_cons _ _ _ _ _ (@ps_if _ _ _ _ _ _ _ _ (pt_cmpR op_eq (pv 2) pe_str (nomark _)) (@pss_one _ _ _ (@ps_ret _ _ _ _ (pcl HL HV (hr.mono (by lia)) rfl (@pa3 _ _ _ _ _ _ _ (@pi1 K _ _ _ _ _ _ _ rfl (pv 0)) pe_int (pe_gint rfl c_MOST_SIGNS) (by rfl) (by rfl) (by rfl))))) pss_nil) (@pss_cons _ _ _ _ _ (@ps_if _ _ _ _ _ _ _ _ (pt_cmpR op_eq (pv 2) pe_str (nomark _)) (@pss_one _ _ _ (@ps_ret _ _ _ _ (pcl IS JH (hr.mono (by lia)) rfl (@pa1 _ _ _ (@pi1 K _ _ _ _ _ _ _ rfl (pv 0)) (by rfl))))) pss_nil) (@pss_cons _ _ _ _ _ (@ps_if _ _ _ _ _ _ _ _ (pt_cmpR op_eq (pv 2) pe_str (nomark _)) (@pss_one _ _ _ (@ps_ret _ _ _ _ (pe_and (pcl Hw HK (hr.mono (by lia)) rfl (@pa2 _ _ _ _ _ (@pi1 K _ _ _ _ _ _ _ rfl (pv 0)) (@pe_op _ _ _ _ _ _ _ _ op_sub (pv 1) pe_int) (by rfl) (by rfl))) (pe_one (pcl HL HV (hr.mono (by lia)) rfl (@pa3 _ _ _ _ _ _ _ (@pi1 K _ _ _ _ _ _ _ rfl (pv 0)) pe_int (pe_gint rfl c_MOST_ITEMS) (by rfl) (by rfl) (by rfl))))))) pss_nil) (@pss_cons _ _ _ _ _ (@ps_if _ _ _ _ _ _ _ _ (pt_cmpR op_eq (pv 2) pe_str (nomark _)) (@pss_one _ _ _ (@ps_ret _ _ _ _ (pcl Jo Jl (hr.mono (by lia)) rfl (@pa2 _ _ _ _ _ (@pi1 K _ _ _ _ _ _ _ rfl (pv 0)) (@pe_op _ _ _ _ _ _ _ _ op_sub (pv 1) pe_int) (by rfl) (by rfl))))) pss_nil) (@pss_one _ _ _ (@ps_ret _ _ _ _ (pe_and (pcl JN JK (hr.mono (by lia)) rfl (@pa3 _ _ _ _ _ _ _ (@pi1 K _ _ _ _ _ _ _ rfl (pv 0)) (@pi1 K _ _ _ _ _ _ _ rfl (pv 0)) (@pe_op _ _ _ _ _ _ _ _ op_sub (pv 1) pe_int) (by rfl) (by rfl) (by rfl))) (pe_one (pcl HL HV (hr.mono (by lia)) rfl (@pa3 _ _ _ _ _ _ _ (@pi1 K _ _ _ _ _ _ _ rfl (pv 0)) pe_int (pe_gint rfl c_MOST_ITEMS) (by rfl) (by rfl) (by rfl)))))))))))))),?_⟩;refine ⟨_,rfl,rfl,_,rfl,?_⟩;rw [decide_eq_false (show ¬ (V.int ((n:Nat):Int)=V.int 0) by intro z;have:=V.int.inj z;lia)];refine bq ?_;have hn:n≠0:=by lia
 obtain ⟨r,rfl⟩:∃ r,n=r+1:=⟨n - 1,by lia⟩;have e1:(((r+1:Nat):Int)) - 1=(r:Int):=by lia
 refine ⟨_,rfl,a0,c0,d,x,rfl,hd,pk,_,rfl,bq ?_⟩
 cases pk
 case number i j h1 h12 h2 =>
  refine ⟨_,rfl,_,_,_,hd,rfl,rfl,isS ?_⟩;refine ⟨_,rfl,rfl,_,rfl,bB ?_⟩;refine ⟨_,rfl,_,_,_,hd,rfl,rfl,fun v hv=>?_⟩
  cases hv
  refine ⟨_,rfl,_,_,_,hd,rfl,rfl,fun v hv=>?_⟩
  cases hv
  refine ⟨i,j,rfl,h1,h2,?_⟩;rw [decide_eq_true h12];exact q H (Same.refl H)
 case text i h1 h2 =>
  refine ⟨_,rfl,_,_,_,hd,rfl,rfl,isS ?_⟩;refine ⟨_,rfl,rfl,_,rfl,iteN (am (by decide)) ?_⟩;refine ⟨_,rfl,rfl,_,rfl,bB ?_⟩;refine ⟨_,rfl,_,_,_,hd,rfl,rfl,fun v hv=>?_⟩
  cases hv
  exact ⟨i,0,60,rfl,h1,h2,q H (Same.refl H)⟩
 case choice ws h1 =>
  refine ⟨_,rfl,_,_,_,hd,rfl,rfl,isS ?_⟩;refine ⟨_,rfl,rfl,_,rfl,iteN (am (by decide)) ?_⟩;refine ⟨_,rfl,rfl,_,rfl,iteN (am (by decide)) ?_⟩;refine ⟨_,rfl,rfl,_,rfl,bB ?_⟩;refine ⟨_,rfl,_,_,_,hd,rfl,rfl,fun v hv=>?_⟩;exact ⟨ws,v,rfl,hv,h1,q⟩
 case list a1 c1 k i g h1 h2 =>
  refine ⟨_,rfl,_,_,_,hd,rfl,rfl,isS ?_⟩;refine ⟨_,rfl,rfl,_,rfl,iteN (am (by decide)) ?_⟩;refine ⟨_,rfl,rfl,_,rfl,iteN (am (by decide)) ?_⟩;refine ⟨_,rfl,rfl,_,rfl,iteN (am (by decide)) ?_⟩;refine ⟨_,rfl,rfl,_,rfl,bB ?_⟩;refine ⟨_,rfl,_,_,_,hd,rfl,rfl,fun v hv=>?_⟩;refine ⟨_,rfl,_,_,rfl,rfl,r,a1,c1,k,v,rfl,(by show [v,V.int (((r+1:Nat):Int) - 1)]=_;rw [e1]),hv,g,by lia,fun H1 g1=>⟨_,rfl,bL ?_⟩⟩;refine ⟨_,rfl,_,_,_,hd.same g1,rfl,rfl,fun v hv=>?_⟩
  cases hv
  exact ⟨i,0,8,rfl,h1,h2,q H1 g1⟩
 case rcd gs g hs hnm hl =>
  refine ⟨_,rfl,_,_,_,hd,rfl,rfl,isS ?_⟩;refine ⟨_,rfl,rfl,_,rfl,iteN (am (by decide)) ?_⟩;refine ⟨_,rfl,rfl,_,rfl,iteN (am (by decide)) ?_⟩;refine ⟨_,rfl,rfl,_,rfl,iteN (am (by decide)) ?_⟩;refine ⟨_,rfl,rfl,_,rfl,iteN (am (by decide)) ?_⟩;refine ⟨_,rfl,rfl,_,rfl,bB ?_⟩;refine ⟨_,rfl,_,_,_,hd,rfl,rfl,fun v hv=>?_⟩;exact ⟨_,rfl,_,_,rfl,rfl,r,gs,v,rfl,(by show [v,V.int (((r+1:Nat):Int) - 1)]=_;rw [e1]),hv,g,hs,(fun g hg=>(hnm g hg).1),hl,(fun g hg=>by have:=jq (List.mem_map.mpr ⟨g,hg,rfl⟩:g.2.2.1∈gs.map (·.2.2.1));lia),q⟩
 case rows a1 c1 z l i g hz h1 h2 =>
  refine ⟨_,rfl,_,_,_,hd,rfl,rfl,isS ?_⟩;refine ⟨_,rfl,rfl,_,rfl,iteN (am (by decide)) ?_⟩;refine ⟨_,rfl,rfl,_,rfl,iteN (am (by decide)) ?_⟩;refine ⟨_,rfl,rfl,_,rfl,iteN (am (by decide)) ?_⟩;refine ⟨_,rfl,rfl,_,rfl,iteN (am (by decide)) ?_⟩;refine ⟨_,rfl,rfl,_,rfl,iteN (am (by decide)) ?_⟩;refine ⟨_,rfl,_,_,_,hd,rfl,rfl,isS ?_⟩;refine ⟨_,rfl,_,_,_,hd,rfl,rfl,fun v hv=>?_⟩;refine ⟨_,rfl,_,_,rfl,rfl,r,a1,c1,z,l,v,rfl,(by show [V.str z,v,V.int (((r+1:Nat):Int) - 1)]=_;rw [e1]),hv,g,by lia,hz,fun H1 g1=>⟨_,rfl,bL ?_⟩⟩;refine ⟨_,rfl,_,_,_,hd.same g1,rfl,rfl,fun v hv=>?_⟩
  cases hv
  exact ⟨i,0,8,rfl,h1,h2,q H1 g1⟩
theorem qE (T:Tx K mg ad) {f ff fr fi:Addr} {fd fdf fdr fdi:FuncData} (A:Gn K mg "is_formed" bK ["thing","room"] f fd) (B:Gn K mg "are_fields" bx ["fields","room"] ff fdf) (C:Gn K mg "are_rows" cM ["key","items","room"] fr fdr) (D:Gn K mg "is_field" cL ["field","room"] fi fdi) :
  ∀ n,FnOk P w K mg base CX0 (3*n+3) f fd ["thing","room"] (nR K n)
 | 0=>bt fun vs H Q E z=>by obtain ⟨_,_,_,_,_,e,_⟩:=z;cases e
 | n+1=>by
  have a:=qE T A B C D n;exact lW T n A B C a (j9 T n B D (nU T n D A a)) (nW T n C A a)
structure Wi (a c:Nat) (ks:List (Dt×Nat×Nat)):Prop where
 deep:a=iI (ks.map (·.2.1))+1
 many:c=sumN (ks.map (·.2.2))+1
 each:∀ k∈ks,FK k.2.1 k.2.2 k.1
 few:ks.length≤8
def vJ (K:PySem.W.Frag):Sp:=fun vs H Q _=>∃ (a c:Nat) (d:Dt) (x:V),vs=[x]∧IsP K H d x∧FK a c d∧∀ p ys ks H',Same H H'→H p=none→H' p=some (.lst ys)→IsPs K H' (ks.map (·.1)) ys→Wi a c ks→Q (.ref p) H'
abbrev iJ (K:PySem.W.Frag) (_:Ads):Sp:=vJ K
theorem um {a c:Nat} {k:Dt} (g:FK a c k):Wi (a+1) (c+1) [(k,a,c)]:=⟨by show a+1=max a 0+1;lia,rfl,fun k' hk=>by rw [List.mem_singleton.mp hk];exact g,by show 1≤8;decide⟩
theorem lX:Wi 1 1 []:=⟨rfl,rfl,(fun k hk=>by cases hk),by decide⟩
theorem Az {gs:List G4} (g:∀ g∈gs,FK g.2.2.1 g.2.2.2 g.2.1) (hl:gs.length≤8):Wi (iI (gs.map (·.2.2.1))+1) (sumN (gs.map (·.2.2.2))+1) (gs.map (·.2)):=by
 refine ⟨by rw [List.map_map];rfl,by rw [List.map_map];rfl,fun k hk=>?_,by rw [List.length_map];exact hl⟩;obtain ⟨g0,h0,rfl⟩:=List.mem_map.mp hk;exact g g0 h0
theorem iK (T:Tx K mg ad) {f:Addr} {fd:FuncData} (F:Gn K mg "kinds_within" cN ["kind"] f fd):FnOk P w K mg base CX0 2 f fd ["kind"] (iJ K ad):=by
 obtain ⟨_,_,IW⟩:=T.item_kind;have Jw:=lP (P:=P) (w:=w) (base:=base) T IW;refine F.F.ok d9 (fun vs H Q E h=>?_) (fun cdv A outer s H vs Q E hr h=>?_)
 ·obtain ⟨a0,c0,d,x,rfl,_⟩:=h
  rfl
 obtain ⟨a0,c0,d,x,rfl,hd,pk,q⟩:=h;refine ⟨_,(@pss_cons _ _ _ _ _ (@ps_if _ _ _ _ _ _ _ _ (pt_cmpR op_eq (@pi1 K _ _ _ _ _ _ _ rfl (pv 0)) pe_str (nomark _)) (@pss_one _ _ _ (@ps_ret _ _ _ _ (pe_comp rfl (cs0 (NL:=["name","inner"]) rfl (by decide +kernel) (by decide +kernel)) (bG (K:=K) rfl (@pi1 K _ _ _ _ _ _ _ rfl (pv 0))) (fun _ _ _ _=>(ft (K:=K) (n:=2) rfl rfl (aC (ak (i:=0) (show List.Nodup (α:=Str) ["name","inner"] by decide +kernel) rfl (Or.inl rfl)) (aC (ak (i:=1) (show List.Nodup (α:=Str) ["name","inner"] by decide +kernel) rfl (Or.inl rfl)) cu)))) (fun _ _ _ _=>(pv 1))))) pss_nil) (@pss_cons _ _ _ _ _ (@ps_set _ _ 1 _ _ _ _ d9.nd rfl (Or.inl rfl) (pcl IW Jw (hr.mono (by lia)) rfl (@pa1 _ _ _ (pv 0) (by rfl))) (by rfl) (by first | exact .inl rfl | exact .inr rfl | assumption)) (@pss_one _ _ _ (@ps_ret _ _ _ _ (gf (pt_cmpR oV (pv 1) pe_non (nomark _)) (@aG _ _ _ _ ei) (@aG _ _ _ _ (@pa1 _ _ _ (pv 1) (by rfl)))))))),?_⟩
 cases pk
 case rcd gs g hs hnm hl =>
  refine ⟨_,rfl,_,_,_,hd,rfl,rfl,isS ?_⟩;refine ⟨rfl,_,rfl,bB ?_⟩;refine ⟨_,rfl,_,_,_,hd,rfl,rfl,fun v hv=>?_⟩;obtain ⟨a,xs,rfl,ha,pa,ra⟩:=id hv.unref;have el:=ra.length;rw [List.length_map] at el;refine ⟨a,rfl,⟨_,ha⟩,fun l hln=>?_⟩;refine dv (K:=K) (xs:=xs) (fun i ys σ H'=>Same H H'∧H' l=some (.lst ys)∧IsPs K H' ((gs.take i).map (·.2.1)) ys∧σ.length=2) ⟨ah hln _,aa,.nil,rfl⟩ (fun i ys σ H' _ r=>r.1.tup ha) ?_ ?_
  ·rintro i y ys σ H1 N hy ⟨g1,e1,hp1,hσ⟩ next;obtain ⟨d1,hdi,hp⟩:=ra.get' hy;rw [List.getElem?_map] at hdi;obtain ⟨⟨z,k,u1,u2⟩,hfi,rfl⟩:=Option.map_eq_some_iff.mp hdi;obtain ⟨b,y2,rfl,hb,hp2⟩:=nV (hp.same g1);have ly:=hp1.length;rw [List.length_map,List.length_take] at ly
   match σ,hσ with
   | [_,_],_ =>
    refine ⟨b,_,rfl,hb,rfl,_,_,rfl,_,_,rfl,rfl,?_⟩;refine ⟨_,rfl,e1,aw (by lia),next _ _ _ ⟨bD hln g1,aa,?_,rfl⟩⟩;have e:(gs.take (i+1)).map (·.2.1)=(gs.take i).map (·.2.1)++[k]:=by rw [List.take_add_one,hfi,List.map_append];rfl
    rw [e];have bb:But l H1 (upd H1 l (.lst (ys++[y2]))):=But.put;exact (hp1.append (.cons hp2 .nil)).but e1 bb
  ·rintro ys σ H1 ⟨g1,e1,hp1,_⟩;rw [← el,List.take_length] at hp1;refine q l ys (gs.map (·.2)) H1 g1 hln e1 (by rw [List.map_map];exact hp1) (Az g hl)
 case list a1 c1 k i g h1 h2 =>
  refine ⟨_,rfl,_,_,_,hd,rfl,rfl,isS ?_⟩;refine ⟨rfl,_,rfl,iteN (am (by decide)) ?_⟩;refine ⟨_,rfl,_,_,_,x,rfl,hd,.list g h1 h2,fun v hv=>?_⟩;refine ⟨_,rfl,rfl,_,rfl,iteN (by obtain ⟨w0,l,rfl,_⟩:=qC g;obtain ⟨a,_,rfl,_⟩:=hv.unref;intro e;cases e) ?_⟩;exact ⟨_,rfl,sz1,fun p hp=>q p _ [(k,a1,c1)] _ (ah hp _) hp aa (.cons (hv.same (ah hp _)) .nil) (um g)⟩
 case rows a1 c1 z l i g hz h1 h2 =>
  refine ⟨_,rfl,_,_,_,hd,rfl,rfl,isS ?_⟩;refine ⟨rfl,_,rfl,iteN (am (by decide)) ?_⟩;refine ⟨_,rfl,_,_,_,x,rfl,hd,.rows g hz h1 h2,fun v hv=>?_⟩;refine ⟨_,rfl,rfl,_,rfl,iteN (by obtain ⟨a,_,rfl,_⟩:=hv.unref;intro e;cases e) ?_⟩;exact ⟨_,rfl,sz1,fun p hp=>q p _ [(_,a1,c1)] _ (ah hp _) hp aa (.cons (hv.same (ah hp _)) .nil) (um g)⟩
 case text i h1 h2 =>
  refine ⟨_,rfl,_,_,_,hd,rfl,rfl,isS ?_⟩;refine ⟨rfl,_,rfl,iteN (am (by decide)) ?_⟩;refine ⟨_,rfl,_,_,_,x,rfl,hd,.text i h1 h2,?_⟩;exact ⟨_,rfl,rfl,_,rfl,bB ⟨(by show 0≤sizeLine;decide),fun p hp=>q p _ [] _ (ah hp _) hp aa .nil lX⟩⟩
 case choice ws h1 =>
  refine ⟨_,rfl,_,_,_,hd,rfl,rfl,isS ?_⟩;refine ⟨rfl,_,rfl,iteN (am (by decide)) ?_⟩;refine ⟨_,rfl,_,_,_,x,rfl,hd,.choice ws h1,?_⟩;exact ⟨_,rfl,rfl,_,rfl,bB ⟨(by show 0≤sizeLine;decide),fun p hp=>q p _ [] _ (ah hp _) hp aa .nil lX⟩⟩
 case number i j h1 h12 h2 =>
  refine ⟨_,rfl,_,_,_,hd,rfl,rfl,isS ?_⟩;refine ⟨rfl,_,rfl,iteN (am (by decide)) ?_⟩;refine ⟨_,rfl,_,_,_,x,rfl,hd,.number i j h1 h12 h2,?_⟩;exact ⟨_,rfl,rfl,_,rfl,bB ⟨(by show 0≤sizeLine;decide),fun p hp=>q p _ [] _ (ah hp _) hp aa .nil lX⟩⟩
def uo (K:PySem.W.Frag) (n:Nat):Sp:=fun vs H Q _=>∃ (a c:Nat) (d:Dt) (x:V),a≤n∧vs=[x]∧IsP K H d x∧FK a c d∧∀ H',Same H H'→Q (.int c) H'
theorem qF:∀ l:List Nat,(l.map fun n:Nat=>(n:Int)).sum=((sumN l:Nat):Int)
 | []=>rfl
 | n :: l=>by
  rw [List.map_cons,List.sum_cons,qF l];show _=((n+sumN l:Nat):Int);lia
theorem lY (T:Tx K mg ad) {f:Addr} {fd:FuncData} (n:Nat) (HY:Gn K mg "kind_many" c8 ["kind"] f fd) (IE:FnOk P w K mg base CX0 (n+3) f fd ["kind"] (uo K n)):FnOk P w K mg base CX0 (n+3+1) f fd ["kind"] (uo K (n+1)):=by
 obtain ⟨_,_,IG⟩:=T.kinds_within;have Jd:=iK (P:=P) (w:=w) (base:=base) T IG;refine HY.F.ok mS (fun vs H Q E h=>?_) (fun cdv A outer s H vs Q E hr h=>?_)
 ·obtain ⟨a0,c0,d,x,_,rfl,_⟩:=h
  rfl
 obtain ⟨a0,c0,d,x,hle,rfl,hd,pk,q⟩:=h;refine ⟨_,(@pss_one _ _ _ (@ps_ret _ _ _ _ (@pe_op _ _ _ _ _ _ _ _ aO pe_int (pe_callB ny rfl T.z_sum boot_sum (@pa1 _ _ _ (pe_comp rfl (cs0 (NL:=["inner"]) rfl (by decide +kernel) (by decide +kernel)) (dz (K:=K) rfl (pcl IG Jd (hr.mono (by lia)) rfl (@pa1 _ _ _ (pv 0) (by rfl)))) (fun _ _ _ _=>(ak (i:=0) (show List.Nodup (α:=Str) ["inner"] by decide +kernel) rfl (Or.inl rfl))) (fun _ _ _ _=>(pcl HY IE (hr.mono (by lia)) rfl (@pa1 _ _ _ (pv 0) (by rfl))))) (by rfl)))))),?_⟩;refine ⟨_,rfl,a0,c0,d,x,rfl,hd,pk,fun p ys ks H1 g1 hpn e1 hks wi=>?_⟩;have ly:=hks.length;rw [List.length_map] at ly;have few:=wi.few;refine ⟨p,rfl,⟨_,SqL.of e1⟩,fun l hln=>?_⟩;refine fH (K:=K) (xs:=ys) (fun i us σ H'=>us=((ks.take i).map fun k=>V.int (k.2.2:Nat))∧Same H1 H'∧H' l=some (.lst us)∧σ.length=1) ⟨rfl,ah hln _,aa,rfl⟩ (fun i us σ H' _ r=>SqL.of (r.2.1 _ _ e1)) ?_ ?_
 ·rintro i y us σ H2 N hy ⟨rfl,g2,e2,hσ⟩ next;obtain ⟨k0,hk0,hp⟩:=hks.get' hy;rw [List.getElem?_map] at hk0;obtain ⟨k,hk,rfl⟩:=Option.map_eq_some_iff.mp hk0;have mem:=List.mem_of_getElem? hk;have dl:=jq (List.mem_map.mpr ⟨k,mem,rfl⟩:k.2.1∈ks.map (·.2.1));have dd:=wi.deep
  match σ,hσ with
  | [_],_ =>
   refine ⟨_,rfl,k.2.1,k.2.2,k.1,y,by lia,rfl,hp.same g2,wi.each k mem,fun H3 g3=>⟨g3 _ _ e2,?_,next _ _ _ ⟨cB (fun k:Dt×Nat×Nat=>V.int (k.2.2:Nat)) hk,bD hln (g2.trans g3),aa,rfl⟩⟩⟩;rw [List.length_map,List.length_take];exact aw (by lia)
 ·rintro us σ H2 ⟨rfl,g2,e2,_⟩;rw [← ly,List.take_length] at e2;have e2':H2 l=some (.lst (((ks.map (·.2.2)).map fun n:Nat=>(n:Int)).map V.int)):=by rw [e2,List.map_map,List.map_map];rfl
  refine ⟨l,_,rfl,rfl,SqL.of e2',_,_,rfl,rfl,?_⟩;rw [qF];show Q (.int ((1:Int)+((sumN (ks.map (·.2.2)):Nat):Int))) H2;have e:(1:Int)+((sumN (ks.map (·.2.2)):Nat):Int)=((c0:Nat):Int):=by rw [wi.many];lia
  rw [e];exact q H2 (g1.trans g2)
theorem nX (T:Tx K mg ad) {f:Addr} {fd:FuncData} (A:Gn K mg "kind_many" c8 ["kind"] f fd):∀ n,FnOk P w K mg base CX0 (n+3) f fd ["kind"] (uo K n)
 | 0=>bt fun vs H Q E z=>by obtain ⟨_,_,_,_,h,_,_,pk,_⟩:=z;have:=pk.pos;lia
 | n+1=>lY T n A (nX T A n)
def lZ (K:PySem.W.Frag) (_:Ads):Sp:=fun vs H Q _=>∃ (a c:Nat) (d:Dt) (x:V),vs=[x]∧IsP K H d x∧FK a c d∧a≤5∧c≤40∧∀ H',Same H H'→Q x H'
theorem l5 (T:Tx K mg ad) {f:Addr} {fd:FuncData} (F:Gn K mg "made_kind" eP ["kind"] f fd):FnOk P w K mg base CX0 22 f fd ["kind"] (lZ K ad):=by
 obtain ⟨_,_,Hw⟩:=T.is_formed;obtain ⟨f1,d1,D1⟩:=T.are_fields;obtain ⟨f2,d2,D2⟩:=T.are_rows;obtain ⟨f3,d3,D3⟩:=T.is_field;have HK:=qE (P:=P) (w:=w) (base:=base) T Hw D1 D2 D3 6;obtain ⟨_,_,HY⟩:=T.kind_many;have IE:=nX (P:=P) (w:=w) (base:=base) T HY 5;obtain ⟨t_DEEPEST,c_DEEPEST⟩:=T.DEEPEST;obtain ⟨t_MOST_KINDS,c_MOST_KINDS⟩:=T.MOST_KINDS;refine F.F.ok mO (fun vs H Q E h=>?_) (fun cdv A outer s H vs Q E hr h=>?_)
 ·obtain ⟨a0,c0,d,x,rfl,_⟩:=h
  rfl
 obtain ⟨a0,c0,d,x,rfl,hd,pk,ha,hc,q⟩:=h;refine ⟨_,(@pss_cons _ _ _ _ _ (@ps_if _ _ _ _ _ _ _ _ (@pt_not _ _ _ _ (@pt_val _ _ _ (pcl Hw HK (hr.mono (by lia)) rfl (@pa2 _ _ _ _ _ (pv 0) (pe_gint rfl c_DEEPEST) (by rfl) (by rfl))) (by intro _;rfl))) (@pss_one _ _ _ ps_never) pss_nil) (@pss_cons _ _ _ _ _ (@ps_if _ _ _ _ _ _ _ _ (pt_cmpR op_gt (pcl HY IE (hr.mono (by lia)) rfl (@pa1 _ _ _ (pv 0) (by rfl))) (pe_gint rfl c_MOST_KINDS) (nomark _)) (@pss_one _ _ _ ps_never) pss_nil) (@pss_one _ _ _ (@ps_ret _ _ _ _ (pv 0))))),?_⟩;refine ⟨_,rfl,5,a0,c0,d,x,rfl,rfl,hd,pk,ha,fun H1 g1=>⟨_,rfl,bq ?_⟩⟩;refine ⟨_,rfl,a0,c0,d,x,ha,rfl,hd.same g1,pk,fun H2 g2=>⟨_,_,rfl,rfl,_,rfl,?_⟩⟩;rw [show decide ((40:Int) < (c0:Int))=false from decide_eq_false (by lia)];exact bq ⟨_,rfl,q H2 (g1.trans g2)⟩
def l6 (_:PySem.W.Frag) (_:Ads):Sp:=fun vs H Q _=>∃ i k:Int,vs=[.int i,.int k]∧∀ c:Int,0≤c→c < 2147483647→Q (.int c) H
def l7 (_:PySem.W.Frag) (_:Ads):Sp:=fun vs H Q _=>∃ (r:Addr) (n m:Int),vs=[.ref r,.int m]∧H r=some (.lst [.int n])∧0 < m∧m < 10000000000000000000000000000000000000000000000000000000000000∧Q (.int (n % m)) (upd H r (.lst [.int (n / m)]))
def ju (K:PySem.W.Frag) (_:Ads):Sp:=fun vs H Q _=>∃ (a:Addr) (ns:List Int) (k:Nat),vs=[.ref a,.int k]∧SqL K H a (ns.map V.int)∧ns.length≤63∧∀ c,Q (.int c) H
def pR (K:PySem.W.Frag) (_:Ads):Sp:=fun vs H Q _=>∃ (a:Addr) (ns:List Int) (k t:Nat),vs=[.ref a,.int k,.int t]∧SqL K H a (ns.map V.int)∧ns.length≤63∧k < 1000∧t < 5 ∧
 ∀ r n H',H r=none→Same H H'→H' r=some (.lst [.int n])→Q (.ref r) H'
theorem l8 (T:Tx K mg ad) {f:Addr} {fd:FuncData} (F:Gn K mg "_law_mixed" eZ ["cell","k"] f fd):FnOk P w K mg base CX0 1 f fd ["cell","k"] (l6 K ad):=by
 refine F.F.ok gN (fun vs H Q E h=>?_) (fun cdv A outer s H vs Q E hr h=>?_)
 ·obtain ⟨i,k,rfl,_⟩:=h
  rfl
 obtain ⟨i,k,rfl,q⟩:=h;refine ⟨_,(@pss_cons _ _ _ _ _ (@ps_set _ _ 2 _ _ _ _ gN.nd rfl (Or.inl rfl) (@pe_op _ _ _ _ _ _ _ _ dF (@pe_op _ _ _ _ _ _ _ _ ee (@pe_op _ _ _ _ _ _ _ _ aO (@pe_op _ _ _ _ _ _ _ _ aO (@pe_op _ _ _ _ _ _ _ _ dF (pv 0) pe_int) (@pe_op _ _ _ _ _ _ _ _ ee pe_int (pv 1))) pe_int) pe_int) pe_int) (by rfl) (by first | exact .inl rfl | exact .inr rfl | assumption)) (@pss_one _ _ _ (@ps_ret _ _ _ _ (@pe_op _ _ _ _ _ _ _ _ dF (@pe_op _ _ _ _ _ _ _ _ ee (@pe_op _ _ _ _ _ _ _ _ dF (@pe_op _ _ _ _ _ _ _ _ ee (pv 2) (pv 2)) pe_int) pe_int) pe_int)))),?_⟩;refine ⟨_,rfl,_,_,rfl,rfl,(by show (0:Int) < 1000000007;decide),_,rfl,_,_,rfl,rfl,.inl ⟨by decide,by decide⟩,_,_,rfl,rfl,_,_,rfl,rfl,_,_,rfl,rfl,.inr ⟨by decide,by decide⟩,_,_,rfl,rfl,(by show (0:Int) < 2147483647;decide),?_⟩;have b0:(0:Int)≤(i % 1000000007+7919*k+1)*48271 % 2147483647:=Int.emod_nonneg _ (by decide);have b1:(i % 1000000007+7919*k+1)*48271 % 2147483647 < 2147483647:=Int.emod_lt_of_pos _ (by decide);exact ⟨_,rfl,_,rfl,_,_,rfl,rfl,.inl ⟨by lia,by lia⟩,_,_,rfl,rfl,(by show (0:Int) < 2147483629;decide),_,_,rfl,rfl,.inr ⟨by decide,by decide⟩,_,_,rfl,rfl,(by show (0:Int) < 2147483647;decide),q _ (Int.emod_nonneg _ (by decide)) (Int.emod_lt_of_pos _ (by decide))⟩
theorem a8 (T:Tx K mg ad) {f:Addr} {fd:FuncData} (F:Gn K mg "_law_digit" e9 ["row","many"] f fd):FnOk P w K mg base CX0 1 f fd ["row","many"] (l7 K ad):=by
 refine F.F.ok gO (fun vs H Q E h=>?_) (fun cdv A outer s H vs Q E hr h=>?_)
 ·obtain ⟨r,n,m,rfl,_⟩:=h
  rfl
 obtain ⟨r,n,m,rfl,hr0,h0,h1,q⟩:=h;refine ⟨_,(@pss_cons _ _ _ _ _ (@ps_set _ _ 2 _ _ _ _ gO.nd rfl (Or.inl rfl) (@pe_op _ _ _ _ _ _ _ _ dF (@pe_ix _ _ _ _ _ _ _ (aU (K:=K) rfl) (pv 0) pe_int (fun _ _=>rfl)) (pv 1)) (by rfl) (by first | exact .inl rfl | exact .inr rfl | assumption)) (@pss_cons _ _ _ _ _ (sI (@pe_op _ _ _ _ _ _ _ _ jf (@pe_ix _ _ _ _ _ _ _ (aU (K:=K) rfl) (pv 0) pe_int (fun _ _=>rfl)) (pv 1)) (sH (pv 0) pe_int m9)) (@pss_one _ _ _ (@ps_ret _ _ _ _ (pv 2))))),?_⟩;have e0:atI [V.int n] 0=some (.int n):=rfl;exact ⟨_,rfl,r,_,_,_,rfl,rfl,SqL.of hr0,e0,_,rfl,_,_,rfl,rfl,h0,_,rfl,r,_,_,_,rfl,rfl,SqL.of hr0,e0,_,rfl,_,_,rfl,rfl,⟨h0,h1⟩,_,rfl,r,_,_,_,rfl,rfl,hr0,rfl,_,rfl,q⟩
theorem AA {α:Type} {xs:List α} {d:Int} (h0:0≤d) (h1:d < (xs.length:Int)):∃ v,v∈xs∧atI xs d=some v:=by
 have hk:d.toNat < xs.length:=by lia
 have ek:((d.toNat:Nat):Int)=d:=by lia
 have e:atI xs ((d.toNat:Nat):Int)=some xs[d.toNat]:=fm (by simp [hk]);rw [ek] at e;exact ⟨xs[d.toNat],List.getElem_mem hk,e⟩
theorem mod_lt (n:Int) {m:Int} (h:0 < m):0≤n % m∧n % m < m:=⟨Int.emod_nonneg _ (by lia),Int.emod_lt_of_pos _ h⟩
theorem jv (T:Tx K mg ad) {f:Addr} {fd:FuncData} (F:Gn K mg "_law_cell_at" dm ["script","k"] f fd):FnOk P w K mg base CX0 1 f fd ["script","k"] (ju K ad):=by
 refine F.F.ok jY (fun vs H Q E h=>?_) (fun cdv A outer s H vs Q E hr h=>?_)
 ·obtain ⟨a,ns,k,rfl,_⟩:=h
  rfl
 obtain ⟨a,ns,k,rfl,hS,h63,q⟩:=h;refine ⟨_,(@pss_cons _ _ _ _ _ (@ps_if _ _ _ _ _ _ _ _ (pt_cmpR ir (pv 1) (pe_callB (bh (K:=K) rfl) rfl T.z_len PySem.boot_len (@pa1 _ _ _ (pv 0) (by rfl))) (nomark _)) (@pss_one _ _ _ (@ps_ret _ _ _ _ (@pe_ix _ _ _ _ _ _ _ (aU (K:=K) rfl) (pv 0) (pv 1) (fun _ _=>rfl)))) pss_nil) (@pss_one _ _ _ (@ps_ret _ _ _ _ pe_int))),?_⟩;refine ⟨_,rfl,_,rfl,a,_,rfl,.inl hS,_,_,rfl,rfl,_,rfl,?_⟩;rw [List.length_map];refine aJ (fun c=>?_) (fun c=>?_)
 ·have c':(k:Int) < ns.length:=of_decide_eq_true c;obtain ⟨v,hv,e⟩:=AA (xs:=ns.map V.int) (d:=(k:Int)) (by lia) (by rw [List.length_map];exact c');obtain ⟨i,_,rfl⟩:=List.mem_map.mp hv;exact ⟨_,rfl,_,rfl,a,_,_,_,rfl,rfl,hS,e,q i⟩
 ·exact q 0
theorem AB {y:Int} (h0:0≤y) (h1:y < 2147483647 ^ 40):IntMulOk (y / 8) (10 ^ Int.toNat 60):=by
 refine IntMulOk.of_le (m:=1240) (n:=200) (intBits_le_iff.mpr ?_) (by decide +kernel) (by decide);have h2:(2147483647:Int) ^ 40≤((2 ^ 1240:Nat):Int):=by decide +kernel
 have h3:y / 8≤y:=Int.ediv_le_self _ h0;have h4:0≤y / 8:=by lia
 lia
theorem uq {y c:Int} {i:Nat} (h0:0≤y) (h1:y < 2147483647 ^ i) (c0:0≤c) (c1:c < 2147483647):0≤y*2147483647+c∧y*2147483647+c < 2147483647 ^ (i+1):=by
 have e:(2147483647:Int) ^ (i+1)=2147483647 ^ i*2147483647:=Int.pow_succ _ _;rw [e]
 generalize (2147483647:Int) ^ i=b at *
 lia
theorem pS (T:Tx K mg ad) {f:Addr} {fd:FuncData} (F:Gn K mg "_law_own" ip ["script","k","turn"] f fd):FnOk P w K mg base CX0 2 f fd ["script","k","turn"] (pR K ad):=by
 obtain ⟨_,_,IH⟩:=T.law_cell_at;have Jj:=jv (P:=P) (w:=w) (base:=base) T IH;obtain ⟨_,_,IT⟩:=T.law_mixed;have Jz:=l8 (P:=P) (w:=w) (base:=base) T IT;refine F.F.ok cS (fun vs H Q E h=>?_) (fun cdv A outer s H vs Q E hr h=>?_)
 ·obtain ⟨a,ns,k,t,rfl,_⟩:=h
  rfl
 obtain ⟨a,ns,k,t,rfl,hS,h63,hk,ht,q⟩:=h;refine ⟨_,(@pss_cons _ _ _ _ _ (@ps_set _ _ 3 _ _ _ _ cS.nd rfl (Or.inl rfl) (pcl IH Jj (hr.mono (by lia)) rfl (@pa2 _ _ _ _ _ (pv 0) (pv 1) (by rfl) (by rfl))) (by rfl) (by first | exact .inl rfl | exact .inr rfl | assumption)) (@pss_cons _ _ _ _ _ (@ps_set _ _ 4 _ _ _ _ cS.nd rfl (Or.inl rfl) pe_int (by rfl) (by first | exact .inl rfl | exact .inr rfl | assumption)) (@pss_cons _ _ _ _ _ (cC PassesOwn.never rfl (cz rfl T.z_range (@pa1 _ _ _ pe_int (by rfl))) (ak (i:=5) cS.nd rfl (Or.inl rfl))
    (@pss_one _ _ _ (@ps_set _ _ 4 _ _ _ _ cS.nd rfl (Or.inl rfl) (@pe_op _ _ _ _ _ _ _ _ aO (@pe_op _ _ _ _ _ _ _ _ ee (pv 4) pe_int) (pcl IT Jz (hr.mono (by lia)) rfl (@pa2 _ _ _ _ _ (@pe_op _ _ _ _ _ _ _ _ aO (@pe_op _ _ _ _ _ _ _ _ aO (@pe_op _ _ _ _ _ _ _ _ dF (pe_callB ny rfl T.z_sum boot_sum (@pa1 _ _ _ (pv 0) (by rfl))) (@pe_op _ _ _ _ _ _ _ _ op_pow pe_int pe_int)) (pv 3)) (pv 1)) (@pe_op _ _ _ _ _ _ _ _ aO (@pe_op _ _ _ _ _ _ _ _ aO (@pe_op _ _ _ _ _ _ _ _ ee pe_int (pv 1)) (@pe_op _ _ _ _ _ _ _ _ ee pe_int (pv 2))) (pv 5)) (by rfl) (by rfl)))) (by rfl) (by first | exact .inl rfl | exact .inr rfl | assumption)))) (@pss_cons _ _ _ _ _ (@ps_if _ _ _ _ _ _ _ _ (PW.pt (@pw_and _ _ _ _ _ _ _ (pt_cmpR FV (pv 3) (@pe_op _ _ _ _ _ _ _ _ op_pow pe_int pe_int) (nomark _)) (@pw_and1 _ _ _ _ (pt_cmpR op_eq (pv 2) pe_int (nomark _))))) (@pss_one _ _ _ (@ps_ret _ _ _ _ (@aG _ _ _ _ (@pa1 _ _ _ (@pe_op _ _ _ _ _ _ _ _ aO (@pe_op _ _ _ _ _ _ _ _ dF (pv 3) (@pe_op _ _ _ _ _ _ _ _ op_pow pe_int pe_int)) (@pe_op _ _ _ _ _ _ _ _ qv (@pe_op _ _ _ _ _ _ _ _ jf (pv 4) pe_int) (@pe_op _ _ _ _ _ _ _ _ op_pow pe_int pe_int))) (by rfl))))) pss_nil) (@pss_one _ _ _ (@ps_ret _ _ _ _ (@aG _ _ _ _ (@pa1 _ _ _ (@pe_op _ _ _ _ _ _ _ _ jf (pv 4) pe_int) (by rfl))))))))),?_⟩
 refine ⟨_,rfl,_,rfl,a,ns,k,rfl,hS,h63,fun x=>?_⟩;refine ⟨40,rfl,by decide,by decide,gQ (lo:=0) (n:=(40:Int).toNat) (fun i σ H1=>H1=H∧∃ y v,(0≤y∧y < 2147483647 ^ i)∧σ=[some (.ref a),some (.int k),some (.int t),some (.int x),some (.int y),v]) ⟨rfl,0,_,⟨Int.le_refl _,by decide⟩,rfl⟩ ?_ ?_⟩
 ·rintro i σ H1 hi ⟨rfl,y,v,⟨y0,y1⟩,rfl⟩;refine ⟨_,rfl,_,_,rfl,rfl,.inr ⟨by decide,by decide⟩,?_⟩;refine ⟨_,rfl,a,ns,rfl,rfl,hS,_,_,rfl,rfl,⟨by decide,by decide,by decide⟩,_,_,rfl,rfl,(by show (0:Int) < 10 ^ (60:Int).toNat;decide +kernel),?_⟩;refine ⟨_,rfl,_,_,rfl,rfl,_,rfl,_,_,rfl,rfl,?_⟩;refine ⟨_,rfl,_,_,rfl,rfl,.inl ⟨by decide,by decide⟩,_,rfl,_,_,rfl,rfl,.inl ⟨by decide,by decide⟩,?_⟩;refine ⟨_,_,rfl,rfl,_,rfl,_,_,rfl,rfl,_,_,rfl,fun m m0 m1=>?_⟩;exact ⟨_,_,rfl,rfl,rfl,_,_,uq y0 y1 m0 m1,rfl⟩
 ·rintro σ H1 ⟨rfl,y,v,⟨y0,y1⟩,rfl⟩;refine ⟨_,rfl,_,_,rfl,rfl,⟨by decide,by decide,by decide⟩,_,_,rfl,rfl,_,rfl,?_⟩;refine aJ (fun c1=>?_) (fun c1=>?_)
  ·refine ⟨_,rfl,rfl,_,rfl,aJ (fun c2=>?_) (fun c2=>?_)⟩
   ·refine ⟨_,rfl,_,_,rfl,rfl,⟨by decide,by decide,by decide⟩,_,_,rfl,rfl,(by show (0:Int) < 10 ^ (60:Int).toNat;decide +kernel),?_⟩;refine ⟨_,rfl,_,_,rfl,rfl,⟨by decide,by decide⟩,_,_,rfl,rfl,⟨by decide,by decide,by decide⟩,?_⟩;refine ⟨_,_,rfl,rfl,AB y0 y1,_,_,rfl,rfl,sz1,fun r hr'=>q r _ _ hr' (ah hr' _) aa⟩
   ·exact ⟨_,rfl,_,_,rfl,rfl,⟨by decide,by decide⟩,sz1,fun r hr'=>q r _ _ hr' (ah hr' _) aa⟩
  ·exact ⟨_,rfl,_,_,rfl,rfl,⟨by decide,by decide⟩,sz1,fun r hr'=>q r _ _ hr' (ah hr' _) aa⟩
structure Nam (m:Nat) (ss:List Str):Prop where
 len:ss.length=m
 asc:ss.Pairwise ltS
 ok:∀ z∈ss,aE z=true∧z≠ "noneone"
theorem ur {a b:Str} (h:¬ ltS b a) (n:a≠b):ltS a b:=by
 by_cases c:ltS a b
 ·exact c
 ·refine absurd ?_ n;have e:a.cps.toList=b.cps.toList:=List.le_antisymm (List.not_lt.mp h) (List.not_lt.mp c)
  cases a
  cases b
  simp only at e;rw [Array.toList_inj.mp e]
theorem kN:∀ (l:List Str) (p:Str),risingS p l=true→(p :: l).Nodup→(p :: l).Pairwise ltS
 | [],p,_,_=>List.pairwise_singleton _ _
 | x :: l,p,h,nd=>by
  simp only [risingS,ltCps_eq,Bool.and_eq_true,Bool.not_eq_true',decide_eq_false_iff_not] at h;have nd':=List.nodup_cons.mp nd;have ih:=kN l x h.2 nd'.2;have px:ltS p x:=ur h.1 fun e=>nd'.1 (e ▸ List.mem_cons_self);refine List.pairwise_cons.mpr ⟨fun y hy=>?_,ih⟩;rcases List.mem_cons.mp hy with rfl | hy
  ·exact px
  ·exact List.lt_trans px ((List.pairwise_cons.mp ih).1 y hy)
theorem rV {l:List Str} (h:sortedS l=true) (nd:l.Nodup):l.Pairwise ltS:=by
 cases l with
 | nil=>exact .nil
 | cons x l=>exact kN l x h nd
theorem jw {ss l:List Str} (hp:ss.Perm l) (hs:sortedS ss=true) (nd:l.Nodup) (ok:∀ z∈l,aE z=true∧z≠ "noneone"):Nam l.length ss :=
 ⟨hp.length_eq,rV hs (hp.nodup_iff.mpr nd),fun z hz=>ok z (hp.mem_iff.mp hz)⟩
def f1 (k:Nat):Str:=Txt.slice "abcdefgh" none (some (0+(k:Int)+1))
theorem Gy:∀ m,m < 9→((List.range m).map f1).Pairwise ltS∧∀ z∈(List.range m).map f1,aE z=true∧z≠ "noneone" :=by decide +kernel
def words8:List Str:=["eac","eachx","list","lists","number","rows","text","words"]
def f2 (b k:Nat):Str:=words8.getD ((b+k) % 8) ""
theorem Gz:∀ b,b < 26→((List.range 8).map (f2 b)).Nodup∧∀ z∈(List.range 8).map (f2 b),aE z=true∧z≠ "noneone" :=by decide +kernel
def tails:List Str:=["","a","zz","eachone"]
def f3 (b:Nat) (t:Str) (k:Nat):Str:=⟨#[letters.cps.toList.getD ((b+7*k) % 26) 0]⟩++t
theorem GA:∀ b,b < 26→∀ t∈tails,((List.range 8).map (f3 b t)).Nodup∧∀ z∈(List.range 8).map (f3 b t),aE z=true∧z≠ "noneone" :=by decide +kernel
theorem ww {f:Nat→Str} {m:Nat} (hm:m≤8) (h:((List.range 8).map f).Nodup∧∀ z∈(List.range 8).map f,aE z=true∧z≠ "noneone"):((List.range m).map f).Nodup∧∀ z∈(List.range m).map f,aE z=true∧z≠ "noneone" :=by
 have s:((List.range m).map f).Sublist ((List.range 8).map f):=(List.range_sublist.mpr hm).map f;exact ⟨s.nodup h.1,fun z hz=>h.2 z (s.subset hz)⟩
def l9 (K:PySem.W.Frag) (_:Ads):Sp:=fun vs H Q _=>∃ (r:Addr) (c:Int) (m:Nat),vs=[.ref r,.int m]∧H r=some (.lst [.int c])∧m≤8 ∧
 ∀ p ss c' H',But r H H'→H p=none→H' r=some (.lst [.int c'])→H' p=some (.lst (ss.map V.str))→Nam m ss→Q (.ref p) H'
theorem ma {α:Type} {l:List α} {n:Nat} {e:α} (h:n < l.length):l.getD n e=l[n]:=by simp [List.getD,h]
theorem qG {α:Type} (f:α→V) (ws:List α) (d:Int) (e:α) (h0:0≤d) (h1:d < (ws.length:Int)):atI (ws.map f) d=some (f (ws.getD d.toNat e)):=by
 have hk:d.toNat < ws.length:=by lia
 have ek:((d.toNat:Nat):Int)=d:=by lia
 have e':atI (ws.map f) ((d.toNat:Nat):Int)=some (f ws[d.toNat]):=fm (by simp [hk]);rw [ek] at e';rw [e',ma hk]
theorem fN (f:Nat→Str) (i:Nat):((List.range i).map f).map V.str++[V.str (f i)]=((List.range (i+1)).map f).map V.str:=by simp [List.range_succ]
theorem g9 (f:Nat→Str) {i:Nat} (h:i≤8):(((List.range i).map f).map V.str).length < sizeLine:=by rw [List.length_map,List.length_map,List.length_range];exact aw (by lia)
theorem fu {r l:Addr} {o:HO} {H H':Hp} (b:But r H H') (hl:H l=none):But r H (upd H' l o):=fun x u n e=>by rw [ae (ag e hl)];exact b x u n e
theorem GB {b k:Nat}:atI (words8.map V.str) (((b:Int)+(0+(k:Int))) % 8)=some (.str (f2 b k)):=by
 obtain ⟨h0,h1⟩:=mod_lt ((b:Int)+(0+(k:Int))) (m:=8) (by decide);rw [qG V.str words8 _ "" h0 h1,show (((b:Int)+(0+(k:Int))) % 8).toNat=(b+k) % 8 by lia]
 rfl
theorem GC {b k:Nat}:atI letters.cps.toList (((b:Int)+7*(0+(k:Int))) % 26)=some (letters.cps.toList.getD ((b+7*k) % 26) 0):=by
 obtain ⟨h0,h1⟩:=mod_lt ((b:Int)+7*(0+(k:Int))) (m:=26) (by decide);have hk:(b+7*k) % 26 < letters.cps.toList.length:=by
  rw [show letters.cps.toList.length=26 by decide +kernel];lia
 have ek:(((b+7*k) % 26:Nat):Int)=((b:Int)+7*(0+(k:Int))) % 26:=by lia
 have e':atI letters.cps.toList ((((b+7*k) % 26:Nat)):Int)=some letters.cps.toList[(b+7*k) % 26]:=fm (by simp [hk]);rw [ek] at e';rw [e',ma hk]
theorem dO (T:Tx K mg ad) {f:Addr} {fd:FuncData} (F:Gn K mg "_law_names" ck ["row","many"] f fd):FnOk P w K mg base CX0 2 f fd ["row","many"] (l9 K ad):=by
 obtain ⟨_,_,Hm⟩:=T.law_digit;have Hn:=a8 (P:=P) (w:=w) (base:=base) T Hm;refine F.F.ok bR (fun vs H Q E h=>?_) (fun cdv A outer s H vs Q E hr h=>?_)
 ·obtain ⟨r,c,m,rfl,_⟩:=h
  rfl
 obtain ⟨r,c,m,rfl,hr0,hm,q⟩:=h;refine ⟨_,(@pss_cons _ _ _ _ _ (@ps_set _ _ 2 _ _ _ _ bR.nd rfl (Or.inr rfl) (pcl Hm Hn (hr.mono (by lia)) rfl (@pa2 _ _ _ _ _ (pv 0) pe_int (by rfl) (by rfl))) (by rfl) (by first | exact .inl rfl | exact .inr rfl | assumption)) (@pss_cons _ _ _ _ _ (@ps_set _ _ 3 _ _ _ _ bR.nd rfl (Or.inr rfl) (@pe_ix _ _ _ _ _ _ _ (aU (K:=K) rfl) (@aG _ _ _ _ (@bo _ _ _ _ _ pe_str (@pa3 _ _ _ _ _ _ _ pe_str pe_str pe_str (by rfl) (by rfl) (by rfl)) (by rfl))) (pcl Hm Hn (hr.mono (by lia)) rfl (@pa2 _ _ _ _ _ (pv 0) pe_int (by rfl) (by rfl))) (fun _ _=>rfl)) (by rfl) (by first | exact .inl rfl | exact .inr rfl | assumption)) (@pss_cons _ _ _ _ _ (@ps_set _ _ 4 _ _ _ _ bR.nd rfl (Or.inl rfl) (pcl Hm Hn (hr.mono (by lia)) rfl (@pa2 _ _ _ _ _ (pv 0) pe_int (by rfl) (by rfl))) (by rfl) (by first | exact .inl rfl | exact .inr rfl | assumption)) (@pss_cons _ _ _ _ _ (@ps_if _ _ _ _ _ _ _ _ (pt_cmpR op_eq (pv 4) pe_int (nomark _)) (@pss_one _ _ _ (@ps_ret _ _ _ _ (pe_comp rfl (cs0 (NL:=["k"]) rfl (by decide +kernel) (by decide +kernel)) (cz rfl T.z_range (@pa1 _ _ _ (pv 1) (by rfl))) (fun _ _ _ _=>(ak (i:=0) (show List.Nodup (α:=Str) ["k"] by decide +kernel) rfl (Or.inl rfl))) (fun _ _ _ _=>(pe_slice sl_str pe_str cw (po_some (@pe_op _ _ _ _ _ _ _ _ aO (pv 0) pe_int))))))) pss_nil) (@pss_cons _ _ _ _ _ (@ps_if _ _ _ _ _ _ _ _ (pt_cmpR op_eq (pv 4) pe_int (nomark _)) (@pss_cons _ _ _ _ _ (@ps_set _ _ 5 _ _ _ _ bR.nd rfl (Or.inr rfl) (@aG _ _ _ _ (@bo _ _ _ _ _ pe_str (@bo _ _ _ _ _ pe_str (@bo _ _ _ _ _ pe_str (@bo _ _ _ _ _ pe_str (@bo _ _ _ _ _ pe_str (@pa3 _ _ _ _ _ _ _ pe_str pe_str pe_str (by rfl) (by rfl) (by rfl)) (by rfl)) (by rfl)) (by rfl)) (by rfl)) (by rfl))) (by rfl) (by first | exact .inl rfl | exact .inr rfl | assumption)) (@pss_one _ _ _ (@ps_ret _ _ _ _ (pe_callB (iC (K:=K) rfl) rfl T.z_sorted boot_sorted (@pa1 _ _ _ (pe_comp rfl (csR (sc:=ac ck) (NL:=["k"]) (N:=["row","many","base","tail","way","words"]) (ρ:=[2,5]) (N':=["k","base","words"]) rfl rfl rfl (by decide +kernel) (by decide +kernel) (by decide +kernel) rfl (by decide +kernel)) (cz rfl T.z_range (@pa1 _ _ _ (pv 1) (by rfl))) (fun _ _ _ _=>(ak (i:=0) (show List.Nodup (α:=Str) ["k","base","words"] by decide +kernel) rfl (Or.inl rfl))) (fun _ _ _ _=>(@pe_ix _ _ _ _ _ _ _ (aU (K:=K) rfl) (pv 2) (@pe_op _ _ _ _ _ _ _ _ dF (@pe_op _ _ _ _ _ _ _ _ aO (pv 1) (pv 0)) pe_int) (fun _ _=>rfl)))) (by rfl)))))) pss_nil) (@pss_one _ _ _ (@ps_ret _ _ _ _ (pe_callB (iC (K:=K) rfl) rfl T.z_sorted boot_sorted (@pa1 _ _ _ (pe_comp rfl (csR (sc:=ac ck) (NL:=["k"]) (N:=["row","many","base","tail","way","words"]) (ρ:=[2,3]) (N':=["k","base","tail"]) rfl rfl rfl (by decide +kernel) (by decide +kernel) (by decide +kernel) rfl (by decide +kernel)) (cz rfl T.z_range (@pa1 _ _ _ (pv 1) (by rfl))) (fun _ _ _ _=>(ak (i:=0) (show List.Nodup (α:=Str) ["k","base","tail"] by decide +kernel) rfl (Or.inl rfl))) (fun _ _ _ _=>(@pe_op _ _ _ _ _ _ _ _ aH (@pe_ix _ _ _ _ _ _ _ ix_str pe_str (@pe_op _ _ _ _ _ _ _ _ dF (@pe_op _ _ _ _ _ _ _ _ aO (pv 1) (@pe_op _ _ _ _ _ _ _ _ ee pe_int (pv 0))) pe_int) (fun _ _=>rfl)) (pv 2)))) (by rfl)))))))))),?_⟩;refine ⟨_,rfl,r,c,26,rfl,hr0,by decide,by decide,?_⟩;obtain ⟨b0,b1⟩:=mod_lt c (m:=26) (by decide);obtain ⟨b,hb⟩:∃ b:Nat,((b:Nat):Int)=c % 26:=⟨(c % 26).toNat,by lia⟩;have b26:b < 26:=by lia
 rw [← hb];refine ⟨(by show 4≤sizeLine;decide),fun pl hpl=>?_⟩;have hrp:r≠pl:=fun e=>by rw [← e,aa] at hpl;cases hpl
 have hplH:H pl=none:=by rw [ae hrp.symm] at hpl;exact hpl
 refine ⟨_,rfl,r,c / 26,4,rfl,by rw [ae hrp];exact aa,by decide,by decide,?_⟩;obtain ⟨t0,t1⟩:=mod_lt (c / 26) (m:=4) (by decide);refine ⟨pl,_,_,_,rfl,rfl,SqL.of (by rw [ae hrp.symm];exact aa),qG V.str tails _ "" t0 t1,?_⟩;have ht:tails.getD (c / 26 % 4).toNat "" ∈tails:=by
  rw [ma (show (c / 26 % 4).toNat < tails.length by show _ < 4;lia)];exact List.getElem_mem _
 generalize tails.getD (c / 26 % 4).toNat "" = t at ht
 refine ⟨_,rfl,r,c / 26 / 4,5,rfl,aa,by decide,by decide,?_⟩;have B1:=(((But.put (H:=H) (r:=r) (o:=.lst [.int (c / 26)])).trans (But.same (ah hpl (.lst [.str "",.str "a",.str "zz",.str "eachone"])))).trans (But.put (o:=.lst [.int (c / 26 / 4)]))).trans (But.put (o:=.lst [.int (c / 26 / 4 / 5)]));have r1:(upd (upd (upd (upd H r (.lst [.int (c / 26)])) pl (.lst [.str "",.str "a",.str "zz",.str "eachone"])) r (.lst [.int (c / 26 / 4)])) r (.lst [.int (c / 26 / 4 / 5)])) r=some (.lst [.int (c / 26 / 4 / 5)]):=aa;have mN:((m:Nat):Int).toNat=m:=Int.toNat_natCast m;have free:∀ {l:Addr} {Hx:Hp},But r H Hx→r≠l→Hx l=none→H l=none:=fun {l Hx} B n e=>by
  cases e':H l with
  | none=>rfl
  | some o=>rw [B l o n.symm e'] at e;cases e
 refine ⟨_,rfl,rfl,_,rfl,aJ (fun c1=>?_) (fun c1=>?_)⟩
 ·refine ⟨_,rfl,(m:Int),rfl,by lia,by lia,fun l hln=>?_⟩;rw [mN];have lr:r≠l:=ag r1 hln;have lH:H l=none:=free B1 lr hln;refine eB (fun i ys σ H'=>i≤8∧ys=((List.range i).map f1).map V.str∧But r H H'∧H' r=some (.lst [.int (c / 26 / 4 / 5)])∧H' l=some (.lst ys)∧σ.length=1) ⟨Nat.zero_le _,rfl,B1.trans (But.same (ah hln _)),(by rw [ae lr];exact r1),aa,rfl⟩ ?_ ?_
  ·rintro i ys σ H' N hi ⟨h8,rfl,B2,r2,l2,hσ⟩ next
   match σ,hσ with
   | [_],_ =>
    exact ⟨_,rfl,_,_,rfl,rfl,_,rfl,_,rfl,(by decide),l2,g9 f1 (by lia),next _ _ _ ⟨by lia,fN f1 i,fu B2 lH,(by rw [ae lr];exact r2),aa,rfl⟩⟩
  ·rintro ys σ H' ⟨h8,rfl,B2,r2,l2,hσ⟩;obtain ⟨u1,u2⟩:=Gy m (by lia);exact q l _ _ _ B2 lH r2 l2 ⟨by rw [List.length_map,List.length_range],u1,u2⟩
 refine ⟨_,rfl,rfl,_,rfl,aJ (fun c2=>?_) (fun c2=>?_)⟩
 ·refine ⟨(by show 8≤sizeLine;decide),fun pw hpw=>?_⟩;have wr:r≠pw:=ag r1 hpw;have wH:H pw=none:=free B1 wr hpw;refine ⟨_,rfl,(m:Int),rfl,by lia,by lia,fun l hln=>?_⟩;rw [mN];have r2:=(ah hpw (.lst (words8.map V.str))) _ _ r1;have lr:r≠l:=ag r2 hln;have lw:pw≠l:=ag (aa (o:=.lst (words8.map V.str))) hln;have lH:H l=none:=free (B1.trans (But.same (ah hpw _))) lr hln;refine eB (fun i ys σ H'=>i≤8∧ys=((List.range i).map (f2 b)).map V.str∧But r H H'∧H' r=some (.lst [.int (c / 26 / 4 / 5)])∧H' l=some (.lst ys)∧H' pw=some (.lst (words8.map V.str))∧∃ v,σ=[v,some (.int b),some (.ref pw)]) ⟨Nat.zero_le _,rfl,(B1.trans (But.same (ah hpw _))).trans (But.same (ah hln _)),(by rw [ae lr];exact r2),aa,(by rw [ae lw];exact aa),_,rfl⟩ ?_ ?_
  ·rintro i ys σ H' N hi ⟨h8,rfl,B2,r2,l2,w2,v,rfl⟩ next;exact ⟨_,rfl,_,rfl,_,rfl,_,_,rfl,rfl,_,_,rfl,rfl,(show (0:Int) < 8 by decide),pw,_,_,_,rfl,rfl,SqL.of w2,GB,l2,g9 (f2 b) (by lia),next _ _ _ ⟨by lia,fN (f2 b) i,fu B2 lH,(by rw [ae lr];exact r2),aa,(by rw [ae lw];exact w2),_,rfl⟩⟩
  ·rintro ys σ H' ⟨h8,rfl,B2,r2,l2,w2,v,rfl⟩;obtain ⟨u1,u2⟩:=ww hm (Gz b b26);refine ⟨l,_,rfl,SqL.of l2,by rw [List.length_map,List.length_range];lia,fun a ss' ha hp hs=>?_⟩;have ar:r≠a:=ag r2 ha;have n:=jw hp hs u1 u2;rw [List.length_map,List.length_range] at n;exact q a ss' _ _ (B2.trans (But.same (ah ha _))) (free B2 ar ha) (by rw [ae ar];exact r2) aa n
 ·refine ⟨_,rfl,(m:Int),rfl,by lia,by lia,fun l hln=>?_⟩;rw [mN];have lr:r≠l:=ag r1 hln;have lH:H l=none:=free B1 lr hln;refine eB (fun i ys σ H'=>i≤8∧ys=((List.range i).map (f3 b t)).map V.str∧But r H H'∧H' r=some (.lst [.int (c / 26 / 4 / 5)])∧H' l=some (.lst ys)∧∃ v,σ=[v,some (.int b),some (.str t)]) ⟨Nat.zero_le _,rfl,B1.trans (But.same (ah hln _)),(by rw [ae lr];exact r1),aa,_,rfl⟩ ?_ ?_
  ·rintro i ys σ H' N hi ⟨h8,rfl,B2,r2,l2,v,rfl⟩ next;have tl:t.length≤10:=(show ∀ t∈tails,t.length≤10 by decide +kernel) t ht;exact ⟨_,rfl,_,rfl,_,_,rfl,rfl,.inl ⟨by decide,by decide⟩,_,_,rfl,rfl,_,_,rfl,rfl,(show (0:Int) < 26 by decide),_,_,_,rfl,rfl,(by decide),GC,_,rfl,_,_,rfl,rfl,ug (by show 1+t.length≤1000;lia),l2,g9 (f3 b t) (by lia),next _ _ _ ⟨by lia,fN (f3 b t) i,fu B2 lH,(by rw [ae lr];exact r2),aa,_,rfl⟩⟩
  ·rintro ys σ H' ⟨h8,rfl,B2,r2,l2,v,rfl⟩;obtain ⟨u1,u2⟩:=ww hm (GA b b26 t ht);refine ⟨l,_,rfl,SqL.of l2,by rw [List.length_map,List.length_range];lia,fun a ss' ha hp hs=>?_⟩;have ar:r≠a:=ag r2 ha;have n:=jw hp hs u1 u2;rw [List.length_map,List.length_range] at n;exact q a ss' _ _ (B2.trans (But.same (ah ha _))) (free B2 ar ha) (by rw [ae ar];exact r2) aa n
def Hh (K:PySem.W.Frag) (r:Addr) (H:Hp) (Q:VK):Prop:=∀ v (i j n':Int) H',But r H H'→H' r=some (.lst [.int n'])→IsP K H' (.tup [.str "number",.int i,.int j]) v→FK 1 1 (.tup [.str "number",.int i,.int j])→Q v H'
def fP (K:PySem.W.Frag) (_:Ads):Sp:=fun vs H Q _=>∃ (r:Addr) (c:Int),vs=[.ref r]∧H r=some (.lst [.int c])∧Hh K r H Q
theorem p30:(10:Int) ^ (30:Int).toNat=1000000000000000000000000000000:=by decide +kernel
theorem p29:(10:Int) ^ (29:Int).toNat=100000000000000000000000000000:=by decide +kernel
theorem wx {ns:List Int} {d:Int} (h0:0≤d) (h1:d < (ns.length:Int)):∃ i:Int,i∈ns∧atI (ns.map V.int) d=some (.int i):=by
 obtain ⟨v,hv,e⟩:=AA (xs:=ns.map V.int) h0 (by rw [List.length_map];exact h1);obtain ⟨i,hi,rfl⟩:=List.mem_map.mp hv;exact ⟨i,hi,e⟩
theorem GD (a b:Int) (k:Bool):∃ i:Int,(i=a∨i=b)∧atI [V.int a,V.int b] (if k=true then 1 else 0)=some (.int i):=by
 cases k with
 | true=>exact ⟨b,.inr rfl,rfl⟩
 | false=>exact ⟨a,.inl rfl,rfl⟩
theorem cE (T:Tx K mg ad) {f:Addr} {fd:FuncData} (F:Gn K mg "_law_number_kind" bQ ["row"] f fd):FnOk P w K mg base CX0 2 f fd ["row"] (fP K ad):=by
 obtain ⟨_,_,Hm⟩:=T.law_digit;have Hn:=a8 (P:=P) (w:=w) (base:=base) T Hm;refine F.F.ok bJ (fun vs H Q E h=>?_) (fun cdv A outer s H vs Q E hr h=>?_)
 ·obtain ⟨r,c,rfl,_⟩:=h
  rfl
 obtain ⟨r,c,rfl,hr0,q⟩:=h;refine ⟨_,(@pss_cons _ _ _ _ _ (@ps_set _ _ 1 _ _ _ _ bJ.nd rfl (Or.inl rfl) (@pe_ix _ _ _ _ _ _ _ (aU (K:=K) rfl) (@aG _ _ _ _ (@pa2 _ _ _ _ _ (@pe_op _ _ _ _ _ _ _ _ op_sub (pcl Hm Hn (hr.mono (by lia)) rfl (@pa2 _ _ _ _ _ (pv 0) pe_int (by rfl) (by rfl))) pe_int) (@pe_op _ _ _ _ _ _ _ _ op_sub (pcl Hm Hn (hr.mono (by lia)) rfl (@pa2 _ _ _ _ _ (pv 0) (@pe_op _ _ _ _ _ _ _ _ aO (@pe_op _ _ _ _ _ _ _ _ qv pe_int (@pe_op _ _ _ _ _ _ _ _ op_pow pe_int pe_int)) pe_int) (by rfl) (by rfl))) (@pe_op _ _ _ _ _ _ _ _ op_pow pe_int pe_int)) (by rfl) (by rfl))) (pe_callTy kt rfl T.z_int boot_int (@pa1 _ _ _ (pe_cmpR op_eq (pcl Hm Hn (hr.mono (by lia)) rfl (@pa2 _ _ _ _ _ (pv 0) pe_int (by rfl) (by rfl))) pe_int (nomark _)) (by rfl))) (fun _ _=>rfl)) (by rfl) (by first | exact .inl rfl | exact .inr rfl | assumption)) (@pss_cons _ _ _ _ _ (@ps_set _ _ 2 _ _ _ _ bJ.nd rfl (Or.inl rfl) (pe_callB (kr rfl) rfl T.z_min boot_min (@pa2 _ _ _ _ _ (@pe_op _ _ _ _ _ _ _ _ op_pow pe_int pe_int) (@pe_op _ _ _ _ _ _ _ _ aO (pv 1) (@pe_ix _ _ _ _ _ _ _ (aU (K:=K) rfl) (@aG _ _ _ _ (@pa3 _ _ _ _ _ _ _ (pcl Hm Hn (hr.mono (by lia)) rfl (@pa2 _ _ _ _ _ (pv 0) pe_int (by rfl) (by rfl))) (@pe_op _ _ _ _ _ _ _ _ op_pow pe_int pe_int) (pcl Hm Hn (hr.mono (by lia)) rfl (@pa2 _ _ _ _ _ (pv 0) pe_int (by rfl) (by rfl))) (by rfl) (by rfl) (by rfl))) (pcl Hm Hn (hr.mono (by lia)) rfl (@pa2 _ _ _ _ _ (pv 0) pe_int (by rfl) (by rfl))) (fun _ _=>rfl))) (by rfl) (by rfl))) (by rfl) (by first | exact .inl rfl | exact .inr rfl | assumption)) (@pss_one _ _ _ (@ps_ret _ _ _ _ (@pe_tupPK _ K _ _ _ _ rfl (@pa3 _ _ _ _ _ _ _ pe_str (pv 1) (pv 2) (by rfl) (by rfl) (by rfl))))))),?_⟩;refine ⟨_,rfl,r,c,12,rfl,hr0,by decide,by decide,_,_,rfl,rfl,?_⟩;obtain ⟨a0,a1⟩:=mod_lt c (m:=12) (by decide);refine ⟨_,rfl,_,_,rfl,rfl,⟨by decide,by decide,by decide⟩,?_⟩;have m30:(0:Int) < 2*10 ^ (30:Int).toNat+1:=by rw [p30];decide
 refine ⟨_,_,rfl,rfl,mulOk_of_bits (m:=2) (n:=100) (by decide +kernel) (by decide +kernel) (by decide),_,_,rfl,rfl,r,c / 12,2*10 ^ (30:Int).toNat+1,rfl,aa,m30,by rw [p30];decide,?_⟩;obtain ⟨d0,d1⟩:=mod_lt (c / 12) m30;refine ⟨_,_,rfl,rfl,⟨by decide,by decide,by decide⟩,_,_,rfl,rfl,sz2,fun p hp=>?_⟩;have hrp:r≠p:=fun e=>by rw [← e,aa] at hp;cases hp
 obtain ⟨low,hlow,elow⟩:=GD (c % 12 - 6) (c / 12 % (2*10 ^ (30:Int).toNat+1) - 10 ^ (30:Int).toNat) (decide (V.int (c / 12 / (2*10 ^ (30:Int).toNat+1) % 4)=V.int 1));have l0:-1000000000000000000000000000000≤low:=by
  rw [p30] at hlow d0 d1;rcases hlow with h | h <;> lia
 have l1:low≤1000000000000000000000000000000:=by
  rw [p30] at hlow d0 d1;rcases hlow with h | h <;> lia
 refine ⟨_,rfl,r,c / 12 / (2*10 ^ (30:Int).toNat+1),4,rfl,(by rw [ae hrp];exact aa),by decide,by decide,rfl,.inr ⟨_,rfl,p,_,_,_,rfl,rfl,SqL.of (by rw [ae hrp.symm];exact aa),elow,?_⟩⟩;have B1:=(((But.put (H:=H) (r:=r) (o:=.lst [.int (c / 12)])).trans (But.put (o:=.lst [.int (c / 12 / (2*10 ^ (30:Int).toNat+1))]))).trans (But.same (ah hp (.lst [.int (c % 12 - 6),.int (c / 12 % (2*10 ^ (30:Int).toNat+1) - 10 ^ (30:Int).toNat)])))).trans (But.put (o:=.lst [.int (c / 12 / (2*10 ^ (30:Int).toNat+1) / 4)]))
 generalize hc2:c / 12 / (2*10 ^ (30:Int).toNat+1) / 4=c2 at B1
 refine ⟨_,_,rfl,rfl,⟨by decide,by decide,by decide⟩,_,rfl,_,rfl,r,c2,9,rfl,hc2 ▸ aa,by decide,by decide,_,_,rfl,rfl,⟨by decide,by decide,by decide⟩,_,rfl,r,c2 / 9,2,rfl,aa,by decide,by decide,sz3,fun p2 hp2=>?_⟩;have hrp2:r≠p2:=fun e=>by rw [← e,aa] at hp2;cases hp2
 obtain ⟨e0,e1⟩:=mod_lt (c2 / 9 / 2) (m:=3) (by decide);obtain ⟨x,hx,ex⟩:=wx (ns:=[c2 % 9,10 ^ (29:Int).toNat,c2 / 9 % 2]) e0 e1;have x0:0≤x:=by
  have h1:=(mod_lt c2 (m:=9) (by decide)).1;have h2:=(mod_lt (c2 / 9) (m:=2) (by decide)).1;simp only [p29,List.mem_cons,List.not_mem_nil,or_false] at hx;lia
 refine ⟨_,rfl,r,c2 / 9 / 2,3,rfl,(by rw [ae hrp2];exact aa),by decide,by decide,p2,_,_,_,rfl,rfl,SqL.of (by rw [ae hrp2.symm];exact aa),ex,_,_,rfl,rfl,_,_,rfl,?_⟩;refine ⟨_,rfl,_,rfl,[.str "number",.int low,.int _],.cons .str (.cons .int (.cons .int .nil)),sz3,fun v H4 g4 hv=>?_⟩;refine q v low _ (c2 / 9 / 2 / 3) H4 ?_ (g4 _ _ aa) hv (.number _ _ l0 ?_ ?_)
 ·exact ((((B1.trans But.put).trans But.put).trans (But.same (ah hp2 _))).trans But.put).trans (But.same g4)
 ·rw [p30]
  split <;> lia
 ·rw [p30]
  split <;> lia
def Hi (K:PySem.W.Frag) (r:Addr) (H:Hp) (Q:VK):Prop:=∀ v d (n':Int) H',But r H H'→H' r=some (.lst [.int n'])→IsP K H' d v→FK 1 1 d→Q v H'
def hG (K:PySem.W.Frag) (_:Ads):Sp:=fun vs H Q _=>∃ (r:Addr) (c:Int),vs=[.ref r]∧H r=some (.lst [.int c])∧Hi K r H Q
theorem Nam.words {m:Nat} {ss:List Str} (h:Nam m ss) (h1:1≤m) (h8:m≤8):dN ss=true∧dN ss.reverse=true:=by
 have l:=h.len;have nd:=nP h.asc;have al:ss.all aE=true:=List.all_eq_true.mpr fun z hz=>(h.ok z hz).1
 constructor
 ·simp only [dN,Bool.and_eq_true,decide_eq_true_eq];exact ⟨⟨⟨by lia,by lia⟩,al⟩,nd⟩
 ·simp only [dN,Bool.and_eq_true,decide_eq_true_eq,List.length_reverse,List.all_reverse];exact ⟨⟨⟨by lia,by lia⟩,al⟩,List.pairwise_reverse.mpr (nd.imp fun n e=>n e.symm)⟩
theorem md {K:PySem.W.Frag} {H:Hp}:∀ ss:List Str,IsPs K H (ss.map Dt.str) (ss.map V.str)
 | []=>.nil
 | z :: ss=>.cons .str (md ss)
theorem hV (T:Tx K mg ad) {f:Addr} {fd:FuncData} (F:Gn K mg "_law_leaf_kind" cp ["row"] f fd):FnOk P w K mg base CX0 3 f fd ["row"] (hG K ad):=by
 obtain ⟨_,_,Hm⟩:=T.law_digit;have Hn:=a8 (P:=P) (w:=w) (base:=base) T Hm;obtain ⟨_,_,HA⟩:=T.law_number_kind;have HU:=cE (P:=P) (w:=w) (base:=base) T HA;obtain ⟨_,_,HC⟩:=T.law_names;have HW:=dO (P:=P) (w:=w) (base:=base) T HC;refine F.F.ok b6 (fun vs H Q E h=>?_) (fun cdv A outer s H vs Q E hr h=>?_)
 ·obtain ⟨r,c,rfl,_⟩:=h
  rfl
 obtain ⟨r,c,rfl,hr0,q⟩:=h;refine ⟨_,(@pss_cons _ _ _ _ _ (@ps_set _ _ 1 _ _ _ _ b6.nd rfl (Or.inl rfl) (pcl Hm Hn (hr.mono (by lia)) rfl (@pa2 _ _ _ _ _ (pv 0) pe_int (by rfl) (by rfl))) (by rfl) (by first | exact .inl rfl | exact .inr rfl | assumption)) (@pss_cons _ _ _ _ _ (@ps_if _ _ _ _ _ _ _ _ (pt_cmpR op_eq (pv 1) pe_int (nomark _)) (@pss_one _ _ _ (@ps_ret _ _ _ _ (pcl HA HU (hr.mono (by lia)) rfl (@pa1 _ _ _ (pv 0) (by rfl))))) pss_nil) (@pss_cons _ _ _ _ _ (@ps_if _ _ _ _ _ _ _ _ (pt_cmpR op_eq (pv 1) pe_int (nomark _)) (@pss_one _ _ _ (@ps_ret _ _ _ _ (@pe_tupPK _ K _ _ _ _ rfl (@pa2 _ _ _ _ _ pe_str (@pe_ix _ _ _ _ _ _ _ (aU (K:=K) rfl) (@aG _ _ _ _ (@pa2 _ _ _ _ _ (pcl Hm Hn (hr.mono (by lia)) rfl (@pa2 _ _ _ _ _ (pv 0) pe_int (by rfl) (by rfl))) (pcl Hm Hn (hr.mono (by lia)) rfl (@pa2 _ _ _ _ _ (pv 0) pe_int (by rfl) (by rfl))) (by rfl) (by rfl))) (pcl Hm Hn (hr.mono (by lia)) rfl (@pa2 _ _ _ _ _ (pv 0) pe_int (by rfl) (by rfl))) (fun _ _=>rfl)) (by rfl) (by rfl))))) pss_nil) (@pss_cons _ _ _ _ _ (@ps_set _ _ 2 _ _ _ _ b6.nd rfl (Or.inl rfl) (pcl HC HW (hr.mono (by lia)) rfl (@pa2 _ _ _ _ _ (pv 0) (@pe_op _ _ _ _ _ _ _ _ aO pe_int (pcl Hm Hn (hr.mono (by lia)) rfl (@pa2 _ _ _ _ _ (pv 0) pe_int (by rfl) (by rfl)))) (by rfl) (by rfl))) (by rfl) (by first | exact .inl rfl | exact .inr rfl | assumption)) (@pss_cons _ _ _ _ _ (@ps_if _ _ _ _ _ _ _ _ (pt_cmpR op_eq (pcl Hm Hn (hr.mono (by lia)) rfl (@pa2 _ _ _ _ _ (pv 0) pe_int (by rfl) (by rfl))) pe_int (nomark _)) (@pss_one _ _ _ (@bn _ _ _ _ (z8 PySem.F.plainAttrs_list PySem.F.slot_list_reverse PySem.F.type_list_reverse pi (pv 2)) (by rfl))) pss_nil) (@pss_one _ _ _ (@ps_ret _ _ _ _ (@pe_tupPK _ K _ _ _ _ rfl (@pa2 _ _ _ _ _ pe_str (pe_callTy (bM (K:=K) rfl) rfl T.z_tuple boot_tuple (@pa1 _ _ _ (pv 2) (by rfl))) (by rfl) (by rfl)))))))))),?_⟩;refine ⟨_,rfl,r,c,3,rfl,hr0,by decide,by decide,?_⟩;have B1:=But.put (H:=H) (r:=r) (o:=.lst [.int (c / 3)]);refine ⟨_,rfl,rfl,_,rfl,aJ (fun c1=>?_) (fun c1=>?_)⟩
 ·exact ⟨_,rfl,r,c / 3,rfl,aa,fun v i j n' H' b e hv fk=>q v _ n' H' (B1.trans b) e hv fk⟩
 refine ⟨_,rfl,rfl,_,rfl,aJ (fun c2=>?_) (fun c2=>?_)⟩
 ·refine ⟨_,rfl,r,c / 3,4,rfl,aa,by decide,by decide,_,rfl,r,c / 3 / 4,61,rfl,aa,by decide,by decide,sz2,fun p hp=>?_⟩;have hrp:r≠p:=fun e=>by rw [← e,aa] at hp;cases hp
  obtain ⟨e0,e1⟩:=mod_lt (c / 3 / 4 / 61) (m:=2) (by decide);obtain ⟨x,hx,ex⟩:=wx (ns:=[c / 3 % 4,c / 3 / 4 % 61]) e0 e1;have xb:0≤x∧x≤60:=by
   have h1:=mod_lt (c / 3) (m:=4) (by decide);have h2:=mod_lt (c / 3 / 4) (m:=61) (by decide);simp only [List.mem_cons,List.not_mem_nil,or_false] at hx;lia
  refine ⟨_,rfl,r,c / 3 / 4 / 61,2,rfl,(by rw [ae hrp];exact aa),by decide,by decide,p,_,_,_,rfl,rfl,SqL.of (by rw [ae hrp.symm];exact aa),ex,?_⟩;refine ⟨[.str "text",.int x],.cons .str (.cons .int .nil),sz2,fun v H4 g4 hv=>?_⟩;exact q v _ (c / 3 / 4 / 61 / 2) H4 (((((B1.trans But.put).trans But.put).trans (But.same (ah hp _))).trans But.put).trans (But.same g4)) (g4 _ _ aa) hv (.text x xb.1 xb.2)
 ·obtain ⟨m0,m1⟩:=mod_lt (c / 3) (m:=8) (by decide);obtain ⟨m,hm⟩:∃ m:Nat,((m:Nat):Int)=1+c / 3 % 8:=⟨(1+c / 3 % 8).toNat,by lia⟩;refine ⟨_,rfl,_,rfl,r,c / 3,8,rfl,aa,by decide,by decide,_,_,rfl,rfl,?_⟩;refine ⟨r,c / 3 / 8,m,(by show [V.ref r,V.int (1+c / 3 % 8)]=_;rw [hm]),aa,by lia,fun p ss c' H2 b2 hp r2 p2 nam=>?_⟩;have B2:=(B1.trans But.put).trans b2;have hpH:H p=none:=by
   cases e:H p with
   | none=>rfl
   | some o =>
    have:r≠p:=fun h=>by rw [← h,aa] at hp;cases hp
    rw [ae this.symm,ae this.symm,e] at hp
    cases hp
  have hrp:r≠p:=fun h=>by rw [← h,hr0] at hpH;cases hpH
  obtain ⟨w1,w2⟩:=nam.words (by lia) (by lia);refine ⟨_,rfl,r,c',2,rfl,r2,by decide,by decide,rfl,_,rfl,aJ (fun c3=>?_) (fun c3=>?_)⟩
  ·have p3:(upd H2 r (.lst [.int (c' / 2)])) p=some (.lst (ss.map V.str)):=by rw [ae hrp.symm];exact p2
   refine ⟨_,rfl,.inl ⟨rfl,_,SqL.of p3⟩,p,_,rfl,rfl,p3,?_⟩;refine ⟨_,rfl,p,_,_,rfl,SqL.of aa,(by rw [← List.map_reverse];exact md ss.reverse),fun v H4 g4 hv=>?_⟩;refine ⟨[.str "choice",.tup (ss.reverse.map Dt.str)],.cons .str (.cons hv .nil),sz2,fun v5 H5 g5 hv5=>?_⟩;exact q v5 _ (c' / 2) H5 (((fu (B2.trans But.put) hpH).trans (But.same g4)).trans (But.same g5)) (g5 _ _ (g4 _ _ (by rw [ae hrp];exact aa))) hv5 (.choice _ w2)
  ·refine ⟨_,rfl,p,_,_,rfl,SqL.of (by rw [ae hrp.symm];exact p2),md ss,fun v H4 g4 hv=>?_⟩;refine ⟨[.str "choice",.tup (ss.map Dt.str)],.cons .str (.cons hv .nil),sz2,fun v5 H5 g5 hv5=>?_⟩;exact q v5 _ (c' / 2) H5 (((B2.trans But.put).trans (But.same g4)).trans (But.same g5)) (g5 _ _ (g4 _ _ aa)) hv5 (.choice ss w1)
def But2 (r p:Addr) (H H':Hp):Prop:=∀ x o,x≠r→x≠p→H x=some o→H' x=some o
theorem But2.refl (r p:Addr) (H:Hp):But2 r p H H:=fun _ _ _ _ e=>e
theorem But2.trans {r p:Addr} {H H' H'':Hp} (a:But2 r p H H') (b:But2 r p H' H''):But2 r p H H'':=fun x o h1 h2 e=>b x o h1 h2 (a x o h1 h2 e)
theorem But2.one {r p:Addr} {H H':Hp} (b:But r H H'):But2 r p H H':=fun x o h1 _ e=>b x o h1 e
theorem But2.two {r p:Addr} {H H':Hp} (b:But p H H'):But2 r p H H':=fun x o _ h2 e=>b x o h2 e
theorem But2.same {r p:Addr} {H H':Hp} (b:Same H H'):But2 r p H H':=fun x o _ _ e=>b x o e
theorem But2.upd {r p l:Addr} {o:HO} {H H':Hp} (b:But2 r p H H') (hl:H l=none):But2 r p H (upd H' l o):=fun x u h1 h2 e=>by rw [ae (ag e hl)];exact b x u h1 h2 e
theorem But2.mid {r p:Addr} {H H':Hp} (b:But2 r p H H'):∃ M:Hp,But r H M∧But p M H'∧M p=H p:=by
 refine ⟨fun x=>if x=p then H p else H' x,fun x o n e=>?_,fun x o n e=>?_,by simp⟩
 ·by_cases h:x=p
  ·subst h;simpa using e
  ·simp only [if_neg h];exact b x o n h e
 ·simpa only [if_neg n] using e
theorem nY {K:PySem.W.Frag} {r p:Addr} {H H':Hp} {d:List Dt} {v:List V} {xs ys:List V} (hr:H r=some (.lst xs)) (hp:H p=some (.lst ys)) (b:But2 r p H H') (h:IsPs K H d v):IsPs K H' d v:=by
 obtain ⟨M,b1,b2,e⟩:=b.mid;exact (h.but hr b1).but (e.trans hp) b2
def bud (x:Int):Nat:=(x / 5).toNat
theorem ut (x:Int):bud (x - 5)≤bud x:=by unfold bud;lia
theorem uu {x:Int} (h:0≤x - 5):bud x=bud (x - 5)+1:=by unfold bud;lia
def AC (K:PySem.W.Frag) (r p:Addr) (H:Hp) (D u:Nat) (x:Int) (Q:VK):Prop:=∀ v d a c (n' x':Int) H',But2 r p H H'→H' r=some (.lst [.int n'])→H' p=some (.lst [.int x'])→IsP K H' d v→FK a c d→a≤D→c+4*bud x'≤u+4*bud x→Q v H'
def nZ (K:PySem.W.Frag) (n:Nat):Sp:=fun vs H Q _=>∃ (r p:Addr) (c x:Int) (m:Nat),1≤m∧m≤n∧vs=[.ref r,.int m,.ref p]∧r≠p∧H r=some (.lst [.int c])∧H p=some (.lst [.int x])∧AC K r p H m 1 x Q
def qH (K:PySem.W.Frag) (n:Nat):Sp:=fun vs H Q _=>∃ (r p:Addr) (c x:Int) (m:Nat),1≤m∧m≤n∧vs=[.ref r,.int (m+1:Nat),.ref p]∧r≠p∧H r=some (.lst [.int c])∧H p=some (.lst [.int x])∧AC K r p H (m+1) 4 x Q
def wy (K:PySem.W.Frag) (n:Nat):Sp:=fun vs H Q _=>∃ (r p:Addr) (c x:Int) (m:Nat),1≤m∧m≤n∧vs=[.ref r,.int (m+2:Nat),.ref p]∧r≠p∧H r=some (.lst [.int c])∧H p=some (.lst [.int x])∧AC K r p H (m+2) 5 x Q
theorem jx:∀ (l:List Nat) (n:Nat),sumN (l++[n])=sumN l+n
 | [],n=>by show n+0=0+n;lia
 | m :: l,n=>by
  show m+sumN (l++[n])=m+sumN l+n;rw [jx l n];lia
theorem uv {ss:List Str} {gs:List G4} {m D:Nat} (nam:Nam m ss) (h8:m≤8) (e:gs.map (·.1)=ss) (fk:∀ g∈gs,FK g.2.2.1 g.2.2.2 g.2.1) (hd:∀ g∈gs,g.2.2.1≤D) :
  FK (iI (gs.map (·.2.2.1))+1) (sumN (gs.map (·.2.2.2))+1) (.tup [.str "record",.tup (gs.map prG)])∧iI (gs.map (·.2.2.1))+1≤D+1:=by
 refine ⟨.rcd fk (by rw [e];exact nam.asc) (fun g hg=>?_) ?_,?_⟩
 ·exact nam.ok g.1 (by rw [← e];exact List.mem_map.mpr ⟨g,hg,rfl⟩)
 ·have:=congrArg List.length e;rw [List.length_map,nam.len] at this;lia
 ·exact Nat.succ_le_succ (max_le fun n hn=>by
   obtain ⟨g,hg,rfl⟩:=List.mem_map.mp hn;exact hd g hg)
theorem fQ (T:Tx K mg ad) {f fk:Addr} {fd fdk:FuncData} (n:Nat) (F:Gn K mg "_law_record_kind" aS ["row","deep","room"] f fd) (HB:Gn K mg "_law_kind" bY ["row","deep","room"] fk fdk)
  (HP:FnOk P w K mg base CX0 (3*n+6) fk fdk ["row","deep","room"] (nZ K n)):FnOk P w K mg base CX0 (3*n+6+1) f fd ["row","deep","room"] (qH K n):=by
 obtain ⟨_,_,Hm⟩:=T.law_digit;have Hn:=a8 (P:=P) (w:=w) (base:=base) T Hm;obtain ⟨_,_,HC⟩:=T.law_names;have HW:=dO (P:=P) (w:=w) (base:=base) T HC;refine F.F.ok bc (fun vs H Q E h=>?_) (fun cdv A outer s H vs Q E hr h=>?_)
 ·obtain ⟨r,p,c,x,m,_,_,rfl,_⟩:=h
  rfl
 obtain ⟨r,p,c,x,m,hm1,hmn,rfl,nrp,hr0,hp0,q⟩:=h;refine ⟨_,(@pss_cons _ _ _ _ _ (@ps_set _ _ 3 _ _ _ _ bc.nd rfl (Or.inl rfl) (pcl Hm Hn (hr.mono (by lia)) rfl (@pa2 _ _ _ _ _ (pv 0) pe_int (by rfl) (by rfl))) (by rfl) (by first | exact .inl rfl | exact .inr rfl | assumption)) (@pss_cons _ _ _ _ _ (@ps_set _ _ 4 _ _ _ _ bc.nd rfl (Or.inl rfl) (@aG _ _ _ _ ei) (by rfl) (by first | exact .inl rfl | exact .inr rfl | assumption)) (@pss_cons _ _ _ _ _ (cC PassesOwn.never rfl (dz (K:=K) rfl (pcl HC HW (hr.mono (by lia)) rfl (@pa2 _ _ _ _ _ (pv 0) (pv 3) (by rfl) (by rfl)))) (ak (i:=5) bc.nd rfl (Or.inl rfl))
    (@pss_one _ _ _ (@bn _ _ _ _ (pe_bm PySem.F.plainAttrs_list PySem.F.slot_list_append PySem.F.type_list_append cA (pv 4) (@pa1 _ _ _ (@pe_tupPK _ K _ _ _ _ rfl (@pa2 _ _ _ _ _ (pv 5) (pcl HB HP (hr.mono (by lia)) rfl (@pa3 _ _ _ _ _ _ _ (pv 0) (@pe_op _ _ _ _ _ _ _ _ op_sub (pv 1) pe_int) (pv 2) (by rfl) (by rfl) (by rfl))) (by rfl) (by rfl))) (by rfl))) (by rfl)))) (@pss_one _ _ _ (@ps_ret _ _ _ _ (@pe_tupPK _ K _ _ _ _ rfl (@pa2 _ _ _ _ _ pe_str (pe_callTy (bM (K:=K) rfl) rfl T.z_tuple boot_tuple (@pa1 _ _ _ (pv 4) (by rfl))) (by rfl) (by rfl)))))))),?_⟩
 refine ⟨_,rfl,r,c,4,rfl,hr0,by decide,by decide,?_⟩;obtain ⟨k0,k1⟩:=mod_lt c (m:=4) (by decide);obtain ⟨k,hk⟩:∃ k:Nat,((k:Nat):Int)=c % 4:=⟨(c % 4).toNat,by lia⟩;have B1:But2 r p H (upd H r (.lst [.int (c / 4)])):=.one But.put;refine ⟨(by show 0≤sizeLine;decide),fun pf hpf=>?_⟩;have nrf:r≠pf:=fun e=>by rw [← e,aa] at hpf;cases hpf
 have hfH:H pf=none:=by rw [ae nrf.symm] at hpf;exact hpf
 have npf:p≠pf:=ag hp0 hfH;refine ⟨_,rfl,_,rfl,r,c / 4,k,(by show [V.ref r,V.int (c % 4)]=_;rw [hk]),(by rw [ae nrf];exact aa),by lia,fun pn ss c2 H2 b2 hpn r2 n2 nam=>?_⟩;have nfn:pf≠pn:=ag (aa (o:=.lst [])) hpn;have p1:(upd (upd H r (.lst [.int (c / 4)])) pf (.lst [])) p=some (.lst [.int x]):=by rw [ae npf,ae nrp.symm];exact hp0
 have npn:p≠pn:=ag p1 hpn;have nrn:r≠pn:=ag (by rw [ae nrf];exact aa) hpn;have hnH:H pn=none:=by
  have:=hpn;rw [ae nfn.symm,ae nrn.symm] at this;exact this
 have B2:But2 r p H H2:=(B1.trans (.same (ah hpf _))).trans (.one b2);have p2:H2 p=some (.lst [.int x]):=b2 _ _ nrp.symm p1;have f2:H2 pf=some (.lst []):=b2 _ _ nrf.symm aa;refine ⟨pn,rfl,⟨_,SqL.of n2⟩,i4 (xs:=ss.map V.str) (fun i σ H'=>∃ (gs:List G4) (ys:List V) (c' x':Int) (v6:Option V),But2 r p H H'∧H' r=some (.lst [.int c'])∧H' p=some (.lst [.int x'])∧H' pn=some (.lst (ss.map V.str))∧H' pf=some (.lst ys)∧IsPs K H' (gs.map prG) ys∧gs.map (·.1)=ss.take i∧(∀ g∈gs,FK g.2.2.1 g.2.2.2 g.2.1)∧(∀ g∈gs,g.2.2.1≤m)∧sumN (gs.map (·.2.2.2))+4*bud x'≤i+4*bud x∧σ=[some (.ref r),some (.int (m+1:Nat)),some (.ref p),some (.int (c % 4)),some (.ref pf),v6])
  ⟨[],[],c2,x,_,B2,r2,p2,n2,f2,.nil,rfl,(fun g hg=>by cases hg),(fun g hg=>by cases hg),(by show 0+4*bud x≤0+4*bud x;lia),rfl⟩ (fun i σ H' _ h=>by obtain ⟨_,_,_,_,_,_,_,_,h,_⟩:=h;exact SqL.of h) ?_ ?_⟩
 ·rintro i u σ H3 hu ⟨gs,ys,c3,x3,v6,B3,r3,p3,n3,f3,hys,nms,fk,hd,hsum,rfl⟩;rw [List.getElem?_map] at hu;obtain ⟨z,hz,rfl⟩:=Option.map_eq_some_iff.mp hu;have li:=(List.getElem?_eq_some_iff.mp hz).1;have lss:=nam.len;have lgs:gs.length=i:=by
   have:=congrArg List.length nms;rw [List.length_map,List.length_take] at this;lia
  have lys:=hys.length;rw [List.length_map] at lys;have e1:(((m+1:Nat):Int)) - 1=((m:Nat):Int):=by lia
  refine ⟨_,rfl,.inl ⟨rfl,_,SqL.of f3⟩,_,rfl,_,rfl,_,rfl,_,_,rfl,rfl,_,rfl,r,p,c3,x3,m,hm1,hmn,(by show [V.ref r,V.int (((m+1:Nat):Int) - 1),V.ref p]=_;rw [e1]),nrp,r3,p3,fun v d a c4 n4 x4 H4 b4 r4 p4 hv fk4 ha hc4=>?_⟩;refine ⟨[.str z,d],.cons .str (.cons hv .nil),sz2,fun v5 H5 g5 hv5=>?_⟩;have f5:H5 pf=some (.lst ys):=g5 _ _ (b4 _ _ nrf.symm npf.symm f3);refine ⟨pf,ys,v5,rfl,rfl,f5,aw (by lia),?_⟩;refine ⟨gs++[(z,d,a,c4)],ys++[v5],n4,x4,_,((B3.trans b4).trans (.same g5)).upd hfH,(by rw [ae nrf];exact g5 _ _ r4),(by rw [ae npf];exact g5 _ _ p4),(by rw [ae nfn.symm];exact g5 _ _ (b4 _ _ nrn.symm npn.symm n3)),aa,?_,?_,?_,?_,?_,rfl⟩
  ·rw [List.map_append];exact (((nY r3 p3 b4 hys).same g5).append (.cons hv5 .nil)).but f5 But.put
  ·rw [List.map_append,nms,List.take_add_one,hz]
   rfl
  ·intro g hg;rcases List.mem_append.mp hg with h | h
   ·exact fk g h
   ·obtain rfl:=List.mem_singleton.mp h;exact fk4
  ·intro g hg;rcases List.mem_append.mp hg with h | h
   ·exact hd g h
   ·obtain rfl:=List.mem_singleton.mp h;exact ha
  ·rw [List.map_append];show sumN (gs.map (·.2.2.2)++[c4])+_≤_;rw [jx];lia
 ·rintro σ H3 ⟨gs,ys,c3,x3,v6,B3,r3,p3,n3,f3,hys,nms,fk,hd,hsum,rfl⟩;have lss:=nam.len;rw [List.length_map,List.take_length] at nms;rw [List.length_map] at hsum;obtain ⟨F1,F2⟩:=uv (D:=m) nam (by lia) nms fk hd;refine ⟨_,rfl,pf,_,_,rfl,SqL.of f3,hys,fun v4 H4 g4 hv4=>?_⟩;refine ⟨[.str "record",.tup (gs.map prG)],.cons .str (.cons hv4 .nil),sz2,fun v5 H5 g5 hv5=>?_⟩;exact q v5 _ _ _ c3 x3 H5 ((B3.trans (.same g4)).trans (.same g5)) (g5 _ _ (g4 _ _ r3)) (g5 _ _ (g4 _ _ p3)) hv5 F1 F2 (by lia)
theorem n6 (T:Tx K mg ad) {f fr fw:Addr} {fd fdr fdw:FuncData} (n:Nat) (HB:Gn K mg "_law_kind" bY ["row","deep","room"] f fd) (IQ:Gn K mg "_law_record_kind" aS ["row","deep","room"] fr fdr) (Ja:Gn K mg "_law_rows_kind" bg ["row","deep","room"] fw fdw)
  (HP:FnOk P w K mg base CX0 (3*n+6) f fd ["row","deep","room"] (nZ K n)) (IP:FnOk P w K mg base CX0 (3*n+7) fr fdr ["row","deep","room"] (qH K n)) (Jb:FnOk P w K mg base CX0 (3*n+7) fw fdw ["row","deep","room"] (wy K (n - 1))) :
  FnOk P w K mg base CX0 (3*n+8+1) f fd ["row","deep","room"] (nZ K (n+1)):=by
 obtain ⟨_,_,Hm⟩:=T.law_digit;have Hn:=a8 (P:=P) (w:=w) (base:=base) T Hm;obtain ⟨_,_,IB⟩:=T.law_leaf_kind;have Jc:=hV (P:=P) (w:=w) (base:=base) T IB;refine HB.F.ok iG (fun vs H Q E h=>?_) (fun cdv A outer s H vs Q E hr h=>?_)
 ·obtain ⟨r,p,c,x,m,_,_,rfl,_⟩:=h
  rfl
 obtain ⟨r,p,c,x,m,hm1,hmn,rfl,nrp,hr0,hp0,q⟩:=h;refine ⟨_,(@pss_cons _ _ _ _ _ (@ps_set _ _ 3 _ _ _ _ iG.nd rfl (Or.inl rfl) (pcl Hm Hn (hr.mono (by lia)) rfl (@pa2 _ _ _ _ _ (pv 0) pe_int (by rfl) (by rfl))) (by rfl) (by first | exact .inl rfl | exact .inr rfl | assumption)) (@pss_cons _ _ _ _ _ (sI (@pe_op _ _ _ _ _ _ _ _ op_sub (@pe_ix _ _ _ _ _ _ _ (aU (K:=K) rfl) (pv 2) pe_int (fun _ _=>rfl)) pe_int) (sH (pv 2) pe_int m9)) (@pss_cons _ _ _ _ _ (@ps_if _ _ _ _ _ _ _ _ (PW.pt (@pw_or _ _ _ _ _ _ _ (pt_cmpR ir (pv 3) pe_int (nomark _)) (@pw_or _ _ _ _ _ _ _ (pt_cmpR ir (pv 1) pe_int (nomark _)) (@pw_or1 _ _ _ _ (pt_cmpR ir (@pe_ix _ _ _ _ _ _ _ (aU (K:=K) rfl) (pv 2) pe_int (fun _ _=>rfl)) pe_int (nomark _)))))) (@pss_one _ _ _ (@ps_ret _ _ _ _ (pcl IB Jc (hr.mono (by lia)) rfl (@pa1 _ _ _ (pv 0) (by rfl))))) pss_nil) (@pss_cons _ _ _ _ _ (@ps_if _ _ _ _ _ _ _ _ (pt_cmpR op_eq (pv 3) pe_int (nomark _)) (@pss_one _ _ _ (@ps_ret _ _ _ _ (@pe_tupPK _ K _ _ _ _ rfl (@pa3 _ _ _ _ _ _ _ pe_str (pcl HB HP (hr.mono (by lia)) rfl (@pa3 _ _ _ _ _ _ _ (pv 0) (@pe_op _ _ _ _ _ _ _ _ op_sub (pv 1) pe_int) (pv 2) (by rfl) (by rfl) (by rfl))) (pcl Hm Hn (hr.mono (by lia)) rfl (@pa2 _ _ _ _ _ (pv 0) pe_int (by rfl) (by rfl))) (by rfl) (by rfl) (by rfl))))) pss_nil) (@pss_cons _ _ _ _ _ (@ps_if _ _ _ _ _ _ _ _ (PW.pt (@pw_and _ _ _ _ _ _ _ (pt_cmpR op_eq (pv 3) pe_int (nomark _)) (@pw_and1 _ _ _ _ (pt_cmpR op_gt (pv 1) pe_int (nomark _))))) (@pss_one _ _ _ (@ps_ret _ _ _ _ (pcl Ja Jb (hr.mono (by lia)) rfl (@pa3 _ _ _ _ _ _ _ (pv 0) (pv 1) (pv 2) (by rfl) (by rfl) (by rfl))))) pss_nil) (@pss_one _ _ _ (@ps_ret _ _ _ _ (pcl IQ IP (hr.mono (by lia)) rfl (@pa3 _ _ _ _ _ _ _ (pv 0) (pv 1) (pv 2) (by rfl) (by rfl) (by rfl)))))))))),?_⟩;refine ⟨_,rfl,r,c,6,rfl,hr0,by decide,by decide,?_⟩;have p1:(upd H r (.lst [.int (c / 6)])) p=some (.lst [.int x]):=by rw [ae nrp.symm];exact hp0
 have e0:∀ y:Int,atI [V.int y] 0=some (.int y):=fun _=>rfl;refine ⟨_,rfl,p,_,_,_,rfl,rfl,SqL.of p1,e0 x,_,_,rfl,rfl,_,rfl,p,_,_,_,rfl,rfl,p1,rfl,_,rfl,?_⟩;have B2:But2 r p H (upd (upd H r (.lst [.int (c / 6)])) p (.lst [.int (x - 5)])):=(But2.one But.put).trans (.two But.put);have r2:(upd (upd H r (.lst [.int (c / 6)])) p (.lst [.int (x - 5)])) r=some (.lst [.int (c / 6)]):=by rw [ae nrp];exact aa
 have p2:(upd (upd H r (.lst [.int (c / 6)])) p (.lst [.int (x - 5)])) p=some (.lst [.int (x - 5)]):=aa;have bl:=ut x;refine ⟨_,_,rfl,rfl,_,rfl,aJ (fun c1=>bL ?leaf) (fun c1=>?_)⟩
 case leaf=>exact ⟨_,rfl,r,c / 6,rfl,r2,fun v d n' H' b e hv fk=>q v d 1 1 n' (x - 5) H' (B2.trans (.one b)) e (b _ _ nrp.symm p2) hv fk hm1 (by lia)⟩
 refine ⟨_,rfl,_,_,rfl,rfl,_,rfl,aJ (fun c2=>bL ?leaf) (fun c2=>?_)⟩
 case leaf=>exact ⟨_,rfl,r,c / 6,rfl,r2,fun v d n' H' b e hv fk=>q v d 1 1 n' (x - 5) H' (B2.trans (.one b)) e (b _ _ nrp.symm p2) hv fk hm1 (by lia)⟩
 refine ⟨_,rfl,p,_,_,_,rfl,rfl,SqL.of p2,e0 (x - 5),_,_,rfl,rfl,_,rfl,aJ (fun c3=>?leaf) (fun c3=>?_)⟩
 case leaf=>exact ⟨_,rfl,r,c / 6,rfl,r2,fun v d n' H' b e hv fk=>q v d 1 1 n' (x - 5) H' (B2.trans (.one b)) e (b _ _ nrp.symm p2) hv fk hm1 (by lia)⟩
 have m2:2≤m:=by
  have:¬ ((m:Nat):Int) < 2:=fun h=>c2 (decide_eq_true h);lia
 have x5:0≤x - 5:=by
  have:¬ x - 5 < 0:=fun h=>c3 (decide_eq_true h);lia
 have bs:=uu x5;obtain ⟨m,rfl⟩:∃ k,m=k+1:=⟨m - 1,by lia⟩;have e1:(((m+1:Nat):Int)) - 1=((m:Nat):Int):=by lia
 refine ⟨_,rfl,rfl,_,rfl,aJ (fun c4=>?_) (fun c4=>?_)⟩
 ·refine ⟨_,rfl,_,rfl,_,_,rfl,rfl,_,rfl,r,p,c / 6,x - 5,m,by lia,by lia,(by show [V.ref r,V.int (((m+1:Nat):Int) - 1),V.ref p]=_;rw [e1]),nrp,r2,p2,fun v d a c4 n4 x4 H4 b4 r4 p4 hv fk4 ha hc4=>?_⟩;obtain ⟨k0,k1⟩:=mod_lt n4 (m:=9) (by decide);refine ⟨_,rfl,r,n4,9,rfl,r4,by decide,by decide,[.str "list",d,.int _],.cons .str (.cons (hv.but r4 But.put) (.cons .int .nil)),sz3,fun v5 H5 g5 hv5=>?_⟩;exact q v5 _ (a+1) (c4+1) (n4 / 9) x4 H5 (((B2.trans b4).trans (.one But.put)).trans (.same g5)) (g5 _ _ aa) (g5 _ _ (by rw [ae nrp.symm];exact p4)) hv5 (.list fk4 k0 (by lia)) (by lia) (by lia)
 refine ⟨_,rfl,rfl,_,rfl,aJ (fun c5=>?_) (fun c5=>bq ?_)⟩
 ·refine ⟨_,rfl,_,_,rfl,rfl,_,rfl,aJ (fun c6=>?_) (fun c6=>?_)⟩
  ·have m3:3≤m+1:=by
    have:(2:Int) < ((m+1:Nat):Int):=of_decide_eq_true c6;lia
   obtain ⟨m,rfl⟩:∃ k,m=k+1:=⟨m - 1,by lia⟩;exact ⟨_,rfl,_,rfl,_,rfl,r,p,c / 6,x - 5,m,by lia,by lia,rfl,nrp,r2,p2,fun v d a c4 n4 x4 H4 b4 r4 p4 hv fk4 ha hc4=>q v d a c4 n4 x4 H4 (B2.trans b4) r4 p4 hv fk4 ha (by lia)⟩
  ·exact ⟨_,rfl,_,rfl,_,rfl,r,p,c / 6,x - 5,m,by lia,by lia,rfl,nrp,r2,p2,fun v d a c4 n4 x4 H4 b4 r4 p4 hv fk4 ha hc4=>q v d a c4 n4 x4 H4 (B2.trans b4) r4 p4 hv fk4 ha (by lia)⟩
 ·exact ⟨_,rfl,_,rfl,_,rfl,r,p,c / 6,x - 5,m,by lia,by lia,rfl,nrp,r2,p2,fun v d a c4 n4 x4 H4 b4 r4 p4 hv fk4 ha hc4=>q v d a c4 n4 x4 H4 (B2.trans b4) r4 p4 hv fk4 ha (by lia)⟩
def GE (d:Dt):Prop:=∃ w r,d=.tup (.str w :: r)∧(w= "number" ∨w= "text")
structure RkI (K:PySem.W.Frag) (r p pn pf:Addr) (ss:List Str) (key:Str) (m:Nat) (x:Int) (H:Hp) (i:Nat) (gs:List G4) (ys:List V) (c' x':Int) (H':Hp):Prop where
 B:But2 r p H H'
 hr:H' r=some (.lst [.int c'])
 hp:H' p=some (.lst [.int x'])
 hn:H' pn=some (.lst (ss.map V.str))
 hf:H' pf=some (.lst ys)
 hys:IsPs K H' (gs.map prG) ys
 nms:gs.map (·.1)=ss.take i
 fk:∀ g∈gs,FK g.2.2.1 g.2.2.2 g.2.1
 hd:∀ g∈gs,g.2.2.1≤m
 ky:∀ g∈gs,g.1=key→GE g.2.1
 sum:sumN (gs.map (·.2.2.2))+4*bud x'≤i+4*bud x
theorem RkI.next {K:PySem.W.Frag} {r p pn pf:Addr} {ss:List Str} {key z:Str} {m i a c4:Nat} {x c3 x3 n4 x4:Int} {H H3 H4 H5:Hp} {gs:List G4} {ys:List V} {d:Dt} {v5:V} (I:RkI K r p pn pf ss key m x H i gs ys c3 x3 H3) (hz:ss[i]?=some z)
  (nrf:r≠pf) (npf:p≠pf) (nrn:r≠pn) (npn:p≠pn) (nfn:pf≠pn) (hfH:H pf=none) (b4:But2 r p H3 H4) (r4:H4 r=some (.lst [.int n4])) (p4:H4 p=some (.lst [.int x4])) (fk4:FK a c4 d) (ha:a≤m) (hc4:c4+4*bud x4≤1+4*bud x3) (hk:z=key→GE d)
  (g5:Same H4 H5) (hv5:IsP K H5 (.tup [.str z,d]) v5):RkI K r p pn pf ss key m x H (i+1) (gs++[(z,d,a,c4)]) (ys++[v5]) n4 x4 (upd H5 pf (.lst (ys++[v5]))):=by
 obtain ⟨B3,r3,p3,n3,f3,hys,nms,fk,hd,ky,hsum⟩:=I;have f5:H5 pf=some (.lst ys):=g5 _ _ (b4 _ _ nrf.symm npf.symm f3);refine ⟨((B3.trans b4).trans (.same g5)).upd hfH,(by rw [ae nrf];exact g5 _ _ r4),(by rw [ae npf];exact g5 _ _ p4),(by rw [ae nfn.symm];exact g5 _ _ (b4 _ _ nrn.symm npn.symm n3)),aa,?_,?_,?_,?_,?_,?_⟩
 ·rw [List.map_append];exact (((nY r3 p3 b4 hys).same g5).append (.cons hv5 .nil)).but f5 But.put
 ·rw [List.map_append,nms,List.take_add_one,hz]
  rfl
 ·intro g hg;rcases List.mem_append.mp hg with h | h
  ·exact fk g h
  ·obtain rfl:=List.mem_singleton.mp h;exact fk4
 ·intro g hg;rcases List.mem_append.mp hg with h | h
  ·exact hd g h
  ·obtain rfl:=List.mem_singleton.mp h;exact ha
 ·intro g hg;rcases List.mem_append.mp hg with h | h
  ·exact ky g h
  ·obtain rfl:=List.mem_singleton.mp h;exact hk
 ·rw [List.map_append];show sumN (gs.map (·.2.2.2)++[c4])+_≤_;rw [jx];lia
theorem RkI.few {K:PySem.W.Frag} {r p pn pf:Addr} {ss:List Str} {key:Str} {m i:Nat} {x c3 x3:Int} {H H3:Hp} {gs:List G4} {ys:List V} (I:RkI K r p pn pf ss key m x H i gs ys c3 x3 H3):ys.length≤ss.length:=by
 have lys:=I.hys.length;have:=congrArg List.length I.nms;rw [List.length_map,List.length_take] at this;rw [List.length_map] at lys;lia
theorem hZ (T:Tx K mg ad) {f fk:Addr} {fd fdk:FuncData} (n:Nat) (F:Gn K mg "_law_rows_kind" bg ["row","deep","room"] f fd) (HB:Gn K mg "_law_kind" bY ["row","deep","room"] fk fdk)
  (HP:FnOk P w K mg base CX0 (3*n+6) fk fdk ["row","deep","room"] (nZ K n)):FnOk P w K mg base CX0 (3*n+6+1) f fd ["row","deep","room"] (wy K n):=by
 obtain ⟨_,_,Hm⟩:=T.law_digit;have Hn:=a8 (P:=P) (w:=w) (base:=base) T Hm;obtain ⟨_,_,HC⟩:=T.law_names;have HW:=dO (P:=P) (w:=w) (base:=base) T HC;obtain ⟨_,_,HA⟩:=T.law_number_kind;have HU:=cE (P:=P) (w:=w) (base:=base) T HA;refine F.F.ok az (fun vs H Q E h=>?_) (fun cdv A outer s H vs Q E hr h=>?_)
 ·obtain ⟨r,p,c,x,m,_,_,rfl,_⟩:=h
  rfl
 obtain ⟨r,p,c,x,m,hm1,hmn,rfl,nrp,hr0,hp0,q⟩:=h;refine ⟨_,(@pss_cons _ _ _ _ _ (@ps_set _ _ 3 _ _ _ _ az.nd rfl (Or.inl rfl) (pcl HC HW (hr.mono (by lia)) rfl (@pa2 _ _ _ _ _ (pv 0) (@pe_op _ _ _ _ _ _ _ _ aO pe_int (pcl Hm Hn (hr.mono (by lia)) rfl (@pa2 _ _ _ _ _ (pv 0) pe_int (by rfl) (by rfl)))) (by rfl) (by rfl))) (by rfl) (by first | exact .inl rfl | exact .inr rfl | assumption)) (@pss_cons _ _ _ _ _ (@ps_set _ _ 4 _ _ _ _ az.nd rfl (Or.inl rfl) (@pe_ix _ _ _ _ _ _ _ (aU (K:=K) rfl) (pv 3) (pcl Hm Hn (hr.mono (by lia)) rfl (@pa2 _ _ _ _ _ (pv 0) (pe_callB (bh (K:=K) rfl) rfl T.z_len PySem.boot_len (@pa1 _ _ _ (pv 3) (by rfl))) (by rfl) (by rfl))) (fun _ _=>rfl)) (by rfl) (by first | exact .inl rfl | exact .inr rfl | assumption)) (@pss_cons _ _ _ _ _ (@ps_set _ _ 5 _ _ _ _ az.nd rfl (Or.inl rfl) (@aG _ _ _ _ ei) (by rfl) (by first | exact .inl rfl | exact .inr rfl | assumption)) (@pss_cons _ _ _ _ _ (cC PassesOwn.never rfl (dz (K:=K) rfl (pv 3)) (ak (i:=6) az.nd rfl (Or.inl rfl))
    (@pss_cons _ _ _ _ _ (@ps_set _ _ 7 _ _ _ _ az.nd rfl (Or.inl rfl) (pcl HA HU (hr.mono (by lia)) rfl (@pa1 _ _ _ (pv 0) (by rfl))) (by rfl) (by first | exact .inl rfl | exact .inr rfl | assumption)) (@pss_cons _ _ _ _ _ (@ps_if _ _ _ _ _ _ _ _ (pt_cmpR op_eq (pcl Hm Hn (hr.mono (by lia)) rfl (@pa2 _ _ _ _ _ (pv 0) pe_int (by rfl) (by rfl))) pe_int (nomark _)) (@pss_one _ _ _ (@ps_set _ _ 7 _ _ _ _ az.nd rfl (Or.inl rfl) (@pe_tupPK _ K _ _ _ _ rfl (@pa2 _ _ _ _ _ pe_str (pcl Hm Hn (hr.mono (by lia)) rfl (@pa2 _ _ _ _ _ (pv 0) pe_int (by rfl) (by rfl))) (by rfl) (by rfl))) (by rfl) (by first | exact .inl rfl | exact .inr rfl | assumption))) pss_nil) (@pss_cons _ _ _ _ _ (@ps_if _ _ _ _ _ _ _ _ (pt_cmpR op_ne (pv 6) (pv 4) (nomark _)) (@pss_one _ _ _ (@ps_set _ _ 7 _ _ _ _ az.nd rfl (Or.inl rfl) (pcl HB HP (hr.mono (by lia)) rfl (@pa3 _ _ _ _ _ _ _ (pv 0) (@pe_op _ _ _ _ _ _ _ _ op_sub (pv 1) pe_int) (pv 2) (by rfl) (by rfl) (by rfl))) (by rfl) (by first | exact .inl rfl | exact .inr rfl | assumption))) pss_nil) (@pss_one _ _ _ (@bn _ _ _ _ (pe_bm PySem.F.plainAttrs_list PySem.F.slot_list_append PySem.F.type_list_append cA (pv 5) (@pa1 _ _ _ (@pe_tupPK _ K _ _ _ _ rfl (@pa2 _ _ _ _ _ (pv 6) (pv 7) (by rfl) (by rfl))) (by rfl))) (by rfl))))))) (@pss_one _ _ _ (@ps_ret _ _ _ _ (@pe_tupPK _ K _ _ _ _ rfl (@bo _ _ _ _ _ pe_str (@pa3 _ _ _ _ _ _ _ (pv 4) (@pe_tupPK _ K _ _ _ _ rfl (@pa2 _ _ _ _ _ pe_str (pe_callTy (bM (K:=K) rfl) rfl T.z_tuple boot_tuple (@pa1 _ _ _ (pv 5) (by rfl))) (by rfl) (by rfl))) (pcl Hm Hn (hr.mono (by lia)) rfl (@pa2 _ _ _ _ _ (pv 0) pe_int (by rfl) (by rfl))) (by rfl) (by rfl) (by rfl)) (by rfl))))))))),?_⟩
 obtain ⟨k0,k1⟩:=mod_lt c (m:=3) (by decide);obtain ⟨k,hk⟩:∃ k:Nat,((k:Nat):Int)=1+c % 3:=⟨(1+c % 3).toNat,by lia⟩;refine ⟨_,rfl,_,rfl,r,c,3,rfl,hr0,by decide,by decide,_,_,rfl,rfl,r,c / 3,k,(by show [V.ref r,V.int (1+c % 3)]=_;rw [hk]),aa,by lia,fun pn ss c2 H2 b2 hpn r2 n2 nam=>?_⟩;have p1:(upd H r (.lst [.int (c / 3)])) p=some (.lst [.int x]):=by rw [ae nrp.symm];exact hp0
 have npn:p≠pn:=ag p1 hpn;have nrn:r≠pn:=ag aa hpn;have hnH:H pn=none:=by rw [ae nrn.symm] at hpn;exact hpn
 have B2:But2 r p H H2:=(But2.one But.put).trans (.one b2);have p2:H2 p=some (.lst [.int x]):=b2 _ _ nrp.symm p1;have lss:=nam.len;have ln:(0:Int) < (((ss.map V.str).length:Nat):Int):=by rw [List.length_map];lia
 obtain ⟨d0,d1⟩:=mod_lt c2 ln;obtain ⟨vk,hvk,ek⟩:=AA (xs:=ss.map V.str) d0 d1;obtain ⟨key,hkey,rfl⟩:=List.mem_map.mp hvk;refine ⟨_,rfl,_,rfl,_,rfl,pn,_,rfl,.inl (SqL.of n2),r,c2,_,rfl,r2,ln,(by rw [List.length_map];lia),pn,_,_,_,rfl,rfl,SqL.of (by rw [ae nrn.symm];exact n2),ek,?_⟩
 generalize hL:(((ss.map V.str).length:Nat):Int)=L at *
 have n3:(upd H2 r (.lst [.int (c2 / L)])) pn=some (.lst (ss.map V.str)):=by rw [ae nrn.symm];exact n2
 have r3:(upd H2 r (.lst [.int (c2 / L)])) r=some (.lst [.int (c2 / L)]):=aa;have p3:(upd H2 r (.lst [.int (c2 / L)])) p=some (.lst [.int x]):=by rw [ae nrp.symm];exact p2
 have B3:But2 r p H (upd H2 r (.lst [.int (c2 / L)])):=B2.trans (.one But.put)
 generalize upd H2 r (.lst [.int (c2 / L)])=H3 at *
 refine ⟨(by show 0≤sizeLine;decide),fun pf hpf=>?_⟩;have nrf:r≠pf:=ag r3 hpf;have npf:p≠pf:=ag p3 hpf;have nfn:pf≠pn:=(ag n3 hpf).symm;have hfH:H pf=none:=by
  cases e:H pf with
  | none=>rfl
  | some o=>rw [B3 _ _ nrf.symm npf.symm e] at hpf;cases hpf
 refine ⟨_,rfl,pn,rfl,⟨_,SqL.of (by rw [ae nfn.symm];exact n3)⟩,i4 (xs:=ss.map V.str) (fun i σ H'=>∃ gs ys c' x' v6 v7,RkI K r p pn pf ss key m x H i gs ys c' x' H'∧σ=[some (.ref r),some (.int (m+2:Nat)),some (.ref p),some (.ref pn),some (.str key),some (.ref pf),v6,v7])
  ⟨[],[],c2 / L,x,none,none,⟨B3.upd hfH,(by rw [ae nrf];exact r3),(by rw [ae npf];exact p3),(by rw [ae nfn.symm];exact n3),aa,.nil,rfl,(fun g hg=>by cases hg),(fun g hg=>by cases hg),(fun g hg=>by cases hg),(by show 0+4*bud x≤0+4*bud x;lia)⟩,rfl⟩ (fun i σ H' _ h=>by obtain ⟨_,_,_,_,_,_,h,_⟩:=h;exact SqL.of h.hn) ?_ ?_⟩
 ·rintro i u σ H4 hu ⟨gs,ys,c4,x4,v6,v7,I,rfl⟩;rw [List.getElem?_map] at hu;obtain ⟨z,hz,rfl⟩:=Option.map_eq_some_iff.mp hu;have li:=(List.getElem?_eq_some_iff.mp hz).1;have few:=I.few;refine ⟨_,rfl,r,c4,rfl,I.hr,fun v5 lo hi n5 H5 b5 r5 hv5 fk5=>?_⟩;have p5:H5 p=some (.lst [.int x4]):=b5 _ _ nrp.symm I.hp;have e2:(((m+2:Nat):Int)) - 2=((m:Nat):Int):=by lia
  refine ⟨_,rfl,r,n5,2,rfl,r5,by decide,by decide,rfl,_,rfl,aJ (fun c1=>?_) (fun c1=>?_)⟩
  ·obtain ⟨k4,k5⟩:=mod_lt (n5 / 2) (m:=4) (by decide);refine ⟨_,rfl,r,n5 / 2,4,rfl,aa,by decide,by decide,[.str "text",.int _],.cons .str (.cons .int .nil),sz2,fun v6 H6 g6 hv6=>?_⟩;have B6:But2 r p H4 H6:=(((But2.one b5).trans (.one But.put)).trans (.one But.put)).trans (.same g6);have r6:H6 r=some (.lst [.int (n5 / 2 / 4)]):=g6 _ _ aa;have p6:H6 p=some (.lst [.int x4]):=g6 _ _ (by rw [ae nrp.symm,ae nrp.symm];exact p5);refine ⟨_,rfl,_,rfl,rfl,_,rfl,aJ (fun c2=>?_) (fun c2=>?_)⟩
   ·refine ⟨_,rfl,_,rfl,_,_,rfl,rfl,_,rfl,r,p,n5 / 2 / 4,x4,m,hm1,hmn,(by show [V.ref r,V.int (((m+2:Nat):Int) - 2),V.ref p]=_;rw [e2]),nrp,r6,p6,fun v d a c7 n7 x7 H7 b7 r7 p7 hv fk7 ha hc7=>?_⟩;refine ⟨_,rfl,.inl ⟨rfl,_,SqL.of (b7 _ _ nrf.symm npf.symm (B6 _ _ nrf.symm npf.symm I.hf))⟩,_,rfl,_,rfl,[.str z,d],.cons .str (.cons hv .nil),sz2,fun v8 H8 g8 hv8=>?_⟩;exact ⟨pf,ys,v8,rfl,rfl,g8 _ _ (b7 _ _ nrf.symm npf.symm (B6 _ _ nrf.symm npf.symm I.hf)),aw (by lia),_,_,_,_,_,_,I.next hz nrf npf nrn npn nfn hfH (B6.trans b7) r7 p7 fk7 ha hc7 (fun e=>by rw [e] at c2;simp at c2) g8 hv8,rfl⟩
   ·refine ⟨_,rfl,.inl ⟨rfl,_,SqL.of (B6 _ _ nrf.symm npf.symm I.hf)⟩,_,rfl,_,rfl,[.str z,_],.cons .str (.cons hv6 .nil),sz2,fun v8 H8 g8 hv8=>?_⟩;exact ⟨pf,ys,v8,rfl,rfl,g8 _ _ (B6 _ _ nrf.symm npf.symm I.hf),aw (by lia),_,_,_,_,_,_,I.next hz nrf npf nrn npn nfn hfH B6 r6 p6 (.text _ k4 (by lia)) hm1 (by lia) (fun _=>⟨_,_,rfl,.inr rfl⟩) g8 hv8,rfl⟩
  ·have B6:But2 r p H4 (upd H5 r (.lst [.int (n5 / 2)])):=(But2.one b5).trans (.one But.put);have r6:(upd H5 r (.lst [.int (n5 / 2)])) r=some (.lst [.int (n5 / 2)]):=aa;have p6:(upd H5 r (.lst [.int (n5 / 2)])) p=some (.lst [.int x4]):=by rw [ae nrp.symm];exact p5
   have hv6:=hv5.but r5 (But.put (o:=.lst [.int (n5 / 2)]));refine ⟨_,rfl,_,rfl,rfl,_,rfl,aJ (fun c2=>?_) (fun c2=>?_)⟩
   ·refine ⟨_,rfl,_,rfl,_,_,rfl,rfl,_,rfl,r,p,n5 / 2,x4,m,hm1,hmn,(by show [V.ref r,V.int (((m+2:Nat):Int) - 2),V.ref p]=_;rw [e2]),nrp,r6,p6,fun v d a c7 n7 x7 H7 b7 r7 p7 hv fk7 ha hc7=>?_⟩;refine ⟨_,rfl,.inl ⟨rfl,_,SqL.of (b7 _ _ nrf.symm npf.symm (B6 _ _ nrf.symm npf.symm I.hf))⟩,_,rfl,_,rfl,[.str z,d],.cons .str (.cons hv .nil),sz2,fun v8 H8 g8 hv8=>?_⟩;exact ⟨pf,ys,v8,rfl,rfl,g8 _ _ (b7 _ _ nrf.symm npf.symm (B6 _ _ nrf.symm npf.symm I.hf)),aw (by lia),_,_,_,_,_,_,I.next hz nrf npf nrn npn nfn hfH (B6.trans b7) r7 p7 fk7 ha hc7 (fun e=>by rw [e] at c2;simp at c2) g8 hv8,rfl⟩
   ·refine ⟨_,rfl,.inl ⟨rfl,_,SqL.of (B6 _ _ nrf.symm npf.symm I.hf)⟩,_,rfl,_,rfl,[.str z,_],.cons .str (.cons hv6 .nil),sz2,fun v8 H8 g8 hv8=>?_⟩;exact ⟨pf,ys,v8,rfl,rfl,g8 _ _ (B6 _ _ nrf.symm npf.symm I.hf),aw (by lia),_,_,_,_,_,_,I.next hz nrf npf nrn npn nfn hfH B6 r6 p6 fk5 hm1 (by lia) (fun _=>⟨_,_,rfl,.inl rfl⟩) g8 hv8,rfl⟩
 ·rintro σ H4 ⟨gs,ys,c4,x4,v6,v7,I,rfl⟩;obtain ⟨B4,r4,p4,n4,f4,hys,nms,fk,hd,ky,hsum⟩:=I;rw [List.length_map,List.take_length] at nms;rw [List.length_map] at hsum;obtain ⟨F1,F2⟩:=uv (D:=m) nam (by lia) nms fk hd;have hK:Ao (gs.map prG) key:=by
   obtain ⟨g,hg,rfl⟩:=List.mem_map.mp (nms ▸ hkey:key∈gs.map (·.1));obtain ⟨w,l,e,h⟩:=ky g hg rfl;exact ⟨w,l,List.mem_map.mpr ⟨g,hg,by show Dt.tup [.str g.1,g.2.1]=_;rw [e]⟩,h⟩
  obtain ⟨k4,k5⟩:=mod_lt c4 (m:=9) (by decide);refine ⟨_,rfl,_,rfl,pf,_,_,rfl,SqL.of f4,hys,fun v5 H5 g5 hv5=>?_⟩;refine ⟨[.str "record",.tup (gs.map prG)],.cons .str (.cons hv5 .nil),sz2,fun v6 H6 g6 hv6=>?_⟩;have r6:=g6 _ _ (g5 _ _ r4);refine ⟨_,rfl,r,c4,9,rfl,r6,by decide,by decide,[.str "rows",.str key,.tup [.str "record",.tup (gs.map prG)],.int _],.cons .str (.cons .str (.cons (hv6.but r6 But.put) (.cons .int .nil))),(by show 4≤sizeLine;decide),fun v7 H7 g7 hv7=>?_⟩;exact q v7 _ _ _ (c4 / 9) x4 H7 ((((B4.trans (.same g5)).trans (.same g6)).trans (.one But.put)).trans (.same g7)) (g7 _ _ aa) (g7 _ _ (by rw [ae nrp.symm];exact g6 _ _ (g5 _ _ p4))) hv7 (.rows F1 hK k4 (by lia)) (by lia) (by lia)
theorem kO (T:Tx K mg ad) {f fr fw:Addr} {fd fdr fdw:FuncData} (D:Gn K mg "_law_kind" bY ["row","deep","room"] f fd) (Dr:Gn K mg "_law_record_kind" aS ["row","deep","room"] fr fdr) (Dw:Gn K mg "_law_rows_kind" bg ["row","deep","room"] fw fdw) :
  ∀ n,FnOk P w K mg base CX0 (3*n+6) f fd ["row","deep","room"] (nZ K n)
 | 0=>bt fun vs H Q E z=>by obtain ⟨_,_,_,_,m,h1,h2,_⟩:=z;lia
 | n+1=>by
  have ih:=kO T D Dr Dw n;refine (n6 T n D Dr Dw ih (fQ T n Dr D ih) ((hZ T n Dw D ih).imp ?_)).mono (by lia);rintro vs H Q E ⟨r,p,c,x,m,h1,h2,z⟩;exact ⟨r,p,c,x,m,h1,by lia,z⟩
def aA (L:Str) (c:Nat):Bool:=decide (c∈L.cps.toList)
def bE (L:Str) (cs:List Nat):Nat:=(cs.takeWhile (aA L)).length
theorem me (L:Str):∀ cs:List Nat,bE L cs≤cs.length
 | []=>Nat.le_refl _
 | c :: cs=>by
  unfold bE;rw [List.takeWhile_cons]
  split
  ·exact Nat.succ_le_succ (me L cs)
  ·exact Nat.zero_le _
theorem uw {L:Str}:∀ {cs:List Nat} {k:Nat},k < bE L cs→∃ c,cs[k]?=some c∧aA L c=true
 | [],k,h=>by simp [bE] at h
 | c :: cs,k,h=>by
  unfold bE at h;rw [List.takeWhile_cons] at h
  split at h
  ·rename_i e
   cases k with
   | zero=>exact ⟨c,rfl,e⟩
   | succ k=>exact uw (cs:=cs) (by unfold bE;simpa using h)
  ·simp at h
theorem run_end {L:Str}:∀ {cs:List Nat} {c:Nat},cs[bE L cs]?=some c→aA L c=false
 | [],c,h=>by simp at h
 | d :: cs,c,h=>by
  unfold bE at h;rw [List.takeWhile_cons] at h
  split at h
  ·exact run_end (cs:=cs) (by unfold bE;simpa using h)
  ·rename_i e
   simp at h;subst h
   simpa using e
def pT (_:PySem.W.Frag) (_:Ads):Sp:=fun vs H Q _=>∃ (z L:Str) (n:Nat),vs=[.str z,.int n,.str L]∧n≤z.length∧z.length≤100000∧Q (.int (n+bE L (z.cps.toList.drop n):Nat)) H
theorem pU (T:Tx K mg ad) {f:Addr} {fd:FuncData} (F:Gn K mg "run_end" io ["text","at","letters"] f fd):FnOk P w K mg base CX0 1 f fd ["text","at","letters"] (pT K ad):=by
 refine F.F.ok gd (fun vs H Q E h=>?_) (fun cdv A outer s H vs Q E hr h=>?_)
 ·obtain ⟨z,L,n,rfl,_⟩:=h
  rfl
 obtain ⟨z,L,n,rfl,hn,hz,q⟩:=h;refine ⟨_,(@pss_cons _ _ _ _ _ (@ps_set _ _ 3 _ _ _ _ gd.nd rfl (Or.inl rfl) (pv 1) (by rfl) (by first | exact .inl rfl | exact .inr rfl | assumption)) (@pss_cons _ _ _ _ _ (i3 PassesOwn.never (PW.pt (@pw_and _ _ _ _ _ _ _ (pt_cmpR ir (pv 3) (pe_callB call_len_str rfl T.z_len PySem.boot_len (@pa1 _ _ _ (pv 0) (by rfl))) (nomark _)) (@pw_and1 _ _ _ _ (pt_cmpR op_in_str (@pe_ix _ _ _ _ _ _ _ ix_str (pv 0) (pv 3) (fun _ _=>rfl)) (pv 2) rfl))))
    (@pss_one _ _ _ (oR (i:=3) gd.nd rfl (Or.inl rfl) pe_int ip_add))) (@pss_one _ _ _ (@ps_ret _ _ _ _ (pv 3))))),?_⟩
 have rl:=me L (z.cps.toList.drop n);rw [List.length_drop,aj] at rl;refine ⟨_,rfl,fun m σ H'=>H'=H∧∃ k:Nat,k≤bE L (z.cps.toList.drop n)∧m=bE L (z.cps.toList.drop n) - k∧σ=[some (.str z),some (.int n),some (.str L),some (.int (n+k:Nat))],⟨_,rfl,0,Nat.zero_le _,rfl,rfl⟩,?_⟩;rintro m σ H' ⟨rfl,k,hk,rfl,rfl⟩;refine ⟨_,rfl,_,rfl,z,rfl,bU hz,_,_,rfl,rfl,_,rfl,aJ (fun c=>?_) (fun c=>?_)⟩
 ·have hlt:n+k < z.length:=by have:=of_decide_eq_true c;lia
  obtain ⟨ch,hch⟩:∃ ch,z.cps.toList[n+k]?=some ch:=⟨_,List.getElem?_eq_getElem (by rw [aj];exact hlt)⟩;have hd:(z.cps.toList.drop n)[k]?=some ch:=by rw [List.getElem?_drop];exact hch
  refine ⟨_,rfl,_,rfl,z,_,ch,rfl,rfl,bU hz,nO hch,_,rfl,_,_,rfl,rfl,_,rfl,?_⟩;rw [PySem.StrLaws.found_one]
  by_cases hlt':k < bE L (z.cps.toList.drop n)
  ·obtain ⟨c',h1,h2⟩:=uw hlt';rw [hd] at h1;obtain rfl:=Option.some.inj h1;rw [show decide (ch∈L.cps.toList)=true from h2];refine bL ⟨fun σ' H2=>H2=H'∧σ'=[some (.str z),some (.int n),some (.str L),some (.int (n+(k+1):Nat))],fun σ' H2 p=>⟨_,(by lia:bE L (z.cps.toList.drop n) - (k+1) < _),p.1,k+1,hlt',rfl,p.2⟩,_,rfl,_,_,rfl,rfl,rfl,?_⟩;simp only [List.set_cons_succ,List.set_cons_zero];rw [show ((n+k:Nat):Int)+1=((n+(k+1):Nat):Int) by lia]
  ·have e:k=bE L (z.cps.toList.drop n):=by lia
   subst e;rw [show decide (ch∈L.cps.toList)=false from run_end hd];exact bq ⟨_,rfl,q⟩
 ·have e:k=bE L (z.cps.toList.drop n):=by
   have c':¬ (((n+k:Nat):Int) < (z.length:Int)):=fun h=>c (decide_eq_true h);lia
  subst e;exact ⟨_,rfl,q⟩
abbrev letS:Str:= "abcdefghijklmnopqrstuvwxyz"
abbrev figS:Str:= "0123456789"
def cT:List Nat→Option Nat
 | []=>none
 | c :: r=>if c=34 then (r.findIdx? (· == 34)).map (· + 2) else if aA letS c=true then some (bE letS (c :: r)) else if c=45∨aA figS c=true then some (1+bE figS r) else some 1
theorem gu (c d:Nat):decide (V.str ⟨#[c]⟩=V.str ⟨#[d]⟩)=decide (c=d):=by
 rw [decide_eq_decide];exact ⟨fun h=>by injection h with h;injection h with h;simpa using h,fun h=>by rw [h]⟩
theorem ux:(Str.ofString "\"")=⟨#[34]⟩:=by decide +kernel
theorem uy:(Str.ofString "-")=⟨#[45]⟩:=by decide +kernel
theorem wA:(Str.ofString " ")=⟨#[32]⟩:=by decide +kernel
def n8 (_:PySem.W.Frag) (ad:Ads):Sp:=fun vs H Q E=>∃ (z:Str) (n:Nat),vs=[.str z,.int n]∧n < z.length∧z.length≤100000 ∧
 (∀ k,cT (z.cps.toList.drop n)=some k→Q (.int (n+k:Nat)) H)∧(cT (z.cps.toList.drop n)=none→∀ H',Same H H'→E (.ref ad.BadText) none H')
theorem AD (z:Str) (n:Nat):tZ z ⟨#[34]⟩ ((n:Int)+1)=match (z.cps.toList.drop (n+1)).findIdx? (· == 34) with | some i=>((n+1+i:Nat):Int) | none=>-1:=by
 unfold tZ;have e:PySem.fromIndex z.length ((n:Int)+1)=n+1:=by
  unfold PySem.fromIndex;rw [if_neg (by lia)];lia
 rw [e,PySem.StrLaws.occ_one]
 cases (z.cps.toList.drop (n+1)).findIdx? (· == 34) <;> rfl
theorem og (T:Tx K mg ad) {f:Addr} {fd:FuncData} (F:Gn K mg "word_end" fZ ["text","at"] f fd):FnOk P w K mg base (CXE P w) 2 f fd ["text","at"] (n8 K ad):=by
 obtain ⟨_,_,IK⟩:=T.run_end;have Jh:=pU (P:=P) (w:=w) (base:=base) T IK;obtain ⟨t_QUOTE,c_QUOTE⟩:=T.QUOTE;obtain ⟨t_LETTERS,c_LETTERS⟩:=T.LETTERS;obtain ⟨t_MINUS,c_MINUS⟩:=T.MINUS;obtain ⟨t_FIGURES,c_FIGURES⟩:=T.FIGURES;refine F.F.okW iF (fun vs H Q E h=>?_) (fun cdv A outer s H vs Q E hr h=>?_)
 ·obtain ⟨z,n,rfl,_⟩:=h
  rfl
 obtain ⟨z,n,rfl,hn,hz,q1,q2⟩:=h;refine ⟨_,(@pss_cons _ _ _ _ _ (@ps_if _ _ _ _ _ _ _ _ (pt_cmpR op_eq (@pe_ix _ _ _ _ _ _ _ ix_str (pv 0) (pv 1) (fun _ _=>rfl)) (pe_gstr rfl c_QUOTE) (nomark _)) (@pss_cons _ _ _ _ _ (@ps_set _ _ 2 _ _ _ _ iF.nd rfl (Or.inl rfl) (pe_bm PySem.F.plainAttrs_str PySem.F.slot_str_find PySem.F.type_str_find uc (pv 0) (@pa2 _ _ _ _ _ (pe_gstr rfl c_QUOTE) (@pe_op _ _ _ _ _ _ _ _ aO (pv 1) pe_int) (by rfl) (by rfl))) (by rfl) (by first | exact .inl rfl | exact .inr rfl | assumption)) (@pss_cons _ _ _ _ _ (@ps_if _ _ _ _ _ _ _ _ (pt_cmpR ir (pv 2) pe_int (nomark _)) (@pss_one _ _ _ (ps_raiseW rfl rfl rfl rfl T.x_BadText rfl (@pa1 _ _ _ pe_str (by rfl)))) pss_nil) (@pss_one _ _ _ (@ps_ret _ _ _ _ (@pe_op _ _ _ _ _ _ _ _ aO (pv 2) pe_int))))) pss_nil) (@pss_cons _ _ _ _ _ (@ps_if _ _ _ _ _ _ _ _ (pt_cmpR op_in_str (@pe_ix _ _ _ _ _ _ _ ix_str (pv 0) (pv 1) (fun _ _=>rfl)) (pe_gstr rfl c_LETTERS) rfl) (@pss_one _ _ _ (@ps_ret _ _ _ _ (pcl IK Jh (hr.mono (by lia)) rfl (@pa3 _ _ _ _ _ _ _ (pv 0) (pv 1) (pe_gstr rfl c_LETTERS) (by rfl) (by rfl) (by rfl))))) pss_nil) (@pss_cons _ _ _ _ _ (@ps_if _ _ _ _ _ _ _ _ (PW.pt (@pw_or _ _ _ _ _ _ _ (pt_cmpR op_eq (@pe_ix _ _ _ _ _ _ _ ix_str (pv 0) (pv 1) (fun _ _=>rfl)) (pe_gstr rfl c_MINUS) (nomark _)) (@pw_or1 _ _ _ _ (pt_cmpR op_in_str (@pe_ix _ _ _ _ _ _ _ ix_str (pv 0) (pv 1) (fun _ _=>rfl)) (pe_gstr rfl c_FIGURES) rfl)))) (@pss_one _ _ _ (@ps_ret _ _ _ _ (pcl IK Jh (hr.mono (by lia)) rfl (@pa3 _ _ _ _ _ _ _ (pv 0) (@pe_op _ _ _ _ _ _ _ _ aO (pv 1) pe_int) (pe_gstr rfl c_FIGURES) (by rfl) (by rfl) (by rfl))))) pss_nil) (@pss_one _ _ _ (@ps_ret _ _ _ _ (@pe_op _ _ _ _ _ _ _ _ aO (pv 1) pe_int)))))),?_⟩;obtain ⟨ch,hch⟩:∃ ch,z.cps.toList[n]?=some ch:=⟨_,List.getElem?_eq_getElem (by rw [aj];exact hn)⟩;have hd:z.cps.toList.drop n=ch :: z.cps.toList.drop (n+1):=by
  obtain ⟨h1,h2⟩:=List.getElem?_eq_some_iff.mp hch;rw [List.drop_eq_getElem_cons h1,h2]
 rw [hd] at q1 q2;simp only [cT] at q1 q2;refine ⟨_,rfl,_,rfl,z,_,ch,rfl,rfl,bU hz,nO hch,?_⟩;refine ⟨rfl,_,rfl,?_⟩;rw [ux,gu];refine aJ (fun c=>?_) (fun c=>?_)
 ·have c':=of_decide_eq_true c;rw [if_pos c'] at q1 q2;refine ⟨_,rfl,rfl,_,rfl,_,_,rfl,rfl,_,_,_,rfl,rfl,?_⟩;rw [AD]
  cases hf:(z.cps.toList.drop (n+1)).findIdx? (· == 34) with
  | none =>
   rw [hf] at q2;dsimp only;refine ⟨_,rfl,_,_,rfl,rfl,_,rfl,aJ (fun _=>?_) (fun c=>absurd (show decide ((-1:Int) < 0)=true by decide) c)⟩;exact ⟨sz1,q2 rfl H (Same.refl H)⟩
  | some i =>
   rw [hf] at q1;dsimp only;refine ⟨_,rfl,_,_,rfl,rfl,_,rfl,aJ (fun c=>absurd (of_decide_eq_true c) (Int.not_lt.mpr (Int.natCast_nonneg _))) (fun _=>?_)⟩;refine ⟨_,rfl,_,_,rfl,rfl,?_⟩;have:=q1 (i+2) rfl;rw [show ((n+1+i:Nat):Int)+1=((n+(i+2):Nat):Int) by lia];exact this
 have c':¬ ch=34:=fun h=>c (decide_eq_true h);rw [if_neg c'] at q1 q2;refine ⟨_,rfl,_,rfl,z,_,ch,rfl,rfl,bU hz,nO hch,_,_,rfl,rfl,_,rfl,?_⟩;rw [PySem.StrLaws.found_one];refine aJ (fun c=>?_) (fun c=>?_)
 ·have c2:aA letS ch=true:=c;rw [if_pos c2] at q1;have:=q1 _ rfl;rw [← hd] at this;exact ⟨_,rfl,_,rfl,z,letS,n,rfl,by lia,hz,this⟩
 have c2:¬ aA letS ch=true:=c;rw [if_neg c2] at q1 q2;refine ⟨_,rfl,_,rfl,z,_,ch,rfl,rfl,bU hz,nO hch,rfl,_,rfl,?_⟩;rw [uy,gu];have run:(ch=45∨aA figS ch=true)→Q (.int (n+(1+bE figS (z.cps.toList.drop (n+1))):Nat)) H:=fun h=>by
  rw [if_pos h] at q1;exact q1 _ rfl
 have call:∀ {Q':Prop},((Q (.int (n+1+bE figS (z.cps.toList.drop (n+1)):Nat)) H)→Q')→(ch=45∨aA figS ch=true)→Q':=fun f h=>f (by
  rw [show n+1+bE figS (z.cps.toList.drop (n+1))=n+(1+bE figS (z.cps.toList.drop (n+1))) by lia];exact run h)
 refine aJ (fun c3=>?_) (fun c3=>?_)
 ·refine bL ⟨_,rfl,_,rfl,_,_,rfl,rfl,z,figS,n+1,(by rw [Int.natCast_add];rfl),by lia,hz,call id (.inl (of_decide_eq_true c3))⟩
 ·refine ⟨_,rfl,_,rfl,z,_,ch,rfl,rfl,bU hz,nO hch,_,_,rfl,rfl,_,rfl,?_⟩;rw [PySem.StrLaws.found_one];refine aJ (fun c4=>?_) (fun c4=>?_)
  ·exact ⟨_,rfl,_,rfl,_,_,rfl,rfl,z,figS,n+1,(by rw [Int.natCast_add];rfl),by lia,hz,call id (.inr c4)⟩
  ·rw [if_neg (fun h=>h.elim (fun h=>c3 (decide_eq_true h)) (fun h=>c4 h))] at q1;refine ⟨_,rfl,_,_,rfl,rfl,?_⟩;exact q1 1 rfl
abbrev figs:Str:= "0123456789"
def inF (c:Nat):Bool:=!(Builtin.Str.occurrences figs ⟨#[c]⟩ 0 figs.length 1).isEmpty
def eH (c:Nat):Bool:=decide (48≤c∧c≤57)
theorem qI (c:Nat):inF c=eH c:=by
 unfold inF eH;rw [PySem.StrLaws.found_one,show figs.cps.toList=[48,49,50,51,52,53,54,55,56,57] by decide +kernel,decide_eq_decide];refine ⟨fun h=>?_,fun h=>?_⟩
 ·revert c
  decide
 ·obtain ⟨k,rfl⟩:=Nat.exists_eq_add_of_le h.1;have h2:k < 10:=by lia
  clear h
  revert k
  decide
def aB (cs:List Nat):List Nat:=if cs.head?=some 45 then cs.drop 1 else cs
def cF (cs:List Nat):Option Int :=
 if aB cs=[] then none else if (aB cs).all eH=false then none
 else if (aB cs).head?=some 48∧cs≠[48] then none
 else some (if cs.head?=some 45 then -(NumText.digitsVal (aB cs):Int) else (NumText.digitsVal (aB cs):Int))
def Hj:Option Int→V
 | none=>.non
 | some i=>.int i
def aL (m:Int):Str:=Str.ofString (toString m)
def mf (_:PySem.W.Frag) (_:Ads):Sp:=fun vs H Q _=>∃ z:Str,vs=[.str z]∧z.length≤100∧∀ H',Same H H'→Q (Hj (cF z.cps.toList)) H'
theorem pV {n:Nat} (h:n≤1000):n≤sizeLine:=Nat.le_of_lt (aw h)
theorem uz:("-" : Str)=⟨#[45]⟩:=by decide +kernel
theorem kP:("0" : Str)=⟨#[48]⟩:=by decide +kernel
theorem AE:("" : Str)=⟨#[]⟩:=by decide +kernel
theorem uA (z:Str):decide (V.str z=V.str "")=decide (z.cps.toList=[]):=by
 rw [AE,decide_eq_decide];exact ⟨fun h=>by injection h with h;rw [h],fun h=>congrArg V.str (b8 h)⟩
theorem kQ (z:Str):decide (V.str z=V.str "0")=decide (z.cps.toList=[48]):=by
 rw [kP,decide_eq_decide];exact ⟨fun h=>by injection h with h;rw [h],fun h=>congrArg V.str (b8 h)⟩
theorem mh (z:Str):Txt.startswith z "-" = decide (z.cps.toList.head?=some 45):=by rw [uz];exact jg z 45
theorem fE (z:Str):Txt.startswith z "0" = decide (z.cps.toList.head?=some 48):=by rw [kP];exact jg z 48
theorem uB {z:Str} {c:Nat} (h:z.cps.toList.head?=some c):1≤z.length:=by
 rw [← aj]
 cases e:z.cps.toList with
 | nil=>rw [e] at h;cases h
 | cons a l=>simp
theorem rW {z:Str} (h:z.cps.toList.head?=some 45):(Txt.slice z (some 1) none).cps.toList=aB z.cps.toList:=by
 rw [pJ (uB h)];unfold aB;rw [if_pos h]
theorem oh (cs:List Nat):cs.all inF=cs.all eH:=by rw [show inF=eH from funext qI]
theorem qJ (cs:List Nat):(aB cs).length≤cs.length:=by
 unfold aB
 split
 ·rw [List.length_drop];lia
 ·exact Nat.le_refl _
theorem rX {cs:List Nat} (h:cs.all eH=true):NumText.AllDigits cs:=fun c hc=>of_decide_eq_true (List.all_eq_true.mp h c hc)
theorem oi {z:Str} (hz:z.length≤100) (h1:aB z.cps.toList≠[]) (h2:(aB z.cps.toList).all eH=true) (h3:¬ ((aB z.cps.toList).head?=some 48∧z.cps.toList≠[48])):∃ n,PySem.intText? z=some n∧cF z.cps.toList=some n:=by
 unfold cF;rw [if_neg h1,if_neg (by rw [h2];exact Bool.noConfusion),if_neg h3];have hd:=rX h2
 by_cases hm:z.cps.toList.head?=some 45
 ·rw [if_pos hm];have ef:aB z.cps.toList=z.cps.toList.drop 1:=by unfold aB;rw [if_pos hm]
  have e:z.cps.toList=45 :: aB z.cps.toList:=by
   rw [ef]
   cases e:z.cps.toList with
   | nil=>rw [e] at hm;cases hm
   | cons a l=>rw [e] at hm;injection hm with hm;subst hm;rfl
  exact ⟨_,PySem.intText_neg e hd h1 (by lia),rfl⟩
 ·rw [if_neg hm];have ef:aB z.cps.toList=z.cps.toList:=by unfold aB;rw [if_neg hm]
  rw [ef] at hd h1 ⊢;exact ⟨_,PySem.intText_digits hd h1 (by lia),rfl⟩
theorem gv (m:Int):(aL m).cps.toList=dM m:=str_int m
theorem vK (m:Int):cF (dM m)=some m:=by
 have hd:(dg m.natAbs).all eH=true:=List.all_eq_true.mpr fun c hc=>decide_eq_true (du _ c hc)
 by_cases h:m < 0
 ·have e:dM m=45 :: dg m.natAbs:=by unfold dM;rw [if_pos h]
  have ef:aB (dM m)=dg m.natAbs:=by rw [e];rfl
  obtain ⟨c,r,eh,hc⟩:=qx m.natAbs (by lia);unfold cF;rw [ef,if_neg (tL _),if_neg (by rw [hd];exact Bool.noConfusion),if_neg (by
   rintro ⟨a,_⟩;rw [eh] at a;injection a with a
   lia),tM,e]
  show some (if (45 :: dg m.natAbs).head?=some 45 then -(m.natAbs:Int) else (m.natAbs:Int))=some m;rw [if_pos (show (45 :: dg m.natAbs).head?=some 45 from rfl)]
  congr 1
  lia
 ·have e:dM m=dg m.natAbs:=by unfold dM;rw [if_neg h]
  have hh:(dg m.natAbs).head?≠some 45:=by
   intro z;have:45∈dg m.natAbs:=List.mem_of_head? z;have:=du _ _ this;lia
  have ef:aB (dM m)=dg m.natAbs:=by rw [e];unfold aB;rw [if_neg hh]
  unfold cF;rw [ef,if_neg (tL _),if_neg (by rw [hd];exact Bool.noConfusion),if_neg (by
   rintro ⟨a,b⟩
   by_cases h0:m.natAbs=0
   ·rw [e,h0] at b;exact b (eA (by decide))
   ·obtain ⟨c,r,eh,hc⟩:=qx m.natAbs (by lia);rw [eh] at a;injection a with a
    lia),tM,e,if_neg hh]
  congr 1
  lia
theorem qK {K:PySem.W.Frag} {H:Hp} {l:Addr} {z:Str} {R:Hp→Prop} {nm:L2.St} (hl:H l=none) (hz:z.length≤sizeLine) (q:∀ H',Same H H'→SqL K H' l (bls (z.cps.toList.map inF))→R H')
  (hn:nm=[none]):∃ W:Nat→Nat→List V→L2.St→Hp→Prop,(∃ m,W 0 m [] nm (upd H l (.lst [])))∧∀ i m ys σ' H',W i m ys σ' H'→((Its z).stop i H'∧R H') ∨
   ((Its z).go i H'∧∀ x H'',(Its z).yld i H' x H''→i0 0 x σ' H'' fun σ2 H2=>cEl (tOp (fun x y H Q=>∃ i j,x=.str i∧y=.str j∧Q (.bl (!(Builtin.Str.occurrences j i 0 j.length 1).isEmpty)) H) (sG 0) (tC (.str figs))) ys l σ2 H2 fun ys' σ3 H3=>∃ m',m' < m∧W (i+1) m' ys' σ3 H3):=by
 subst hn;refine jb (Q:=fun _ H'=>R H') (fun i ys σ H'=>ys=bls ((z.cps.toList.take i).map inF)∧H'=upd H l (.lst ys)∧σ.length=1) ⟨rfl,rfl,rfl⟩ ?_ ?_
 ·rintro i c ys σ H1 N hc ⟨rfl,rfl,hσ⟩ next;have hc':z.cps.toList[i]?=some c:=by rw [Array.getElem?_toList];exact hc
  have hi:i < z.cps.toList.length:=(List.getElem?_eq_some_iff.mp hc').1;have hlen:(bls ((z.cps.toList.take i).map inF)).length < sizeLine:=by
   have:z.length=z.cps.toList.length:=by simp [Str.length]
   simp only [bls,List.length_map,List.length_take];lia
  match σ,hσ with
  | [_],_ =>
   refine ⟨.str ⟨#[c]⟩,rfl,_,_,rfl,rfl,aa,hlen,next _ _ _ ⟨?_,qj,rfl⟩⟩;show bls ((z.cps.toList.take i).map inF)++[V.bl (inF c)]=bls ((z.cps.toList.take (i+1)).map inF);unfold bls;rw [List.map_map,List.map_map];exact cB (V.bl ∘ inF) hc'
 ·rintro ys σ H1 ⟨rfl,rfl,hσ⟩;refine q _ (ah hl _) (SqL.of ?_);rw [aa];have:z.cps.toList.take z.cps.size=z.cps.toList:=List.take_of_length_le (by simp);rw [this]
theorem jy {c:Prop} [Decidable c] (h:(!decide c)=true):¬ c:=by simpa using h
theorem jz {c:Prop} [Decidable c] (h:¬ (!decide c)=true):c:=by simpa using h
theorem mi (T:Tx K mg ad) {f:Addr} {fd:FuncData} (F:Gn K mg "number_of" eT ["text"] f fd):FnOk P w K mg base CX0 1 f fd ["text"] (mf K ad):=by
 obtain ⟨t_FIGURES,c_FIGURES⟩:=T.FIGURES;refine F.F.ok gF (fun vs H Q E h=>?_) (fun cdv A outer s H vs Q E hr h=>?_)
 ·obtain ⟨z,rfl,_⟩:=h
  rfl
 obtain ⟨z,rfl,hz,q⟩:=h;refine ⟨_,(@pss_cons _ _ _ _ _ (@ps_set _ _ 1 _ _ _ _ gF.nd rfl (Or.inl rfl) (gf (@pt_val _ _ _ (pe_bm PySem.F.plainAttrs_str PySem.F.slot_str_startswith PySem.F.type_str_startswith mt_starts (pv 0) (@pa1 _ _ _ pe_str (by rfl))) (by intro _;rfl)) (pe_slice sl_str (pv 0) (po_some pe_int) cw) (pv 0)) (by rfl) (by first | exact .inl rfl | exact .inr rfl | assumption)) (@pss_cons _ _ _ _ _ (@ps_if _ _ _ _ _ _ _ _ (PW.pt (@pw_or _ _ _ _ _ _ _ (pt_cmpR op_eq (pv 1) pe_str (nomark _)) (@pw_or1 _ _ _ _ (@pt_not _ _ _ _ (@pt_val _ _ _ (pe_callB (call_allN (K:=K) rfl rfl) rfl T.z_all boot_all (@pa1 _ _ _ (pe_comp rfl (cs0 (NL:=["figure"]) rfl (by decide +kernel) (by decide +kernel)) (pF (pv 1)) (fun _ _ _ _=>(ak (i:=0) (show List.Nodup (α:=Str) ["figure"] by decide +kernel) rfl (Or.inl rfl))) (fun _ _ _ _=>(pe_cmpR op_in_str (pv 0) (pe_gstr rfl c_FIGURES) rfl))) (by rfl))) (by intro _;rfl)))))) (@pss_one _ _ _ (@ps_ret _ _ _ _ pe_non)) pss_nil) (@pss_cons _ _ _ _ _ (@ps_if _ _ _ _ _ _ _ _ (PW.pt (@pw_and _ _ _ _ _ _ _ (@pt_val _ _ _ (pe_bm PySem.F.plainAttrs_str PySem.F.slot_str_startswith PySem.F.type_str_startswith mt_starts (pv 1) (@pa1 _ _ _ pe_str (by rfl))) (by intro _;rfl)) (@pw_and1 _ _ _ _ (pt_cmpR op_ne (pv 0) pe_str (nomark _))))) (@pss_one _ _ _ (@ps_ret _ _ _ _ pe_non)) pss_nil) (@pss_one _ _ _ (@ps_ret _ _ _ _ (pe_callTy call_int_text rfl T.z_int boot_int (@pa1 _ _ _ (pv 0) (by rfl)))))))),?_⟩;refine ⟨_,rfl,rfl,_,_,rfl,rfl,_,rfl,?_⟩;rw [mh];refine aJ (fun c1=>?_) (fun c1=>?_)
 ·have eF:=rW (of_decide_eq_true c1);refine ⟨_,rfl,_,rfl,z,rfl,pV (by lia),?_⟩;have lF:=aj (Txt.slice z (some 1) none);rw [eF] at lF;refine ⟨_,rfl,rfl,_,rfl,?_⟩;rw [uA];have fl:=qJ z.cps.toList;rw [aj] at fl;refine aJ (fun c2=>?_) (fun c2=>?_)
  ·have e:cF z.cps.toList=none:=by unfold cF;rw [if_pos (eF.symm.trans (of_decide_eq_true c2))]
   refine bL ?_;rw [e] at q;exact q H (Same.refl H)
  have n2:aB z.cps.toList≠[]:=fun y=>c2 (decide_eq_true (eF.trans y));refine ⟨_,rfl,_,rfl,fun l hl=>qK (K:=K) hl (pV (by lia)) (fun H1 g1 s1=>⟨l,_,rfl,rfl,s1,_,rfl,?_⟩) rfl⟩;rw [List.all_map,show (id ∘ inF)=inF from rfl,eF,oh]
  cases hall:(aB z.cps.toList).all eH with
  | false =>
   have e:cF z.cps.toList=none:=by unfold cF;rw [if_neg n2,if_pos hall]
   refine bL ?_;rw [e] at q;exact q H1 g1
  | true =>
  refine bq ?_;refine ⟨_,rfl,rfl,_,_,rfl,rfl,_,rfl,?_⟩;rw [fE];have due:¬ ((aB z.cps.toList).head?=some 48∧z.cps.toList≠[48])→∃ n,PySem.intText? z=some n∧cF z.cps.toList=some n:=oi hz n2 hall;refine aJ (fun c3=>?_) (fun c3=>?_)
  ·have c3':=(congrArg List.head? eF).symm.trans (of_decide_eq_true c3);refine ⟨_,rfl,rfl,_,rfl,?_⟩;rw [kQ];refine aJ (fun c4=>?_) (fun c4=>?_)
   ·have e:cF z.cps.toList=none:=by unfold cF;rw [if_neg n2,if_neg (by rw [hall];exact Bool.noConfusion),if_pos ⟨c3',jy c4⟩]
    rw [e] at q;exact q H1 g1
   ·obtain ⟨n,e1,e2⟩:=due (fun y=>y.2 (jz c4));rw [e2] at q;exact ⟨_,rfl,z,n,rfl,e1,by lia,q H1 g1⟩
  ·obtain ⟨n,e1,e2⟩:=due (fun y=>c3 (decide_eq_true ((congrArg List.head? eF).trans y.1)));rw [e2] at q;exact ⟨_,rfl,z,n,rfl,e1,by lia,q H1 g1⟩
 ·have eF:z.cps.toList=aB z.cps.toList:=by
   unfold aB;rw [if_neg (fun y=>c1 (decide_eq_true y))]
  have lF:=aj z;have lF:(aB z.cps.toList).length=z.length:=eF ▸ lF;refine ⟨_,rfl,?_⟩;refine ⟨_,rfl,rfl,_,rfl,?_⟩;rw [uA];have fl:=qJ z.cps.toList;rw [aj] at fl;refine aJ (fun c2=>?_) (fun c2=>?_)
  ·have e:cF z.cps.toList=none:=by unfold cF;rw [if_pos (eF.symm.trans (of_decide_eq_true c2))]
   refine bL ?_;rw [e] at q;exact q H (Same.refl H)
  have n2:aB z.cps.toList≠[]:=fun y=>c2 (decide_eq_true (eF.trans y));refine ⟨_,rfl,_,rfl,fun l hl=>qK (K:=K) hl (pV (by lia)) (fun H1 g1 s1=>⟨l,_,rfl,rfl,s1,_,rfl,?_⟩) rfl⟩;rw [List.all_map,show (id ∘ inF)=inF from rfl,eF,oh]
  cases hall:(aB z.cps.toList).all eH with
  | false =>
   have e:cF z.cps.toList=none:=by unfold cF;rw [if_neg n2,if_pos hall]
   refine bL ?_;rw [e] at q;exact q H1 g1
  | true =>
  refine bq ?_;refine ⟨_,rfl,rfl,_,_,rfl,rfl,_,rfl,?_⟩;rw [fE];have due:¬ ((aB z.cps.toList).head?=some 48∧z.cps.toList≠[48])→∃ n,PySem.intText? z=some n∧cF z.cps.toList=some n:=oi hz n2 hall;refine aJ (fun c3=>?_) (fun c3=>?_)
  ·have c3':=(congrArg List.head? eF).symm.trans (of_decide_eq_true c3);refine ⟨_,rfl,rfl,_,rfl,?_⟩;rw [kQ];refine aJ (fun c4=>?_) (fun c4=>?_)
   ·have e:cF z.cps.toList=none:=by unfold cF;rw [if_neg n2,if_neg (by rw [hall];exact Bool.noConfusion),if_pos ⟨c3',jy c4⟩]
    rw [e] at q;exact q H1 g1
   ·obtain ⟨n,e1,e2⟩:=due (fun y=>y.2 (jz c4));rw [e2] at q;exact ⟨_,rfl,z,n,rfl,e1,by lia,q H1 g1⟩
  ·obtain ⟨n,e1,e2⟩:=due (fun y=>c3 (decide_eq_true ((congrArg List.head? eF).trans y.1)));rw [e2] at q;exact ⟨_,rfl,z,n,rfl,e1,by lia,q H1 g1⟩
def okC (c:Nat):Bool:=decide (32≤c) && decide (c≤126) && !decide (c=34) && !decide (c=37)
def pW (_:PySem.W.Frag) (_:Ads):Sp:=fun vs H Q _=>∃ c:Nat,vs=[.str ⟨#[c]⟩]∧Q (.bl (okC c)) H
theorem uC (a b:Nat):decide (([a]:List Nat) < [b])=decide (a < b):=by
 rw [decide_eq_decide,List.cons_lt_cons_iff];exact ⟨fun h=>h.elim id (fun h=>absurd h.2 (List.lt_irrefl _)),.inl⟩
theorem GF:(Str.ofString "~")=⟨#[126]⟩:=by decide +kernel
theorem pX (T:Tx K mg ad) {f:Addr} {fd:FuncData} (F:Gn K mg "is_sign" im ["letter"] f fd):FnOk P w K mg base CX0 1 f fd ["letter"] (pW K ad):=by
 obtain ⟨t_PERCENT,c_PERCENT⟩:=T.PERCENT;refine F.F.ok qi (fun vs H Q E h=>?_) (fun cdv A outer s H vs Q E hr h=>?_)
 ·obtain ⟨c,rfl,_⟩:=h
  rfl
 obtain ⟨c,rfl,q⟩:=h;refine ⟨_,(@pss_one _ _ _ (@ps_ret _ _ _ _ (pe_and (m6 kK kK pe_str (pv 0) pe_str) (pe_and (pe_cmpR op_ne (pv 0) pe_str (nomark _)) (pe_one (pe_cmpR op_ne (pe_callB sM rfl T.z_ord boot_ord (@pa1 _ _ _ (pv 0) (by rfl))) (pe_gint rfl c_PERCENT) (nomark _))))))),?_⟩;refine ⟨_,rfl,_,_,rfl,rfl,_,rfl,?_⟩;rw [wA,show (!decide ((⟨#[c]⟩:Str).cps.toList < (⟨#[32]⟩:Str).cps.toList))=decide (32≤c) from by
  rw [show decide ((⟨#[c]⟩:Str).cps.toList < (⟨#[32]⟩:Str).cps.toList)=decide (c < 32) from uC c 32]
  by_cases h:c < 32 <;> simp [h] <;> lia]
 unfold okC at q;refine aJ (fun c1=>?_) (fun c1=>?_)
 ·rw [c1] at q;refine ⟨_,_,rfl,rfl,?_⟩;rw [GF,show (!decide ((⟨#[126]⟩:Str).cps.toList < (⟨#[c]⟩:Str).cps.toList))=decide (c≤126) from by
   rw [show decide ((⟨#[126]⟩:Str).cps.toList < (⟨#[c]⟩:Str).cps.toList)=decide (126 < c) from uC 126 c]
   by_cases h:c≤126 <;> simp [h] <;> lia]
  refine ⟨_,rfl,aJ (fun c2=>?_) (fun c2=>?_)⟩
  ·rw [c2] at q;refine ⟨_,rfl,rfl,_,rfl,?_⟩;rw [ux,gu];refine aJ (fun c3=>?_) (fun c3=>?_)
   ·rw [c3] at q;refine ⟨_,rfl,_,rfl,rfl,rfl,?_⟩;rw [show decide (V.int ((⟨#[c]⟩:Str).cps.getD 0 0:Nat)=V.int 37)=decide (c=37) from by
     rw [decide_eq_decide];exact ⟨fun h=>by injection h with h;exact Int.ofNat.inj h,fun h=>by rw [h];rfl⟩]
    exact q
   ·rw [show (!decide (c=34))=false from by simpa using c3] at q;exact q
  ·rw [show decide (c≤126)=false from by simpa using c2] at q;exact q
 ·rw [show decide (32≤c)=false from by simpa using c1] at q;exact ⟨_,rfl,bq q⟩
abbrev marksS:Str:= "()[]{},:;/"
def mk2 (w:Str) (d:Dt):Dt:=.tup [.str w,d]
def bW (cs:List Nat):Str:=⟨cs.toArray⟩
theorem gx (z:Str):bW z.cps.toList=z:=by
 unfold bW;rw [Array.toArray_toList]
def mkW (cs:List Nat):Option Dt :=
 if (!(Builtin.Str.occurrences marksS (bW cs) 0 marksS.length 1).isEmpty)=true then some (mk2 "mark" (.str (bW cs)))
 else if cs.head?=some 34∧((cs.drop 1).dropLast).all okC=true then some (mk2 "text" (.str (bW ((cs.drop 1).dropLast))))
 else if (∃ c,cs.head?=some c∧aA letS c=true)∧cs.length≤8 then some (mk2 "word" (.str (bW cs)))
 else if (cs.dropWhile (· == 45)).length≤60 then (cF cs).map fun n=>mk2 "number" (.int n) else none
open PySem.Builtin.Str in
theorem oj (z:Str) (h:1≤z.length):(Txt.slice z (some 1) (some (-1))).cps.toList=(z.cps.toList.drop 1).dropLast:=by
 have hl:=aj z
 by_cases h2:z.length=1
 ·obtain ⟨⟨l⟩⟩:=z
  match l,hl,h2 with
  | [c],_,_=>rfl
  | [],a,b=>cases b
  | c :: d :: l,a,b=>simp [Str.length] at b
 ·have e:Txt.slice z (some 1) (some (-1))=Txt.slice z (some 1) (some ((z.length:Int) - 1)):=by
   have e0:strSliceIndices (some 1) (some (-1)) 1 z.length=strSliceIndices (some 1) (some ((z.length:Int) - 1)) 1 z.length:=by
    simp only [strSliceIndices];rw [if_neg (show ¬ ((z.length:Int) - 1 < 0) by lia),if_pos (show (-1:Int) < 0 by decide),show (-1:Int)+(z.length:Int)=(z.length:Int) - 1 by lia]
   unfold Txt.slice;rw [e0]
  rw [e,eq_of_beq (slice_closesL (x:=z) (i:=1) (j:=(z.length:Int) - 1) (by decide) (by lia) (by lia))];show List.take _ _=_;rw [List.dropLast_eq_take,List.length_drop,hl]
  congr 1
  lia
theorem jA (z:Str):(Txt.lstripChars z ⟨#[45]⟩).length=(z.cps.toList.dropWhile (· == 45)).length:=by
 unfold Txt.lstripChars;rw [PyProof.Rows.stripBy_eq];have e:(#[45]:Array Nat).contains=(fun c:Nat=>c == 45):=by
  funext c
  rw [Bool.eq_iff_iff];simp
 have h:=congrArg List.length (List.takeWhile_append_dropWhile (p:=fun c:Nat=>c == 45) (l:=z.cps.toList));rw [List.length_append,aj] at h;show (z.cps.extract _ _).size=_;rw [Array.size_extract];unfold PySem.stripHi PySem.stripLo;simp only [if_true,Bool.false_eq_true,if_false];have hs:z.cps.size=z.length:=rfl;show min (z.length) z.cps.size - (List.takeWhile (#[45]:Array Nat).contains z.cps.toList).length=_;rw [e,hs,Nat.min_self];lia
def mj (K:PySem.W.Frag) (ad:Ads):Sp:=fun vs H Q E=>∃ z:Str,vs=[.str z]∧1≤z.length∧z.length≤100000∧z.length≤(z.cps.toList.dropWhile (· == 45)).length+1 ∧
 (∀ d,mkW z.cps.toList=some d→∀ v H',Same H H'→IsP K H' d v→Q v H')∧(mkW z.cps.toList=none→∀ H',Same H H'→E (.ref ad.BadText) none H')
theorem mm (z:Str) (h:1≤z.length):(Txt.slice z (some 1) (some (-1))).length≤z.length:=by
 rw [← aj,oj z h,List.length_dropLast,List.length_drop,aj];lia
theorem mn (T:Tx K mg ad) {f:Addr} {fd:FuncData} (F:Gn K mg "made_word" eV ["text"] f fd):FnOk P w K mg base (CXE P w) 2 f fd ["text"] (mj K ad):=by
 obtain ⟨_,_,Ji⟩:=T.is_sign;have JQ:=pX (P:=P) (w:=w) (base:=base) T Ji;obtain ⟨_,_,IZ⟩:=T.number_of;have JD:=mi (P:=P) (w:=w) (base:=base) T IZ;obtain ⟨t_MARKS,c_MARKS⟩:=T.MARKS;obtain ⟨t_QUOTE,c_QUOTE⟩:=T.QUOTE;obtain ⟨t_LETTERS,c_LETTERS⟩:=T.LETTERS;obtain ⟨t_LONGEST_NAME,c_LONGEST_NAME⟩:=T.LONGEST_NAME;obtain ⟨t_MOST_FIGURES,c_MOST_FIGURES⟩:=T.MOST_FIGURES;obtain ⟨t_MINUS,c_MINUS⟩:=T.MINUS;refine F.F.okW gJ (fun vs H Q E h=>?_) (fun cdv A outer s H vs Q E hr h=>?_)
 ·obtain ⟨z,rfl,_⟩:=h
  rfl
 obtain ⟨z,rfl,h1,hz,hs,q1,q2⟩:=h;refine ⟨_,(@pss_cons _ _ _ _ _ (@ps_if _ _ _ _ _ _ _ _ (pt_cmpR op_in_str (pv 0) (pe_gstr rfl c_MARKS) rfl) (@pss_one _ _ _ (@ps_ret _ _ _ _ (@pe_tupPK _ K _ _ _ _ rfl (@pa2 _ _ _ _ _ pe_str (pv 0) (by rfl) (by rfl))))) pss_nil) (@pss_cons _ _ _ _ _ (@ps_if _ _ _ _ _ _ _ _ (PW.pt (@pw_and _ _ _ _ _ _ _ (pt_cmpR op_eq (@pe_ix _ _ _ _ _ _ _ ix_str (pv 0) pe_int (fun _ _=>rfl)) (pe_gstr rfl c_QUOTE) (nomark _)) (@pw_and1 _ _ _ _ (@pt_val _ _ _ (pe_callB (call_allN (K:=K) rfl rfl) rfl T.z_all boot_all (@pa1 _ _ _ (pe_comp rfl (cs0 (NL:=["letter"]) rfl (by decide +kernel) (by decide +kernel)) (pF (pe_slice sl_str (pv 0) (po_some pe_int) (po_some (@pe_un _ _ _ _ _ _ un_neg pe_int)))) (fun _ _ _ _=>(ak (i:=0) (show List.Nodup (α:=Str) ["letter"] by decide +kernel) rfl (Or.inl rfl))) (fun _ _ _ _=>(pcl Ji JQ (hr.mono (by lia)) rfl (@pa1 _ _ _ (pv 0) (by rfl))))) (by rfl))) (by intro _;rfl))))) (@pss_one _ _ _ (@ps_ret _ _ _ _ (@pe_tupPK _ K _ _ _ _ rfl (@pa2 _ _ _ _ _ pe_str (pe_slice sl_str (pv 0) (po_some pe_int) (po_some (@pe_un _ _ _ _ _ _ un_neg pe_int))) (by rfl) (by rfl))))) pss_nil) (@pss_cons _ _ _ _ _ (@ps_if _ _ _ _ _ _ _ _ (PW.pt (@pw_and _ _ _ _ _ _ _ (pt_cmpR op_in_str (@pe_ix _ _ _ _ _ _ _ ix_str (pv 0) pe_int (fun _ _=>rfl)) (pe_gstr rfl c_LETTERS) rfl) (@pw_and1 _ _ _ _ (pt_cmpR op_le (pe_callB call_len_str rfl T.z_len PySem.boot_len (@pa1 _ _ _ (pv 0) (by rfl))) (pe_gint rfl c_LONGEST_NAME) (nomark _))))) (@pss_one _ _ _ (@ps_ret _ _ _ _ (@pe_tupPK _ K _ _ _ _ rfl (@pa2 _ _ _ _ _ pe_str (pv 0) (by rfl) (by rfl))))) pss_nil) (@pss_cons _ _ _ _ _ (@ps_set _ _ 1 _ _ _ _ gJ.nd rfl (Or.inl rfl) (gf (pt_cmpR op_le (pe_callB call_len_str rfl T.z_len PySem.boot_len (@pa1 _ _ _ (pe_bm PySem.F.plainAttrs_str PySem.F.slot_str_lstrip PySem.F.type_str_lstrip pN (pv 0) (@pa1 _ _ _ (pe_gstr rfl c_MINUS) (by rfl))) (by rfl))) (pe_gint rfl c_MOST_FIGURES) (nomark _)) (pcl IZ JD (hr.mono (by lia)) rfl (@pa1 _ _ _ (pv 0) (by rfl))) pe_non) (by rfl) (by first | exact .inl rfl | exact .inr rfl | assumption)) (@pss_cons _ _ _ _ _ (@ps_if _ _ _ _ _ _ _ _ (pt_cmpR oV (pv 1) pe_non (nomark _)) (@pss_one _ _ _ (ps_raiseW rfl rfl rfl rfl T.x_BadText rfl (@pa1 _ _ _ pe_str (by rfl)))) pss_nil) (@pss_one _ _ _ (@ps_ret _ _ _ _ (@pe_tupPK _ K _ _ _ _ rfl (@pa2 _ _ _ _ _ pe_str (pv 1) (by rfl) (by rfl)))))))))),?_⟩;obtain ⟨ch,hch⟩:∃ ch,z.cps.toList[0]?=some ch:=⟨_,List.getElem?_eq_getElem (by rw [aj];exact h1)⟩;have hh:z.cps.toList.head?=some ch:=by rw [List.head?_eq_getElem?];exact hch
 have tup:∀ {w:Str} {d:Dt} {x:V} {H1:Hp},mkW z.cps.toList=some (mk2 w d)→Same H H1→IsP K H1 d x→∃ l,IsPs K H1 l [.str w,x]∧([.str w,x]:List V).length≤sizeLine∧∀ v H',Same H1 H'→IsP K H' (.tup l) v→Q v H':=fun {w d x H1} e g hx=>⟨[.str w,d],.cons .str (.cons hx .nil),sz2,fun v H' g' hv=>q1 _ e v H' (g.trans g') hv⟩;refine ⟨_,rfl,_,_,rfl,rfl,_,rfl,aJ (fun c=>?_) (fun c=>?_)⟩
 ·have e:mkW z.cps.toList=some (mk2 "mark" (.str z)):=by
   unfold mkW;rw [gx,if_pos c]
  obtain ⟨l,a1,a2,a3⟩:=tup e (Same.refl H) .str;exact ⟨_,rfl,l,a1,a2,a3⟩
 have m0:mkW z.cps.toList=(if z.cps.toList.head?=some 34∧((z.cps.toList.drop 1).dropLast).all okC=true then some (mk2 "text" (.str (bW ((z.cps.toList.drop 1).dropLast))))
   else if (∃ c,z.cps.toList.head?=some c∧aA letS c=true)∧z.cps.toList.length≤8 then some (mk2 "word" (.str (bW z.cps.toList)))
   else if (z.cps.toList.dropWhile (· == 45)).length≤60 then (cF z.cps.toList).map fun n=>mk2 "number" (.int n) else none):=by
  show (if _ then _ else _)=_;rw [gx,if_neg c]
 refine ⟨_,rfl,z,_,ch,rfl,rfl,bU hz,nO hch,rfl,_,rfl,?_⟩;rw [ux,gu];have sl:=oj z h1;have sll:=mm z h1;refine aJ (fun c3=>?A) (fun c3=>?B)
 case' A =>
  refine ⟨_,rfl,_,rfl,_,rfl,_,rfl,z,rfl,bU hz,_,rfl,fun l hl=>?_⟩;refine rM (z:=Txt.slice z (some 1) (some (-1))) (fun i ys σ H'=>ys=bls (((Txt.slice z (some 1) (some (-1))).cps.toList.take i).map okC)∧Same H H'∧H' l=some (.lst ys)∧σ.length=1) ⟨rfl,ah hl _,aa,rfl⟩ ?_ ?_
  ·rintro i c ys σ H1 N hc ⟨rfl,g1,f1,hσ⟩ next;have hc':(Txt.slice z (some 1) (some (-1))).cps.toList[i]?=some c:=by rw [Array.getElem?_toList];exact hc
   have hi:=(List.getElem?_eq_some_iff.mp hc').1
   match σ,hσ with
   | [_],_ =>
    refine ⟨_,rfl,c,rfl,f1,?_,next _ _ _ ⟨?_,bD hl g1,aa,rfl⟩⟩
    ·simp only [bls,List.length_map,List.length_take];rw [aj] at hi ⊢;have:=bU hz;lia
    ·show bls _++[V.bl (okC c)]=bls _;unfold bls;rw [List.map_map,List.map_map];exact cB (V.bl ∘ okC) hc'
  rintro ys σ H1 ⟨rfl,g1,f1,hσ⟩;rw [List.take_of_length_le (by simp)] at f1;refine ⟨l,_,rfl,rfl,SqL.of f1,_,rfl,?_⟩;rw [List.all_map,show (id ∘ okC)=okC from rfl,sl];refine aJ (fun c4=>?_) (fun c4=>?_)
  ·have e:mkW z.cps.toList=some (mk2 "text" (.str (Txt.slice z (some 1) (some (-1))))):=by
    rw [m0,if_pos ⟨by rw [hh,of_decide_eq_true c3],c4⟩,← sl,gx]
   obtain ⟨l,a1,a2,a3⟩:=tup e g1 .str;exact ⟨_,rfl,_,rfl,_,rfl,_,rfl,z,rfl,bU hz,l,a1,a2,a3⟩
  have nq:¬ (z.cps.toList.head?=some 34∧((z.cps.toList.drop 1).dropLast).all okC=true):=fun h=>c4 h.2
 case' B =>
  have g1:=Same.refl H;have nq:¬ (z.cps.toList.head?=some 34∧((z.cps.toList.drop 1).dropLast).all okC=true):=fun h=>c3 (decide_eq_true (Option.some.inj (hh.symm.trans h.1)))
 all_goals
  rw [if_neg nq] at m0;refine ⟨_,rfl,z,_,ch,rfl,rfl,bU hz,nO hch,_,_,rfl,rfl,_,rfl,?_⟩;rw [PySem.StrLaws.found_one];have lw:(∃ c,z.cps.toList.head?=some c∧aA letS c=true)↔aA letS ch=true:=⟨fun ⟨c,e1,e2⟩=>by rw [hh] at e1;cases e1;exact e2,fun e=>⟨ch,hh,e⟩⟩;refine aJ (fun c5=>?_) (fun c5=>?_);refine ⟨_,rfl,z,rfl,bU hz,_,_,rfl,rfl,_,rfl,aJ (fun c6=>?_) (fun c6=>?_)⟩
  ·have e:mkW z.cps.toList=some (mk2 "word" (.str z)):=by
    rw [m0,if_pos ⟨lw.mpr c5,by rw [aj];have:=of_decide_eq_true c6;lia⟩,gx]
   obtain ⟨l,a1,a2,a3⟩:=tup e g1 .str;exact ⟨_,rfl,l,a1,a2,a3⟩
  have nw:¬ ((∃ c,z.cps.toList.head?=some c∧aA letS c=true)∧z.cps.toList.length≤8):=fun h=>c6 (decide_eq_true (by have:=h.2;rw [aj] at this;lia))
  rotate_left
  have nw:¬ ((∃ c,z.cps.toList.head?=some c∧aA letS c=true)∧z.cps.toList.length≤8):=fun h=>c5 (lw.mp h.1)
  all_goals
   rw [if_neg nw] at m0;refine ⟨_,rfl,rfl,z,_,rfl,rfl,bU hz,_,rfl,?_,_,_,rfl,rfl,_,rfl,?_⟩
   ·rw [uy,jA];have:=(List.dropWhile_sublist (l:=z.cps.toList) (fun c:Nat=>c == 45)).length_le;rw [aj] at this;exact bU (by lia)
   rw [uy,jA];refine aJ (fun c7=>?_) (fun c7=>?_)
   ·have c7':(z.cps.toList.dropWhile (· == 45)).length≤60:=by have:=of_decide_eq_true c7;lia
    rw [if_pos c7'] at m0;refine ⟨_,rfl,z,rfl,by lia,fun H2 g2=>?_⟩
    cases hn:cF z.cps.toList with
    | none =>
     rw [hn] at m0;exact ⟨_,rfl,rfl,_,rfl,bB ⟨sz1,q2 m0 H2 (g1.trans g2)⟩⟩
    | some n =>
     rw [hn] at m0;obtain ⟨l,a1,a2,a3⟩:=tup m0 (g1.trans g2) .int;exact ⟨_,rfl,rfl,_,rfl,iteN (fun c=>by cases c) ⟨_,rfl,l,a1,a2,a3⟩⟩
   ·rw [if_neg (fun h=>c7 (decide_eq_true (by lia)))] at m0;exact ⟨_,rfl,rfl,_,rfl,bB ⟨sz1,q2 m0 _ g1⟩⟩
def upB (L:Str):Dt→Bool
 | .tup [.str w,.str s]=>decide (w= "mark") && !(Builtin.Str.occurrences L s 0 L.length 1).isEmpty
 | _=>false
def eI (p:Int×Int) (d:Dt):Int×Int :=
 (if p.2+(if upB "([{" d=true then 1 else 0) - (if upB ")]}" d=true then 1 else 0) > p.1 then p.2+(if upB "([{" d=true then 1 else 0) - (if upB ")]}" d=true then 1 else 0) else p.1,
  p.2+(if upB "([{" d=true then 1 else 0) - (if upB ")]}" d=true then 1 else 0))
def fF (toks:List Dt):Int:=(toks.foldl eI (0,0)).1
def rY (d:Dt):Prop:=∃ w x,d=mk2 w x∧((∃ s,x=.str s)∨(w≠ "mark" ∧∃ n,x=.int n))
theorem qL {cs:List Nat} {d:Dt} (h:mkW cs=some d):rY d:=by
 unfold mkW at h
 split at h
 ·cases h;exact ⟨_,_,rfl,.inl ⟨_,rfl⟩⟩
 split at h
 ·cases h;exact ⟨_,_,rfl,.inl ⟨_,rfl⟩⟩
 split at h
 ·cases h;exact ⟨_,_,rfl,.inl ⟨_,rfl⟩⟩
 split at h
 ·obtain ⟨n,_,rfl⟩:=Option.map_eq_some_iff.mp h;exact ⟨_,_,rfl,.inr ⟨by decide,n,rfl⟩⟩
 ·cases h
theorem pY {K:PySem.W.Frag} {H:Hp} {a b:Dt} {v:V} (h:IsP K H (.tup [a,b]) v):∃ p x y,v=.ref p∧SqT K H p [x,y]∧IsP K H a x∧IsP K H b y:=by
 obtain ⟨p,xs,rfl,hp,_,r⟩:=h.unref
 cases r with
 | cons h1 r =>
  cases r with
  | cons h2 r =>
   cases r
   exact ⟨p,_,_,rfl,hp,h1,h2⟩
def fC (K:PySem.W.Frag) (_:Ads):Sp:=fun vs H Q _=>∃ (l:Addr) (ws:List V) (toks:List Dt),vs=[.ref l]∧H l=some (.lst ws)∧IsPs K H toks ws∧(∀ d∈toks,rY d)∧Q (.int (fF toks)) H
theorem fD (T:Tx K mg ad) {f:Addr} {fd:FuncData} (F:Gn K mg "deepest_brackets" bI ["words"] f fd):FnOk P w K mg base CX0 1 f fd ["words"] (fC K ad):=by
 obtain ⟨t_OPENING,c_OPENING⟩:=T.OPENING;obtain ⟨t_CLOSING,c_CLOSING⟩:=T.CLOSING;refine F.F.ok au (fun vs H Q E h=>?_) (fun cdv A outer s H vs Q E hr h=>?_)
 ·obtain ⟨l,ws,toks,rfl,_⟩:=h
  rfl
 obtain ⟨l,ws,toks,rfl,hl,hp,ht,q⟩:=h;refine ⟨_,(@pss_cons _ _ _ _ _ (@ps_set _ _ 1 _ _ _ _ au.nd rfl (Or.inl rfl) pe_int (by rfl) (by first | exact .inl rfl | exact .inr rfl | assumption)) (@pss_cons _ _ _ _ _ (@ps_set _ _ 2 _ _ _ _ au.nd rfl (Or.inl rfl) pe_int (by rfl) (by first | exact .inl rfl | exact .inr rfl | assumption)) (@pss_cons _ _ _ _ _ (cC PassesOwn.never rfl (dz (K:=K) rfl (pv 0)) (lf rfl (aC (ak (i:=3) au.nd rfl (Or.inl rfl)) (aC (ak (i:=4) au.nd rfl (Or.inl rfl)) cu)))
    (@pss_cons _ _ _ _ _ (@ps_if _ _ _ _ _ _ _ _ (PW.pt (@pw_and _ _ _ _ _ _ _ (pt_cmpR op_eq (pv 3) pe_str (nomark _)) (@pw_and1 _ _ _ _ (pt_cmpR op_in_str (pv 4) (pe_gstr rfl c_OPENING) rfl)))) (@pss_one _ _ _ (oR (i:=2) au.nd rfl (Or.inl rfl) pe_int ip_add)) pss_nil) (@pss_cons _ _ _ _ _ (@ps_if _ _ _ _ _ _ _ _ (PW.pt (@pw_and _ _ _ _ _ _ _ (pt_cmpR op_eq (pv 3) pe_str (nomark _)) (@pw_and1 _ _ _ _ (pt_cmpR op_in_str (pv 4) (pe_gstr rfl c_CLOSING) rfl)))) (@pss_one _ _ _ (oR (i:=2) au.nd rfl (Or.inl rfl) pe_int zW)) pss_nil) (@pss_one _ _ _ (@ps_set _ _ 1 _ _ _ _ au.nd rfl (Or.inl rfl) (pe_callB (rf rfl) rfl T.z_max boot_max (@pa2 _ _ _ _ _ (pv 1) (pv 2) (by rfl) (by rfl))) (by rfl) (by first | exact .inl rfl | exact .inr rfl | assumption)))))) (@pss_one _ _ _ (@ps_ret _ _ _ _ (pv 1)))))),?_⟩
 refine ⟨_,rfl,l,rfl,⟨_,SqL.of hl⟩,i4 (K:=K) (xs:=ws) (fun i σ H'=>H'=H∧∃ v3 v4,σ=[some (.ref l),some (.int ((toks.take i).foldl eI (0,0)).1),some (.int ((toks.take i).foldl eI (0,0)).2),v3,v4]) ⟨rfl,_,_,rfl⟩ (fun i σ H' _ p=>p.1 ▸ SqL.of hl) ?_ ?_⟩
 ·rintro i x σ H' hx ⟨rfl,v3,v4,rfl⟩;obtain ⟨d,hd,hdx⟩:=hp.get' hx;obtain ⟨w,y,rfl,hy⟩:=ht d (List.mem_of_getElem? hd);obtain ⟨b,x1,y2,rfl,hb,h1,h2⟩:=pY hdx;obtain rfl:=cD h1;have tk:toks.take (i+1)=toks.take i++[mk2 w y]:=by rw [List.take_add_one,hd];rfl
  rw [tk,List.foldl_append]
  generalize (toks.take i).foldl eI (0,0)=p
  refine ⟨b,_,rfl,hb,rfl,_,_,rfl,_,_,rfl,rfl,?_⟩
  by_cases hw:w= "mark"
  ·subst hw;obtain ⟨s0,rfl⟩:∃ s0,y=.str s0:=by
    rcases hy with h | ⟨h,_⟩
    ·exact h
    ·exact absurd rfl h
   obtain rfl:=cD h2;have u1:upB "([{" (mk2 "mark" (.str s0))=!(Builtin.Str.occurrences "([{" s0 0 (Str.ofString "([{").length 1).isEmpty:=by simp [upB,mk2]
   have u2:upB ")]}" (mk2 "mark" (.str s0))=!(Builtin.Str.occurrences ")]}" s0 0 (Str.ofString ")]}").length 1).isEmpty:=by simp [upB,mk2]
   refine ⟨_,rfl,rfl,_,rfl,bB ⟨_,rfl,_,_,rfl,rfl,_,rfl,?_⟩⟩;rw [← u1]
   cases e1:upB "([{" (mk2 "mark" (.str s0)) with
   | true =>
    refine bL ⟨_,rfl,_,_,rfl,rfl,_,rfl,rfl,_,rfl,bB ⟨_,rfl,_,_,rfl,rfl,_,rfl,?_⟩⟩;rw [← u2]
    cases e2:upB ")]}" (mk2 "mark" (.str s0)) with
    | true=>exact bL ⟨_,rfl,_,_,rfl,rfl,_,rfl,_,rfl,_,_,rfl,rfl,some (.str "mark"),some (.str s0),by simp [eI,e1,e2]⟩
    | false=>exact bq ⟨_,rfl,_,rfl,_,_,rfl,rfl,some (.str "mark"),some (.str s0),by simp [eI,e1,e2]⟩
   | false =>
    refine bq ⟨_,rfl,rfl,_,rfl,bB ⟨_,rfl,_,_,rfl,rfl,_,rfl,?_⟩⟩;rw [← u2]
    cases e2:upB ")]}" (mk2 "mark" (.str s0)) with
    | true=>exact bL ⟨_,rfl,_,_,rfl,rfl,_,rfl,_,rfl,_,_,rfl,rfl,some (.str "mark"),some (.str s0),by simp [eI,e1,e2]⟩
    | false=>exact bq ⟨_,rfl,_,rfl,_,_,rfl,rfl,some (.str "mark"),some (.str s0),by simp [eI,e1,e2]⟩
  ·have u:∀ L,upB L (mk2 w y)=false:=fun L=>by
    cases y <;> simp [upB,mk2,hw]
   refine ⟨_,rfl,rfl,_,rfl,iteN (am hw) (bq ⟨_,rfl,rfl,_,rfl,iteN (am hw) (bq ⟨_,rfl,_,rfl,_,_,rfl,rfl,some (.str w),some y2,by simp [eI,u]⟩)⟩)⟩
 ·rintro σ H' ⟨rfl,v3,v4,rfl⟩;rw [List.take_of_length_le (by rw [hp.length];exact Nat.le_refl _)];exact ⟨_,rfl,q⟩
def iL:Nat→List Nat→Option (List Dt)
 | 0,_=>some []
 | _+1,[]=>some []
 | n+1,c :: r=>match cT (c :: r) with
  | none=>none
  | some k=>if c=32 then iL n ((c :: r).drop k) else match mkW ((c :: r).take k) with
   | none=>none
   | some w=>(iL n ((c :: r).drop k)).map (w :: ·)
theorem eJ {cs:List Nat} {k:Nat} (h:cT cs=some k):1≤k∧k≤cs.length:=by
 cases cs with
 | nil=>cases h
 | cons c r =>
  simp only [cT] at h
  split at h
  ·obtain ⟨i,hi,rfl⟩:=Option.map_eq_some_iff.mp h;have:=(List.findIdx?_eq_some_iff_getElem.mp hi).1;simp only [List.length_cons];lia
  split at h
  ·rename_i hc
   cases h
   refine ⟨?_,me _ _⟩;unfold bE;rw [List.takeWhile_cons,if_pos hc];simp
  split at h
  ·cases h
   have:=me figS r;simp only [List.length_cons];lia
  ·cases h
   simp
theorem rZ:∀ (n m:Nat) (cs:List Nat),cs.length≤n→cs.length≤m→iL n cs=iL m cs:=by
 intro n
 induction n with
 | zero =>
  intro m cs h _;obtain rfl:=List.length_eq_zero_iff.mp (Nat.le_zero.mp h)
  cases m <;> rfl
 | succ n ih =>
  intro m cs h1 h2
  cases cs with
  | nil=>cases m <;> rfl
  | cons c r =>
   cases m with
   | zero=>simp at h2
   | succ m =>
    simp only [iL]
    cases hk:cT (c :: r) with
    | none=>rfl
    | some k =>
     obtain ⟨k1,k2⟩:=eJ hk;have l1:((c :: r).drop k).length≤n:=by rw [List.length_drop];lia
     have l2:((c :: r).drop k).length≤m:=by rw [List.length_drop];lia
     have e:=ih m ((c :: r).drop k) l1 l2;simp only [e]
def dP (cs:List Nat):Option (List Dt):=iL cs.length cs
theorem jB {c:Nat} {r:List Nat}:dP (c :: r)=match cT (c :: r) with
  | none=>none
  | some k=>if c=32 then dP ((c :: r).drop k) else match mkW ((c :: r).take k) with
   | none=>none
   | some w=>(dP ((c :: r).drop k)).map (w :: ·):=by
 unfold dP;show iL (r.length+1) (c :: r)=_;simp only [iL]
 cases hk:cT (c :: r) with
 | none=>rfl
 | some k =>
  obtain ⟨k1,k2⟩:=eJ hk;have e:=rZ r.length ((c :: r).drop k).length ((c :: r).drop k) (by rw [List.length_drop];simp only [List.length_cons];lia) (Nat.le_refl _);simp only [e]
theorem AF {c:Nat} (h:aA figS c=true):c≠45:=by
 intro e;subst e
 revert h
 decide +kernel
theorem ol {L:Str}:∀ (cs:List Nat),cs.take (bE L cs)=cs.takeWhile (aA L)
 | []=>rfl
 | c :: cs=>by
  unfold bE;rw [List.takeWhile_cons]
  split
  ·have:=ol (L:=L) cs;unfold bE at this;rw [List.length_cons,List.take_succ_cons,this]
  ·rfl
theorem uD {p:Nat→Bool}:∀ {l:List Nat} {x:Nat},x∈l.takeWhile p→p x=true
 | [],x,h=>by simp at h
 | c :: l,x,h=>by
  rw [List.takeWhile_cons] at h
  split at h
  ·rename_i hc
   rcases List.mem_cons.mp h with rfl | h
   ·exact hc
   ·exact uD h
  ·simp at h
theorem pZ {cs:List Nat} {k:Nat} (h:cT cs=some k):(cs.take k).length≤((cs.take k).dropWhile (· == 45)).length+1:=by
 obtain ⟨k1,k2⟩:=eJ h
 cases cs with
 | nil=>cases h
 | cons c r =>
  obtain ⟨k,rfl⟩:∃ j,k=j+1:=⟨k - 1,by lia⟩;rw [List.take_succ_cons]
  by_cases hc:c=45
  ·subst hc;have e:r.take k=(r.takeWhile (aA figS))∨k=0:=by
    simp only [cT] at h;rw [if_neg (by decide),if_neg (by decide +kernel),if_pos (.inl trivial)] at h;have:k=bE figS r:=by injection h;lia
    rw [this,ol];exact .inl rfl
   rw [List.dropWhile_cons,if_pos (by rfl)];rcases e with e | e
   ·rw [e];have e2:(r.takeWhile (aA figS)).dropWhile (· == 45)=r.takeWhile (aA figS):=by
     cases hr:r.takeWhile (aA figS) with
     | nil=>rfl
     | cons d t =>
      have hd:aA figS d=true:=uD (l:=r) (by rw [hr];exact List.mem_cons_self);rw [List.dropWhile_cons,if_neg (by simpa using AF hd)]
    rw [e2,List.length_cons];exact Nat.le_refl _
   ·subst e;simp
  ·rw [List.dropWhile_cons,if_neg (by simpa using hc)];lia
theorem sh {z:Str} {a k:Nat} (h:a+k≤z.length):Txt.slice z (some (a:Int)) (some ((a+k:Nat):Int))=bW ((z.cps.toList.drop a).take k):=by
 rw [eq_of_beq (slice_closesL (x:=z) (i:=(a:Int)) (j:=((a+k:Nat):Int)) (by lia) (by lia) (by lia))];unfold bW;rw [Int.toNat_natCast,show (((a+k:Nat):Int) - (a:Int)).toNat=k by lia]
def om (K:PySem.W.Frag) (ad:Ads):Sp:=fun vs H Q E=>∃ z:Str,vs=[.str z]∧z.length≤100000 ∧
 (∀ toks,dP z.cps.toList=some toks→fF toks≤40→∀ l ws H',H l=none→Same H H'→H' l=some (.lst ws)→IsPs K H' toks ws→Q (.ref l) H') ∧
 ((∀ toks,dP z.cps.toList=some toks→¬ fF toks≤40)→∀ H',Same H H'→E (.ref ad.BadText) none H')
theorem oq (T:Tx K mg ad) {f:Addr} {fd:FuncData} (F:Gn K mg "words_of" fY ["text"] f fd):FnOk P w K mg base (CXE P w) 3 f fd ["text"] (om K ad):=by
 obtain ⟨_,_,Iy⟩:=T.word_end;have JO:=og (P:=P) (w:=w) (base:=base) T Iy;obtain ⟨_,_,Ir⟩:=T.made_word;have Jy:=mn (P:=P) (w:=w) (base:=base) T Ir;obtain ⟨_,_,Iu⟩:=T.deepest_brackets;have IN:=fD (P:=P) (w:=w) (base:=base) T Iu;obtain ⟨t_BLANK,c_BLANK⟩:=T.BLANK;obtain ⟨t_MOST_BRACKETS,c_MOST_BRACKETS⟩:=T.MOST_BRACKETS;refine F.F.okW cm (fun vs H Q E h=>?_) (fun cdv A outer s H vs Q E hr h=>?_)
 ·obtain ⟨z,rfl,_⟩:=h
  rfl
 obtain ⟨z,rfl,hz,q1,q2⟩:=h;refine ⟨_,(@pss_cons _ _ _ _ _ (@ps_set _ _ 1 _ _ _ _ cm.nd rfl (Or.inl rfl) (@aG _ _ _ _ ei) (by rfl) (by first | exact .inl rfl | exact .inr rfl | assumption)) (@pss_cons _ _ _ _ _ (@ps_set _ _ 2 _ _ _ _ cm.nd rfl (Or.inl rfl) pe_int (by rfl) (by first | exact .inl rfl | exact .inr rfl | assumption)) (@pss_cons _ _ _ _ _ (tH fun ok=>i3 (je ok.frames rfl ok.frf) (pt_cmpR ir (pv 2) (pe_callB call_len_str rfl T.z_len PySem.boot_len (@pa1 _ _ _ (pv 0) (by rfl))) (nomark _))
    (@pss_cons _ _ _ _ _ (@ps_set _ _ 3 _ _ _ _ cm.nd rfl (Or.inl rfl) (aF JO (hr.mono (by first | decide | lia)) rfl Iy.m Iy.F.kp Iy.b .nil (ao rfl rfl rfl) (@pa2 _ _ _ _ _ (pv 0) (pv 2) (by rfl) (by rfl))) (by rfl) (by first | exact .inl rfl | exact .inr rfl | assumption)) (@pss_cons _ _ _ _ _ (@ps_if _ _ _ _ _ _ _ _ (pt_cmpR op_ne (@pe_ix _ _ _ _ _ _ _ ix_str (pv 0) (pv 2) (fun _ _=>rfl)) (pe_gstr rfl c_BLANK) (nomark _)) (@pss_one _ _ _ (@bn _ _ _ _ (pe_bm PySem.F.plainAttrs_list PySem.F.slot_list_append PySem.F.type_list_append cA (pv 1) (@pa1 _ _ _ (aF Jy (hr.mono (by first | decide | lia)) rfl Ir.m Ir.F.kp Ir.b .nil (ao rfl rfl rfl) (@pa1 _ _ _ (pe_slice sl_str (pv 0) (po_some (pv 2)) (po_some (pv 3))) (by rfl))) (by rfl))) (by rfl))) pss_nil) (@pss_one _ _ _ (@ps_set _ _ 2 _ _ _ _ cm.nd rfl (Or.inl rfl) (pv 3) (by rfl) (by first | exact .inl rfl | exact .inr rfl | assumption)))))) (@pss_cons _ _ _ _ _ (@ps_if _ _ _ _ _ _ _ _ (pt_cmpR op_gt (pcl Iu IN (hr.mono (by lia)) rfl (@pa1 _ _ _ (pv 1) (by rfl))) (pe_gint rfl c_MOST_BRACKETS) (nomark _)) (@pss_one _ _ _ (ps_raiseW rfl rfl rfl rfl T.x_BadText rfl (@pa1 _ _ _ pe_str (by rfl)))) pss_nil) (@pss_one _ _ _ (@ps_ret _ _ _ _ (pv 1))))))),?_⟩
 refine ⟨(by show 0≤sizeLine;decide),fun l hl=>?_⟩;refine ⟨fun m σ H'=>∃ (a:Nat) (toks:List Dt) (ws:List V) (v3:Option V),a≤z.length∧m=z.length - a∧Same H H'∧H' l=some (.lst ws)∧IsPs K H' toks ws∧toks.length≤a∧(∀ d∈toks,rY d)∧(dP (z.cps.toList.drop a)).map (toks++·)=dP z.cps.toList∧σ=[some (.str z),some (.ref l),some (.int a),v3],
  ⟨_,0,[],[],none,Nat.zero_le _,rfl,ah hl _,aa,.nil,Nat.le_refl _,(fun d hd=>nomatch hd),(by simp),rfl⟩,?_⟩
 rintro m σ H1 ⟨a,toks,ws,v3,ha,rfl,g1,f1,hp,ht,hT,hL,rfl⟩;refine ⟨_,rfl,_,rfl,z,rfl,bU hz,_,_,rfl,rfl,_,rfl,aJ (fun c=>?_) (fun c=>?_)⟩
 ·have hlt:a < z.length:=by have:=of_decide_eq_true c;lia
  obtain ⟨ch,hch⟩:∃ ch,z.cps.toList[a]?=some ch:=⟨_,List.getElem?_eq_getElem (by rw [aj];exact hlt)⟩;have hd:z.cps.toList.drop a=ch :: z.cps.toList.drop (a+1):=by
   obtain ⟨h1,h2⟩:=List.getElem?_eq_some_iff.mp hch;rw [List.drop_eq_getElem_cons h1,h2]
  have hs:=jB (c:=ch) (r:=z.cps.toList.drop (a+1));rw [← hd] at hs;refine ⟨fun σ' H'=>∃ (a':Nat) (toks:List Dt) (ws:List V) (v3:Option V),a < a'∧a'≤z.length∧Same H H'∧H' l=some (.lst ws)∧IsPs K H' toks ws∧toks.length≤a'∧(∀ d∈toks,rY d)∧(dP (z.cps.toList.drop a')).map (toks++·)=dP z.cps.toList∧σ'=[some (.str z),some (.ref l),some (.int a'),v3],
   fun σ' H' ⟨a',toks',ws',v',h1,h2,r⟩=>⟨z.length - a',by lia,a',toks',ws',v',h2,rfl,r⟩,?_⟩
  cases hk:cT (z.cps.toList.drop a) with
  | none =>
   rw [hk] at hs;refine ⟨_,rfl,_,rfl,z,a,rfl,hlt,hz,(fun k e=>by rw [hk] at e;cases e),fun _ H2 g2=>q2 (fun t h=>?_) H2 (g1.trans g2)⟩;rw [← hL,hs] at h
   cases h
  | some k =>
   rw [hk] at hs;obtain ⟨k1,k2⟩:=eJ hk;rw [List.length_drop,aj] at k2;refine ⟨_,rfl,_,rfl,z,a,rfl,hlt,hz,(fun k' e=>?_),fun e=>by rw [hk] at e;cases e⟩;rw [hk] at e
   cases e
   refine ⟨_,rfl,_,rfl,z,_,ch,rfl,rfl,bU hz,nO hch,rfl,_,rfl,?_⟩;rw [wA,gu];dsimp only at hs;rw [List.drop_drop] at hs
   by_cases h32:ch=32
   ·rw [if_pos h32] at hs;rw [decide_eq_true h32];refine bq ⟨_,rfl,a+k,toks,ws,_,by lia,by lia,g1,f1,hp,by lia,hT,?_,rfl⟩;rw [← hs];exact hL
   ·rw [if_neg h32] at hs;rw [decide_eq_false h32];have es:=sh (z:=z) (a:=a) (k:=k) (by lia);have ec:(bW ((z.cps.toList.drop a).take k)).cps.toList=(z.cps.toList.drop a).take k:=rfl;have el:(bW ((z.cps.toList.drop a).take k)).length=k:=by
     rw [← aj,ec,List.length_take,List.length_drop,aj];lia
    refine bL ⟨_,rfl,.inl ⟨rfl,_,SqL.of f1⟩,_,rfl,_,rfl,_,rfl,_,rfl,_,rfl,z,rfl,bU hz,?_⟩;rw [es];refine ⟨_,rfl,by lia,by lia,(by
     have:=pZ hk;rw [← ec] at this;rw [aj] at this;exact this),fun d e v H2 g2 hv=>?_,fun e H2 g2=>q2 (fun t h=>?_) H2 (g1.trans g2)⟩
    ·rw [ec] at e;rw [e] at hs;dsimp only at hs;have lw:=hp.length;refine ⟨l,ws,_,rfl,rfl,g2 _ _ f1,Nat.lt_of_lt_of_le (show ws.length < 100000 by lia) (by decide),?_⟩;refine ⟨_,rfl,a+k,toks++[d],ws++[v],_,by lia,by lia,?_,aa,?_,by rw [List.length_append];simp only [List.length_cons,List.length_nil];lia,fun d' hd'=>?_,?_,rfl⟩
     ·intro b o eb;rw [ae (ag eb hl)];exact g2 _ _ (g1 _ _ eb)
     ·exact ((hp.same g2).but (g2 _ _ f1) But.put).append (.cons (hv.but (g2 _ _ f1) But.put) .nil)
     ·rcases List.mem_append.mp hd' with h | h
      ·exact hT d' h
      ·obtain rfl:=List.mem_singleton.mp h;exact qL e
     ·rw [← hL,hs,Option.map_map]
      congr 1
      funext x
      simp
    ·rw [ec] at e;rw [← hL,hs,e] at h
     cases h
 ·have e:a=z.length:=by
   have c':¬ ((a:Int) < (z.length:Int)):=fun h=>c (decide_eq_true h);lia
  have hN:dP z.cps.toList=some toks:=by
   rw [← hL,List.drop_eq_nil_of_le (by rw [aj];lia)];show some (toks++[])=_;rw [List.append_nil]
  refine ⟨_,rfl,l,ws,toks,rfl,f1,hp,hT,_,_,rfl,rfl,_,rfl,aJ (fun c2=>?_) (fun c2=>?_)⟩
  ·refine ⟨sz1,q2 (fun t h=>?_) _ g1⟩;rw [hN] at h
   cases h
   have:=of_decide_eq_true c2;lia
  ·refine ⟨_,rfl,q1 toks hN ?_ l ws _ hl g1 f1 hp⟩;have c':¬ (40 < fF toks):=fun h=>c2 (decide_eq_true h);lia
abbrev Tk:=Str×Key
def tkD (t:Tk):Dt:=mk2 t.1 (kDt t.2)
def toTk:Dt→Tk
 | .tup [.str w,.str s]=>(w,.inr s)
 | .tup [.str w,.int n]=>(w,.inl n)
 | _=>("",.inl 0)
theorem ou:∀ {toks:List Dt},(∀ d∈toks,rY d)→(toks.map toTk).map tkD=toks
 | [],_=>rfl
 | d :: toks,h=>by
  have:=ou (toks:=toks) fun d hd=>h d (List.mem_cons_of_mem _ hd);rw [List.map_cons,List.map_cons,this];obtain ⟨w,x,rfl,hx⟩:=h d List.mem_cons_self;rcases hx with ⟨s,rfl⟩ | ⟨_,n,rfl⟩ <;> rfl
abbrev kb:Tk:=(("end" : Str),.inr "")
abbrev cW (m:Str):Tk:=(("mark" : Str),.inr m)
def aq (ts:List Tk) (p:Nat):Tk:=ts[p]?.getD kb
abbrev ke (l:Addr) (p:Nat):List (Str×V):=[("all_words",.ref l),("place",.int p)]
theorem wB:¬ (("all_words" : Str)= "place"):=by decide +kernel
theorem ow (l:Addr) (p:Nat) (y:Int):dG "place" (.int y) (ke l p)=([("all_words",V.ref l),("place",V.int y)]:List (Str×V)):=by
 show (if ("all_words" : Str)= "place" then _ else (("all_words" : Str),V.ref l) :: (if ("place" : Str)= "place" then [(("place" : Str),V.int y)] else _))=_;rw [if_neg wB,if_pos rfl]
theorem jC (l:Addr) (p:Nat):(ke l p).lookup ("all_words" : Str)=some (.ref l):=by
 rw [List.lookup_cons];simp
theorem fR (l:Addr) (p:Nat):(ke l p).lookup ("place" : Str)=some (.int p):=by
 have:(("place" : Str) == "all_words")=false:=by decide +kernel
 rw [List.lookup_cons,this,List.lookup_cons];simp
theorem aN (l:Addr) (p:Nat) {m:Str} (h1:(m == "all_words")=false) (h2:(m == "place")=false):(ke l p).lookup m=none:=by
 rw [List.lookup_cons,h1,List.lookup_cons,h2]
 rfl
def RowAt (K:PySem.W.Frag) (C:Addr) (H:Hp) (x l:Addr) (ts:List Tk) (p:Nat):Prop:=∃ dx ws,H x=some (.ins C dx (ke l p))∧H l=some (.lst ws)∧IsPs K H (ts.map tkD) ws∧l≠x∧ts.length≤100000∧∀ t∈ts,t.1= "word" →∃ s,t.2=Sum.inr s
theorem RowAt.same {K:PySem.W.Frag} {C:Addr} {H H':Hp} {x l:Addr} {ts:List Tk} {p:Nat} (h:RowAt K C H x l ts p) (g:Same H H'):RowAt K C H' x l ts p:=by
 obtain ⟨dx,ws,h1,h2,h3,h4⟩:=h;exact ⟨dx,ws,g _ _ h1,g _ _ h2,h3.same g,h4⟩
def iM (K:PySem.W.Frag) (ad:Ads):Sp:=fun vs H Q E=>∃ (x dx:Addr) (z:Str),vs=[.ref x,.str z]∧H x=some (.ins ad.WordRow dx [])∧z.length≤100000 ∧
 (∀ toks,dP z.cps.toList=some toks→fF toks≤40→∀ l H',H l=none→But x H H'→RowAt K ad.WordRow H' x l (toks.map toTk) 0→Q .non H') ∧
 ((∀ toks,dP z.cps.toList=some toks→¬ fF toks≤40)→∀ H',Same H H'→E (.ref ad.BadText) none H')
theorem vL:∀ (n:Nat) (cs:List Nat) (toks:List Dt),iL n cs=some toks→(∀ d∈toks,rY d)∧toks.length≤cs.length:=by
 intro n
 induction n with
 | zero=>intro cs toks h;cases h;exact ⟨fun d hd=>(by simp at hd),Nat.zero_le _⟩
 | succ n ih =>
  intro cs toks h
  cases cs with
  | nil=>cases h;exact ⟨fun d hd=>(by simp at hd),Nat.zero_le _⟩
  | cons c r =>
   simp only [iL] at h
   cases hk:cT (c :: r) with
   | none=>rw [hk] at h;cases h
   | some k =>
    rw [hk] at h;obtain ⟨k1,k2⟩:=eJ hk;have ld:((c :: r).drop k).length=(c :: r).length - k:=List.length_drop;dsimp only at h
    split at h
    ·obtain ⟨a,b⟩:=ih _ _ h;exact ⟨a,by lia⟩
    ·cases hm:mkW ((c :: r).take k) with
     | none=>rw [hm] at h;cases h
     | some w =>
      rw [hm] at h;obtain ⟨t,ht,rfl⟩:=Option.map_eq_some_iff.mp h;obtain ⟨a,b⟩:=ih _ _ ht;refine ⟨fun d hd=>?_,by rw [List.length_cons];lia⟩;rcases List.mem_cons.mp hd with rfl | hd
      ·exact qL hm
      ·exact a d hd
theorem uE {cs:List Nat} {d:Dt} (h:mkW cs=some d) (hw:(toTk d).1= "word"):∃ s,(toTk d).2=Sum.inr s:=by
 unfold mkW at h
 split at h
 ·cases h;exact ⟨_,rfl⟩
 split at h
 ·cases h;exact ⟨_,rfl⟩
 split at h
 ·cases h;exact ⟨_,rfl⟩
 split at h
 ·obtain ⟨n,_,rfl⟩:=Option.map_eq_some_iff.mp h;exact absurd (show (Str.ofString "number")=Str.ofString "word" from hw) (by decide +kernel)
 ·cases h
theorem sj:∀ (n:Nat) (cs:List Nat) (toks:List Dt),iL n cs=some toks→∀ d∈toks,(toTk d).1= "word" →∃ s,(toTk d).2=Sum.inr s:=by
 intro n
 induction n with
 | zero=>intro cs toks h;cases h;exact fun d hd=>(by simp at hd)
 | succ n ih =>
  intro cs toks h
  cases cs with
  | nil=>cases h;exact fun d hd=>(by simp at hd)
  | cons c r =>
   simp only [iL] at h
   cases hk:cT (c :: r) with
   | none=>rw [hk] at h;cases h
   | some k =>
    rw [hk] at h;dsimp only at h
    split at h
    ·exact ih _ _ h
    ·cases hm:mkW ((c :: r).take k) with
     | none=>rw [hm] at h;cases h
     | some w =>
      rw [hm] at h;obtain ⟨t,ht,rfl⟩:=Option.map_eq_some_iff.mp h;intro d hd hw;rcases List.mem_cons.mp hd with rfl | hd
      ·exact uE hm hw
      ·exact ih _ _ ht d hd hw
theorem iN (T:Tx K mg ad) {f:Addr} {fd:FuncData} (F:Mi K ad.WordRow "__init__" "WordRow.__init__" cQ ["self","text"] f fd):FnOk P w K mg base (CXE P w) 4 f fd ["self","text"] (iM K ad):=by
 obtain ⟨_,_,Iw⟩:=T.words_of;have JL:=oq (P:=P) (w:=w) (base:=base) T Iw;refine F.F.okW iS (fun vs H Q E h=>?_) (fun cdv A outer s H vs Q E hr h=>?_)
 ·obtain ⟨x,dx,z,rfl,_⟩:=h
  rfl
 obtain ⟨x,dx,z,rfl,hx,hz,q1,q2⟩:=h;refine ⟨_,(@pss_cons _ _ _ _ _ (sP (pv 0) (aF JL (hr.mono (by first | decide | lia)) rfl Iw.m Iw.F.kp Iw.b .nil (ao rfl rfl rfl) (@pa1 _ _ _ (pv 1) (by rfl))) rfl) (@pss_one _ _ _ (sP (pv 0) pe_int rfl))),?_⟩;refine ⟨_,rfl,z,rfl,hz,fun toks hL hB l ws H1 hl g1 f1 hp=>?_,fun h H1 g1=>q2 h H1 g1⟩;have hlx:l≠x:=fun c=>by subst c;rw [hx] at hl;cases hl
 refine ⟨_,rfl,x,ad.WordRow,dx,[],rfl,g1 _ _ hx,T.c_WordRow,T.n_WordRow_all_words,(by show 0 < 1000;decide),_,rfl,x,ad.WordRow,dx,_,rfl,aa,T.c_WordRow,T.n_WordRow_place,(by show 1 < 1000;decide),?_⟩;obtain ⟨t1,t2⟩:=vL _ _ _ hL;refine q1 toks hL hB l _ hl (fun b o nb eb=>by rw [ae nb,ae nb];exact g1 _ _ eb) ⟨dx,ws,?_,?_,?_,hlx,by rw [List.length_map];rw [aj] at t2;lia,fun t ht hw=>?_⟩
 ·rw [aa];show some (HO.ins _ _ (if ("all_words" : Str)= "place" then _ else (("all_words" : Str),V.ref l) :: dG "place" (V.int 0) []))=_;rw [if_neg wB]
  rfl
 ·rw [ae hlx,ae hlx];exact f1
 ·rw [ou t1];exact bf (p:=x) (by rw [g1 _ _ hx];exact True.intro) (fun b o nb eb=>by rw [ae nb,ae nb];exact eb) hp
 ·obtain ⟨d,hd,rfl⟩:=List.mem_map.mp ht;exact sj _ _ _ hL d hd hw
def gy (K:PySem.W.Frag) (ad:Ads):Sp:=fun vs H Q _=>∃ (x l:Addr) (ts:List Tk) (p k:Nat),vs=[.ref x,.int k]∧RowAt K ad.WordRow H x l ts p∧∀ v,IsD K H (tkD (aq ts (p+k))) v→Q v H
theorem bN (T:Tx K mg ad) {f:Addr} {fd:FuncData} (F:Mn K ad.WordRow "coming" "WordRow.coming" bZ ["self","ahead"] f fd):FnOk P w K mg base CX0 1 f fd ["self","ahead"] (gy K ad):=by
 obtain ⟨c_END,s_END⟩:=T.END;refine F.F.ok df (fun vs H Q E h=>?_) (fun cdv A outer s H vs Q E hr h=>?_)
 ·obtain ⟨x,l,ts,p,k,rfl,_⟩:=h
  rfl
 obtain ⟨x,l,ts,p,k,rfl,⟨dx,ws,hx,hl,hp,hlx,h5⟩,q⟩:=h;refine ⟨_,(@pss_cons _ _ _ _ _ (@ps_set _ _ 2 _ _ _ _ df.nd rfl (Or.inl rfl) (@pe_op _ _ _ _ _ _ _ _ aO (oX (pv 0) rfl) (pv 1)) (by rfl) (by first | exact .inl rfl | exact .inr rfl | assumption)) (@pss_one _ _ _ (@ps_ret _ _ _ _ (gf (pt_cmpR ir (pv 2) (pe_callB (bh (K:=K) rfl) rfl T.z_len PySem.boot_len (@pa1 _ _ _ (oX (pv 0) rfl) (by rfl))) (nomark _)) (@pe_ix _ _ _ _ _ _ _ (aU (K:=K) rfl) (oX (pv 0) rfl) (pv 2) (fun _ _=>rfl)) (iW rfl c_END))))),?_⟩;have lw:=hp.length;rw [List.length_map] at lw;refine ⟨_,rfl,x,ad.WordRow,dx,_,_,rfl,hx,T.c_WordRow,T.n_WordRow_place,fR l p,_,rfl,_,_,rfl,rfl,?_⟩;refine ⟨_,rfl,_,rfl,x,ad.WordRow,dx,_,_,rfl,hx,T.c_WordRow,T.n_WordRow_all_words,jC l p,l,_,rfl,.inl (SqL.of hl),_,_,rfl,rfl,_,rfl,aJ (fun c=>?_) (fun c=>?_)⟩
 ·have hlt:p+k < ts.length:=by have:=of_decide_eq_true c;lia
  obtain ⟨v,hv,hd⟩:=hp.get (i:=p+k) (d:=tkD ts[p+k]) (by rw [List.getElem?_map,List.getElem?_eq_getElem hlt];rfl);refine ⟨_,rfl,x,ad.WordRow,dx,_,_,rfl,hx,T.c_WordRow,T.n_WordRow_all_words,jC l p,_,rfl,l,_,_,_,rfl,rfl,SqL.of hl,(by rw [← Int.natCast_add];exact fm hv),?_⟩;refine q v ?_;unfold aq;rw [List.getElem?_eq_getElem hlt];exact hd.d
 ·have hge:ts.length≤p+k:=by
   have c':¬ ((p:Int)+(k:Int) < (ws.length:Int)):=fun h=>c (decide_eq_true h);lia
  refine q _ ?_;unfold aq;rw [List.getElem?_eq_none hge];exact .tup (s_END _ List.mem_cons_self H) (.cons .str (.cons .str .nil))
def h7 (K:PySem.W.Frag) (ad:Ads):Sp:=fun vs H Q _=>∃ (x l:Addr) (ts:List Tk) (p:Nat) (m:Str),vs=[.ref x,.str m]∧RowAt K ad.WordRow H x l ts p∧∀ H',Same H H'→Q (.bl (decide (aq ts p=cW m))) H'
theorem uF (t:Tk) (w:Str) (k:Key):eqD (tkD t) (mk2 w (kDt k))=decide (t=(w,k)):=by
 obtain ⟨w',k'⟩:=t;rw [Bool.eq_iff_iff]
 cases k <;> cases k' <;> simp [tkD,mk2,kDt,eqD,gW]
theorem uG (t:Tk):(tkD t).dep≤60:=by
 obtain ⟨w,k⟩:=t
 cases k <;> simp [tkD,mk2,kDt,Dt.dep,dJ]
theorem dB (T:Tx K mg ad) {f:Addr} {fd:FuncData} (F:Mn K ad.WordRow "comes" "WordRow.comes" cq ["self","mark"] f fd):FnOk P w K mg base CX0 2 f fd ["self","mark"] (h7 K ad):=by
 obtain ⟨_,_,Hs⟩:=T.m_WordRow_coming;have HF:=bN (P:=P) (w:=w) (base:=base) T Hs;refine F.F.ok iq (fun vs H Q E h=>?_) (fun cdv A outer s H vs Q E hr h=>?_)
 ·obtain ⟨x,l,ts,p,m,rfl,_⟩:=h
  rfl
 obtain ⟨x,l,ts,p,m,rfl,hR,q⟩:=h;refine ⟨_,(@pss_one _ _ _ (@ps_ret _ _ _ _ (pe_cmpR (vB (K:=K) rfl hr.units) (aQ (pv 0) T.c_WordRow Hs.meth HF (hr.mono (by first | decide | lia)) Hs.b .nil kD (@pa1 _ _ _ pe_int (by rfl))) (@pe_tupPK _ K _ _ _ _ rfl (@pa2 _ _ _ _ _ pe_str (pv 1) (by rfl) (by rfl))) (nomark _)))),?_⟩;obtain ⟨dx,ws,hx,_⟩:=id hR;refine ⟨_,rfl,x,dx,_,rfl,hx,aN l p (by decide +kernel) (by decide +kernel),x,l,ts,p,0,rfl,hR,fun v hv=>?_⟩;refine ⟨_,rfl,[.str "mark",.str m],.cons .str (.cons .str .nil),sz2,fun v2 H1 g1 hv2=>?_⟩;refine ⟨_,_,hv.same g1,hv2.d,uG _,?_⟩;have:=q H1 g1;rw [← uF] at this;exact this
def iO (K:PySem.W.Frag) (ad:Ads):Sp:=fun vs H Q E=>∃ (x l:Addr) (ts:List Tk) (p:Nat) (s:Str),vs=[.ref x,.str s]∧RowAt K ad.WordRow H x l ts p ∧
 ((aq ts p).1=s→∀ H',But x H H'→RowAt K ad.WordRow H' x l ts (p+1)→Q (kV (aq ts p).2) H')∧(¬ (aq ts p).1=s→E (.ref ad.BadText) none H)
theorem RowAt.next {K:PySem.W.Frag} {C:Addr} {H:Hp} {x dx l:Addr} {ws:List V} {ts:List Tk} {p q:Nat} (hx:H x=some (.ins C dx (ke l p))) (hl:H l=some (.lst ws)) (hp:IsPs K H (ts.map tkD) ws) (hlx:l≠x) (h5:ts.length≤100000∧∀ t∈ts,t.1= "word" →∃ s,t.2=Sum.inr s) :
  RowAt K C (upd H x (.ins C dx (ke l q))) x l ts q :=
 ⟨dx,ws,aa,by rw [ae hlx];exact hl,bf (p:=x) (by rw [hx];exact True.intro) But.put hp,hlx,h5⟩
theorem AG {K:PySem.W.Frag} {H:Hp} {t:Tk} {v:V} (h:IsD K H (tkD t) v):∃ a,v=.ref a∧SqT K H a [.str t.1,kV t.2]:=by
 obtain ⟨a,xs,rfl,ha,r⟩:=IsD.unref h
 cases r with
 | cons h1 r =>
  cases r with
  | cons h2 r =>
   cases r
   cases h1
   refine ⟨a,rfl,?_⟩;obtain ⟨w,k⟩:=t
   cases k <;> (cases h2;exact ha)
theorem cn (T:Tx K mg ad) {f:Addr} {fd:FuncData} (F:Mn K ad.WordRow "take" "WordRow.take" cR ["self","sort"] f fd):FnOk P w K mg base (CXE P w) 2 f fd ["self","sort"] (iO K ad):=by
 obtain ⟨_,_,Hs⟩:=T.m_WordRow_coming;have HF:=bN (P:=P) (w:=w) (base:=base) T Hs;refine F.F.okW dZ (fun vs H Q E h=>?_) (fun cdv A outer s H vs Q E hr h=>?_)
 ·obtain ⟨x,l,ts,p,s,rfl,_⟩:=h
  rfl
 obtain ⟨x,l,ts,p,s,rfl,hR,q1,q2⟩:=h;refine ⟨_,(@pss_cons _ _ _ _ _ (@ps_set _ _ 2 _ _ _ _ dZ.nd rfl (Or.inl rfl) (aQ (pv 0) T.c_WordRow Hs.meth HF (hr.mono (by first | decide | lia)) Hs.b .nil kD (@pa1 _ _ _ pe_int (by rfl))) (by rfl) (by first | exact .inl rfl | exact .inr rfl | assumption)) (@pss_cons _ _ _ _ _ (@ps_if _ _ _ _ _ _ _ _ (pt_cmpR op_ne (@pe_ix _ _ _ _ _ _ _ (nE (K:=K) rfl) (pv 2) pe_int (fun _ _=>rfl)) (pv 1) (nomark _)) (@pss_one _ _ _ (ps_raiseW rfl rfl rfl rfl T.x_BadText rfl (@pa1 _ _ _ pe_str (by rfl)))) pss_nil) (@pss_cons _ _ _ _ _ (ps_fldaug (pv 0) pe_int ip_add) (@pss_one _ _ _ (@ps_ret _ _ _ _ (@pe_ix _ _ _ _ _ _ _ (nE (K:=K) rfl) (pv 2) pe_int (fun _ _=>rfl))))))),?_⟩;obtain ⟨dx,ws,hx,hl,hp,hlx,h5⟩:=id hR;refine ⟨_,rfl,x,dx,_,rfl,hx,aN l p (by decide +kernel) (by decide +kernel),x,l,ts,p,0,rfl,hR,fun v hv=>?_⟩;rw [Nat.add_zero] at hv;have hv':IsD K H (.tup [.str (aq ts p).1,kDt (aq ts p).2]) v:=hv;refine ⟨_,rfl,_,_,_,hv',rfl,at0 _ _,fun v1 hv1=>?_⟩;obtain rfl:v1=.str (aq ts p).1:=by cases hv1;rfl
 refine ⟨_,rfl,rfl,_,rfl,?_⟩
 by_cases hs:(aq ts p).1=s
 ·rw [hs];refine nN ⟨_,rfl,x,ad.WordRow,dx,_,_,rfl,hx,T.c_WordRow,T.n_WordRow_place,fR l p,_,_,rfl,rfl,dx,_,hx,(by show 2 < 1000;decide),?_⟩;rw [ow,show (fun i j:Int=>i+j) (p:Int) 1=((p+1:Nat):Int) from (by show (p:Int)+1=_;lia)];have hn:RowAt K ad.WordRow (upd H x (.ins ad.WordRow dx (ke l (p+1)))) x l ts (p+1):=.next hx hl hp hlx h5;obtain ⟨a,rfl,ha⟩:=AG hv;have ha':SqT K (upd H x (.ins ad.WordRow dx (ke l (p+1)))) a [.str (aq ts p).1,kV (aq ts p).2]:=by
   rcases ha with (ha | ⟨o,ha⟩) | ha
   ·exact .inl (.inl (by rw [ae (ko ha hx (by intro z;cases z))];exact ha))
   ·exact .inl (.inr ⟨o,by rw [ae (ko ha hx (by intro z;cases z))];exact ha⟩)
   ·exact .inr ha
  have hk:IsD K (upd H x (.ins ad.WordRow dx (ke l (p+1)))) (.tup [.str (aq ts p).1,kDt (aq ts p).2]) (.ref a):=.tup ha' (.cons .str (.cons (by cases (aq ts p).2 <;> constructor) .nil));refine ⟨_,rfl,_,_,_,hk,rfl,rfl,fun v2 hv2=>?_⟩;have e2:v2=kV (aq ts p).2:=by
   revert hv2
   generalize (aq ts p).2=k
   intro hv2
   cases k <;> (cases hv2;rfl)
  rw [e2];exact q1 hs _ But.put hn
 ·exact Gv (am hs) ⟨sz1,q2 hs⟩
def eK (K:PySem.W.Frag) (ad:Ads):Sp:=fun vs H Q E=>∃ (x l:Addr) (ts:List Tk) (p:Nat) (m:Str),vs=[.ref x,.str m]∧RowAt K ad.WordRow H x l ts p ∧
 (aq ts p=cW m→∀ H',But x H H'→RowAt K ad.WordRow H' x l ts (p+1)→Q .non H')∧(¬ aq ts p=cW m→∀ H',Same H H'→E (.ref ad.BadText) none H')
theorem aR (T:Tx K mg ad) {f:Addr} {fd:FuncData} (F:Mn K ad.WordRow "take_mark" "WordRow.take_mark" bC ["self","mark"] f fd):FnOk P w K mg base (CXE P w) 3 f fd ["self","mark"] (eK K ad):=by
 obtain ⟨_,_,Hv⟩:=T.m_WordRow_comes;have Ii:=dB (P:=P) (w:=w) (base:=base) T Hv;refine F.F.okW fe (fun vs H Q E h=>?_) (fun cdv A outer s H vs Q E hr h=>?_)
 ·obtain ⟨x,l,ts,p,m,rfl,_⟩:=h
  rfl
 obtain ⟨x,l,ts,p,m,rfl,hR,q1,q2⟩:=h;refine ⟨_,(@pss_cons _ _ _ _ _ (@ps_if _ _ _ _ _ _ _ _ (@pt_not _ _ _ _ (@pt_val _ _ _ (aQ (pv 0) T.c_WordRow Hv.meth Ii (hr.mono (by first | decide | lia)) Hv.b .nil kD (@pa1 _ _ _ (pv 1) (by rfl))) (by intro _;rfl))) (@pss_one _ _ _ (ps_raiseW rfl rfl rfl rfl T.x_BadText rfl (@pa1 _ _ _ pe_str (by rfl)))) pss_nil) (@pss_one _ _ _ (ps_fldaug (pv 0) pe_int ip_add))),?_⟩;obtain ⟨dx,ws,hx,hl,hp,hlx,h5⟩:=id hR;refine ⟨_,rfl,x,dx,_,rfl,hx,aN l p (by decide +kernel) (by decide +kernel),_,rfl,x,l,ts,p,m,rfl,hR,fun H1 g1=>?_⟩
 by_cases hs:aq ts p=cW m
 ·rw [decide_eq_true hs];refine ⟨_,rfl,bq ⟨_,rfl,x,ad.WordRow,dx,_,_,rfl,g1 _ _ hx,T.c_WordRow,T.n_WordRow_place,fR l p,_,_,rfl,rfl,dx,_,g1 _ _ hx,(by show 2 < 1000;decide),?_⟩⟩;rw [ow,show (fun i j:Int=>i+j) (p:Int) 1=((p+1:Nat):Int) from (by show (p:Int)+1=_;lia)];exact q1 hs _ (fun b o nb eb=>by rw [ae nb];exact g1 _ _ eb) (.next (g1 _ _ hx) (g1 _ _ hl) (hp.same g1) hlx h5)
 ·rw [decide_eq_false hs];exact ⟨_,rfl,bL ⟨sz1,q2 hs H1 g1⟩⟩
inductive PR where
 | ok (v:Dt) (p:Nat)
 | err
 | out
def PR.bind (r:PR) (f:Dt→Nat→PR):PR:=match r with
 | .ok v p=>f v p
 | .err=>.err
 | .out=>.out
section
variable (ts:List Tk)
def kR (s:Str) (p:Nat):PR:=if (aq ts p).1=s then .ok (kDt (aq ts p).2) (p+1) else .err
def dC (m:Str) (p:Nat) (f:Nat→PR):PR:=if aq ts p=cW m then f (p+1) else .err
def ca (rd:Nat→PR) (cl:Str):Nat→Nat→List Dt→PR
 | 0,_,_=>.out
 | n+1,p,fs=>if aq ts p=cW cl then .ok (.tup fs) (p+1) else if 0 < fs.length then dC ts "," p fun p1=>(rd p1).bind fun v q=>ca rd cl n q (fs++[v]) else (rd p).bind fun v q=>ca rd cl n q (fs++[v])
def ox (rd:Nat→PR) (cl:Str) (p:Nat):PR:=ca ts rd cl (ts.length+1) p []
def cc (rd:Str→Nat→PR):List Str→Nat→List Dt→PR
 | [],p,fs=>dC ts ")" p fun q=>.ok (.tup fs) q
 | s :: r,p,fs=>if 1 < fs.length then dC ts "," p fun p1=>(rd s p1).bind fun v q=>cc rd r q (fs++[v]) else (rd s p).bind fun v q=>cc rd r q (fs++[v])
end
abbrev uH:List (Str×List Str):=[("number",["number","number"]),("text",["number"]),("list",["number","kind"]),("rows",["word","number","kind"])]
abbrev uI:List (Str×List Str):=[("bounds",["number","number"]),("scale",["number"]),("shrink",["number"]),("figures",["number"]),("number",["number","number"]),("cut",["number"]),("first",["number"]),("one",["number"]),("out",[]),("items",["turn"])]
abbrev p0:List (Str×List Str):=[("put",["word","kind","value"]),("drop",["word","value"]),("name",["word","word"]),("sink",["word","word"]),("lift",["word","word"]),("turn",["word","turn"]),("split",["word","text","word","word"]),("join",["word","word","text","word"]),("part",["word","number","word","word"]),("whole",["word","word","number","word","number","number"])]
def cX (k:Str):List (Str×List Str)→Option (List Str)
 | []=>none
 | (x,b) :: D=>if k=x then some b else cX k D
def aT (s w:Str):Option (List Str):=if s= "kind" then cX w uH else if s= "turn" then cX w uI else cX w p0
theorem oy {k:Str}:∀ {D:List (Str×Addr)} {F:List (Str×List Str)},D.map (·.1)=F.map (·.1)→(eE k D=none∧cX k F=none)∨∃ b fs,eE k D=some b∧cX k F=some fs∧(b,fs)∈(D.map (·.2)).zip (F.map (·.2))
 | [],[],_=>.inl ⟨rfl,rfl⟩
 | (x,b) :: D,(y,fs) :: F,h=>by
  have h':x=y∧D.map (·.1)=F.map (·.1):=by simpa using h
  obtain ⟨rfl,h'⟩:=h'
  by_cases e:k=x
  ·exact .inr ⟨b,fs,by simp [eE,e],by simp [cX,e],by simp⟩
  ·rcases oy (k:=k) h' with ⟨h1,h2⟩ | ⟨b',fs',h1,h2,h3⟩
   ·exact .inl ⟨by simp [eE,e,h1],by simp [cX,e,h2]⟩
   ·exact .inr ⟨b',fs',by simp [eE,e,h1],by simp [cX,e,h2],by
     rw [List.map_cons,List.map_cons,List.zip_cons_cons];exact List.mem_cons_of_mem _ h3⟩
def iP (K:PySem.W.Frag) (_:Ads):Sp:=fun vs H Q _=>∃ s w:Str,vs=[.str s,.str w]∧(match aT s w with
 | none=>Q .non H
 | some fs=>∀ b,(∀ H',SqT K H' b (fs.map V.str))→Q (.ref b) H)
theorem mo {D:List (Str×Addr)} {F:List (Str×List Str)} {S:List (Addr×List Str)} {w:Str} {H:Hp} {Q:VK} (hS:jk K S) (e1:D.map (·.1)=F.map (·.1)) (e2:(D.map (·.2)).zip (F.map (·.2))=S)
  (q:match cX w F with
   | none=>Q .non H
   | some fs=>∀ b,(∀ H',SqT K H' b (fs.map V.str))→Q (.ref b) H):Q (match eE w D with | some b=>.ref b | none=>.non) H:=by
 rcases oy (k:=w) e1 with ⟨h1,h2⟩ | ⟨b,fs,h1,h2,h3⟩
 ·rw [h2] at q;rw [h1];exact q
 ·rw [h2] at q;rw [h1];rw [e2] at h3;exact q b fun H'=>hS _ h3 H'
theorem dY (T:Tx K mg ad) {f:Addr} {fd:FuncData} (F:Gn K mg "parts_behind" cO ["sort","word"] f fd):FnOk P w K mg base CX0 1 f fd ["sort","word"] (iP K ad):=by
 obtain ⟨c_KIND_PARTS,d_KIND_PARTS,s_KIND_PARTS⟩:=T.KIND_PARTS;obtain ⟨c_TURN_PARTS,d_TURN_PARTS,s_TURN_PARTS⟩:=T.TURN_PARTS;obtain ⟨c_PIECE_PARTS,d_PIECE_PARTS,s_PIECE_PARTS⟩:=T.PIECE_PARTS;refine F.F.ok iT (fun vs H Q E h=>?_) (fun cdv A outer s H vs Q E hr h=>?_)
 ·obtain ⟨s,w,rfl,_⟩:=h
  rfl
 obtain ⟨s,w,rfl,q⟩:=h;refine ⟨_,(@pss_cons _ _ _ _ _ (@ps_if _ _ _ _ _ _ _ _ (pt_cmpR op_eq (pv 0) pe_str (nomark _)) (@pss_one _ _ _ (@ps_ret _ _ _ _ (jo d_KIND_PARTS rfl c_KIND_PARTS (@pa1 _ _ _ (pv 1) (by rfl))))) pss_nil) (@pss_cons _ _ _ _ _ (@ps_if _ _ _ _ _ _ _ _ (pt_cmpR op_eq (pv 0) pe_str (nomark _)) (@pss_one _ _ _ (@ps_ret _ _ _ _ (jo d_TURN_PARTS rfl c_TURN_PARTS (@pa1 _ _ _ (pv 1) (by rfl))))) pss_nil) (@pss_one _ _ _ (@ps_ret _ _ _ _ (jo d_PIECE_PARTS rfl c_PIECE_PARTS (@pa1 _ _ _ (pv 1) (by rfl))))))),?_⟩;unfold aT at q;refine ⟨_,rfl,rfl,_,rfl,?_⟩
 by_cases h1:s= "kind"
 ·rw [if_pos h1] at q;subst h1;exact bB ⟨_,rfl,w,rfl,mo s_KIND_PARTS rfl rfl q⟩
 rw [if_neg h1] at q;refine iteN (am h1) ⟨_,rfl,rfl,_,rfl,?_⟩
 by_cases h2:s= "turn"
 ·rw [if_pos h2] at q;subst h2;exact bB ⟨_,rfl,w,rfl,mo s_TURN_PARTS rfl rfl q⟩
 rw [if_neg h2] at q;exact iteN (am h2) ⟨_,rfl,w,rfl,mo s_PIECE_PARTS rfl rfl q⟩
def Rdd (K:PySem.W.Frag) (ad:Ads) (x l:Addr) (ts:List Tk) (H:Hp) (Q:VK) (E:XK) (r:PR):Prop:=match r with
 | .ok v q=>∀ y H',But x H H'→RowAt K ad.WordRow H' x l ts q→IsP K H' v y→Q y H'
 | .err=>∀ H',But x H H'→E (.ref ad.BadText) none H'
 | .out=>False
theorem Rdd.but {K:PySem.W.Frag} {ad:Ads} {x l:Addr} {ts:List Tk} {H H1:Hp} {Q:VK} {E:XK} {r:PR} (h:Rdd K ad x l ts H Q E r) (g:But x H H1):Rdd K ad x l ts H1 Q E r:=by
 cases r with
 | ok v q=>exact fun y H' g'=>h y H' (g.trans g')
 | err=>exact fun H' g'=>h H' (g.trans g')
 | out=>exact h
def iQ (K:PySem.W.Frag) (ad:Ads):Sp:=fun vs H Q E=>∃ (l:List Dt) (y:V),vs=[y]∧IsP K H (.tup l) y∧l.length≤100000∧(l≠[]→Q y H)∧(l=[]→E (.ref ad.BadText) none H)
theorem iR (T:Tx K mg ad) {f:Addr} {fd:FuncData} (F:Gn K mg "at_least_one" cP ["parts"] f fd):FnOk P w K mg base (CXE P w) 1 f fd ["parts"] (iQ K ad):=by
 refine F.F.okW iU (fun vs H Q E h=>?_) (fun cdv A outer s H vs Q E hr h=>?_)
 ·obtain ⟨l,y,rfl,_⟩:=h
  rfl
 obtain ⟨l,y,rfl,hy,hl,q1,q2⟩:=h;refine ⟨_,(@pss_cons _ _ _ _ _ (@ps_if _ _ _ _ _ _ _ _ (pt_cmpR op_eq (pe_callB (call_lenDN (K:=K) rfl) rfl T.z_len PySem.boot_len (@pa1 _ _ _ (pv 0) (by rfl))) pe_int (nomark _)) (@pss_one _ _ _ (ps_raiseW rfl rfl rfl rfl T.x_BadText rfl (@pa1 _ _ _ pe_str (by rfl)))) pss_nil) (@pss_one _ _ _ (@ps_ret _ _ _ _ (pv 0)))),?_⟩;refine ⟨_,rfl,_,_,rfl,hy.d,rfl,_,rfl,?_⟩
 cases l with
 | nil=>exact bB ⟨sz1,q2 rfl⟩
 | cons a l=>exact iteN (fun c=>by injection c with c;simp at c;lia) ⟨_,rfl,q1 (by simp)⟩
def cG (cs:List Nat):Option (List Tk):=(dP cs).map (List.map toTk)
theorem p8 (r:List Nat):cG (32 :: r)=cG r:=by
 unfold cG;rw [jB];have e:cT (32 :: r)=some 1:=by
  simp only [cT];rw [if_neg (by decide),if_neg (by decide +kernel),if_neg (by decide +kernel)]
 rw [e]
 rfl
theorem sk (c:Nat) (w r:List Nat):(c :: (w++r)).take (w.length+1)=c :: w:=by simp
theorem sm (c:Nat) (w r:List Nat):(c :: (w++r)).drop (w.length+1)=r:=by simp
theorem jD {c:Nat} {w r:List Nat} {d:Dt} (hc:¬ c=32) (hw:cT (c :: (w++r))=some (w.length+1)) (hm:mkW (c :: w)=some d):cG (c :: (w++r))=(cG r).map (toTk d :: ·):=by
 unfold cG;rw [jB,hw];dsimp only;rw [if_neg hc,sk,sm,hm]
 cases dP r <;> rfl
theorem sq {c:Nat} (r:List Nat) (h:c∈[40,41,91,93,123,125,44,58,59,47]):cG (c :: r)=(cG r).map (cW ⟨#[c]⟩ :: ·):=by
 have key:¬ c=32∧¬ c=34∧¬ aA letS c=true∧¬ (c=45∨aA figS c=true)∧(!(Builtin.Str.occurrences marksS (bW [c]) 0 marksS.length 1).isEmpty)=true:=by
  revert c
  decide +kernel
 obtain ⟨a,b,c1,d,e⟩:=key;refine jD (w:=[]) (d:=mk2 "mark" (.str (bW [c]))) a ?_ (by unfold mkW;rw [if_pos e]);simp only [cT];rw [if_neg b,if_neg c1,if_neg d]
 rfl
theorem qM {L:Str} {w r:List Nat} (h:w.all (aA L)=true) (hr:∀ c,r.head?=some c→aA L c=false):bE L (w++r)=w.length:=by
 induction w with
 | nil =>
  cases r with
  | nil=>rfl
  | cons c r =>
   show bE L (c :: r)=0;unfold bE;rw [List.takeWhile_cons,if_neg (by rw [hr c rfl];decide)]
   rfl
 | cons c w ih =>
  rw [List.all_cons,Bool.and_eq_true] at h;show bE L (c :: (w++r))=w.length+1;unfold bE;rw [List.takeWhile_cons,if_pos h.1,List.length_cons];exact congrArg Nat.succ (ih h.2)
theorem p9 {c:Nat} (h:aA letS c=true):¬ c=34∧¬ c=32:=by
 constructor <;> (rintro rfl;revert h;decide +kernel)
theorem uJ {c:Nat} (h:aA figS c=true):¬ c=34∧¬ c=32∧¬ aA letS c=true:=by
 have e:figS.cps.toList=[48,49,50,51,52,53,54,55,56,57]:=by decide +kernel
 have h':c∈[48,49,50,51,52,53,54,55,56,57]:=by
  rw [← e];exact of_decide_eq_true h
 clear h e
 revert c
 decide +kernel
theorem sr {c:Nat} {w r:List Nat} (h:(c :: w).all (aA letS)=true) (hr:∀ c,r.head?=some c→aA letS c=false):cT (c :: (w++r))=some (w.length+1):=by
 have hc:aA letS c=true:=by rw [List.all_cons,Bool.and_eq_true] at h;exact h.1
 simp only [cT];rw [if_neg (p9 hc).1,if_pos hc];exact congrArg some (qM (w:=c :: w) h hr)
theorem su {c:Nat} {w r:List Nat} {d:Dt} (h:(c :: w).all (aA letS)=true) (hr:∀ c,r.head?=some c→aA letS c=false) (hm:mkW (c :: w)=some d):cG (c :: (w++r))=(cG r).map (toTk d :: ·) :=
 jD (by rw [List.all_cons,Bool.and_eq_true] at h;exact (p9 h.1).2) (sr h hr) hm
theorem uK {c:Nat} {w r:List Nat} (hc:c=45∨aA figS c=true) (h:w.all (aA figS)=true) (hr:∀ c,r.head?=some c→aA figS c=false):cT (c :: (w++r))=some (w.length+1):=by
 have n34:¬ c=34∧¬ c=32∧¬ aA letS c=true:=by
  rcases hc with rfl | hc
  ·decide +kernel
  ·exact uJ hc
 simp only [cT];rw [if_neg n34.1,if_neg n34.2.2,if_pos hc,qM h hr,Nat.add_comm]
abbrev kS (s:Str):Tk:=(("word" : Str),Sum.inr s)
abbrev AH (n:Int):Tk:=(("number" : Str),Sum.inl n)
theorem wC {w:List Nat} {t:Tk} (h:(mkW w).map toTk=some t):∃ d,mkW w=some d∧toTk d=t:=Option.map_eq_some_iff.mp h
def jE (L:Str) (r:List Nat):Prop:=∀ c,r.head?=some c→aA L c=false
theorem AI {c:Nat} {w r:List Nat} {t:Tk} (h:(c :: w).all (aA letS)=true) (hr:jE letS r) (hm:(mkW (c :: w)).map toTk=some t):cG (c :: (w++r))=(cG r).map (t :: ·):=by
 obtain ⟨d,hd,rfl⟩:=wC hm;exact su h hr hd
theorem AJ {c:Nat} {w r:List Nat} {t:Tk} (hc:c=45∨aA figS c=true) (h:w.all (aA figS)=true) (hr:jE figS r) (hm:(mkW (c :: w)).map toTk=some t):cG (c :: (w++r))=(cG r).map (t :: ·):=by
 obtain ⟨d,hd,rfl⟩:=wC hm;exact jD (by
  rcases hc with rfl | hc
  ·decide
  ·exact (uJ hc).2.1) (uK hc h hr) hd
theorem ni {L:Str} {c:Nat} {r:List Nat} (h:aA L c=false):jE L (c :: r):=fun d hd=>by
 cases hd
 exact h
abbrev markL:List Str:=["(",")","[","]","{","}",",",":",";","/"]
def tokS (z:Str):Tk:=((mkW z.cps.toList).map toTk).getD kb
def kT (z:Str):Prop:=∀ r,jE letS r→jE figS r→cG (z.cps.toList++r)=(cG r).map (tokS z :: ·)
def HdM (ws:List Str):Prop:=∀ w,ws.head?=some w→w∈markL
inductive GL:List Str→Prop
 | nil:GL []
 | mark {m:Str} {ws:List Str}:m∈markL→GL ws→GL (m :: ws)
 | word {w:Str} {ws:List Str}:kT w→HdM ws→GL ws→GL (w :: ws)
def aV:List Str→List Nat→List Nat
 | w :: ws,b :: bs=>w.cps.toList++(List.replicate b 32++aV ws bs)
 | _,_=>[]
theorem cY (r:List Nat):∀ b:Nat,cG (List.replicate b 32++r)=cG r
 | 0=>rfl
 | b+1=>by
  rw [List.replicate_succ,List.cons_append,p8];exact cY r b
theorem aK:∀ m∈markL,tokS m=cW m∧∃ c∈[40,41,91,93,123,125,44,58,59,47],m=⟨#[c]⟩∧aA letS c=false∧aA figS c=false:=by decide +kernel
theorem uL {m:Str} (h:m∈markL) (r:List Nat):cG (m.cps.toList++r)=(cG r).map (tokS m :: ·):=by
 obtain ⟨e,c,hc,rfl,_⟩:=aK m h;rw [e];exact sq r hc
theorem uM {ws:List Str} (h:HdM ws):∀ (b:Nat) (bs:List Nat),jE letS (List.replicate b 32++aV ws bs)∧jE figS (List.replicate b 32++aV ws bs)
 | b+1,bs=>by
  rw [List.replicate_succ,List.cons_append];exact ⟨ni (by decide +kernel),ni (by decide +kernel)⟩
 | 0,bs=>by
  rw [List.replicate_zero,List.nil_append]
  cases ws with
  | nil=>exact ⟨(fun c h=>by cases h),fun c h=>by cases h⟩
  | cons w ws =>
   cases bs with
   | nil=>exact ⟨(fun c h=>by cases h),fun c h=>by cases h⟩
   | cons b bs =>
    obtain ⟨_,c,_,rfl,h1,h2⟩:=aK w (h w rfl);exact ⟨ni h1,ni h2⟩
theorem GL.lex {ws:List Str} (h:GL ws):∀ bs:List Nat,bs.length=ws.length→cG (aV ws bs)=some (ws.map tokS):=by
 induction h with
 | nil =>
  intro bs hb;obtain rfl:=List.length_eq_zero_iff.mp hb
  rfl
 | mark hm h ih =>
  intro bs hb
  cases bs with
  | nil=>cases hb
  | cons b bs =>
   simp only [aV];rw [uL hm,cY,ih bs (Nat.succ.inj hb)]
   rfl
 | word hw hd h ih =>
  intro bs hb
  cases bs with
  | nil=>cases hb
  | cons b bs =>
   simp only [aV];obtain ⟨n1,n2⟩:=uM hd b bs;rw [hw _ n1 n2,cY,ih bs (Nat.succ.inj hb)]
   rfl
def GW (ws:List Str):Prop:=∀ r,HdM r→GL r→GL (ws++r)
def GM (ws:List Str):Prop:=∀ r,GL r→GL (ws++r)
theorem GM.gw {a:List Str} (h:GM a):GW a:=fun r _ g=>h r g
theorem GW.one {w:Str} (h:kT w):GW [w]:=fun _ hr g=>.word h hr g
theorem GM.one {m:Str} (h:m∈markL):GM [m]:=fun _ g=>.mark h g
theorem GW.mk {a:List Str} {m:Str} (h:GW a) (hm:m∈markL):GM (a++[m]):=fun r g=>by
 rw [List.append_assoc];exact h _ (fun w e=>by cases e;exact hm) (.mark hm g)
theorem GM.app {a b:List Str} (h:GM a) (g:GM b):GM (a++b):=fun r k=>by
 rw [List.append_assoc];exact h _ (g _ k)
theorem GM.then {a b:List Str} (h:GM a) (g:GW b):GW (a++b):=fun r hr k=>by
 rw [List.append_assoc];exact h _ (g _ hr k)
theorem GW.gl {a:List Str} (h:GW a):GL a:=by
 have:=h [] (fun w e=>by cases e) .nil
 rwa [List.append_nil] at this
def aW:List (List Str)→List Str
 | []=>[]
 | [x]=>x
 | x :: y :: r=>(x++[("," : Str)])++aW (y :: r)
theorem GW.sep:∀ {wss:List (List Str)},(∀ x∈wss,GW x)→GW (aW wss)
 | [],_=>fun _ _ g=>g
 | [x],h=>h x List.mem_cons_self
 | x :: y :: r,h=>((h x List.mem_cons_self).mk (m:= ",") (by decide +kernel)).then (GW.sep fun z hz=>h z (List.mem_cons_of_mem _ hz))
def brW (w:Str) (ws:List Str):List Str:=[w,"("]++ws++[(")" : Str)]
theorem GW.br {w:Str} {ws:List Str} (hw:kT w) (h:GW ws):GM (brW w ws):=(((GW.one hw).mk (m:= "(") (by decide +kernel)).then h).mk (m:= ")") (by decide +kernel)
def blk (w:Str):Nat:=if w= "," ∨w= ":" ∨w= ";" then 1 else 0
def aX (ws:List Str):List Nat:=aV ws (ws.map blk)
def ay (ws:List Str):Str:=bW (aX ws)
theorem bH (w:Str) (ws:List Str):aX (w :: ws)=(w.cps.toList++List.replicate (blk w) 32)++aX ws:=by
 unfold aX;rw [List.map_cons];simp only [aV];rw [List.append_assoc]
theorem bu:∀ (a b:List Str),aX (a++b)=aX a++aX b
 | [],_=>rfl
 | w :: a,b=>by
  rw [List.cons_append,bH,bH,bu a b];simp only [List.append_assoc]
theorem sv {w:Str} (h:blk w=0):aX [w]=w.cps.toList:=by
 rw [bH,h];show (_++[])++[]=_;rw [List.append_nil,List.append_nil]
theorem cH:aX ["("]=[40]∧aX [")"]=[41]∧aX [","]=[44,32]∧aX [":"]=[58,32]∧(Str.ofString ", ").cps.toList=[44,32]∧(Str.ofString ": ").cps.toList=[58,32]∧(Str.ofString "(").cps.toList=[40]∧(Str.ofString ")").cps.toList=[41]:=by decide +kernel
theorem bO (a b:Str):(a++b).cps.toList=a.cps.toList++b.cps.toList:=by
 show (a.cps++b.cps).toList=_;rw [Array.toList_append]
theorem cI (cs:List Nat):(bW cs).cps.toList=cs:=rfl
theorem jF:∀ wss:List (List Str),(Str.join (Str.ofString ", ") (wss.map ay)).cps.toList=aX (aW wss)
 | []=>rfl
 | [x]=>rfl
 | x :: y :: r=>by
  have:=jF (y :: r);rw [List.map_cons] at this;rw [List.map_cons,List.map_cons,PyProof.Rows.join_cons_cons,bO,bO,this];simp only [aW];rw [bu,bu,cH.2.2.1,cH.2.2.2.2.1]
  rfl
theorem jG (wss:List (List Str)):Str.join (Str.ofString ", ") (wss.map ay)=ay (aW wss):=b8 (jF wss)
theorem fS {w:Str} (hw:blk w=0) (wss:List (List Str)):w++Str.ofString "(" ++Str.join (Str.ofString ", ") (wss.map ay)++Str.ofString ")" = ay (brW w (aW wss)):=by
 apply b8;show _=aX _;unfold brW;rw [bO,bO,bO,jF,bu,bu,bH w ["("],hw,cH.1,cH.2.1,cH.2.2.2.2.2.2.1,cH.2.2.2.2.2.2.2];simp
theorem qa {w:Str} (hw:blk w=0) (ws:List Str):w++Str.ofString ": " ++ay ws=ay ([w,":"]++ws):=by
 apply b8;show _=aX _;rw [bO,bO,bu,bH w [":"],hw,cH.2.2.2.1,cH.2.2.2.2.2.1];simp [ay,bW]
theorem oz {c:Nat} {w:List Nat} (hc:aA marksS c=false):¬ (!(Builtin.Str.occurrences marksS (bW (c :: w)) 0 marksS.length 1).isEmpty)=true:=by
 rw [PySem.StrLaws.found_iff];rintro ⟨i,_,h2⟩;rw [PySem.StrLaws.subAt_eq,beq_iff_eq] at h2;have hm:c∈(marksS.cps.toList.drop i).take (bW (c :: w)).length:=by
  rw [h2];exact List.mem_cons_self
 have:=decide_eq_true (List.mem_of_mem_drop (List.mem_of_mem_take hm));unfold aA at hc;rw [hc] at this
 cases this
theorem uN {c:Nat} (h:aA letS c=true):aA marksS c=false:=by
 have h':c∈letS.cps.toList:=of_decide_eq_true h
 clear h
 revert c
 decide +kernel
theorem oA {c:Nat} (h:c=45∨aA figS c=true):aA marksS c=false∧aA letS c=false∧c≠34:=by
 rcases h with rfl | h
 ·decide +kernel
 have h':c∈figS.cps.toList:=of_decide_eq_true h
 clear h
 revert c
 decide +kernel
def NmC (z:Str):Prop:=z.cps.toList.all (aA letS)=true∧1≤z.length∧z.length≤8
theorem NmC.tok {z:Str} (h:NmC z):(mkW z.cps.toList).map toTk=some (kS z):=by
 obtain ⟨h1,h2,h3⟩:=h;have hl:=aj z;have ez:=gx z
 cases e:z.cps.toList with
 | nil=>rw [e] at hl;simp at hl;lia
 | cons c w =>
  rw [e] at h1 hl ez;have hc:aA letS c=true:=by rw [List.all_cons,Bool.and_eq_true] at h1;exact h1.1
  unfold mkW;rw [if_neg (oz (uN hc)),if_neg (fun x=>(p9 hc).1 (Option.some.inj x.1)),if_pos ⟨⟨c,rfl,hc⟩,by lia⟩,ez]
  rfl
theorem NmC.tk {z:Str} (h:NmC z):tokS z=kS z:=by
 unfold tokS;rw [h.tok]
 rfl
theorem NmC.good {z:Str} (h:NmC z):kT z:=by
 intro r n1 _;have ht:=h.tok;rw [h.tk];obtain ⟨h1,h2,h3⟩:=h;have hl:=aj z
 cases e:z.cps.toList with
 | nil=>rw [e] at hl;simp at hl;lia
 | cons c w =>
  rw [e] at h1 ht;exact AI h1 n1 ht
theorem NmC.bk {z:Str} (h:NmC z):blk z=0:=by
 unfold blk;refine if_neg ?_;rintro (rfl | rfl | rfl)
 ·exact absurd h.1 (by decide +kernel)
 ·exact absurd h.1 (by decide +kernel)
 ·exact absurd h.1 (by decide +kernel)
theorem h9 {i:Int} (h:i.natAbs < 10 ^ 60):∃ c w,dM i=c :: w∧(c=45∨aA figS c=true)∧w.all (aA figS)=true∧((dM i).dropWhile (· == 45)).length≤60:=by
 have af:∀ {l:List Nat},NumText.AllDigits l→l.all (aA figS)=true:=fun {l} hd=>List.all_eq_true.mpr fun c hc=>by
  have:=hd c hc;rw [show aA figS c=eH c from qI c ▸ (PySem.StrLaws.found_one figS c).symm];exact decide_eq_true this
 have hl:=pI 59 i.natAbs h;have hn:(dg i.natAbs).dropWhile (· == 45)=dg i.natAbs:=by
  cases e:dg i.natAbs with
  | nil=>rfl
  | cons d t =>
   have hd:=du i.natAbs d (by rw [e];exact List.mem_cons_self);rw [List.dropWhile_cons,if_neg (by simp;lia)]
 by_cases hi:i < 0
 ·have e:dM i=45 :: dg i.natAbs:=by unfold dM;rw [if_pos hi]
  refine ⟨45,dg i.natAbs,e,.inl rfl,af (du _),?_⟩;rw [e,List.dropWhile_cons,if_pos (by rfl),hn];exact hl
 ·have e:dM i=dg i.natAbs:=by unfold dM;rw [if_neg hi]
  cases ed:dg i.natAbs with
  | nil=>exact absurd ed (tL _)
  | cons d t =>
   have hall:=af (du i.natAbs);rw [ed,List.all_cons,Bool.and_eq_true] at hall;refine ⟨d,t,by rw [e,ed],.inr hall.1,hall.2,?_⟩;rw [e,hn];exact hl
theorem qN {i:Int} (h:i.natAbs < 10 ^ 60):(mkW (dM i)).map toTk=some (AH i):=by
 obtain ⟨c,w,e,hc,_,hl⟩:=h9 h;obtain ⟨m1,m2,m3⟩:=oA hc;have hd:=vK i;rw [e] at hl hd ⊢;unfold mkW;rw [if_neg (oz m1),if_neg (fun x=>m3 (Option.some.inj x.1)),if_neg (fun x=>by
  obtain ⟨⟨d,e1,e2⟩,_⟩:=x
  cases e1
  rw [m2] at e2
  cases e2),if_pos hl,hd]
 rfl
theorem jH {i:Int} (h:i.natAbs < 10 ^ 60):tokS (aL i)=AH i:=by
 unfold tokS;rw [gv,qN h]
 rfl
theorem uO {i:Int} (h:i.natAbs < 10 ^ 60):kT (aL i):=by
 intro r _ n2;rw [jH h,gv];have ht:=qN h;obtain ⟨c,w,e,hc,hw,hl⟩:=h9 h;rw [e] at ht ⊢;exact AJ hc hw n2 ht
theorem vM {i:Int} (h:i.natAbs < 10 ^ 60):blk (aL i)=0:=by
 unfold blk;obtain ⟨c,w,e,hc,hw,hl⟩:=h9 h;have m1:=(oA hc).1;refine if_neg fun x=>?_;have key:∀ z:Str,(z= "," ∨z= ":" ∨z= ";")→∀ c w,z.cps.toList=c :: w→aA marksS c=true:=by
  rintro z (rfl | rfl | rfl) c w e
  ·rw [show c=44 from by cases e;rfl];decide +kernel
  ·rw [show c=58 from by cases e;rfl];decide +kernel
  ·rw [show c=59 from by cases e;rfl];decide +kernel
 have:=key _ x c w ((gv i).trans e);rw [m1] at this
 cases this
section
variable (ts:List Tk)
def jI (p:Nat) (f:Str→Nat→PR):PR:=match aq ts p with
 | (w,.inr s)=>if w= "word" then f s (p+1) else .err
 | (_,.inl _)=>.err
def jJ (rd:Str→Nat→PR) (s w:Str) (p:Nat):PR:=match aT s w with
 | none=>.err
 | some fs=>dC ts "(" p fun q=>cc ts rd fs q [.str w]
def qO (rd:Str→Nat→PR) (s:Str) (p:Nat):PR:=jI ts p fun w q=>dC ts ":" q fun q=>(rd s q).bind fun v r=>.ok (.tup [.str w,v]) r
def ex2:List Dt→List Dt
 | [a,b]=>[b,a]
 | [a,b,c]=>[a,c,b]
 | l=>l
def exL (w:Str) (ds:List Dt):List Dt:=if w= "list" ∨w= "rows" then ex2 ds else ds
def exD:Dt→Dt
 | .tup (.str w :: ds)=>.tup (.str w :: exL w ds)
 | d=>d
def kU (rd:Str→Nat→PR) (p:Nat):PR:=jI ts p fun w q =>
 if w= "choice" then dC ts "(" q fun q=>(ox ts (rd "word") ")" q).bind fun v r=>(match v with
  | .tup []=>.err
  | v=>.ok (.tup [.str w,v]) r)
 else if w= "record" then dC ts "(" q fun q=>(ox ts (rd "field") ")" q).bind fun v r=>.ok (.tup [.str w,v]) r
 else (jJ ts rd "kind" w q).bind fun v r=>.ok (exD v) r
abbrev qP:List (Str×Str):=[("field","kind"),("entry","value"),("way","word")]
def prs:Nat→Str→Nat→PR
 | n+3,s,p=>if s= "value" then .out else if s= "kind" then kU ts (prs n) p else if s= "turn" then .out
  else if s= "piece" then .out else if s= "path" then .out else if s= "change" then .out
  else match eG s qP with
   | some s'=>qO ts (prs (n+1)) s' p
   | none=>kR ts s p
 | _,_,_=>.out
end
def jK (K:PySem.W.Frag) (ad:Ads) (n:Nat):Sp:=fun vs H Q E=>∃ (x lw:Addr) (ts:List Tk) (p:Nat) (s:Str),vs=[.ref x,.str s]∧RowAt K ad.WordRow H x lw ts p∧Rdd K ad x lw ts H Q E (prs ts n s p)
def wD (K:PySem.W.Frag) (ad:Ads) (n:Nat):Sp:=fun vs H Q E=>∃ (x lw:Addr) (ts:List Tk) (p:Nat) (s c:Str),vs=[.ref x,.str s,.str c]∧RowAt K ad.WordRow H x lw ts p∧Rdd K ad x lw ts H Q E (ox ts (prs ts n s) c p)
theorem Rdd.step {K:PySem.W.Frag} {ad:Ads} {x lw:Addr} {ts:List Tk} {H H3:Hp} {Q Q':VK} {E:XK} {r:PR} {f:Dt→Nat→PR} (q:Rdd K ad x lw ts H Q E (r.bind f)) (b:But x H H3)
  (k:∀ v p y H4,But x H3 H4→RowAt K ad.WordRow H4 x lw ts p→IsP K H4 v y→Rdd K ad x lw ts H Q E (f v p)→Q' y H4):Rdd K ad x lw ts H3 Q' E r:=by
 cases r with
 | ok v p=>exact fun y H4 b4 hR hv=>k v p y H4 b4 hR hv q
 | err=>exact fun H4 b4=>q H4 (b.trans b4)
 | out=>exact q
theorem aD {ts:List Tk} {m:Str} {p:Nat} {f:Nat→PR} (h:aq ts p=cW m):dC ts m p f=f (p+1):=if_pos h
theorem cJ {ts:List Tk} {m:Str} {p:Nat} {f:Nat→PR} (h:¬ aq ts p=cW m):dC ts m p f=.err:=if_neg h
theorem RowAt.mut {K:PySem.W.Frag} {C:Addr} {H:Hp} {x lw:Addr} {ts:List Tk} {p:Nat} (h:RowAt K C H x lw ts p):Mut (H x):=by
 obtain ⟨dx,ws,hx,_⟩:=h;rw [hx];exact True.intro
theorem RowAt.put {K:PySem.W.Frag} {C:Addr} {H:Hp} {x lw l:Addr} {ts:List Tk} {p:Nat} {zs:List V} (h:RowAt K C H x lw ts p) (hl:H l=some (.lst zs)) (ys:List V) (no:lw≠l):RowAt K C (upd H l (.lst ys)) x lw ts p:=by
 obtain ⟨dx,ws,hx,h0,hp,hlx,h5⟩:=h;have nx:x≠l:=ko hx hl (by intro c;cases c);exact ⟨dx,ws,by rw [ae nx];exact hx,by rw [ae no];exact h0,hp.but hl But.put,hlx,h5⟩
theorem mq (T:Tx K mg ad) (n:Nat) {f fp:Addr} {fd fdp:FuncData} (F:Gn K mg "list_read" da ["row","sort","closing"] f fd) (Ho:Gn K mg "part_read" bp ["row","sort"] fp fdp)
  (Ht:FnOk P w K mg base (CXE P w) (n+4) fp fdp ["row","sort"] (jK K ad n)):FnOk P w K mg base (CXE P w) (n+4+1) f fd ["row","sort","closing"] (wD K ad n):=by
 obtain ⟨f1,d1,Hv⟩:=T.m_WordRow_comes;have Ii:=dB (P:=P) (w:=w) (base:=base) T Hv;obtain ⟨f2,d2,Hl⟩:=T.m_WordRow_take_mark;have Hq:=aR (P:=P) (w:=w) (base:=base) T Hl;refine F.F.okW gM (fun vs H Q E h=>?_) (fun cdv A outer s H vs Q E hr h=>?_)
 ·obtain ⟨x,lw,ts,p,s,c,rfl,_⟩:=h
  rfl
 obtain ⟨x,lw,ts,p,s,c,rfl,hR,q⟩:=h;refine ⟨_,(@pss_cons _ _ _ _ _ (@ps_set _ _ 3 _ _ _ _ gM.nd rfl (Or.inl rfl) (@aG _ _ _ _ ei) (by rfl) (by first | exact .inl rfl | exact .inr rfl | assumption)) (@pss_cons _ _ _ _ _ (tH fun ok=>i3 (je ok.frames rfl ok.frf) (@pt_not _ _ _ _ (@pt_val _ _ _ (aQ (pv 0) T.c_WordRow Hv.meth Ii (hr.mono (by first | decide | lia)) Hv.b .nil kD (@pa1 _ _ _ (pv 2) (by rfl))) (by intro _;rfl)))
    (@pss_cons _ _ _ _ _ (@ps_if _ _ _ _ _ _ _ _ (pt_cmpR op_gt (pe_callB (bh (K:=K) rfl) rfl T.z_len PySem.boot_len (@pa1 _ _ _ (pv 3) (by rfl))) pe_int (nomark _)) (@pss_one _ _ _ (@bn _ _ _ _ (aQ (pv 0) T.c_WordRow Hl.meth Hq (hr.mono (by first | decide | lia)) Hl.b .nil (ao rfl rfl rfl) (@pa1 _ _ _ pe_str (by rfl))) (by rfl))) pss_nil) (@pss_one _ _ _ (@bn _ _ _ _ (pe_bm PySem.F.plainAttrs_list PySem.F.slot_list_append PySem.F.type_list_append cA (pv 3) (@pa1 _ _ _ (aF Ht (hr.mono (by first | decide | lia)) rfl Ho.m Ho.F.kp Ho.b .nil (ao rfl rfl rfl) (@pa2 _ _ _ _ _ (pv 0) (pv 1) (by rfl) (by rfl))) (by rfl))) (by rfl))))) (@pss_cons _ _ _ _ _ (@bn _ _ _ _ (aQ (pv 0) T.c_WordRow Hl.meth Hq (hr.mono (by first | decide | lia)) Hl.b .nil (ao rfl rfl rfl) (@pa1 _ _ _ (pv 2) (by rfl))) (by rfl)) (@pss_one _ _ _ (@ps_ret _ _ _ _ (pe_callTy (bM (K:=K) rfl) rfl T.z_tuple boot_tuple (@pa1 _ _ _ (pv 3) (by rfl)))))))),?_⟩
 refine ⟨(by show 0≤sizeLine;decide),fun l hl=>?_⟩;have hxl:l≠x:=by
  obtain ⟨dx,_,hx,_⟩:=hR;exact fun c=>by rw [c,hx] at hl;cases hl
 have hwl:lw≠l:=by
  obtain ⟨dx,_,_,h0,_⟩:=hR;exact ag h0 hl
 refine ⟨fun m σ H'=>∃ (p':Nat) (fs:List Dt) (ys:List V),But x H H'∧RowAt K ad.WordRow H' x lw ts p'∧H' l=some (.lst ys)∧IsPs K H' fs ys∧fs.length+m≤ts.length+1∧Rdd K ad x lw ts H Q E (ca ts (prs ts n s) c m p' fs)∧σ=[some (.ref x),some (.str s),some (.str c),some (.ref l)],
  ⟨ts.length+1,p,[],[],But.same (ah hl _),hR.same (ah hl _),aa,.nil,Nat.le_of_eq (Nat.zero_add _),q,rfl⟩,?_⟩
 rintro m σ H1 ⟨p',fs,ys,b1,hR1,f1',hp,hm,q1,rfl⟩
 cases m with
 | zero=>exact q1.elim
 | succ m =>
 obtain ⟨dx,ws,hx,hl0,hp0,hlx0,h5⟩:=id hR1;have ly:=hp.length;refine ⟨_,rfl,x,dx,_,rfl,hx,aN lw p' (by decide +kernel) (by decide +kernel),_,rfl,x,lw,ts,p',c,rfl,hR1,fun H2 g2=>?_⟩;have R2:=hR1.same g2;have f2':=g2 _ _ f1';have hp2:=hp.same g2
 by_cases hc:aq ts p'=cW c
 ·rw [decide_eq_true hc];simp only [ca] at q1;rw [if_pos hc] at q1;refine ⟨_,rfl,bq ⟨_,rfl,x,dx,_,rfl,g2 _ _ hx,aN lw p' (by decide +kernel) (by decide +kernel),_,rfl,x,lw,ts,p',c,rfl,R2,fun _ H3 b3 hR3=>?_,fun h=>absurd hc h⟩⟩;refine ⟨_,rfl,l,ys,_,rfl,SqL.of (b3 _ _ hxl f2'),bf R2.mut b3 hp2,fun v H4 g4 hv=>?_⟩;exact q1 v H4 (((b1.trans (But.same g2)).trans b3).trans (But.same g4)) (hR3.same g4) hv
 ·rw [decide_eq_false hc];simp only [ca] at q1;rw [if_neg hc] at q1;refine ⟨_,rfl,bL ⟨fun σ' H'=>∃ (p':Nat) (fs:List Dt) (ys:List V),But x H H'∧RowAt K ad.WordRow H' x lw ts p'∧H' l=some (.lst ys)∧IsPs K H' fs ys∧fs.length+m≤ts.length+1∧Rdd K ad x lw ts H Q E (ca ts (prs ts n s) c m p' fs)∧σ'=[some (.ref x),some (.str s),some (.str c),some (.ref l)],fun σ' H' r=>⟨m,by lia,r⟩,?_⟩⟩;refine ⟨_,rfl,l,_,rfl,.inl (SqL.of f2'),_,_,rfl,rfl,_,rfl,?_⟩;have b2:But x H H2:=b1.trans (But.same g2);refine aJ (fun c0=>?_) (fun c0=>?_)
  ·have pos:0 < fs.length:=by have:=of_decide_eq_true c0;lia
   rw [if_pos pos] at q1;refine ⟨_,rfl,x,dx,_,rfl,g2 _ _ hx,aN lw p' (by decide +kernel) (by decide +kernel),x,lw,ts,p',",",rfl,R2,fun hcm H3 b3 R3=>?_,fun hcm H3 g3=>?_⟩
   ·rw [aD hcm] at q1;refine ⟨_,rfl,.inl ⟨rfl,_,SqL.of (b3 _ _ hxl f2')⟩,_,rfl,_,rfl,x,lw,ts,p' + 1,s,rfl,R3,q1.step (b2.trans b3) fun v p4 y H4 b4 R4 hv q4=>?_⟩;have f4:=b4 _ _ hxl (b3 _ _ hxl f2');refine ⟨l,ys,y,rfl,rfl,f4,Nat.lt_of_lt_of_le (show ys.length < 100001 by have:=h5.1;lia) (by decide),p4,fs++[v],ys++[y],fun b o nb eb=>?_,R4.put f4 _ hwl,aa,((bf R3.mut b4 (bf R2.mut b3 hp2)).but f4 But.put).append (.cons (hv.but f4 But.put) .nil),by rw [List.length_append];simp only [List.length_cons,List.length_nil];lia,q4,rfl⟩;rw [ae (ag eb hl)];exact b4 _ _ nb ((b2.trans b3) _ _ nb eb)
   ·rw [cJ hcm] at q1;exact q1 H3 (b2.trans (But.same g3))
  ·have pos:¬ 0 < fs.length:=fun h=>c0 (decide_eq_true (by lia));rw [if_neg pos] at q1;refine ⟨_,rfl,.inl ⟨rfl,_,SqL.of f2'⟩,_,rfl,_,rfl,x,lw,ts,p',s,rfl,R2,q1.step b2 fun v p4 y H4 b4 R4 hv q4=>?_⟩;have f4:=b4 _ _ hxl f2';refine ⟨l,ys,y,rfl,rfl,f4,Nat.lt_of_lt_of_le (show ys.length < 100001 by have:=h5.1;lia) (by decide),p4,fs++[v],ys++[y],fun b o nb eb=>?_,R4.put f4 _ hwl,aa,((bf R2.mut b4 hp2).but f4 But.put).append (.cons (hv.but f4 But.put) .nil),by rw [List.length_append];simp only [List.length_cons,List.length_nil];lia,q4,rfl⟩;rw [ae (ag eb hl)];exact b4 _ _ nb (b2 _ _ nb eb)
def wE (K:PySem.W.Frag) (ad:Ads) (n:Nat):Sp:=fun vs H Q E=>∃ (x lw:Addr) (ts:List Tk) (p:Nat) (s w:Str),vs=[.ref x,.str s,.str w]∧RowAt K ad.WordRow H x lw ts p∧Rdd K ad x lw ts H Q E (jJ ts (prs ts n) s w p)
theorem mr (T:Tx K mg ad) (n:Nat) {f fp:Addr} {fd fdp:FuncData} (F:Gn K mg "form_read" c9 ["row","sort","word"] f fd) (Ho:Gn K mg "part_read" bp ["row","sort"] fp fdp)
  (Ht:FnOk P w K mg base (CXE P w) (n+4) fp fdp ["row","sort"] (jK K ad n)):FnOk P w K mg base (CXE P w) (n+4+1) f fd ["row","sort","word"] (wE K ad n):=by
 obtain ⟨f1,d1,HN⟩:=T.parts_behind;have Il:=dY (P:=P) (w:=w) (base:=base) T HN;obtain ⟨f2,d2,Hl⟩:=T.m_WordRow_take_mark;have Hq:=aR (P:=P) (w:=w) (base:=base) T Hl;refine F.F.okW cy (fun vs H Q E h=>?_) (fun cdv A outer s H vs Q E hr h=>?_)
 ·obtain ⟨x,lw,ts,p,s,w,rfl,_⟩:=h
  rfl
 obtain ⟨x,lw,ts,p,s,wd,rfl,hR,q⟩:=h;refine ⟨_,(@pss_cons _ _ _ _ _ (@ps_set _ _ 3 _ _ _ _ cy.nd rfl (Or.inl rfl) (pcl HN Il (hr.mono (by lia)) rfl (@pa2 _ _ _ _ _ (pv 1) (pv 2) (by rfl) (by rfl))) (by rfl) (by first | exact .inl rfl | exact .inr rfl | assumption)) (@pss_cons _ _ _ _ _ (@ps_if _ _ _ _ _ _ _ _ (pt_cmpR oV (pv 3) pe_non (nomark _)) (@pss_one _ _ _ (ps_raiseW rfl rfl rfl rfl T.x_BadText rfl (@pa1 _ _ _ pe_str (by rfl)))) pss_nil) (@pss_cons _ _ _ _ _ (@bn _ _ _ _ (aQ (pv 0) T.c_WordRow Hl.meth Hq (hr.mono (by first | decide | lia)) Hl.b .nil (ao rfl rfl rfl) (@pa1 _ _ _ pe_str (by rfl))) (by rfl)) (@pss_cons _ _ _ _ _ (@ps_set _ _ 4 _ _ _ _ cy.nd rfl (Or.inl rfl) (@aG _ _ _ _ (@pa1 _ _ _ (pv 2) (by rfl))) (by rfl) (by first | exact .inl rfl | exact .inr rfl | assumption)) (@pss_cons _ _ _ _ _ (tH fun ok=>cC (je ok.frames rfl ok.frf) rfl (bG (K:=K) rfl (pv 3)) (ak (i:=5) cy.nd rfl (Or.inl rfl))
    (@pss_cons _ _ _ _ _ (@ps_if _ _ _ _ _ _ _ _ (pt_cmpR op_gt (pe_callB (bh (K:=K) rfl) rfl T.z_len PySem.boot_len (@pa1 _ _ _ (pv 4) (by rfl))) pe_int (nomark _)) (@pss_one _ _ _ (@bn _ _ _ _ (aQ (pv 0) T.c_WordRow Hl.meth Hq (hr.mono (by first | decide | lia)) Hl.b .nil (ao rfl rfl rfl) (@pa1 _ _ _ pe_str (by rfl))) (by rfl))) pss_nil) (@pss_one _ _ _ (@bn _ _ _ _ (pe_bm PySem.F.plainAttrs_list PySem.F.slot_list_append PySem.F.type_list_append cA (pv 4) (@pa1 _ _ _ (aF Ht (hr.mono (by first | decide | lia)) rfl Ho.m Ho.F.kp Ho.b .nil (ao rfl rfl rfl) (@pa2 _ _ _ _ _ (pv 0) (pv 5) (by rfl) (by rfl))) (by rfl))) (by rfl))))) (@pss_cons _ _ _ _ _ (@bn _ _ _ _ (aQ (pv 0) T.c_WordRow Hl.meth Hq (hr.mono (by first | decide | lia)) Hl.b .nil (ao rfl rfl rfl) (@pa1 _ _ _ pe_str (by rfl))) (by rfl)) (@pss_one _ _ _ (@ps_ret _ _ _ _ (pe_callTy (bM (K:=K) rfl) rfl T.z_tuple boot_tuple (@pa1 _ _ _ (pv 4) (by rfl))))))))))),?_⟩
 obtain ⟨dx,ws,hx,hl0,hp0,hlx0,h5⟩:=id hR;refine ⟨_,rfl,_,rfl,s,wd,rfl,?_⟩;unfold jJ at q
 cases hf:aT s wd with
 | none =>
  rw [hf] at q;exact ⟨_,rfl,rfl,_,rfl,bB ⟨sz1,q H (But.refl _ _)⟩⟩
 | some fs =>
  rw [hf] at q;intro b hb;refine ⟨_,rfl,rfl,_,rfl,iteN (fun c=>by cases c) ?_⟩;dsimp only at q;refine ⟨_,rfl,x,dx,_,rfl,hx,aN lw p (by decide +kernel) (by decide +kernel),x,lw,ts,p,"(",rfl,hR,fun hcm H1 b1 R1=>?_,fun hcm H1 g1=>?_⟩
  rotate_left
  ·rw [cJ hcm] at q;exact q H1 (But.same g1)
  rw [aD hcm] at q;refine ⟨_,rfl,sz1,fun l hl=>?_⟩;have hlH:H l=none:=by
   cases c:H l with
   | none=>rfl
   | some o =>
    by_cases e:l=x
    ·subst e;obtain ⟨dx1,_,hx1,_⟩:=R1;rw [hx1] at hl
     cases hl
    ·rw [b1 _ _ e c] at hl
     cases hl
  have hxl:l≠x:=fun c=>by rw [c,hx] at hlH;cases hlH
  have hwl:lw≠l:=ag hl0 hlH;refine ⟨_,rfl,b,rfl,⟨_,hb _⟩,gh (K:=K) (xs:=fs.map V.str) (fun i σ H'=>∃ (p':Nat) (gs:List Dt) (ys:List V) (v5:Option V),But x H H'∧RowAt K ad.WordRow H' x lw ts p'∧H' l=some (.lst ys)∧IsPs K H' gs ys∧gs.length=i+1∧Rdd K ad x lw ts H Q E (cc ts (prs ts n) (fs.drop i) p' gs)∧σ=[some (.ref x),some (.str s),some (.str wd),some (.ref b),some (.ref l),v5])
   ⟨p+1,[.str wd],[.str wd],_,b1.trans (But.same (ah hl _)),R1.same (ah hl _),aa,.cons .str .nil,rfl,q,rfl⟩ (fun i σ H' _ _=>hb H') ?_ ?_⟩
  ·rintro i y σ H2 hy ⟨p',gs,ys,v5,b2,R2,f2',hp2,hg,q2,rfl⟩;rw [List.getElem?_map] at hy;obtain ⟨s',hs',rfl⟩:=Option.map_eq_some_iff.mp hy;have hd:fs.drop i=s' :: fs.drop (i+1):=by
    obtain ⟨h1,h2⟩:=List.getElem?_eq_some_iff.mp hs';rw [List.drop_eq_getElem_cons h1,h2]
   rw [hd] at q2;simp only [cc] at q2;have ly:=hp2.length;obtain ⟨dx2,ws2,hx2,_⟩:=id R2;have il:i < fs.length:=(List.getElem?_eq_some_iff.mp hs').1;have fl:fs.length≤6:=by
    unfold aT at hf;have key:∀ (F:List (Str×List Str)) (w:Str) (l:List Str),(∀ q∈F,q.2.length≤6)→cX w F=some l→l.length≤6:=by
     intro F
     induction F with
     | nil=>intro w l _ h;cases h
     | cons a F ih =>
      intro w l h1 h2;simp only [cX] at h2
      split at h2
      ·cases h2;exact h1 a List.mem_cons_self
      ·exact ih w l (fun q hq=>h1 q (List.mem_cons_of_mem _ hq)) h2
    split at hf
    ·exact key uH _ _ (by decide +kernel) hf
    split at hf
    ·exact key uI _ _ (by decide +kernel) hf
    ·exact key p0 _ _ (by decide +kernel) hf
   refine ⟨_,rfl,l,_,rfl,.inl (SqL.of f2'),_,_,rfl,rfl,_,rfl,aJ (fun c0=>?_) (fun c0=>?_)⟩
   ·have pos:1 < gs.length:=by have:=of_decide_eq_true c0;lia
    rw [if_pos pos] at q2;refine ⟨_,rfl,x,dx2,_,rfl,hx2,aN lw p' (by decide +kernel) (by decide +kernel),x,lw,ts,p',",",rfl,R2,fun hcm H3 b3 R3=>?_,fun hcm H3 g3=>?_⟩
    ·rw [aD hcm] at q2;refine ⟨_,rfl,.inl ⟨rfl,_,SqL.of (b3 _ _ hxl f2')⟩,_,rfl,_,rfl,x,lw,ts,p' + 1,s',rfl,R3,q2.step (b2.trans b3) fun v p4 y H4 b4 R4 hv q4=>?_⟩;have f4:=b4 _ _ hxl (b3 _ _ hxl f2');refine ⟨l,ys,y,rfl,rfl,f4,aw (by lia),p4,gs++[v],ys++[y],_,fun b o nb eb=>?_,R4.put f4 _ hwl,aa,((bf R3.mut b4 (bf R2.mut b3 hp2)).but f4 But.put).append (.cons (hv.but f4 But.put) .nil),by rw [List.length_append];simp only [List.length_cons,List.length_nil];lia,q4,rfl⟩;rw [ae (ag eb hlH)];exact b4 _ _ nb ((b2.trans b3) _ _ nb eb)
    ·rw [cJ hcm] at q2;exact q2 H3 (b2.trans (But.same g3))
   ·have pos:¬ 1 < gs.length:=fun h=>c0 (decide_eq_true (by lia));rw [if_neg pos] at q2;refine ⟨_,rfl,.inl ⟨rfl,_,SqL.of f2'⟩,_,rfl,_,rfl,x,lw,ts,p',s',rfl,R2,q2.step b2 fun v p4 y H4 b4 R4 hv q4=>?_⟩;have f4:=b4 _ _ hxl f2';refine ⟨l,ys,y,rfl,rfl,f4,aw (by lia),p4,gs++[v],ys++[y],_,fun b o nb eb=>?_,R4.put f4 _ hwl,aa,((bf R2.mut b4 hp2).but f4 But.put).append (.cons (hv.but f4 But.put) .nil),by rw [List.length_append];simp only [List.length_cons,List.length_nil];lia,q4,rfl⟩;rw [ae (ag eb hlH)];exact b4 _ _ nb (b2 _ _ nb eb)
  ·rintro σ H2 ⟨p',gs,ys,v5,b2,R2,f2',hp2,hg,q2,rfl⟩;rw [List.length_map,List.drop_length] at q2;simp only [cc] at q2;obtain ⟨dx2,ws2,hx2,_⟩:=id R2;refine ⟨_,rfl,x,dx2,_,rfl,hx2,aN lw p' (by decide +kernel) (by decide +kernel),x,lw,ts,p',")",rfl,R2,fun hcm H3 b3 R3=>?_,fun hcm H3 g3=>?_⟩
   ·rw [aD hcm] at q2;refine ⟨_,rfl,l,ys,_,rfl,SqL.of (b3 _ _ hxl f2'),bf R2.mut b3 hp2,fun v H4 g4 hv=>?_⟩;exact q2 v H4 ((b2.trans b3).trans (But.same g4)) (R3.same g4) hv
   ·rw [cJ hcm] at q2;exact q2 H3 (b2.trans (But.same g3))
theorem uP {ts:List Tk} {p:Nat} (h:∀ t∈ts,t.1= "word" →∃ s,t.2=Sum.inr s) (e:(aq ts p).1= "word"):∃ s:Str,(aq ts p).2=Sum.inr s:=by
 unfold aq at e ⊢
 cases hp:ts[p]? with
 | none =>
  rw [hp] at e;exact absurd (show (Str.ofString "end")=Str.ofString "word" from e) (by decide +kernel)
 | some t =>
  rw [hp] at e;exact h t (List.mem_of_getElem? hp) e
theorem Rdd.word {K:PySem.W.Frag} {ad:Ads} {x lw:Addr} {ts:List Tk} {H H1:Hp} {Q:VK} {E:XK} {p:Nat} {f:Str→Nat→PR} (q:Rdd K ad x lw ts H Q E (jI ts p f)) (b:But x H H1) (h:∀ t∈ts,t.1= "word" →∃ s,t.2=Sum.inr s) :
  (∃ s,(aq ts p).1= "word" ∧kV (aq ts p).2=.str s∧Rdd K ad x lw ts H Q E (f s (p+1)))∨(¬ (aq ts p).1= "word" ∧E (.ref ad.BadText) none H1):=by
 by_cases e:(aq ts p).1= "word"
 ·obtain ⟨s,hs⟩:=uP h e;refine .inl ⟨s,e,by rw [hs];rfl,?_⟩;unfold jI at q
  generalize aq ts p=t at q e hs
  obtain ⟨w,kk⟩:=t;obtain rfl:kk=Sum.inr s:=hs;obtain rfl:w= "word" :=e;dsimp only at q;rw [if_pos rfl] at q;exact q
 ·refine .inr ⟨e,?_⟩;unfold jI at q
  generalize aq ts p=t at q e
  obtain ⟨w,kk⟩:=t
  cases kk with
  | inl i=>exact q H1 b
  | inr s =>
   dsimp only at q;rw [if_neg e] at q;exact q H1 b
def GG (K:PySem.W.Frag) (ad:Ads) (n:Nat):Sp:=fun vs H Q E=>∃ (x lw:Addr) (ts:List Tk) (p:Nat) (s:Str),vs=[.ref x,.str s]∧RowAt K ad.WordRow H x lw ts p∧Rdd K ad x lw ts H Q E (qO ts (prs ts n) s p)
theorem ms (T:Tx K mg ad) (n:Nat) {f fp:Addr} {fd fdp:FuncData} (F:Gn K mg "pair_read" eX ["row","sort"] f fd) (Ho:Gn K mg "part_read" bp ["row","sort"] fp fdp)
  (Ht:FnOk P w K mg base (CXE P w) (n+4) fp fdp ["row","sort"] (jK K ad n)):FnOk P w K mg base (CXE P w) (n+4+1) f fd ["row","sort"] (GG K ad n):=by
 obtain ⟨f2,d2,Hl⟩:=T.m_WordRow_take_mark;have Hq:=aR (P:=P) (w:=w) (base:=base) T Hl;obtain ⟨f3,d3,Hr⟩:=T.m_WordRow_take;have HD:=cn (P:=P) (w:=w) (base:=base) T Hr;refine F.F.okW gL (fun vs H Q E h=>?_) (fun cdv A outer s H vs Q E hr h=>?_)
 ·obtain ⟨x,lw,ts,p,s,rfl,_⟩:=h
  rfl
 obtain ⟨x,lw,ts,p,s,rfl,hR,q⟩:=h;refine ⟨_,(@pss_cons _ _ _ _ _ (@ps_set _ _ 2 _ _ _ _ gL.nd rfl (Or.inl rfl) (aQ (pv 0) T.c_WordRow Hr.meth HD (hr.mono (by first | decide | lia)) Hr.b .nil (ao rfl rfl rfl) (@pa1 _ _ _ pe_str (by rfl))) (by rfl) (by first | exact .inl rfl | exact .inr rfl | assumption)) (@pss_cons _ _ _ _ _ (@bn _ _ _ _ (aQ (pv 0) T.c_WordRow Hl.meth Hq (hr.mono (by first | decide | lia)) Hl.b .nil (ao rfl rfl rfl) (@pa1 _ _ _ pe_str (by rfl))) (by rfl)) (@pss_one _ _ _ (@ps_ret _ _ _ _ (@pe_tupPK _ K _ _ _ _ rfl (@pa2 _ _ _ _ _ (pv 2) (aF Ht (hr.mono (by first | decide | lia)) rfl Ho.m Ho.F.kp Ho.b .nil (ao rfl rfl rfl) (@pa2 _ _ _ _ _ (pv 0) (pv 1) (by rfl) (by rfl))) (by rfl) (by rfl))))))),?_⟩;obtain ⟨dx,ws,hx,hl0,hp0,hlx0,h5⟩:=id hR;rcases q.word (But.refl _ _) h5.2 with ⟨wd,ht,e2,q1⟩ | ⟨hn,he⟩
 rotate_left
 ·exact ⟨_,rfl,x,dx,_,rfl,hx,aN lw p (by decide +kernel) (by decide +kernel),x,lw,ts,p,"word",rfl,hR,fun h=>absurd h hn,fun _=>he⟩
 refine ⟨_,rfl,x,dx,_,rfl,hx,aN lw p (by decide +kernel) (by decide +kernel),x,lw,ts,p,"word",rfl,hR,fun _ H1 b1 R1=>?_,fun h=>absurd ht h⟩;rw [e2];obtain ⟨dx1,ws1,hx1,_⟩:=id R1;refine ⟨_,rfl,x,dx1,_,rfl,hx1,aN lw _ (by decide +kernel) (by decide +kernel),x,lw,ts,p+1,":",rfl,R1,fun hcm H2 b2 R2=>?_,fun hcm H2 g2=>?_⟩
 ·rw [aD hcm] at q1;refine ⟨_,rfl,_,rfl,_,rfl,x,lw,ts,p+1+1,s,rfl,R2,q1.step (b1.trans b2) fun v p4 y H4 b4 R4 hv q4=>?_⟩;exact ⟨[.str wd,v],.cons .str (.cons hv .nil),sz2,fun y5 H5 g5 hv5=>q4 y5 H5 (((b1.trans b2).trans b4).trans (But.same g5)) (R4.same g5) hv5⟩
 ·rw [cJ hcm] at q1;exact q1 H2 (b1.trans (But.same g2))
theorem ia {s w:Str} {fs:List Str} (hf:aT s w=some fs):fs.length≤6:=by
 unfold aT at hf;have key:∀ (F:List (Str×List Str)) (w:Str) (l:List Str),(∀ q∈F,q.2.length≤6)→cX w F=some l→l.length≤6:=by
  intro F
  induction F with
  | nil=>intro w l _ h;cases h
  | cons a F ih =>
   intro w l h1 h2;simp only [cX] at h2
   split at h2
   ·cases h2;exact h1 a List.mem_cons_self
   ·exact ih w l (fun q hq=>h1 q (List.mem_cons_of_mem _ hq)) h2
 split at hf
 ·exact key uH _ _ (by decide +kernel) hf
 split at hf
 ·exact key uI _ _ (by decide +kernel) hf
 ·exact key p0 _ _ (by decide +kernel) hf
theorem vN (a:Dt) (l:List Dt):L2.rD (a :: l) (some 1) none=l:=by
 unfold L2.rD HT.sIx;simp
theorem Rdd.steq {K:PySem.W.Frag} {ad:Ads} {x lw:Addr} {ts:List Tk} {H H3:Hp} {Q Q':VK} {E:XK} {r:PR} {f:Dt→Nat→PR} (q:Rdd K ad x lw ts H Q E (r.bind f)) (b:But x H H3)
  (k:∀ v p y H4,r=.ok v p→But x H3 H4→RowAt K ad.WordRow H4 x lw ts p→IsP K H4 v y→Rdd K ad x lw ts H Q E (f v p)→Q' y H4):Rdd K ad x lw ts H3 Q' E r:=by
 cases r with
 | ok v p=>exact fun y H4 b4 hR hv=>k v p y H4 rfl b4 hR hv q
 | err=>exact fun H4 b4=>q H4 (b.trans b4)
 | out=>exact q
theorem kW {ts:List Tk} {rd:Nat→PR} {cl:Str}:∀ (m p:Nat) (fs:List Dt) {v:Dt} {q:Nat},ca ts rd cl m p fs=.ok v q→∃ l,v=.tup l∧l.length+1≤fs.length+m
 | 0,_,_,_,_,h=>by cases h
 | m+1,p,fs,v,q,h=>by
  simp only [ca] at h
  split at h
  ·cases h
   exact ⟨fs,rfl,by lia⟩
  have key:∀ (r:PR),(r.bind fun v q=>ca ts rd cl m q (fs++[v]))=.ok v q→∃ l,v=.tup l∧l.length+1≤fs.length+(m+1):=by
   intro r hr
   cases r with
   | ok v' p' =>
    obtain ⟨l,e,hl⟩:=kW m p' (fs++[v']) hr;rw [List.length_append,List.length_singleton] at hl;exact ⟨l,e,by lia⟩
   | err=>cases hr
   | out=>cases hr
  split at h
  ·unfold dC at h
   split at h
   ·exact key _ h
   ·cases h
  ·exact key _ h
theorem kX {ts:List Tk} {rd:Str→Nat→PR}:∀ (fs:List Str) (p:Nat) (gs:List Dt) {v:Dt} {q:Nat},cc ts rd fs p gs=.ok v q→∃ l,v=.tup (gs++l)∧l.length=fs.length
 | [],p,gs,v,q,h=>by
  simp only [cc,dC] at h
  split at h
  ·cases h
   exact ⟨[],by rw [List.append_nil],rfl⟩
  ·cases h
 | s :: fs,p,gs,v,q,h=>by
  simp only [cc] at h;have key:∀ (r:PR),(r.bind fun v q=>cc ts rd fs q (gs++[v]))=.ok v q→∃ l,v=.tup (gs++l)∧l.length=fs.length+1:=by
   intro r hr
   cases r with
   | ok v' p' =>
    obtain ⟨l,e,hl⟩:=kX fs p' (gs++[v']) hr;exact ⟨v' :: l,by rw [e,List.append_assoc];rfl,by rw [List.length_cons,hl]⟩
   | err=>cases hr
   | out=>cases hr
  split at h
  ·unfold dC at h
   split at h
   ·exact key _ h
   ·cases h
  ·exact key _ h
theorem sw {ts:List Tk} {rd:Str→Nat→PR} {s w:Str} {p:Nat} {v:Dt} {q:Nat} (h:jJ ts rd s w p=.ok v q):∃ fs l,aT s w=some fs∧v=.tup (.str w :: l)∧l.length=fs.length:=by
 unfold jJ at h
 cases hf:aT s w with
 | none=>rw [hf] at h;cases h
 | some fs =>
  rw [hf] at h;dsimp only at h;unfold dC at h
  split at h
  ·obtain ⟨l,e,hl⟩:=kX _ _ _ h;exact ⟨fs,l,rfl,e,hl⟩
  ·cases h
theorem qb:∀ w fs,aT "kind" w=some fs→(w= "list" →fs.length=2)∧(w= "rows" →fs.length=3):=by
 intro w fs h
 constructor
 ·rintro rfl;rw [show aT "kind" "list" = some [("number" : Str),"kind"] by decide +kernel] at h
  cases h
  rfl
 ·rintro rfl;rw [show aT "kind" "rows" = some [("word" : Str),"number","kind"] by decide +kernel] at h
  cases h
  rfl
theorem qc (z:Str):∀ ws:List Str,inV (V.str z) (ws.map V.str)=decide (z∈ws)
 | []=>by simp [inV]
 | w :: ws=>by
  have ih:=qc z ws;have e:inV (V.str z) ((w :: ws).map V.str)=(eqV (V.str w) (V.str z) || inV (V.str z) (ws.map V.str)):=rfl;have e2:eqV (V.str w) (V.str z)=decide (w=z):=rfl;rw [e,ih,e2,Bool.eq_iff_iff];simp only [Bool.or_eq_true,decide_eq_true_eq,List.mem_cons];exact ⟨fun h=>h.imp Eq.symm id,fun h=>h.imp Eq.symm id⟩
def gz (K:PySem.W.Frag) (_:Ads):Sp:=fun vs H Q _=>∃ (w:Str) (ds:List Dt) (x:V),vs=[.str w,x]∧IsP K H (.tup ds) x∧(w= "list" →ds.length=2)∧(w= "rows" →ds.length=3)∧∀ v H',Same H H'→IsP K H' (.tup (exL w ds)) v→Q v H'
theorem cZ (T:Tx K mg ad) {f:Addr} {fd:FuncData} (F:Gn K mg "most_exchanged" bX ["word","parts"] f fd):FnOk P w K mg base CX0 1 f fd ["word","parts"] (gz K ad):=by
 refine F.F.ok gH (fun vs H Q E h=>?_) (fun cdv A outer s H vs Q E hr h=>?_)
 ·obtain ⟨w,ds,x,rfl,_⟩:=h
  rfl
 obtain ⟨w,ds,x,rfl,hx,h2,h3,q⟩:=h;refine ⟨_,(@pss_cons _ _ _ _ _ (@ps_if _ _ _ _ _ _ _ _ (pt_cmpR (op_in_seqK (K:=K) rfl) (pv 0) (@pe_tupPK _ K _ _ _ _ rfl (@pa2 _ _ _ _ _ pe_str pe_str (by rfl) (by rfl))) rfl) (@pss_one _ _ _ (@ps_ret _ _ _ _ (@pe_op _ _ _ _ _ _ _ _ (ji (K:=K) rfl) (pe_slice (eC (K:=K) rfl) (pv 1) cw (po_some (@pe_un _ _ _ _ _ _ un_neg pe_int))) (@pe_tupPK _ K _ _ _ _ rfl (@pa2 _ _ _ _ _ (@pe_ix _ _ _ _ _ _ _ (jh (K:=K) rfl) (pv 1) (@pe_un _ _ _ _ _ _ un_neg pe_int) (fun _ _=>rfl)) (@pe_ix _ _ _ _ _ _ _ (jh (K:=K) rfl) (pv 1) (@pe_un _ _ _ _ _ _ un_neg pe_int) (fun _ _=>rfl)) (by rfl) (by rfl)))))) pss_nil) (@pss_one _ _ _ (@ps_ret _ _ _ _ (pv 1)))),?_⟩;refine ⟨_,rfl,[.str "list",.str "rows"],.cons .str (.cons .str .nil),sz2,fun y H1 g1 hy=>?_⟩;obtain ⟨a,xs,rfl,ha,_,ra⟩:=hy.unref;obtain rfl:=bV (ws:=["list","rows"]) ra;refine ⟨a,_,rfl,.inr ha,rfl,rfl,_,rfl,?_⟩;show if (inV (V.str w) (([("list" : Str),"rows"]).map V.str))=true then _ else _
 rw [qc];have hx1:=hx.same g1
 by_cases hw:w= "list" ∨w= "rows"
 rotate_left
 ·rw [decide_eq_false (by simpa using hw)];unfold exL at q;rw [if_neg hw] at q;exact bq ⟨_,rfl,q x H1 g1 hx1⟩
 rw [decide_eq_true (by simpa using hw)];unfold exL at q;rw [if_pos hw] at q;refine bL ⟨_,rfl,_,rfl,_,rfl,ds,hx1,fun v2 H2 g2 hv2=>?_⟩;have hx2:=hx1.same g2;obtain ⟨pre,y,z,e1,e2,e3,e4,e5⟩:∃ pre y z,atI ds (-1)=some z∧atI ds (-2)=some y∧L2.rD ds none (some (-2))=pre∧pre.length≤1∧ex2 ds=pre++[z,y]:=by
  rcases hw with e | e
  ·match ds,h2 e with
   | [a,b],_=>exact ⟨[],a,b,rfl,rfl,rfl,by decide,rfl⟩
  ·match ds,h3 e with
   | [a,b,c],_=>exact ⟨[a],b,c,rfl,rfl,rfl,Nat.le_refl _,rfl⟩
 rw [e5] at q;rw [e3] at hv2;exact ⟨_,rfl,_,rfl,ds,_,z,hx2,rfl,e1,fun v3 hv3=>⟨_,rfl,_,rfl,ds,_,y,hx2,rfl,e2,fun v4 hv4=>⟨[z,y],.cons hv3 (.cons hv4 .nil),sz2,fun v5 H3 g3 hv5=>⟨pre,[z,y],hv2.same g3,hv5,bU (by simp only [List.length_cons,List.length_nil];lia),fun v6 H4 g4 hv6=>q v6 H4 (((g1.trans g2).trans g3).trans g4) hv6⟩⟩⟩⟩
def GH (K:PySem.W.Frag) (ad:Ads) (n:Nat):Sp:=fun vs H Q E=>∃ (x lw:Addr) (ts:List Tk) (p:Nat),vs=[.ref x]∧RowAt K ad.WordRow H x lw ts p∧Rdd K ad x lw ts H Q E (kU ts (prs ts n) p)
theorem mw (T:Tx K mg ad) (n:Nat) {f ff fl:Addr} {fd fdf fdl:FuncData} (F:Gn K mg "kind_read" eY ["row"] f fd) (Hz:Gn K mg "form_read" c9 ["row","sort","word"] ff fdf) (Hy:Gn K mg "list_read" da ["row","sort","closing"] fl fdl)
  (Iq:FnOk P w K mg base (CXE P w) (n+4+1) ff fdf ["row","sort","word"] (wE K ad n)) (Io:FnOk P w K mg base (CXE P w) (n+4+1) fl fdl ["row","sort","closing"] (wD K ad n)):FnOk P w K mg base (CXE P w) (n+4+2) f fd ["row"] (GH K ad n):=by
 obtain ⟨f2,d2,Hl⟩:=T.m_WordRow_take_mark;have Hq:=aR (P:=P) (w:=w) (base:=base) T Hl;obtain ⟨f3,d3,Hr⟩:=T.m_WordRow_take;have HD:=cn (P:=P) (w:=w) (base:=base) T Hr;obtain ⟨f4,d4,HR⟩:=T.at_least_one;have Jf:=iR (P:=P) (w:=w) (base:=base) T HR;obtain ⟨f5,d5,HG⟩:=T.most_exchanged;have Ih:=cZ (P:=P) (w:=w) (base:=base) T HG;refine F.F.okW dX (fun vs H Q E h=>?_) (fun cdv A outer s H vs Q E hr h=>?_)
 ·obtain ⟨x,lw,ts,p,rfl,_⟩:=h
  rfl
 obtain ⟨x,lw,ts,p,rfl,hR,q⟩:=h;refine ⟨_,(@pss_cons _ _ _ _ _ (@ps_set _ _ 1 _ _ _ _ dX.nd rfl (Or.inl rfl) (aQ (pv 0) T.c_WordRow Hr.meth HD (hr.mono (by first | decide | lia)) Hr.b .nil (ao rfl rfl rfl) (@pa1 _ _ _ pe_str (by rfl))) (by rfl) (by first | exact .inl rfl | exact .inr rfl | assumption)) (@pss_cons _ _ _ _ _ (@ps_if _ _ _ _ _ _ _ _ (pt_cmpR op_eq (pv 1) pe_str (nomark _)) (@pss_cons _ _ _ _ _ (@bn _ _ _ _ (aQ (pv 0) T.c_WordRow Hl.meth Hq (hr.mono (by first | decide | lia)) Hl.b .nil (ao rfl rfl rfl) (@pa1 _ _ _ pe_str (by rfl))) (by rfl)) (@pss_one _ _ _ (@ps_ret _ _ _ _ (@pe_tupPK _ K _ _ _ _ rfl (@pa2 _ _ _ _ _ (pv 1) (aF Jf (hr.mono (by first | decide | lia)) rfl HR.m HR.F.kp HR.b .nil (ao rfl rfl rfl) (@pa1 _ _ _ (aF Io (hr.mono (by first | decide | lia)) rfl Hy.m Hy.F.kp Hy.b .nil (ao rfl rfl rfl) (@pa3 _ _ _ _ _ _ _ (pv 0) pe_str pe_str (by rfl) (by rfl) (by rfl))) (by rfl))) (by rfl) (by rfl)))))) pss_nil) (@pss_cons _ _ _ _ _ (@ps_if _ _ _ _ _ _ _ _ (pt_cmpR op_eq (pv 1) pe_str (nomark _)) (@pss_cons _ _ _ _ _ (@bn _ _ _ _ (aQ (pv 0) T.c_WordRow Hl.meth Hq (hr.mono (by first | decide | lia)) Hl.b .nil (ao rfl rfl rfl) (@pa1 _ _ _ pe_str (by rfl))) (by rfl)) (@pss_one _ _ _ (@ps_ret _ _ _ _ (@pe_tupPK _ K _ _ _ _ rfl (@pa2 _ _ _ _ _ (pv 1) (aF Io (hr.mono (by first | decide | lia)) rfl Hy.m Hy.F.kp Hy.b .nil (ao rfl rfl rfl) (@pa3 _ _ _ _ _ _ _ (pv 0) pe_str pe_str (by rfl) (by rfl) (by rfl))) (by rfl) (by rfl)))))) pss_nil) (@pss_cons _ _ _ _ _ (@ps_set _ _ 2 _ _ _ _ dX.nd rfl (Or.inl rfl) (aF Iq (hr.mono (by first | decide | lia)) rfl Hz.m Hz.F.kp Hz.b .nil (ao rfl rfl rfl) (@pa3 _ _ _ _ _ _ _ (pv 0) pe_str (pv 1) (by rfl) (by rfl) (by rfl))) (by rfl) (by first | exact .inl rfl | exact .inr rfl | assumption)) (@pss_one _ _ _ (@ps_ret _ _ _ _ (@pe_op _ _ _ _ _ _ _ _ (ji (K:=K) rfl) (@pe_tupPK _ K _ _ _ _ rfl (@pa1 _ _ _ (pv 1) (by rfl))) (pcl HG Ih (hr.mono (by lia)) rfl (@pa2 _ _ _ _ _ (pv 1) (pe_slice (eC (K:=K) rfl) (pv 2) (po_some pe_int) cw) (by rfl) (by rfl)))))))))),?_⟩;obtain ⟨dx,ws,hx,hl0,hp0,hlx0,h5⟩:=id hR;rcases q.word (But.refl _ _) h5.2 with ⟨wd,ht,e2,q1⟩ | ⟨hn,he⟩
 rotate_left
 ·exact ⟨_,rfl,x,dx,_,rfl,hx,aN lw p (by decide +kernel) (by decide +kernel),x,lw,ts,p,"word",rfl,hR,fun h=>absurd h hn,fun _=>he⟩
 refine ⟨_,rfl,x,dx,_,rfl,hx,aN lw p (by decide +kernel) (by decide +kernel),x,lw,ts,p,"word",rfl,hR,fun _ H1 b1 R1=>?_,fun h=>absurd ht h⟩;rw [e2];obtain ⟨dx1,ws1,hx1,_⟩:=id R1;refine ⟨_,rfl,rfl,_,rfl,?_⟩
 by_cases h1:wd= "choice"
 ·rw [if_pos h1] at q1;subst h1;refine bB ⟨_,rfl,x,dx1,_,rfl,hx1,aN lw _ (by decide +kernel) (by decide +kernel),x,lw,ts,p+1,"(",rfl,R1,fun hcm H2 b2 R2=>?_,fun hcm H2 g2=>?_⟩
  rotate_left
  ·rw [cJ hcm] at q1;exact q1 H2 (b1.trans (But.same g2))
  rw [aD hcm] at q1;refine ⟨_,rfl,_,rfl,x,lw,ts,p+1+1,"word",")",rfl,R2,q1.steq (b1.trans b2) fun v p4 y H4 er b4 R4 hv q4=>?_⟩;obtain ⟨l,rfl,hl⟩:=kW _ _ _ er;refine ⟨l,y,rfl,hv,by have:=h5.1;simp only [List.length_nil] at hl;lia,fun hne=>?_,fun he=>?_⟩
  ·cases l with
   | nil=>exact absurd rfl hne
   | cons d0 l=>exact ⟨[.str "choice",.tup (d0 :: l)],.cons .str (.cons hv .nil),sz2,fun y5 H5 g5 hv5=>q4 y5 H5 (((b1.trans b2).trans b4).trans (But.same g5)) (R4.same g5) hv5⟩
  ·subst he;exact q4 H4 ((b1.trans b2).trans b4)
 rw [if_neg h1] at q1;refine iteN (am h1) ⟨_,rfl,rfl,_,rfl,?_⟩
 by_cases h2:wd= "record"
 ·rw [if_pos h2] at q1;subst h2;refine bB ⟨_,rfl,x,dx1,_,rfl,hx1,aN lw _ (by decide +kernel) (by decide +kernel),x,lw,ts,p+1,"(",rfl,R1,fun hcm H2 b2 R2=>?_,fun hcm H2 g2=>?_⟩
  rotate_left
  ·rw [cJ hcm] at q1;exact q1 H2 (b1.trans (But.same g2))
  rw [aD hcm] at q1;refine ⟨_,rfl,_,rfl,x,lw,ts,p+1+1,"field",")",rfl,R2,q1.step (b1.trans b2) fun v p4 y H4 b4 R4 hv q4=>?_⟩;exact ⟨[.str "record",v],.cons .str (.cons hv .nil),sz2,fun y5 H5 g5 hv5=>q4 y5 H5 (((b1.trans b2).trans b4).trans (But.same g5)) (R4.same g5) hv5⟩
 rw [if_neg h2] at q1;refine iteN (am h2) ⟨_,rfl,_,rfl,x,lw,ts,p+1,"kind",wd,rfl,R1,q1.steq b1 fun v p4 y H4 er b4 R4 hv q4=>?_⟩;obtain ⟨fs,l,hf,rfl,hl⟩:=sw er;have fl:=ia hf;obtain ⟨k2,k3⟩:=qb _ _ hf;refine ⟨_,rfl,[.str wd],.cons .str .nil,sz1,fun y5 H5 g5 hv5=>?_⟩;refine ⟨_,rfl,_,rfl,_,rfl,_,hv.same g5,fun y6 H6 g6 hv6=>?_⟩;rw [vN] at hv6;refine ⟨wd,l,y6,rfl,hv6,(fun e=>by rw [hl,k2 e]),(fun e=>by rw [hl,k3 e]),fun y7 H7 g7 hv7=>?_⟩;have el:(exL wd l).length=l.length:=by
  unfold exL
  split
  ·unfold ex2
   split <;> rfl
  ·rfl
 have g:=(g5.trans g6).trans g7;refine ⟨[.str wd],exL wd l,(hv5.same g6).same g7,hv7,bU (by rw [el];simp only [List.length_cons,List.length_nil];lia),fun y8 H8 g8 hv8=>?_⟩;exact q4 y8 H8 ((b1.trans b4).trans (But.same (g.trans g8))) (R4.same (g.trans g8)) hv8
theorem AK {K:PySem.W.Frag} {H:Hp} (k:Key):IsP K H (kDt k) (kV k):=by
 cases k with
 | inl i=>exact .int
 | inr z=>exact .str
theorem mx (T:Tx K mg ad) (n:Nat) {f:Addr} {fd:FuncData} (Ho:Gn K mg "part_read" bp ["row","sort"] f fd)
  (Ht:FnOk P w K mg base (CXE P w) (n+4) f fd ["row","sort"] (jK K ad n)) (JT:FnOk P w K mg base (CXE P w) (n+1+4) f fd ["row","sort"] (jK K ad (n+1))):FnOk P w K mg base (CXE P w) (n+3+4) f fd ["row","sort"] (jK K ad (n+3)):=by
 obtain ⟨f1,d1,Hy⟩:=T.list_read;have Io:=mq (P:=P) (w:=w) (base:=base) T n Hy Ho Ht;obtain ⟨f2,d2,Hz⟩:=T.form_read;have Iq:=mr (P:=P) (w:=w) (base:=base) T n Hz Ho Ht;obtain ⟨f3,d3,IA⟩:=T.value_read;have Jp:FnOk P w K mg base (CXE P w) 1 f3 d3 ["row"] (fun _ _ _ _=>False):=bt fun _ _ _ _ h=>h;obtain ⟨f4,d4,Ip⟩:=T.pair_read;have Jr:=ms (P:=P) (w:=w) (base:=base) T (n+1) Ip Ho JT;obtain ⟨f5,d5,ID⟩:=T.turn_read;have JG:FnOk P w K mg base (CXE P w) 1 f5 d5 ["row"] (fun _ _ _ _=>False):=bt fun _ _ _ _ h=>h;obtain ⟨f6,d6,HQ⟩:=T.path_read;have IU:FnOk P w K mg base (CXE P w) 1 f6 d6 ["row"] (fun _ _ _ _=>False):=bt fun _ _ _ _ h=>h;obtain ⟨f7,d7,Im⟩:=T.kind_read;have JB:=mw (P:=P) (w:=w) (base:=base) T n Im Hz Hy Iq Io;obtain ⟨f8,d8,Hr⟩:=T.m_WordRow_take;have HD:=cn (P:=P) (w:=w) (base:=base) T Hr;obtain ⟨a_PAIR,c_PAIR_SORTS,k_PAIR⟩:=T.PAIR_SORTS;refine Ho.F.okW gK (fun vs H Q E h=>?_) (fun cdv A outer s H vs Q E hr h=>?_)
 ·obtain ⟨x,lw,ts,p,s,rfl,_⟩:=h
  rfl
 obtain ⟨x,lw,ts,p,s,rfl,hR,q⟩:=h;refine ⟨_,(@pss_cons _ _ _ _ _ (@ps_if _ _ _ _ _ _ _ _ (pt_cmpR op_eq (pv 1) pe_str (nomark _)) (@pss_one _ _ _ (@ps_ret _ _ _ _ (aF Jp (hr.mono (by first | decide | lia)) rfl IA.m IA.F.kp IA.b .nil (ao rfl rfl rfl) (@pa1 _ _ _ (pv 0) (by rfl))))) pss_nil) (@pss_cons _ _ _ _ _ (@ps_if _ _ _ _ _ _ _ _ (pt_cmpR op_eq (pv 1) pe_str (nomark _)) (@pss_one _ _ _ (@ps_ret _ _ _ _ (aF JB (hr.mono (by first | decide | lia)) rfl Im.m Im.F.kp Im.b .nil (ao rfl rfl rfl) (@pa1 _ _ _ (pv 0) (by rfl))))) pss_nil) (@pss_cons _ _ _ _ _ (@ps_if _ _ _ _ _ _ _ _ (pt_cmpR op_eq (pv 1) pe_str (nomark _)) (@pss_one _ _ _ (@ps_ret _ _ _ _ (aF JG (hr.mono (by first | decide | lia)) rfl ID.m ID.F.kp ID.b .nil (ao rfl rfl rfl) (@pa1 _ _ _ (pv 0) (by rfl))))) pss_nil) (@pss_cons _ _ _ _ _ (@ps_if _ _ _ _ _ _ _ _ (pt_cmpR op_eq (pv 1) pe_str (nomark _)) (@pss_one _ _ _ (@ps_ret _ _ _ _ (aF Iq (hr.mono (by first | decide | lia)) rfl Hz.m Hz.F.kp Hz.b .nil (ao rfl rfl rfl) (@pa3 _ _ _ _ _ _ _ (pv 0) pe_str (aQ (pv 0) T.c_WordRow Hr.meth HD (hr.mono (by first | decide | lia)) Hr.b .nil (ao rfl rfl rfl) (@pa1 _ _ _ pe_str (by rfl))) (by rfl) (by rfl) (by rfl))))) pss_nil) (@pss_cons _ _ _ _ _ (@ps_if _ _ _ _ _ _ _ _ (pt_cmpR op_eq (pv 1) pe_str (nomark _)) (@pss_one _ _ _ (@ps_ret _ _ _ _ (aF IU (hr.mono (by first | decide | lia)) rfl HQ.m HQ.F.kp HQ.b .nil (ao rfl rfl rfl) (@pa1 _ _ _ (pv 0) (by rfl))))) pss_nil) (@pss_cons _ _ _ _ _ (@ps_if _ _ _ _ _ _ _ _ (pt_cmpR op_eq (pv 1) pe_str (nomark _)) (@pss_cons _ _ _ _ _ (@ps_set _ _ 2 _ _ _ _ gK.nd rfl (Or.inl rfl) (aF IU (hr.mono (by first | decide | lia)) rfl HQ.m HQ.F.kp HQ.b .nil (ao rfl rfl rfl) (@pa1 _ _ _ (pv 0) (by rfl))) (by rfl) (by first | exact .inl rfl | exact .inr rfl | assumption)) (@pss_one _ _ _ (@ps_ret _ _ _ _ (@pe_tupPK _ K _ _ _ _ rfl (@pa2 _ _ _ _ _ (pv 2) (aF Ht (hr.mono (by first | decide | lia)) rfl Ho.m Ho.F.kp Ho.b .nil (ao rfl rfl rfl) (@pa2 _ _ _ _ _ (pv 0) pe_str (by rfl) (by rfl))) (by rfl) (by rfl)))))) pss_nil) (@pss_cons _ _ _ _ _ (@ps_if _ _ _ _ _ _ _ _ (pt_cmpR (An (K:=K) rfl) (pv 1) (iW rfl c_PAIR_SORTS) rfl) (@pss_one _ _ _ (@ps_ret _ _ _ _ (aF Jr (hr.mono (by first | decide | lia)) rfl Ip.m Ip.F.kp Ip.b .nil (ao rfl rfl rfl) (@pa2 _ _ _ _ _ (pv 0) (vH (K:=K) rfl (iW rfl c_PAIR_SORTS) (pv 1) (fun _ _=>rfl)) (by rfl) (by rfl))))) pss_nil) (@pss_one _ _ _ (@ps_ret _ _ _ _ (aQ (pv 0) T.c_WordRow Hr.meth HD (hr.mono (by first | decide | lia)) Hr.b .nil (ao rfl rfl rfl) (@pa1 _ _ _ (pv 1) (by rfl)))))))))))),?_⟩;obtain ⟨dx,ws,hx,hl0,hp0,hlx0,h5⟩:=id hR;simp only [prs] at q;refine ⟨_,rfl,rfl,_,rfl,?_⟩
 by_cases h1:s= "value"
 ·rw [if_pos h1] at q;exact q.elim
 rw [if_neg h1] at q;refine iteN (am h1) ⟨_,rfl,rfl,_,rfl,?_⟩
 by_cases h2:s= "kind"
 ·rw [if_pos h2] at q;subst h2;exact bB ⟨_,rfl,x,lw,ts,p,rfl,hR,q⟩
 rw [if_neg h2] at q;refine iteN (am h2) ⟨_,rfl,rfl,_,rfl,?_⟩
 by_cases h3:s= "turn"
 ·rw [if_pos h3] at q;exact q.elim
 rw [if_neg h3] at q;refine iteN (am h3) ⟨_,rfl,rfl,_,rfl,?_⟩
 by_cases h4:s= "piece"
 ·rw [if_pos h4] at q;exact q.elim
 rw [if_neg h4] at q;refine iteN (am h4) ⟨_,rfl,rfl,_,rfl,?_⟩
 by_cases h5':s= "path"
 ·rw [if_pos h5'] at q;exact q.elim
 rw [if_neg h5'] at q;refine iteN (am h5') ⟨_,rfl,rfl,_,rfl,?_⟩
 by_cases h6:s= "change"
 ·rw [if_pos h6] at q;exact q.elim
 rw [if_neg h6] at q;refine iteN (am h6) ⟨_,rfl,s,a_PAIR,qP,rfl,rfl,k_PAIR,_,rfl,?_⟩
 cases hl:eG s qP with
 | some s' =>
  rw [hl] at q;exact bL ⟨_,rfl,_,rfl,s,a_PAIR,qP,s',rfl,rfl,k_PAIR,hl,x,lw,ts,p,s',rfl,hR,q⟩
 | none =>
  rw [hl] at q;refine bq ⟨_,rfl,x,dx,_,rfl,hx,aN lw p (by decide +kernel) (by decide +kernel),_,rfl,x,lw,ts,p,s,rfl,hR,fun e H' b' R'=>?_,fun e=>?_⟩
  ·dsimp only at q;unfold kR at q;rw [if_pos e] at q;exact q _ H' b' R' (AK _)
  ·dsimp only at q;unfold kR at q;rw [if_neg e] at q;exact q H (But.refl _ _)
theorem jL (T:Tx K mg ad) {f:Addr} {fd:FuncData} (D:Gn K mg "part_read" bp ["row","sort"] f fd):∀ n,FnOk P w K mg base (CXE P w) (n+4) f fd ["row","sort"] (jK K ad n)
 | 0=>bt fun vs H Q E z=>by obtain ⟨_,_,_,_,_,_,_,h⟩:=z;exact h
 | 1=>bt fun vs H Q E z=>by obtain ⟨_,_,_,_,_,_,_,h⟩:=z;exact h
 | 2=>bt fun vs H Q E z=>by obtain ⟨_,_,_,_,_,_,_,h⟩:=z;exact h
 | n+3=>mx T n D (jL T D n) (jL T D (n+1))
def eL (n:Nat) (s:Str) (cs:List Nat):Option Dt:=match dP cs with
 | none=>none
 | some toks=>if fF toks≤40 then (match prs (toks.map toTk) n s 0 with
  | .ok v q=>if aq (toks.map toTk) q=kb then some v else none
  | _=>none) else none
def GI (n:Nat) (s:Str) (cs:List Nat):Prop:=∀ toks,dP cs=some toks→fF toks≤40→prs (toks.map toTk) n s 0≠.out
def oB (K:PySem.W.Frag) (ad:Ads):Sp:=fun vs H Q E=>∃ z s:Str,vs=[.str z,.str s]∧z.length≤100000∧GI 40 s z.cps.toList∧(∀ v,eL 40 s z.cps.toList=some v→∀ y H',Same H H'→IsP K H' v y→Q y H')∧(eL 40 s z.cps.toList=none→∀ H',Same H H'→E (.ref ad.BadText) none H')
theorem oC (T:Tx K mg ad) {f:Addr} {fd:FuncData} (F:Gn K mg "read_all" f9 ["text","sort"] f fd):FnOk P w K mg base (CXE P w) 45 f fd ["text","sort"] (oB K ad):=by
 obtain ⟨f1,d1,Ik⟩:=T.m_WordRow_init;have Je:=iN (P:=P) (w:=w) (base:=base) T Ik;obtain ⟨f2,d2,Ho⟩:=T.part_read;have Ht:=jL (P:=P) (w:=w) (base:=base) T Ho 40;obtain ⟨f3,d3,Hs⟩:=T.m_WordRow_coming;have HF:=bN (P:=P) (w:=w) (base:=base) T Hs;obtain ⟨c_END,s_END⟩:=T.END;refine F.F.okW fh (fun vs H Q E h=>?_) (fun cdv A outer s H vs Q E hr h=>?_)
 ·obtain ⟨z,s,rfl,_⟩:=h
  rfl
 obtain ⟨z,s,rfl,hz,ho,q1,q2⟩:=h;refine ⟨_,(@pss_cons _ _ _ _ _ (@ps_set _ _ 2 _ _ _ _ fh.nd rfl (Or.inl rfl) (va Ik.makes Je (hr.mono (by first | decide | lia)) rfl T.o_WordRow Ik.b .nil (ao rfl rfl rfl) (@pa1 _ _ _ (pv 0) (by rfl))) (by rfl) (by first | exact .inl rfl | exact .inr rfl | assumption)) (@pss_cons _ _ _ _ _ (@ps_set _ _ 3 _ _ _ _ fh.nd rfl (Or.inl rfl) (aF Ht (hr.mono (by first | decide | lia)) rfl Ho.m Ho.F.kp Ho.b .nil (ao rfl rfl rfl) (@pa2 _ _ _ _ _ (pv 2) (pv 1) (by rfl) (by rfl))) (by rfl) (by first | exact .inl rfl | exact .inr rfl | assumption)) (@pss_cons _ _ _ _ _ (@ps_if _ _ _ _ _ _ _ _ (pt_cmpR (lI (K:=K) rfl hr.units) (aQ (pv 2) T.c_WordRow Hs.meth HF (hr.mono (by first | decide | lia)) Hs.b .nil kD (@pa1 _ _ _ pe_int (by rfl))) (iW rfl c_END) (nomark _)) (@pss_one _ _ _ (ps_raiseW rfl rfl rfl rfl T.x_BadText rfl (@pa1 _ _ _ pe_str (by rfl)))) pss_nil) (@pss_one _ _ _ (@ps_ret _ _ _ _ (pv 3)))))),?_⟩;refine ⟨_,rfl,?_⟩;intro x dx nx ndx nex;have free:∀ {H':Hp},But x (upd (upd H dx (.own x)) x (.ins ad.WordRow dx [])) H'→Same H H':=fun b c o e=>b c o (ag e nx) (by rw [ae (ag e nx),ae (ag e ndx)];exact e);refine ⟨x,dx,z,rfl,aa,hz,fun toks hL hB l H1 hl b1 R1=>⟨rfl,?_⟩,fun h H1 g1=>q2 ?_ H1 (free (But.same g1))⟩
 ·have hno:=ho toks hL hB;refine ⟨_,rfl,_,rfl,x,l,_,0,s,rfl,R1,?_⟩;have hr':eL 40 s z.cps.toList=(match prs (toks.map toTk) 40 s 0 with
   | .ok v q=>if aq (toks.map toTk) q=kb then some v else none
   | _=>none):=by
   unfold eL;rw [hL];dsimp only;rw [if_pos hB]
  revert hr' hno
  generalize prs (toks.map toTk) 40 s 0=r
  intro hno hr'
  cases r with
  | out=>exact absurd rfl hno
  | err=>exact fun H2 b2=>q2 hr' H2 (free (b1.trans b2))
  | ok v p =>
   intro y H2 b2 R2 hv;obtain ⟨dx2,ws2,hx2,_⟩:=id R2;refine ⟨_,rfl,x,dx2,_,rfl,hx2,aN l _ (by decide +kernel) (by decide +kernel),x,l,_,p,0,rfl,R2,fun v3 hv3=>?_⟩;rw [Nat.add_zero] at hv3;refine ⟨tkD (aq (toks.map toTk) p),tkD kb,hv3,.tup (s_END _ List.mem_cons_self H2) (.cons .str (.cons .str .nil)),uG _,_,rfl,?_⟩;rw [show eqD (tkD (aq (toks.map toTk) p)) (tkD kb)=decide (aq (toks.map toTk) p=kb) from uF _ _ (Sum.inr "")];dsimp only at hr'
   by_cases he:aq (toks.map toTk) p=kb
   ·rw [if_pos he] at hr';rw [decide_eq_true he];exact bq ⟨_,rfl,q1 v hr' y H2 (free (b1.trans b2)) hv⟩
   ·rw [if_neg he] at hr';rw [decide_eq_false he];exact bL ⟨sz1,q2 hr' H2 (free (b1.trans b2))⟩
 ·unfold eL
  cases hL:dP z.cps.toList with
  | none=>rfl
  | some toks =>
   dsimp only;rw [if_neg (h toks hL)]
def my (K:PySem.W.Frag) (_:Ads):Sp:=fun vs H Q _=>∃ (z:Str) (a c:Nat) (d:Dt),vs=[.str z]∧z.length≤100000∧eL 40 "kind" z.cps.toList=some d∧FK a c d∧a≤5∧c≤40∧∀ y H',Same H H'→IsP K H' d y→Q y H'
theorem mz (T:Tx K mg ad) {f:Addr} {fd:FuncData} (F:Gn K mg "read_kind" eW ["text"] f fd):FnOk P w K mg base CX0 46 f fd ["text"] (my K ad):=by
 obtain ⟨f1,d1,Iz⟩:=T.read_all;have JM:=oC (P:=P) (w:=w) (base:=base) T Iz;obtain ⟨f2,d2,IV⟩:=T.made_kind;have Ju:=l5 (P:=P) (w:=w) (base:=base) T IV;refine F.F.ok mW (fun vs H Q E h=>?_) (fun cdv A outer s H vs Q E hr h=>?_)
 ·obtain ⟨z,a,c,d,rfl,_⟩:=h
  rfl
 obtain ⟨z,a,c,d,rfl,hz,hd,fk,ha,hc,q⟩:=h;refine ⟨_,(@pss_one _ _ _ (@ps_ret _ _ _ _ (pcl IV Ju (hr.mono (by lia)) rfl (@pa1 _ _ _ (aF JM (hr.mono (by first | decide | lia)) rfl Iz.m Iz.F.kp Iz.b .nil Ge (@pa2 _ _ _ _ _ (pv 0) pe_str (by rfl) (by rfl))) (by rfl))))),?_⟩;refine ⟨_,rfl,z,"kind",rfl,hz,?_,fun v hv y H1 g1 hy=>?_,fun hn=>?_⟩
 ·intro toks h1 h2 h3;unfold eL at hd;rw [h1] at hd;dsimp only at hd;rw [if_pos h2,h3] at hd
  cases hd
 ·rw [hd] at hv
  cases hv
  exact ⟨a,c,d,y,rfl,hy,fk,ha,hc,fun H2 g2=>q y H2 (g1.trans g2) (hy.same g2)⟩
 ·rw [hd] at hn
  cases hn
def upT (L:Str):Tk→Bool
 | (w,.inr s)=>decide (w= "mark") && !(Builtin.Str.occurrences L s 0 L.length 1).isEmpty
 | (_,.inl _)=>false
theorem wF (L:Str) (d:Dt):upB L d=upT L (toTk d):=by
 unfold upB toTk
 split <;> first | rfl | (rename_i h;split <;> first | rfl | (rename_i w s;exact absurd rfl (h w s)))
def stT (p:Int×Int) (t:Tk):Int×Int :=
 (if p.2+(if upT "([{" t=true then 1 else 0) - (if upT ")]}" t=true then 1 else 0) > p.1 then p.2+(if upT "([{" t=true then 1 else 0) - (if upT ")]}" t=true then 1 else 0) else p.1,
  p.2+(if upT "([{" t=true then 1 else 0) - (if upT ")]}" t=true then 1 else 0))
theorem GJ (p:Int×Int) (d:Dt):eI p d=stT p (toTk d):=by
 unfold eI stT;rw [wF,wF]
theorem vO (toks:List Dt):fF toks=((toks.map toTk).foldl stT (0,0)).1:=by
 unfold fF;rw [List.foldl_map]
 congr 2
 funext p d
 exact GJ p d
theorem jM (L s:Str):upT L (kS s)=false:=by
 show (decide (("word" : Str)= "mark") && !(Builtin.Str.occurrences L s 0 L.length 1).isEmpty)=false;rw [decide_eq_false (by decide +kernel)]
 rfl
theorem vP (L:Str) (n:Int):upT L (AH n)=false:=rfl
theorem vQ {p:Int×Int} {t:Tk} (h1:upT "([{" t=true) (h2:upT ")]}" t=false):stT p t=(max p.1 (p.2+1),p.2+1):=by
 unfold stT;rw [h1,h2];simp only [if_true,Bool.false_eq_true,if_false]
 congr 1
 ·split <;> lia
 ·lia
theorem uQ {p:Int×Int} {t:Tk} (h1:upT "([{" t=false) (h2:upT ")]}" t=true) (h:p.2≤p.1+1):stT p t=(p.1,p.2 - 1):=by
 unfold stT;rw [h1,h2];simp only [if_true,Bool.false_eq_true,if_false]
 congr 1
 ·split <;> lia
 ·lia
theorem qQ {p:Int×Int} {t:Tk} (h1:upT "([{" t=false) (h2:upT ")]}" t=false) (h:p.2≤p.1):stT p t=p:=by
 unfold stT;rw [h1,h2];simp only [Bool.false_eq_true,if_false];obtain ⟨a,b⟩:=p;simp at h ⊢;lia
theorem sx {cs:List Nat} {ts:List Tk} (h:cG cs=some ts):∃ toks,dP cs=some toks∧toks.map toTk=ts:=Option.map_eq_some_iff.mp h
theorem vR {cs:List Nat} {s:Str} {ts:List Tk} {v:Dt} {q:Nat} (h:cG cs=some ts) (hd:(ts.foldl stT (0,0)).1≤40) (hp:prs ts 40 s 0=.ok v q) (he:aq ts q=kb):eL 40 s cs=some v∧GI 40 s cs:=by
 obtain ⟨toks,hL,rfl⟩:=sx h;rw [← vO] at hd
 constructor
 ·unfold eL;rw [hL];dsimp only;rw [if_pos hd,hp];dsimp only;rw [if_pos he]
 ·intro t ht _;rw [hL] at ht
  cases ht
  rw [hp];exact fun c=>by cases c
theorem a9 {T:List Tk} {p:Nat} {t:Tk} {l:List Tk} (h:T.drop p=t :: l):aq T p=t∧T.drop (p+1)=l∧p < T.length:=by
 have hp:p < T.length:=by
  have:=congrArg List.length h;rw [List.length_drop,List.length_cons] at this;lia
 rw [List.drop_eq_getElem_cons hp] at h;injection h with h1 h2
 refine ⟨?_,h2,hp⟩;unfold aq;rw [List.getElem?_eq_getElem hp,h1]
 rfl
theorem AL {T:List Tk} {p:Nat} (h:T.drop p=[]):aq T p=kb:=by
 unfold aq;rw [List.getElem?_eq_none (List.drop_eq_nil_iff.mp h)]
 rfl
theorem mB {T:List Tk} {p:Nat} {a b:List Tk} (h:T.drop p=a++b):T.drop (p+a.length)=b:=by
 rw [← List.drop_drop,h,List.drop_left]
abbrev G3:=Str×Dt×List Str
abbrev pr3 (g:G3):Dt:=.tup [.str g.1,g.2.1]
abbrev fw3 (g:G3):List Str:=[g.1,":"]++g.2.2
inductive KW:Nat→Dt→List Str→Prop
 | number (n:Nat) (i j:Int):i.natAbs < 10 ^ 60→j.natAbs < 10 ^ 60→KW (n+1) (.tup [.str "number",.int i,.int j]) (brW "number" (aW [[aL i],[aL j]]))
 | text (n:Nat) (i:Int):i.natAbs < 10 ^ 60→KW (n+1) (.tup [.str "text",.int i]) (brW "text" (aW [[aL i]]))
 | choice (n:Nat) (ws:List Str):ws≠[]→ws.length≤8→(∀ z∈ws,NmC z)→KW (n+1) (.tup [.str "choice",.tup (ws.map Dt.str)]) (brW "choice" (aW (ws.map fun z=>[z])))
 | list {n:Nat} {k:Dt} {kw:List Str} {i:Int}:KW n k kw→i.natAbs < 10 ^ 60→KW (n+1) (.tup [.str "list",k,.int i]) (brW "list" (aW [[aL i],kw]))
 | rows {n:Nat} {z:Str} {k:Dt} {kw:List Str} {i:Int}:NmC z→KW n k kw→i.natAbs < 10 ^ 60→KW (n+1) (.tup [.str "rows",.str z,k,.int i]) (brW "rows" (aW [[z],[aL i],kw]))
 | rcd {n:Nat} {gs:List G3}:gs.length≤8→(∀ g∈gs,NmC g.1)→(∀ g∈gs,KW n g.2.1 g.2.2)→KW (n+1) (.tup [.str "record",.tup (gs.map pr3)]) (brW "record" (aW (gs.map fw3)))
theorem aY:∀ z∈([("number" : Str),"text","choice","list","rows","record"]),z.cps.toList.all (aA letS)=true∧1≤z.length∧z.length≤8:=by decide +kernel
theorem KW.gm {n:Nat} {d:Dt} {ws:List Str} (h:KW n d ws):GM ws:=by
 have w:∀ z∈([("number" : Str),"text","choice","list","rows","record"]),kT z:=fun z hz=>NmC.good (aY z hz);have nm:∀ {i:Int},i.natAbs < 10 ^ 60→GW [aL i]:=fun hi=>GW.one (uO hi)
 induction h with
 | number n i j hi hj=>exact GW.br (w _ (by simp)) (GW.sep fun x hx=>by
   rcases List.mem_cons.mp hx with rfl | hx
   ·exact nm hi
   ·rw [List.mem_singleton.mp hx];exact nm hj)
 | text n i hi=>exact GW.br (w _ (by simp)) (GW.sep fun x hx=>by rw [List.mem_singleton.mp hx];exact nm hi)
 | choice n zs h0 h8 hz=>exact GW.br (w _ (by simp)) (GW.sep fun x hx=>by
   obtain ⟨z,h,rfl⟩:=List.mem_map.mp hx;exact GW.one (hz z h).good)
 | list hk hi ih=>exact GW.br (w _ (by simp)) (GW.sep fun x hx=>by
   rcases List.mem_cons.mp hx with rfl | hx
   ·exact nm hi
   ·rw [List.mem_singleton.mp hx];exact ih.gw)
 | rows hz hk hi ih=>exact GW.br (w _ (by simp)) (GW.sep fun x hx=>by
   rcases List.mem_cons.mp hx with rfl | hx
   ·exact GW.one hz.good
   rcases List.mem_cons.mp hx with rfl | hx
   ·exact nm hi
   ·rw [List.mem_singleton.mp hx];exact ih.gw)
 | rcd h8 hz hk ih=>exact GW.br (w _ (by simp)) (GW.sep fun x hx=>by
   obtain ⟨g,h,rfl⟩:=List.mem_map.mp hx;exact (GW.mk (a:=[g.1]) (m:= ":") (GW.one (hz g h).good) (by decide +kernel)).then (ih g h).gw)
def BD (n:Nat) (ws:List Str):Prop:=∀ p:Int×Int,p.2≤p.1→((ws.map tokS).foldl stT p).2=p.2∧p.1≤((ws.map tokS).foldl stT p).1∧((ws.map tokS).foldl stT p).1≤max p.1 (p.2+n)
theorem BD.nil (n:Nat):BD n []:=fun p _=>⟨rfl,Int.le_refl _,by show p.1≤_;lia⟩
theorem BD.app {n:Nat} {a b:List Str} (h:BD n a) (g:BD n b):BD n (a++b):=fun p hp=>by
 obtain ⟨h1,h2,h3⟩:=h p hp;rw [List.map_append,List.foldl_append];obtain ⟨g1,g2,g3⟩:=g ((a.map tokS).foldl stT p) (by lia);lia
theorem BD.flat {n:Nat} {w:Str} (h1:upT "([{" (tokS w)=false) (h2:upT ")]}" (tokS w)=false):BD n [w]:=fun p hp=>by
 show (stT p (tokS w)).2=_∧_≤(stT p (tokS w)).1∧(stT p (tokS w)).1≤_;rw [qQ h1 h2 hp];lia
theorem BD.sep {n:Nat}:∀ {wss:List (List Str)},(∀ x∈wss,BD n x)→BD n (aW wss)
 | [],_=>BD.nil n
 | [x],h=>h x List.mem_cons_self
 | x :: y :: r,h=>((h x List.mem_cons_self).app (BD.flat (w:= ",") (by decide +kernel) (by decide +kernel))).app (BD.sep fun z hz=>h z (List.mem_cons_of_mem _ hz))
theorem NmC.bd {n:Nat} {z:Str} (h:NmC z):BD n [z]:=by
 refine BD.flat ?_ ?_ <;> (rw [h.tk];exact jM _ _)
theorem jN {n:Nat} {i:Int} (h:i.natAbs < 10 ^ 60):BD n [aL i]:=by
 refine BD.flat ?_ ?_ <;> (rw [jH h];exact vP _ _)
theorem BD.br {n:Nat} {w:Str} {ws:List Str} (hw:NmC w) (h:BD n ws):BD (n+1) (brW w ws):=fun p hp=>by
 unfold brW;rw [List.map_append,List.map_append,List.foldl_append,List.foldl_append];have e1:([w,"("].map tokS).foldl stT p=(max p.1 (p.2+1),p.2+1):=by
  show stT (stT p (tokS w)) (tokS "(")=_;rw [hw.tk,qQ (jM _ _) (jM _ _) hp,(aK "(" (by decide +kernel)).1,vQ (by decide +kernel) (by decide +kernel)]
 rw [e1];obtain ⟨g1,g2,g3⟩:=h (max p.1 (p.2+1),p.2+1) (by show p.2+1≤max p.1 (p.2+1);lia)
 revert g1 g2 g3
 generalize (ws.map tokS).foldl stT (max p.1 (p.2+1),p.2+1)=r
 intro g1 g2 g3;have e2:([(")" : Str)].map tokS).foldl stT r=(r.1,r.2 - 1):=by
  show stT r (tokS ")")=_;rw [(aK ")" (by decide +kernel)).1,uQ (by decide +kernel) (by decide +kernel) (by dsimp only at g1 g2 g3;lia)]
 rw [e2];dsimp only at g1 g2 g3 ⊢;lia
theorem BD.mono {n m:Nat} {ws:List Str} (h:BD n ws) (hl:n≤m):BD m ws:=fun p hp=>by
 obtain ⟨a,b,c⟩:=h p hp;exact ⟨a,b,by lia⟩
theorem KW.bd {n:Nat} {d:Dt} {ws:List Str} (h:KW n d ws):BD n ws:=by
 have w:∀ z∈([("number" : Str),"text","choice","list","rows","record"]),NmC z:=aY
 induction h with
 | number n i j hi hj=>exact BD.br (w _ (by simp)) (BD.sep fun x hx=>by
   rcases List.mem_cons.mp hx with rfl | hx
   ·exact jN hi
   ·rw [List.mem_singleton.mp hx];exact jN hj)
 | text n i hi=>exact BD.br (w _ (by simp)) (BD.sep fun x hx=>by rw [List.mem_singleton.mp hx];exact jN hi)
 | choice n zs h0 h8 hz=>exact BD.br (w _ (by simp)) (BD.sep fun x hx=>by
   obtain ⟨z,h,rfl⟩:=List.mem_map.mp hx;exact (hz z h).bd)
 | list hk hi ih=>exact BD.br (w _ (by simp)) (BD.sep fun x hx=>by
   rcases List.mem_cons.mp hx with rfl | hx
   ·exact jN hi
   ·rw [List.mem_singleton.mp hx];exact ih)
 | rows hz hk hi ih=>exact BD.br (w _ (by simp)) (BD.sep fun x hx=>by
   rcases List.mem_cons.mp hx with rfl | hx
   ·exact hz.bd
   rcases List.mem_cons.mp hx with rfl | hx
   ·exact jN hi
   ·rw [List.mem_singleton.mp hx];exact ih)
 | rcd h8 hz hk ih=>exact BD.br (w _ (by simp)) (BD.sep fun x hx=>by
   obtain ⟨g,h,rfl⟩:=List.mem_map.mp hx;exact ((hz g h).bd.app (BD.flat (w:= ":") (by decide +kernel) (by decide +kernel))).app (ih g h))
theorem jO:∀ (x:List Str) (xs:List (List Str)),aW (x :: xs)=x++xs.flatMap fun y=>("," : Str) :: y
 | x,[]=>by
  show x=x++[];rw [List.append_nil]
 | x,y :: r=>by
  show (x++[("," : Str)])++aW (y :: r)=_;rw [jO y r,List.append_assoc]
  rfl
abbrev Rd (T:List Tk) (rd:Nat→PR) (it:Dt×List Str):Prop:=∀ q r,T.drop q=it.2.map tokS++r→rd q=.ok it.1 (q+it.2.length)
abbrev bA (its:List (Dt×List Str)):List Str:=its.flatMap fun it=>("," : Str) :: it.2
theorem uR:tokS "," = cW "," :=(aK "," (by decide +kernel)).1
theorem oE {T:List Tk} {rd:Nat→PR} {cl:Str} (hc:cl∈markL) (hn:¬ ("," : Str)=cl):∀ (its:List (Dt×List Str)) (m p:Nat) (fs:List Dt) (rest:List Tk),its.length < m→(∀ it∈its,Rd T rd it)→0 < fs.length→T.drop p=(bA its++[cl]).map tokS++rest →
  ca T rd cl m p fs=.ok (.tup (fs++its.map (·.1))) (p+(bA its).length+1)
 | _,0,_,_,_,h,_,_,_=>absurd h (Nat.not_lt_zero _)
 | [],m+1,p,fs,rest,h,hr,h0,hT=>by
  obtain ⟨e1,_,_⟩:=a9 (t:=tokS cl) (l:=rest) hT;simp only [ca];rw [e1,(aK cl hc).1,if_pos rfl,List.map_nil,List.append_nil]
  rfl
 | it :: its,m+1,p,fs,rest,h,hr,h0,hT=>by
  have e0:(bA (it :: its)++[cl]).map tokS++rest=tokS "," :: (it.2.map tokS++((bA its++[cl]).map tokS++rest)):=by
   simp [bA]
  rw [e0] at hT;obtain ⟨e1,hT1,_⟩:=a9 hT;rw [uR] at e1;have hr1:=hr it List.mem_cons_self (p+1) _ hT1;have hT2:=mB hT1;rw [List.length_map] at hT2;simp only [ca];rw [e1,if_neg (fun c=>hn (by injection c with _ c;injection c)),if_pos h0,aD e1,hr1];show ca T rd cl m _ (fs++[it.1])=_;rw [oE hc hn its m (p+1+it.2.length) (fs++[it.1]) rest (Nat.lt_of_succ_lt_succ h) (fun x hx=>hr x (List.mem_cons_of_mem _ hx)) (by simp) hT2]
  congr 1
  ·simp
  ·simp only [bA,List.flatMap_cons,List.length_append,List.length_cons];lia
theorem uS {T:List Tk} {p:Nat} {a b:List Tk} (h:T.drop p=a++b):a.length≤T.length:=by
 have:=congrArg List.length h;rw [List.length_drop,List.length_append] at this;lia
theorem uT (its:List (Dt×List Str)):its.length≤(bA its).length:=by
 induction its with
 | nil=>exact Nat.zero_le _
 | cons it its ih=>simp only [bA,List.flatMap_cons,List.length_append,List.length_cons] at ih ⊢;lia
theorem oF {T:List Tk} {rd:Nat→PR} {cl:Str} (hc:cl∈markL) (hn:¬ ("," : Str)=cl) {its:List (Dt×List Str)} {p:Nat} {rest:List Tk} (hr:∀ it∈its,Rd T rd it) (hh:∀ it∈its,∃ w r,it.2=w :: r∧¬ tokS w=cW cl)
  (hT:T.drop p=(aW (its.map (·.2))++[cl]).map tokS++rest):ox T rd cl p=.ok (.tup (its.map (·.1))) (p+(aW (its.map (·.2))).length+1):=by
 unfold ox
 cases its with
 | nil =>
  obtain ⟨e1,_,_⟩:=a9 (t:=tokS cl) (l:=rest) hT;simp only [ca];rw [e1,(aK cl hc).1,if_pos rfl]
  rfl
 | cons it its =>
  have es:aW ((it :: its).map (·.2))=it.2++bA its:=by
   rw [List.map_cons,jO];simp [bA,List.flatMap_map]
  have hlen:=uS hT;rw [es] at hT hlen ⊢;have e0:((it.2++bA its)++[cl]).map tokS++rest=it.2.map tokS++((bA its++[cl]).map tokS++rest):=by simp
  rw [e0] at hT;obtain ⟨w,r,ew,hw⟩:=hh it List.mem_cons_self;have hr1:=hr it List.mem_cons_self p _ hT;have hT2:=mB hT;rw [List.length_map] at hT2;rw [ew] at hT;obtain ⟨e1,_,_⟩:=a9 hT;have tl:=uT its;simp only [List.length_map,List.length_append,List.length_cons,List.length_nil] at hlen;simp only [ca];rw [e1,if_neg hw,if_neg (show ¬ 0 < ([]:List Dt).length by decide),hr1];show ca T rd cl T.length _ ([]++[it.1])=_;rw [oE hc hn its T.length _ _ rest (by lia) (fun x hx=>hr x (List.mem_cons_of_mem _ hx)) (by simp) hT2]
  congr 1
  simp only [List.length_append];lia
theorem oG {T:List Tk} {rd:Str→Nat→PR}:∀ (fs:List Str) (its:List (Dt×List Str)) (p:Nat) (gs:List Dt) (rest:List Tk),its.length=fs.length→(∀ x∈fs.zip its,Rd T (rd x.1) x.2)→1 < gs.length→T.drop p=(bA its++[(")" : Str)]).map tokS++rest →
  cc T rd fs p gs=.ok (.tup (gs++its.map (·.1))) (p+(bA its).length+1)
 | [],[],p,gs,rest,_,_,_,hT=>by
  obtain ⟨e1,_,_⟩:=a9 (t:=tokS ")") (l:=rest) hT;simp only [cc];rw [aD (e1.trans (aK ")" (by decide +kernel)).1),List.map_nil,List.append_nil]
  rfl
 | s :: fs,it :: its,p,gs,rest,hl,hr,h1,hT=>by
  have e0:(bA (it :: its)++[(")" : Str)]).map tokS++rest=tokS "," :: (it.2.map tokS++((bA its++[(")" : Str)]).map tokS++rest)):=by
   simp [bA]
  rw [e0] at hT;obtain ⟨e1,hT1,_⟩:=a9 hT;rw [uR] at e1;have hr1:rd s (p+1)=.ok it.1 (p+1+it.2.length):=hr (s,it) List.mem_cons_self (p+1) _ hT1;have hT2:=mB hT1;rw [List.length_map] at hT2;simp only [cc];rw [if_pos h1,aD e1,hr1];show cc T rd fs _ (gs++[it.1])=_;rw [oG fs its (p+1+it.2.length) (gs++[it.1]) rest (Nat.succ.inj hl) (fun x hx=>hr x (List.mem_cons_of_mem _ hx)) (by simp;lia) hT2]
  congr 1
  ·simp
  ·simp only [bA,List.flatMap_cons,List.length_append,List.length_cons];lia
theorem uU {T:List Tk} {rd:Str→Nat→PR} {so w:Str} {fs:List Str} {its:List (Dt×List Str)} {p:Nat} {rest:List Tk} (hf:aT so w=some fs) (hl:its.length=fs.length) (hr:∀ x∈fs.zip its,Rd T (rd x.1) x.2)
  (hT:T.drop p=tokS "(" :: ((aW (its.map (·.2))++[(")" : Str)]).map tokS++rest)):jJ T rd so w p=.ok (.tup (.str w :: its.map (·.1))) (p+1+(aW (its.map (·.2))).length+1):=by
 unfold jJ;rw [hf];dsimp only;obtain ⟨e1,hT1,_⟩:=a9 hT;rw [aD (e1.trans (aK "(" (by decide +kernel)).1)]
 cases fs with
 | nil =>
  obtain rfl:=List.length_eq_zero_iff.mp hl;obtain ⟨e2,_,_⟩:=a9 (t:=tokS ")") (l:=rest) hT1;simp only [cc];rw [aD (e2.trans (aK ")" (by decide +kernel)).1)]
  rfl
 | cons s fs =>
  cases its with
  | nil=>cases hl
  | cons it its =>
   have es:aW ((it :: its).map (·.2))=it.2++bA its:=by
    rw [List.map_cons,jO];simp [bA,List.flatMap_map]
   rw [es] at hT1 ⊢;have e0:((it.2++bA its)++[(")" : Str)]).map tokS++rest=it.2.map tokS++((bA its++[(")" : Str)]).map tokS++rest):=by simp
   rw [e0] at hT1;have hr1:rd s (p+1)=.ok it.1 (p+1+it.2.length):=hr (s,it) List.mem_cons_self (p+1) _ hT1;have hT2:=mB hT1;rw [List.length_map] at hT2;simp only [cc];rw [if_neg (show ¬ 1 < ([Dt.str w]:List Dt).length from Nat.lt_irrefl 1),hr1];show cc T rd fs (p+1+it.2.length) ([Dt.str w]++[it.1])=_;rw [oG fs its (p+1+it.2.length) ([Dt.str w]++[it.1]) rest (Nat.succ.inj hl) (fun x hx=>hr x (List.mem_cons_of_mem _ hx)) (by simp) hT2]
   congr 1
   simp only [List.length_append];lia
theorem wG (z m:Str):¬ kS z=cW m:=fun c=>absurd (show (Str.ofString "word")=Str.ofString "mark" from congrArg Prod.fst c) (by decide +kernel)
theorem jP (T:List Tk) (n p:Nat):prs T (n+3) "kind" p=kU T (prs T n) p:=by
 simp only [prs];rw [if_neg (by decide +kernel),if_pos trivial]
theorem oH (T:List Tk) (n p:Nat) {s:Str} (h:s= "number" ∨s= "word"):prs T (n+3) s p=kR T s p:=by
 rcases h with rfl | rfl <;>
 ·simp only [prs];rw [if_neg (by decide +kernel),if_neg (by decide +kernel),if_neg (by decide +kernel),if_neg (by decide +kernel),if_neg (by decide +kernel),if_neg (by decide +kernel)]
  rfl
theorem sy (T:List Tk) (n p:Nat):prs T (n+3) "field" p=qO T (prs T (n+1)) "kind" p:=by
 simp only [prs];rw [if_neg (by decide +kernel),if_neg (by decide +kernel),if_neg (by decide +kernel),if_neg (by decide +kernel),if_neg (by decide +kernel),if_neg (by decide +kernel)]
 rfl
theorem fv {T:List Tk} {p:Nat} {z:Str} {f:Str→Nat→PR} (h:aq T p=kS z):jI T p f=f z (p+1):=by
 unfold jI;rw [h];exact if_pos rfl
theorem jQ {T:List Tk} {n:Nat} {i:Int} (h:i.natAbs < 10 ^ 60) (hn:3≤n):Rd T (prs T n "number") (.int i,[aL i]):=fun q r hT=>by
 obtain ⟨n,rfl⟩:=Nat.exists_eq_add_of_le' hn;obtain ⟨e,_,_⟩:=a9 (t:=tokS (aL i)) (l:=r) hT;rw [oH T n q (.inl rfl)];unfold kR;rw [e,jH h,if_pos rfl]
 rfl
theorem qR {T:List Tk} {n:Nat} {z:Str} (h:NmC z) (hn:3≤n):Rd T (prs T n "word") (.str z,[z]):=fun q r hT=>by
 obtain ⟨n,rfl⟩:=Nat.exists_eq_add_of_le' hn;obtain ⟨e,_,_⟩:=a9 (t:=tokS z) (l:=r) hT;rw [oH T n q (.inr rfl)];unfold kR;rw [e,h.tk,if_pos rfl]
 rfl
theorem mC {T:List Tk} {p:Nat} {w:Str} {ws:List Str} {rest:List Tk} (hw:NmC w) (hT:T.drop p=(brW w ws).map tokS++rest):aq T p=kS w∧T.drop (p+1)=tokS "(" :: ((ws++[(")" : Str)]).map tokS++rest):=by
 have e0:(brW w ws).map tokS++rest=tokS w :: (tokS "(" :: ((ws++[(")" : Str)]).map tokS++rest)):=by simp [brW]
 rw [e0] at hT;obtain ⟨e1,hT1,_⟩:=a9 hT;exact ⟨e1.trans hw.tk,hT1⟩
theorem mD (w:Str) (ws:List Str):(brW w ws).length=ws.length+3:=by simp [brW]
theorem fz {T:List Tk} {n p:Nat} {w:Str} {fs:List Str} {its:List (Dt×List Str)} {rest:List Tk} (hw:NmC w) (n1:¬ w= "choice") (n2:¬ w= "record") (hf:aT "kind" w=some fs) (hl:its.length=fs.length) (hr:∀ x∈fs.zip its,Rd T (prs T n x.1) x.2)
  (hT:T.drop p=(brW w (aW (its.map (·.2)))).map tokS++rest):prs T (n+3) "kind" p=.ok (.tup (.str w :: exL w (its.map (·.1)))) (p+(brW w (aW (its.map (·.2)))).length):=by
 obtain ⟨e1,hT1⟩:=mC hw hT;rw [jP];unfold kU;rw [fv e1,if_neg n1,if_neg n2,uU hf hl hr hT1];show PR.ok (Dt.tup (Dt.str w :: exL w (its.map (·.1)))) _=_
 congr 1
 rw [mD];lia
theorem KW.parse {k:Nat} {d:Dt} {ws:List Str} (h:KW k d ws):∀ (T:List Tk) (m:Nat),5*k+3≤m→Rd T (prs T m "kind") (d,ws):=by
 induction h with
 | number n i j hi hj =>
  intro T m hm q r hT;obtain ⟨m,rfl⟩:=Nat.exists_eq_add_of_le' (show 3≤m by lia);have:=fz (T:=T) (n:=m) (p:=q) (w:= "number") (fs:=["number","number"]) (its:=[(.int i,[aL i]),(.int j,[aL j])]) (rest:=r) (aY _ (by simp)) (by decide +kernel) (by decide +kernel) (by decide +kernel) rfl (fun x hx=>by
   rcases List.mem_cons.mp hx with rfl | hx
   ·exact jQ hi (by lia)
   ·rw [List.mem_singleton.mp hx];exact jQ hj (by lia)) hT
  rw [this]
  rfl
 | text n i hi =>
  intro T m hm q r hT;obtain ⟨m,rfl⟩:=Nat.exists_eq_add_of_le' (show 3≤m by lia);have:=fz (T:=T) (n:=m) (p:=q) (w:= "text") (fs:=["number"]) (its:=[(.int i,[aL i])]) (rest:=r) (aY _ (by simp)) (by decide +kernel) (by decide +kernel) (by decide +kernel) rfl (fun x hx=>by
   rw [List.mem_singleton.mp hx];exact jQ hi (by lia)) hT
  rw [this]
  rfl
 | @list n k kw i hk hi ih =>
  intro T m hm q r hT;obtain ⟨m,rfl⟩:=Nat.exists_eq_add_of_le' (show 3≤m by lia);have:=fz (T:=T) (n:=m) (p:=q) (w:= "list") (fs:=["number","kind"]) (its:=[(.int i,[aL i]),(k,kw)]) (rest:=r) (aY _ (by simp)) (by decide +kernel) (by decide +kernel) (by decide +kernel) rfl (fun x hx=>by
   rcases List.mem_cons.mp hx with rfl | hx
   ·exact jQ hi (by lia)
   ·rw [List.mem_singleton.mp hx];exact ih T m (by lia)) hT
  rw [this]
  rfl
 | @rows n z k kw i hz hk hi ih =>
  intro T m hm q r hT;obtain ⟨m,rfl⟩:=Nat.exists_eq_add_of_le' (show 3≤m by lia);have:=fz (T:=T) (n:=m) (p:=q) (w:= "rows") (fs:=["word","number","kind"]) (its:=[(.str z,[z]),(.int i,[aL i]),(k,kw)]) (rest:=r) (aY _ (by simp)) (by decide +kernel) (by decide +kernel) (by decide +kernel) rfl (fun x hx=>by
   rcases List.mem_cons.mp hx with rfl | hx
   ·exact qR hz (by lia)
   rcases List.mem_cons.mp hx with rfl | hx
   ·exact jQ hi (by lia)
   ·rw [List.mem_singleton.mp hx];exact ih T m (by lia)) hT
  rw [this]
  rfl
 | choice n zs h0 h8 hz =>
  intro T m hm q r hT;obtain ⟨m,rfl⟩:=Nat.exists_eq_add_of_le' (show 3≤m by lia);obtain ⟨e1,hT1⟩:=mC (aY _ (by simp)) hT;obtain ⟨e2,hT2,_⟩:=a9 hT1;rw [jP];unfold kU;rw [fv e1,if_pos rfl,aD (e2.trans (aK "(" (by decide +kernel)).1)];have es:zs.map (fun z=>[z])=(zs.map fun z=>(Dt.str z,[z])).map (·.2):=by rw [List.map_map];rfl
  rw [es] at hT2;rw [oF (its:=zs.map fun z=>(Dt.str z,[z])) (cl:= ")") (by decide +kernel) (by decide +kernel) (fun it hit=>by
   obtain ⟨z,hz',rfl⟩:=List.mem_map.mp hit;exact qR (hz z hz') (by lia)) (fun it hit=>by
   obtain ⟨z,hz',rfl⟩:=List.mem_map.mp hit;exact ⟨z,[],rfl,by rw [(hz z hz').tk];exact wG _ _⟩) hT2]
  cases zs with
  | nil=>exact absurd rfl h0
  | cons z zs =>
   show PR.ok (Dt.tup [Dt.str "choice",Dt.tup (((z :: zs).map fun z=>(Dt.str z,[z])).map (·.1))]) _=_;rw [← es,List.map_map]
   congr 1
   show _=q+(brW _ _).length;rw [mD];lia
 | @rcd n gs h8 hz hk ih =>
  intro T m hm q r hT;obtain ⟨m,rfl⟩:=Nat.exists_eq_add_of_le' (show 6≤m by lia);obtain ⟨e1,hT1⟩:=mC (aY _ (by simp)) hT;obtain ⟨e2,hT2,_⟩:=a9 hT1;rw [jP];unfold kU;rw [fv e1,if_neg (by decide +kernel),if_pos rfl,aD (e2.trans (aK "(" (by decide +kernel)).1)];have es:gs.map fw3=(gs.map fun g=>(pr3 g,fw3 g)).map (·.2):=by rw [List.map_map];rfl
  rw [es] at hT2;rw [oF (its:=gs.map fun g=>(pr3 g,fw3 g)) (cl:= ")") (by decide +kernel) (by decide +kernel) (fun it hit=>by
   obtain ⟨g,hg,rfl⟩:=List.mem_map.mp hit;intro q r hT;have e0:(fw3 g).map tokS++r=tokS g.1 :: (tokS ":" :: (g.2.2.map tokS++r)):=by simp
   rw [show ((pr3 g,fw3 g):Dt×List Str).2=fw3 g from rfl,e0] at hT;obtain ⟨a1,hT1,_⟩:=a9 hT;obtain ⟨a2,hT2,_⟩:=a9 hT1;rw [sy];unfold qO;rw [fv (a1.trans (hz g hg).tk),aD (a2.trans (aK ":" (by decide +kernel)).1),ih g hg T (m+1) (by lia) _ _ hT2];show PR.ok (Dt.tup [Dt.str g.1,g.2.1]) _=_
   congr 1
   simp;lia) (fun it hit=>by
   obtain ⟨g,hg,rfl⟩:=List.mem_map.mp hit;exact ⟨g.1,_,rfl,by rw [(hz g hg).tk];exact wG _ _⟩) hT2]
  show PR.ok (Dt.tup [Dt.str "record",Dt.tup ((gs.map fun g=>(pr3 g,fw3 g)).map (·.1))]) _=_;rw [← es,List.map_map]
  congr 1
  show _=q+(brW _ _).length;rw [mD];lia
def bv (ws:List Str):Nat:=(ws.map fun w=>w.length+3).sum
theorem ce (a b:List Str):bv (a++b)=bv a+bv b:=by simp [bv]
theorem bi (w:Str) (a:List Str):bv (w :: a)=w.length+3+bv a:=by simp [bv]
theorem dD (ws:List Str):ws.length≤bv ws:=by
 induction ws with
 | nil=>exact Nat.le_refl _
 | cons w ws ih=>rw [bi,List.length_cons];lia
theorem oI {w:Str} {ws:List Str} (h:w∈ws):w.length+3≤bv ws:=by
 induction ws with
 | nil=>cases h
 | cons x ws ih =>
  rw [bi];rcases List.mem_cons.mp h with rfl | h
  ·lia
  ·have:=ih h;lia
theorem vS:(Str.ofString ",").length=1∧(Str.ofString "(").length=1∧(Str.ofString ")").length=1∧(Str.ofString ":").length=1:=by decide +kernel
theorem dQ (w:Str) (ws:List Str):bv (brW w ws)=w.length+11+bv ws:=by
 unfold brW;rw [ce,ce,bi,bi,bi,vS.2.1,vS.2.2.1];simp only [bv,List.map_nil,List.sum_nil];lia
theorem cK:∀ wss:List (List Str),bv (aW wss)≤(wss.map fun x=>bv x+4).sum
 | []=>Nat.le_refl _
 | [x]=>by simp [aW]
 | x :: y :: r=>by
  have:=cK (y :: r);simp only [aW];rw [ce,ce,bi,vS.1,List.map_cons,List.sum_cons];simp only [bv,List.map_nil,List.sum_nil] at this ⊢;lia
theorem fU:∀ (ws:List Str) (bs:List Nat),(∀ b∈bs,b≤2)→(aV ws bs).length≤bv ws
 | [],_,_=>by simp [aV]
 | _ :: _,[],_=>by simp [aV]
 | w :: ws,b :: bs,h=>by
  have:=fU ws bs fun x hx=>h x (List.mem_cons_of_mem _ hx);have hb:=h b List.mem_cons_self;simp only [aV];rw [List.length_append,List.length_append,List.length_replicate,bi,aj];lia
theorem jR {z:Str} (h:aE z=true):NmC z:=by
 unfold aE at h;simp only [Bool.and_eq_true,decide_eq_true_eq] at h;refine ⟨?_,h.1.1.1,h.1.1.2⟩;rw [← h.2]
 congr 1
 funext c
 exact (PySem.StrLaws.found_one letS c).symm
theorem gA {i:Int} (h:i.natAbs < 10 ^ 35):(aL i).length≤36:=by
 rw [← aj,gv];have:=pI 34 i.natAbs h;unfold dM
 split
 ·rw [List.length_cons];lia
 ·lia
theorem dE {i:Int} (h:i.natAbs < 10 ^ 35):i.natAbs < 10 ^ 60:=Nat.lt_of_lt_of_le h (by decide +kernel)
theorem oJ {i:Int} (h1:-1000000000000000000000000000000≤i) (h2:i≤1000000000000000000000000000000):i.natAbs < 10 ^ 35:=Nat.lt_of_le_of_lt (show i.natAbs≤1000000000000000000000000000000 by lia) (by decide +kernel)
theorem wI {n:Nat}:∀ gs:List G4,(∀ g∈gs,∃ ws,KW n g.2.1 ws∧bv ws≤400*g.2.2.2)→(∀ g∈gs,aE g.1=true)→∃ g3:List G3,g3.map pr3=gs.map prG∧g3.length=gs.length∧(∀ g∈g3,NmC g.1)∧(∀ g∈g3,KW n g.2.1 g.2.2)∧((g3.map fw3).map fun x=>bv x+4).sum≤400*sumN (gs.map (·.2.2.2))+20*gs.length
 | [],_,_=>⟨[],rfl,rfl,(fun _ h=>nomatch h),(fun _ h=>nomatch h),Nat.zero_le _⟩
 | g :: gs,h1,h2=>by
  obtain ⟨ws,hw,hl⟩:=h1 g List.mem_cons_self;obtain ⟨g3,e1,e2,e3,e4,e5⟩:=wI gs (fun x hx=>h1 x (List.mem_cons_of_mem _ hx)) fun x hx=>h2 x (List.mem_cons_of_mem _ hx);have hn:=jR (h2 g List.mem_cons_self);refine ⟨(g.1,g.2.1,ws) :: g3,by rw [List.map_cons,List.map_cons,e1],by rw [List.length_cons,List.length_cons,e2],fun x hx=>?_,fun x hx=>?_,?_⟩
  ·rcases List.mem_cons.mp hx with rfl | hx
   ·exact hn
   ·exact e3 x hx
  ·rcases List.mem_cons.mp hx with rfl | hx
   ·exact hw
   ·exact e4 x hx
  ·rw [List.map_cons,List.map_cons,List.sum_cons,List.map_cons,List.length_cons];show bv ([g.1,":"]++ws)+4+_≤400*(g.2.2.2+sumN (gs.map (·.2.2.2)))+_;rw [ce,bi,bi,vS.2.2.2,show bv []=0 from rfl];have:=hn.2.2;lia
theorem FK.kw {a c:Nat} {d:Dt} (h:FK a c d):∀ n,a≤n→∃ ws,KW n d ws∧bv ws≤400*c:=by
 have wl:∀ z∈([("number" : Str),"text","choice","list","rows","record"]),z.length≤8:=fun z hz=>(aY z hz).2.2;have one:∀ z:Str,bv [z]=z.length+3:=fun z=>by simp [bv]
 induction h with
 | text i h1 h2 =>
  intro n hn;obtain ⟨n,rfl⟩:=Nat.exists_eq_add_of_le' hn;have hi:=oJ (i:=i) (by lia) (by lia);refine ⟨_,.text n i (dE hi),?_⟩;have s:=cK [[aL i]];simp only [List.map_cons,List.map_nil,List.sum_cons,List.sum_nil,one] at s;have:=gA hi;have:=wl "text" (by simp);rw [dQ];lia
 | number i j h1 h2 h3 =>
  intro n hn;obtain ⟨n,rfl⟩:=Nat.exists_eq_add_of_le' hn;have hi:=oJ (i:=i) (by lia) (by lia);have hj:=oJ (i:=j) (by lia) (by lia);refine ⟨_,.number n i j (dE hi) (dE hj),?_⟩;have s:=cK [[aL i],[aL j]];simp only [List.map_cons,List.map_nil,List.sum_cons,List.sum_nil,one] at s;have:=gA hi;have:=gA hj;have:=wl "number" (by simp);rw [dQ];lia
 | choice ws hw =>
  intro n hn;obtain ⟨n,rfl⟩:=Nat.exists_eq_add_of_le' hn;unfold dN at hw;simp only [Bool.and_eq_true,decide_eq_true_eq] at hw;have hz:∀ z∈ws,NmC z:=fun z hz=>jR (List.all_eq_true.mp hw.1.2 z hz);refine ⟨_,.choice n ws (fun e=>by rw [e] at hw;exact absurd hw.1.1.1 (by decide)) hw.1.1.2 hz,?_⟩;have s:=cK (ws.map fun z=>[z]);have key:∀ l:List Str,(∀ z∈l,NmC z)→((l.map fun z=>[z]).map fun x=>bv x+4).sum≤15*l.length:=by
   intro l
   induction l with
   | nil=>intro _;exact Nat.le_refl _
   | cons z l ih =>
    intro h;have:=ih fun x hx=>h x (List.mem_cons_of_mem _ hx);have:=(h z List.mem_cons_self).2.2;rw [List.map_cons,List.map_cons,List.sum_cons,one,List.length_cons];lia
  have k:=key ws hz;have:=wl "choice" (by simp);have:=hw.1.1.2;rw [dQ];lia
 | @list a c k i hk h1 h2 ih =>
  intro n hn;obtain ⟨n,rfl⟩:=Nat.exists_eq_add_of_le' (show 1≤n by lia);obtain ⟨kw,hkw,hl⟩:=ih n (by lia);have hi:=oJ (i:=i) (by lia) (by lia);refine ⟨_,.list hkw (dE hi),?_⟩;have s:=cK [[aL i],kw];simp only [List.map_cons,List.map_nil,List.sum_cons,List.sum_nil,one] at s;have:=gA hi;have:=wl "list" (by simp);rw [dQ];lia
 | @rows a c z l i hk hkey h1 h2 ih =>
  intro n hn;obtain ⟨n,rfl⟩:=Nat.exists_eq_add_of_le' (show 1≤n by lia);obtain ⟨kw,hkw,hl⟩:=ih n (by lia);have hi:=oJ (i:=i) (by lia) (by lia);have hz:NmC z:=by
   obtain ⟨w',r',hm,_⟩:=hkey
   cases hk with
   | @rcd gs g1 g2 g3 g4 =>
    obtain ⟨g,hg,e⟩:=List.mem_map.mp hm;have:g.1=z:=by injection e with e;injection e with e;injection e
    exact this ▸ jR (g3 g hg).1
  refine ⟨_,.rows hz hkw (dE hi),?_⟩;have s:=cK [[z],[aL i],kw];simp only [List.map_cons,List.map_nil,List.sum_cons,List.sum_nil,one] at s;have:=gA hi;have:=hz.2.2;have:=wl "rows" (by simp);rw [dQ];lia
 | @rcd gs h1 h2 h3 h4 ih =>
  intro n hn;obtain ⟨n,rfl⟩:=Nat.exists_eq_add_of_le' (show 1≤n by lia);obtain ⟨g3,e1,e2,e3,e4,e5⟩:=wI (n:=n) gs (fun g hg=>ih g hg n (by
   have:=jq (List.mem_map_of_mem (f:=fun g:G4=>g.2.2.1) hg);lia)) fun g hg=>(h3 g hg).1
  rw [← e1];refine ⟨_,.rcd (by lia) e3 e4,?_⟩;have s:=cK (g3.map fw3);have:=wl "record" (by simp);rw [dQ];lia
theorem KW.read {n:Nat} {d:Dt} {ws:List Str} (h:KW n d ws) (hn:n≤5) {cs:List Nat} {b:Nat} {bs:List Nat} (hb:bs.length=ws.length) (hc:cs=List.replicate b 32++aV ws bs):eL 40 "kind" cs=some d:=by
 have hl:=h.gm.gw.gl.lex bs hb;rw [← cY (aV ws bs) b,← hc] at hl;have hd:=(h.bd (0,0) (Int.le_refl _)).2.2;have hp:=h.parse (ws.map tokS) 40 (by lia) 0 [] (by simp);refine (vR hl ?_ hp ?_).1
 ·dsimp only at hd;lia
 ·exact AL (List.drop_eq_nil_of_le (by simp))
theorem oK (sp:Str):∀ zs:List Str,(zs.map (·.length)).sum≤(Str.join sp zs).length
 | []=>Nat.zero_le _
 | [x]=>by simp [Str.join]
 | x :: y :: r=>by
  have:=oK sp (y :: r);rw [PyProof.Rows.join_cons_cons,Str.length_append,Str.length_append];simp only [List.map_cons,List.sum_cons] at this ⊢;lia
theorem jS (sp:Str) (zs:List Str):Txt.join sp zs=Str.join sp zs:=PySem.StrLaws.glued_eq_join sp zs
def kf (_:PySem.W.Frag) (_:Ads):Sp:=fun vs H Q _=>∃ i:Int,vs=[.int i]∧i.natAbs < 10 ^ 70∧Q (.str (aL i)) H
theorem qS {i:Int} (h:i.natAbs < 10 ^ 70):i.natAbs.log2 < 1920:=by
 by_cases h0:i.natAbs=0
 ·rw [h0];decide
 ·exact (Nat.log2_lt h0).mpr (Nat.lt_of_lt_of_le h (by decide +kernel))
theorem kg (T:Tx K mg ad) {f:Addr} {fd:FuncData} (F:Gn K mg "figures_of" dU ["number"] f fd):FnOk P w K mg base CX0 1 f fd ["number"] (kf K ad):=by
 refine F.F.ok km (fun vs H Q E h=>?_) (fun cdv A outer s H vs Q E hr h=>?_)
 ·obtain ⟨i,rfl,_⟩:=h
  rfl
 obtain ⟨i,rfl,hi,q⟩:=h;refine ⟨_,(@pss_one _ _ _ (@ps_ret _ _ _ _ (pe_callTy cv rfl T.z_str boot_str (@pa1 _ _ _ (pv 0) (by rfl))))),?_⟩;exact ⟨_,rfl,i,rfl,qS hi,q⟩
def sA (_:PySem.W.Frag) (_:Ads):Sp:=fun vs H Q _=>∃ z:Str,vs=[.str z]∧z.length≤100000∧Q (.str (Str.ofString "\"" ++z++Str.ofString "\"")) H
theorem fV {n:Nat} (h:n≤300000):n≤sizeLine:=Nat.le_trans h (by decide)
theorem sC (T:Tx K mg ad) {f:Addr} {fd:FuncData} (F:Gn K mg "quoted" jW ["text"] f fd):FnOk P w K mg base CX0 1 f fd ["text"] (sA K ad):=by
 refine F.F.ok sE (fun vs H Q E h=>?_) (fun cdv A outer s H vs Q E hr h=>?_)
 ·obtain ⟨z,rfl,_⟩:=h
  rfl
 obtain ⟨z,rfl,hz,q⟩:=h;refine ⟨_,(@pss_one _ _ _ (@ps_ret _ _ _ _ (@pe_op _ _ _ _ _ _ _ _ aH (@pe_op _ _ _ _ _ _ _ _ aH pe_str (pv 0)) pe_str))),?_⟩;have l1:(Str.ofString "\"").length=1:=by decide +kernel
 exact ⟨_,rfl,_,_,rfl,rfl,fV (by lia),_,_,rfl,rfl,fV (by rw [Str.length_append];lia),q⟩
def jT (K:PySem.W.Frag) (_:Ads):Sp:=fun vs H Q _=>∃ (l:Addr) (zs:List Str),vs=[.ref l]∧SqL K H l (zs.map V.str)∧zs.length≤1000∧(Str.join (Str.ofString ", ") zs).length≤100000∧Q (.str (Str.join (Str.ofString ", ") zs)) H
theorem eM (T:Tx K mg ad) {f:Addr} {fd:FuncData} (F:Gn K mg "with_commas" dj ["texts"] f fd):FnOk P w K mg base CX0 1 f fd ["texts"] (jT K ad):=by
 refine F.F.ok jX (fun vs H Q E h=>?_) (fun cdv A outer s H vs Q E hr h=>?_)
 ·obtain ⟨l,zs,rfl,_⟩:=h
  rfl
 obtain ⟨l,zs,rfl,hl,hz,hj,q⟩:=h;refine ⟨_,(@pss_one _ _ _ (@ps_ret _ _ _ _ (pe_bm PySem.F.plainAttrs_str PySem.F.slot_str_join PySem.F.type_str_join jn pe_str (@pa1 _ _ _ (pv 0) (by rfl))))),?_⟩;have l1:(Str.ofString ", ").length=2:=by decide +kernel
 have js:=oK (Str.ofString ", ") zs;refine ⟨rfl,_,rfl,_,l,zs,rfl,rfl,.inl hl,by rw [l1];lia,?_⟩;rw [jS];exact q
def mE (_:PySem.W.Frag) (_:Ads):Sp:=fun vs H Q _=>∃ a z:Str,vs=[.str a,.str z]∧a.length≤100000∧z.length≤100000∧Q (.str (a++Str.ofString ": " ++z)) H
theorem qT (a:Str):Str.empty++a=a:=by
 apply b8;show (#[]++a.cps).toList=_;simp
theorem gB (T:Tx K mg ad) {f:Addr} {fd:FuncData} (F:Gn K mg "pair_text" eU ["word","text"] f fd):FnOk P w K mg base CX0 1 f fd ["word","text"] (mE K ad):=by
 refine F.F.ok mV (fun vs H Q E h=>?_) (fun cdv A outer s H vs Q E hr h=>?_)
 ·obtain ⟨a,z,rfl,_⟩:=h
  rfl
 obtain ⟨a,z,rfl,ha,hz,q⟩:=h;refine ⟨_,(@pss_one _ _ _ (@ps_ret _ _ _ _ (qB (lM (pv 0) (pO pe_str (lM (pv 1) ud)))))),?_⟩;have l1:(Str.ofString ": ").length=2:=by decide +kernel
 have l0:Str.empty.length=0:=rfl;refine ⟨_,rfl,a,rfl,bU ha,fV (by rw [Str.length_append];lia),_,rfl,bU (by lia),fV (by rw [Str.length_append,Str.length_append];lia),_,rfl,z,rfl,bU hz,fV (by rw [Str.length_append,Str.length_append,Str.length_append];lia),fV (by rw [Str.length_append,Str.length_append,Str.length_append];lia),?_⟩;rw [qT];exact q
def jU (K:PySem.W.Frag) (_:Ads):Sp:=fun vs H Q _=>∃ (a:Str) (l:Addr) (zs:List Str),vs=[.str a,.ref l]∧SqL K H l (zs.map V.str)∧a.length≤100000∧zs.length≤1000∧(Str.join (Str.ofString ", ") zs).length≤100000∧Q (.str (a++Str.ofString "(" ++Str.join (Str.ofString ", ") zs++Str.ofString ")")) H
theorem eO (T:Tx K mg ad) {f:Addr} {fd:FuncData} (F:Gn K mg "in_brackets" di ["word","texts"] f fd):FnOk P w K mg base CX0 2 f fd ["word","texts"] (jU K ad):=by
 obtain ⟨_,_,HH⟩:=T.with_commas;have Ig:=eM (P:=P) (w:=w) (base:=base) T HH;refine F.F.ok fg (fun vs H Q E h=>?_) (fun cdv A outer s H vs Q E hr h=>?_)
 ·obtain ⟨a,l,zs,rfl,_⟩:=h
  rfl
 obtain ⟨a,l,zs,rfl,hl,ha,hz,hj,q⟩:=h;refine ⟨_,(@pss_cons _ _ _ _ _ (@ps_set _ _ 2 _ _ _ _ fg.nd rfl (Or.inl rfl) (pcl HH Ig (hr.mono (by lia)) rfl (@pa1 _ _ _ (pv 1) (by rfl))) (by rfl) (by first | exact .inl rfl | exact .inr rfl | assumption)) (@pss_one _ _ _ (@ps_ret _ _ _ _ (qB (lM (pv 0) (pO pe_str (lM (pv 2) (pO pe_str ud)))))))),?_⟩;have l1:(Str.ofString "(").length=1:=by decide +kernel
 have l2:(Str.ofString ")").length=1:=by decide +kernel
 have l0:Str.empty.length=0:=rfl;refine ⟨_,rfl,l,zs,rfl,hl,hz,hj,?_⟩;refine ⟨_,rfl,a,rfl,bU ha,fV (by rw [Str.length_append];lia),_,rfl,bU (by lia),fV (by rw [Str.length_append,Str.length_append];lia),_,rfl,_,rfl,bU hj,fV (by rw [Str.length_append,Str.length_append,Str.length_append];lia),_,rfl,bU (by lia),fV (by rw [Str.length_append,Str.length_append,Str.length_append,Str.length_append];lia),fV (by rw [Str.length_append,Str.length_append,Str.length_append,Str.length_append];lia),?_⟩;rw [qT];exact q
def kY (w:Str) (zs:List Str):Str:=w++Str.ofString "(" ++Str.join (Str.ofString ", ") zs++Str.ofString ")"
inductive PT:Nat→Str→Dt→Str→Prop
 | word (n:Nat) (z:Str):PT n "word" (.str z) z
 | num (n:Nat) (i:Int):i.natAbs < 10 ^ 60→PT n "number" (.int i) (aL i)
 | kind (n:Nat) (d:Dt) (ws:List Str):KW n d ws→PT n "kind" d (ay ws)
def sPT (K:PySem.W.Frag) (n:Nat):Sp:=fun vs H Q _=>∃ (s:Str) (d:Dt) (x:V) (z:Str),vs=[x,.str s]∧IsP K H d x∧PT n s d z∧z.length≤100000∧∀ H',Same H H'→Q (.str z) H'
def sFT (K:PySem.W.Frag) (n:Nat):Sp:=fun vs H Q _=>∃ (so w:Str) (ds:List Dt) (fs zs:List Str) (x:V),vs=[.str so,x]∧IsP K H (.tup (.str w :: ds)) x∧aT so w=some fs∧ds.length=fs.length∧zs.length=fs.length ∧
 (∀ (i:Nat) (s:Str) (d:Dt) (z:Str),fs[i]?=some s→ds[i]?=some d→zs[i]?=some z→PT n s d z)∧(kY w zs).length≤100000∧∀ H',Same H H'→Q (.str (kY w zs)) H'
theorem mF (T:Tx K mg ad) (n:Nat) {f fp:Addr} {fd fdp:FuncData} (F:Gn K mg "form_text" cg ["sort","thing"] f fd) (JA:Gn K mg "part_text" cj ["part","sort"] fp fdp)
  (Jx:FnOk P w K mg base CX0 (3*n+4) fp fdp ["part","sort"] (sPT K n)):FnOk P w K mg base CX0 (3*n+4+1) f fd ["sort","thing"] (sFT K n):=by
 obtain ⟨f1,d1,HN⟩:=T.parts_behind;have Il:=dY (P:=P) (w:=w) (base:=base) T HN;obtain ⟨f2,d2,HI⟩:=T.in_brackets;have Ia:=eO (P:=P) (w:=w) (base:=base) T HI;refine F.F.ok gI (fun vs H Q E h=>?_) (fun cdv A outer s H vs Q E hr h=>?_)
 ·obtain ⟨so,w,ds,fs,zs,x,rfl,_⟩:=h
  rfl
 obtain ⟨so,wd,ds,fs,zs,x,rfl,hx,hf,l1,l2,hPT,hz,q⟩:=h;refine ⟨_,(@pss_cons _ _ _ _ _ (@ps_set _ _ 2 _ _ _ _ gI.nd rfl (Or.inl rfl) (pcl HN Il (hr.mono (by lia)) rfl (@pa2 _ _ _ _ _ (pv 0) (@pi1 K _ _ _ _ _ _ _ rfl (pv 1)) (by rfl) (by rfl))) (by rfl) (by first | exact .inl rfl | exact .inr rfl | assumption)) (@pss_one _ _ _ (@ps_ret _ _ _ _ (pcl HI Ia (hr.mono (by lia)) rfl (@pa2 _ _ _ _ _ (@pi1 K _ _ _ _ _ _ _ rfl (pv 1)) (pe_comp rfl (cs0 (NL:=["part","part_sort"]) rfl (by decide +kernel) (by decide +kernel)) (vC rfl T.z_zip (@pa2 _ _ _ _ _ (pe_slice (eC (K:=K) rfl) (pv 1) (po_some pe_int) cw) (pv 2) (by rfl) (by rfl))) (fun _ _ _ _=>(ft (K:=K) (n:=2) rfl rfl (aC (ak (i:=0) (show List.Nodup (α:=Str) ["part","part_sort"] by decide +kernel) rfl (Or.inl rfl)) (aC (ak (i:=1) (show List.Nodup (α:=Str) ["part","part_sort"] by decide +kernel) rfl (Or.inl rfl)) cu)))) (fun _ _ _ _=>(pcl JA Jx (hr.mono (by lia)) rfl (@pa2 _ _ _ _ _ (pv 0) (pv 1) (by rfl) (by rfl))))) (by rfl) (by rfl)))))),?_⟩;have fl:=ia hf;refine ⟨_,rfl,_,rfl,_,_,_,hx,rfl,at0 _ _,isS ?_⟩;refine ⟨so,wd,rfl,?_⟩;rw [hf];intro b hb;refine ⟨_,rfl,_,_,_,hx,rfl,at0 _ _,isS ?_⟩;refine ⟨_,rfl,_,rfl,_,hx,fun v3 H1 g1 hv3=>?_⟩;rw [vN] at hv3;obtain ⟨c,xs,rfl,hc,_,rc⟩:=hv3.unref;have lx:=rc.length;refine ⟨_,rfl,c,b,rfl,⟨xs,hc⟩,⟨_,hb H1⟩,fun l hl=>?_⟩;have wz:(kY wd zs).length=wd.length+(Str.ofString "(").length+(Str.join (Str.ofString ", ") zs).length+(Str.ofString ")").length:=by
  unfold kY;rw [Str.length_append,Str.length_append,Str.length_append]
 refine pM (K:=K) (xs:=xs) (ys:=fs.map V.str) (fun i us σ H'=>us=(zs.take i).map V.str∧Same H1 H'∧H' l=some (.lst us)∧∃ w1 w2,σ=[w1,w2]) ⟨rfl,ah hl _,aa,_,_,rfl⟩ (fun i us σ H' r=>⟨r.2.1.tup hc,hb H'⟩) ?_ ?_
 ·rintro i y1 y2 T0 us σ H2 N h1 h2 hT ⟨rfl,g2,f2',w1,w2,rfl⟩ next;rw [List.getElem?_map] at h2;obtain ⟨s0,hs0,rfl⟩:=Option.map_eq_some_iff.mp h2;obtain ⟨d0,hd0,hdy⟩:=rc.get' h1;have hi:=(List.getElem?_eq_some_iff.mp hs0).1;obtain ⟨z0,hz0⟩:∃ z0,zs[i]?=some z0:=⟨_,List.getElem?_eq_getElem (by lia)⟩;have ml:=PySem.join_mem_le (Str.ofString ", ") zs z0 (List.mem_of_getElem? hz0);have g3:=g2.trans (ah hT (.tup [y1,.str s0]));refine ⟨T0,_,rfl,SqT.of aa,rfl,_,_,rfl,_,_,rfl,rfl,?_⟩;refine ⟨_,rfl,_,rfl,s0,d0,y1,z0,rfl,hdy.same g3,hPT i s0 d0 z0 hs0 hd0 hz0,by lia,fun H3 g4=>?_⟩;have nl:l≠T0:=ag f2' hT;refine ⟨g4 _ _ (by rw [ae nl];exact f2'),?_,next _ _ _ ⟨?_,bD hl (g3.trans g4),aa,_,_,rfl⟩⟩
  ·rw [List.length_map,List.length_take];exact aw (by lia)
  ·rw [List.take_add_one,hz0,List.map_append]
   rfl
 rintro us σ H2 ⟨rfl,g2,f2',w1,w2,rfl⟩;rw [List.take_of_length_le (by rw [List.length_map];lia)] at f2';exact ⟨wd,l,zs,rfl,SqL.of f2',by lia,by lia,by lia,q H2 (g1.trans g2)⟩
def kh (_:PySem.W.Frag) (_:Ads):Sp:=fun vs H Q _=>∃ i:Int,vs=[.int i]∧i.natAbs < 10 ^ 60∧Q (.str (aL i)) H
theorem ki (T:Tx K mg ad) {f:Addr} {fd:FuncData} (HM:Gn K mg "value_text" dW ["value"] f fd):FnOk P w K mg base CX0 3 f fd ["value"] (kh K ad):=by
 obtain ⟨f1,d1,II⟩:=T.figures_of;have Jk:=kg (P:=P) (w:=w) (base:=base) T II;obtain ⟨f2,d2,Jm⟩:=T.quoted;have JS:=sC (P:=P) (w:=w) (base:=base) T Jm;obtain ⟨f3,d3,HH⟩:=T.with_commas;have Ig:=eM (P:=P) (w:=w) (base:=base) T HH;obtain ⟨f4,d4,HZ⟩:=T.pair_text;have IC:=gB (P:=P) (w:=w) (base:=base) T HZ;have Ij:FnOk P w K mg base CX0 2 f fd ["value"] (fun _ _ _ _=>False):=bt fun _ _ _ _ h=>h;refine HM.F.ok sc_value_text (fun vs H Q E h=>?_) (fun cdv A outer s H vs Q E hr h=>?_)
 ·obtain ⟨i,rfl,_⟩:=h
  rfl
 obtain ⟨i,rfl,hi,q⟩:=h;refine ⟨_,(@pss_cons _ _ _ _ _ (@ps_if _ _ _ _ _ _ _ _ (@pt_val _ _ _ (pe_callB (call_isiN' (K:=K) rfl) rfl T.z_isinstance boot_isinstance (@pa2 _ _ _ _ _ (pv 0) (dh rfl T.z_int boot_int) (by rfl) (by rfl))) (by intro _;rfl)) (@pss_one _ _ _ (@ps_ret _ _ _ _ (pcl II Jk (hr.mono (by lia)) rfl (@pa1 _ _ _ (pv 0) (by rfl))))) pss_nil) (@pss_cons _ _ _ _ _ (@ps_if _ _ _ _ _ _ _ _ (@pt_val _ _ _ (pe_callB (call_isiN' (K:=K) rfl) rfl T.z_isinstance boot_isinstance (@pa2 _ _ _ _ _ (pv 0) (dh rfl T.z_str boot_str) (by rfl) (by rfl))) (by intro _;rfl)) (@pss_one _ _ _ (@ps_ret _ _ _ _ (pcl Jm JS (hr.mono (by lia)) rfl (@pa1 _ _ _ (pv 0) (by rfl))))) pss_nil) (@pss_cons _ _ _ _ _ (@ps_if _ _ _ _ _ _ _ _ (pt_cmpR op_eq (@pi1 K _ _ _ _ _ _ _ rfl (pv 0)) pe_str (nomark _)) (@pss_cons _ _ _ _ _ (@ps_set _ _ 1 _ _ _ _ sc_value_text.nd rfl (Or.inl rfl) (pcl HH Ig (hr.mono (by lia)) rfl (@pa1 _ _ _ (pe_comp rfl (cs0 (NL:=["name","own"]) rfl (by decide +kernel) (by decide +kernel)) (bG (K:=K) rfl (@pi1 K _ _ _ _ _ _ _ rfl (pv 0))) (fun _ _ _ _=>(ft (K:=K) (n:=2) rfl rfl (aC (ak (i:=0) (show List.Nodup (α:=Str) ["name","own"] by decide +kernel) rfl (Or.inl rfl)) (aC (ak (i:=1) (show List.Nodup (α:=Str) ["name","own"] by decide +kernel) rfl (Or.inl rfl)) cu)))) (fun _ _ _ _=>(pcl HZ IC (hr.mono (by lia)) rfl (@pa2 _ _ _ _ _ (pv 0) (pcl HM Ij (hr.mono (by lia)) rfl (@pa1 _ _ _ (pv 1) (by rfl))) (by rfl) (by rfl))))) (by rfl))) (by rfl) (by first | exact .inl rfl | exact .inr rfl | assumption)) (@pss_one _ _ _ (@ps_ret _ _ _ _ (@pe_op _ _ _ _ _ _ _ _ aH (@pe_op _ _ _ _ _ _ _ _ aH pe_str (pv 1)) pe_str)))) pss_nil) (@pss_cons _ _ _ _ _ (@ps_set _ _ 1 _ _ _ _ sc_value_text.nd rfl (Or.inl rfl) (pcl HH Ig (hr.mono (by lia)) rfl (@pa1 _ _ _ (pe_comp rfl (cs0 (NL:=["item"]) rfl (by decide +kernel) (by decide +kernel)) (bG (K:=K) rfl (@pi1 K _ _ _ _ _ _ _ rfl (pv 0))) (fun _ _ _ _=>(ak (i:=0) (show List.Nodup (α:=Str) ["item"] by decide +kernel) rfl (Or.inl rfl))) (fun _ _ _ _=>(pcl HM Ij (hr.mono (by lia)) rfl (@pa1 _ _ _ (pv 0) (by rfl))))) (by rfl))) (by rfl) (by first | exact .inl rfl | exact .inr rfl | assumption)) (@pss_cons _ _ _ _ _ (@ps_if _ _ _ _ _ _ _ _ (pt_cmpR op_eq (@pi1 K _ _ _ _ _ _ _ rfl (pv 0)) pe_str (nomark _)) (@pss_one _ _ _ (@ps_ret _ _ _ _ (@pe_op _ _ _ _ _ _ _ _ aH (@pe_op _ _ _ _ _ _ _ _ aH pe_str (pv 1)) pe_str))) pss_nil) (@pss_one _ _ _ (@ps_ret _ _ _ _ (@pe_op _ _ _ _ _ _ _ _ aH (@pe_op _ _ _ _ _ _ _ _ aH pe_str (pv 1)) pe_str)))))))),?_⟩;exact ⟨_,rfl,_,_,_,rfl,.int_int,_,rfl,bL ⟨_,rfl,i,rfl,Nat.lt_of_lt_of_le hi (by decide +kernel),q⟩⟩
def sKT (K:PySem.W.Frag) (n:Nat):Sp:=fun vs H Q _=>∃ (d:Dt) (x:V) (ws:List Str),vs=[x]∧IsP K H d x∧KW n d ws∧(ay ws).length≤100000∧∀ H',Same H H'→Q (.str (ay ws)) H'
theorem mG (T:Tx K mg ad) (n:Nat) {f fk:Addr} {fd fdk:FuncData} (F:Gn K mg "part_text" cj ["part","sort"] f fd) (HJ:Gn K mg "kind_text" cf ["kind"] fk fdk) (HX:FnOk P w K mg base CX0 (3*n+3) fk fdk ["kind"] (sKT K n)):FnOk P w K mg base CX0 (3*n+4) f fd ["part","sort"] (sPT K n):=by
 obtain ⟨f1,d1,HM⟩:=T.value_text;have Ij:=ki (P:=P) (w:=w) (base:=base) T HM;obtain ⟨f3,d3,JF⟩:=T.turn_text;have Jv:FnOk P w K mg base CX0 1 f3 d3 ["turn"] (fun _ _ _ _=>False):=bt fun _ _ _ _ h=>h;refine F.F.ok mU (fun vs H Q E h=>?_) (fun cdv A outer s H vs Q E hr h=>?_)
 ·obtain ⟨s,d,x,z,rfl,_⟩:=h
  rfl
 obtain ⟨s,d,x,z,rfl,hx,pt,hz,q⟩:=h;refine ⟨_,(@pss_cons _ _ _ _ _ (@ps_if _ _ _ _ _ _ _ _ (pt_cmpR op_eq (pv 1) pe_str (nomark _)) (@pss_one _ _ _ (@ps_ret _ _ _ _ (pv 0))) pss_nil) (@pss_cons _ _ _ _ _ (@ps_if _ _ _ _ _ _ _ _ (pt_cmpR op_eq (pv 1) pe_str (nomark _)) (@pss_one _ _ _ (@ps_ret _ _ _ _ (pcl HJ HX (hr.mono (by lia)) rfl (@pa1 _ _ _ (pv 0) (by rfl))))) pss_nil) (@pss_cons _ _ _ _ _ (@ps_if _ _ _ _ _ _ _ _ (pt_cmpR op_eq (pv 1) pe_str (nomark _)) (@pss_one _ _ _ (@ps_ret _ _ _ _ (pcl JF Jv (hr.mono (by lia)) rfl (@pa1 _ _ _ (pv 0) (by rfl))))) pss_nil) (@pss_one _ _ _ (@ps_ret _ _ _ _ (pcl HM Ij (hr.mono (by lia)) rfl (@pa1 _ _ _ (pv 0) (by rfl)))))))),?_⟩;refine ⟨_,rfl,rfl,_,rfl,?_⟩
 cases pt with
 | word z =>
  obtain rfl:=cD hx;exact bB ⟨_,rfl,q H (Same.refl H)⟩
 | num i hi =>
  obtain rfl:=uf hx;exact iteN (am (by decide +kernel)) ⟨_,rfl,rfl,_,rfl,iteN (am (by decide +kernel)) ⟨_,rfl,rfl,_,rfl,iteN (am (by decide +kernel)) ⟨_,rfl,i,rfl,hi,q H (Same.refl H)⟩⟩⟩
 | kind d ws hk =>
  exact iteN (am (by decide +kernel)) ⟨_,rfl,rfl,_,rfl,bB ⟨_,rfl,d,x,ws,rfl,hx,hk,hz,q⟩⟩
theorem ib {z:Str} (h:blk z=0):ay [z]=z:=b8 (sv h)
theorem iE:∀ {zs:List Str},(∀ z∈zs,NmC z)→(zs.map fun z=>[z]).map ay=zs
 | [],_=>rfl
 | z :: zs,h=>by
  rw [List.map_cons,List.map_cons,ib (h z List.mem_cons_self).bk,iE fun x hx=>h x (List.mem_cons_of_mem _ hx)]
theorem kZ (w:Str) (ws:List Str):(ay ws).length+2≤(ay (brW w ws)).length∧w.length+2≤(ay (brW w ws)).length:=by
 rw [← aj,← aj];show (aX ws).length+2≤(aX (brW w ws)).length∧w.length+2≤(aX (brW w ws)).length;unfold brW;rw [bu,bu,bH w ["("],cH.1,cH.2.1];simp only [List.length_append,List.length_cons,List.length_nil,aj];lia
theorem qe (w:Str) (ws:List Str):w.length+2+(ay ws).length≤(ay ([w,":"]++ws)).length:=by
 rw [← aj,← aj];show _+_+(aX ws).length≤(aX _).length;rw [bu,bH w [":"],cH.2.2.2.1];simp only [List.length_append,List.length_cons,List.length_nil,aj];lia
theorem mH (T:Tx K mg ad) (n:Nat) {f ff:Addr} {fd fdf:FuncData} (HJ:Gn K mg "kind_text" cf ["kind"] f fd) (JI:Gn K mg "form_text" cg ["sort","thing"] ff fdf) (HX:FnOk P w K mg base CX0 (3*n+3) f fd ["kind"] (sKT K n)) (JC:FnOk P w K mg base CX0 (3*n+4+1) ff fdf ["sort","thing"] (sFT K n)):FnOk P w K mg base CX0 (3*(n+1)+3) f fd ["kind"] (sKT K (n+1)):=by
 obtain ⟨f2,d2,HI⟩:=T.in_brackets;have Ia:=eO (P:=P) (w:=w) (base:=base) T HI;obtain ⟨f4,d4,HZ⟩:=T.pair_text;have IC:=gB (P:=P) (w:=w) (base:=base) T HZ;obtain ⟨f5,d5,HG⟩:=T.most_exchanged;have Ih:=cZ (P:=P) (w:=w) (base:=base) T HG;refine HJ.F.ok gG (fun vs H Q E h=>?_) (fun cdv A outer s H vs Q E hr h=>?_)
 ·obtain ⟨d,x,ws,rfl,_⟩:=h
  rfl
 obtain ⟨d,x,ws,rfl,hx,kw,hz,q⟩:=h;refine ⟨_,(@pss_cons _ _ _ _ _ (@ps_set _ _ 1 _ _ _ _ gG.nd rfl (Or.inl rfl) (@pi1 K _ _ _ _ _ _ _ rfl (pv 0)) (by rfl) (by first | exact .inl rfl | exact .inr rfl | assumption)) (@pss_cons _ _ _ _ _ (@ps_if _ _ _ _ _ _ _ _ (pt_cmpR op_eq (pv 1) pe_str (nomark _)) (@pss_one _ _ _ (@ps_ret _ _ _ _ (pcl HI Ia (hr.mono (by lia)) rfl (@pa2 _ _ _ _ _ (pv 1) (pe_callTy (j4 (K:=K) rfl) rfl T.z_list boot_list (@pa1 _ _ _ (@pi1 K _ _ _ _ _ _ _ rfl (pv 0)) (by rfl))) (by rfl) (by rfl))))) pss_nil) (@pss_cons _ _ _ _ _ (@ps_if _ _ _ _ _ _ _ _ (pt_cmpR op_eq (pv 1) pe_str (nomark _)) (@pss_one _ _ _ (@ps_ret _ _ _ _ (pcl HI Ia (hr.mono (by lia)) rfl (@pa2 _ _ _ _ _ (pv 1) (pe_comp rfl (cs0 (NL:=["name","inner"]) rfl (by decide +kernel) (by decide +kernel)) (bG (K:=K) rfl (@pi1 K _ _ _ _ _ _ _ rfl (pv 0))) (fun _ _ _ _=>(ft (K:=K) (n:=2) rfl rfl (aC (ak (i:=0) (show List.Nodup (α:=Str) ["name","inner"] by decide +kernel) rfl (Or.inl rfl)) (aC (ak (i:=1) (show List.Nodup (α:=Str) ["name","inner"] by decide +kernel) rfl (Or.inl rfl)) cu)))) (fun _ _ _ _=>(pcl HZ IC (hr.mono (by lia)) rfl (@pa2 _ _ _ _ _ (pv 0) (pcl HJ HX (hr.mono (by lia)) rfl (@pa1 _ _ _ (pv 1) (by rfl))) (by rfl) (by rfl))))) (by rfl) (by rfl))))) pss_nil) (@pss_one _ _ _ (@ps_ret _ _ _ _ (pcl JI JC (hr.mono (by lia)) rfl (@pa2 _ _ _ _ _ pe_str (@pe_op _ _ _ _ _ _ _ _ (ji (K:=K) rfl) (@pe_tupPK _ K _ _ _ _ rfl (@pa1 _ _ _ (pv 1) (by rfl))) (pcl HG Ih (hr.mono (by lia)) rfl (@pa2 _ _ _ _ _ (pv 1) (pe_slice (eC (K:=K) rfl) (pv 0) (po_some pe_int) cw) (by rfl) (by rfl)))) (by rfl) (by rfl)))))))),?_⟩;have nm:∀ {i:Int},i.natAbs < 10 ^ 60→ay [aL i]=aL i:=fun hi=>ib (vM hi);have key:(∃ (wd:Str) (ds:List Dt) (fs:List Str) (wss:List (List Str)),d=.tup (.str wd :: ds)∧ws=brW wd (aW wss)∧NmC wd∧¬ wd= "choice" ∧¬ wd= "record" ∧aT "kind" wd=some fs∧(wd= "list" →ds.length=2)∧(wd= "rows" →ds.length=3)∧(exL wd ds).length=fs.length∧wss.length=fs.length ∧
   (∀ (i:Nat) (s:Str) (d:Dt) (z:Str),fs[i]?=some s→(exL wd ds)[i]?=some d→(wss.map ay)[i]?=some z→PT n s d z))∨(∃ zs:List Str,d=.tup [.str "choice",.tup (zs.map Dt.str)]∧ws=brW "choice" (aW (zs.map fun z=>[z]))∧zs.length≤8∧∀ z∈zs,NmC z) ∨
   ∃ gs:List G3,d=.tup [.str "record",.tup (gs.map pr3)]∧ws=brW "record" (aW (gs.map fw3))∧gs.length≤8∧(∀ g∈gs,NmC g.1)∧∀ g∈gs,KW n g.2.1 g.2.2:=by
  cases kw with
  | number _ i j hi hj =>
   refine .inl ⟨"number",[.int i,.int j],["number","number"],[[aL i],[aL j]],rfl,rfl,aY _ (by simp),by decide +kernel,by decide +kernel,by decide +kernel,fun _=>rfl,fun e=>absurd e (by decide +kernel),rfl,rfl,fun k s d z h1 h2 h3=>?_⟩
   match k,h1,h2,h3 with
   | 0,h1,h2,h3=>cases h1;cases h2;cases h3;rw [nm hi];exact .num n i hi
   | 1,h1,h2,h3=>cases h1;cases h2;cases h3;rw [nm hj];exact .num n j hj
  | text _ i hi =>
   refine .inl ⟨"text",[.int i],["number"],[[aL i]],rfl,rfl,aY _ (by simp),by decide +kernel,by decide +kernel,by decide +kernel,fun e=>absurd e (by decide +kernel),fun e=>absurd e (by decide +kernel),rfl,rfl,fun k s d z h1 h2 h3=>?_⟩
   match k,h1,h2,h3 with
   | 0,h1,h2,h3=>cases h1;cases h2;cases h3;rw [nm hi];exact .num n i hi
  | @list _ k0 kw i hk hi =>
   refine .inl ⟨"list",[k0,.int i],["number","kind"],[[aL i],kw],rfl,rfl,aY _ (by simp),by decide +kernel,by decide +kernel,by decide +kernel,fun _=>rfl,fun e=>absurd e (by decide +kernel),rfl,rfl,fun k s d z h1 h2 h3=>?_⟩
   match k,h1,h2,h3 with
   | 0,h1,h2,h3=>cases h1;cases h2;cases h3;rw [nm hi];exact .num n i hi
   | 1,h1,h2,h3=>cases h1;cases h2;cases h3;exact .kind n _ _ hk
  | @rows _ z0 k0 kw i hz0 hk hi =>
   refine .inl ⟨"rows",[.str z0,k0,.int i],["word","number","kind"],[[z0],[aL i],kw],rfl,rfl,aY _ (by simp),by decide +kernel,by decide +kernel,by decide +kernel,fun e=>absurd e (by decide +kernel),fun _=>rfl,rfl,rfl,fun k s d z h1 h2 h3=>?_⟩
   match k,h1,h2,h3 with
   | 0,h1,h2,h3=>cases h1;cases h2;cases h3;rw [ib hz0.bk];exact .word n z0
   | 1,h1,h2,h3=>cases h1;cases h2;cases h3;rw [nm hi];exact .num n i hi
   | 2,h1,h2,h3=>cases h1;cases h2;cases h3;exact .kind n _ _ hk
  | choice _ zs h0 h8 hzs=>exact .inr (.inl ⟨zs,rfl,rfl,h8,hzs⟩)
  | @rcd _ gs h8 hzs hk=>exact .inr (.inr ⟨gs,rfl,rfl,h8,hzs,hk⟩)
 rcases key with ⟨wd,ds,fs,wss,rfl,rfl,hw,n1,n2,hf,k2,k3,l1,l2,hp⟩ | ⟨zs,rfl,rfl,h8,hzs⟩ | ⟨gs,rfl,rfl,h8,hzs,hk⟩
 ·have et:=fS hw.bk wss;refine ⟨_,rfl,_,_,_,hx,rfl,at0 _ _,isS ?_⟩;refine ⟨_,rfl,rfl,_,rfl,iteN (am n1) ⟨_,rfl,rfl,_,rfl,iteN (am n2) ⟨_,rfl,[.str wd],.cons .str .nil,sz1,fun v2 H1 g1 hv2=>?_⟩⟩⟩;refine ⟨_,rfl,_,rfl,_,rfl,_,hx.same g1,fun v3 H2 g2 hv3=>?_⟩;rw [vN] at hv3;refine ⟨wd,ds,v3,rfl,hv3,k2,k3,fun v4 H3 g3 hv4=>?_⟩;have el:(exL wd ds).length≤6:=by rw [l1];exact ia hf
  refine ⟨[.str wd],exL wd ds,(hv2.same g2).same g3,hv4,bU (by simp only [List.length_cons,List.length_nil];lia),fun v5 H4 g4 hv5=>?_⟩;refine ⟨"kind",wd,exL wd ds,fs,wss.map ay,v5,rfl,hv5,hf,l1,by rw [List.length_map];exact l2,hp,?_,fun H5 g5=>?_⟩
  ·unfold kY;rw [et];exact hz
  ·unfold kY;rw [et];exact q H5 ((((g1.trans g2).trans g3).trans g4).trans g5)
 ·have et:=fS (w:= "choice") (by decide +kernel) (zs.map fun z=>[z]);have tl:=(kZ "choice" (aW (zs.map fun z=>[z]))).1;rw [← jG] at tl;rw [iE hzs] at et tl;refine ⟨_,rfl,_,_,_,hx,rfl,at0 _ _,isS ?_⟩;refine ⟨_,rfl,rfl,_,rfl,bB ⟨_,rfl,_,rfl,_,_,_,hx,rfl,rfl,fun v2 hv2=>?_⟩⟩;obtain ⟨b,xs,rfl,hb,_,rb⟩:=hv2.unref;obtain rfl:=bV rb;refine ⟨b,_,rfl,.inr hb,fun l hl=>?_⟩;refine ⟨_,l,zs,rfl,SqL.of aa,by decide +kernel,by lia,by lia,?_⟩;rw [et];exact q _ (ah hl _)
 ·have et:=fS (w:= "record") (by decide +kernel) (gs.map fw3);have tl:=(kZ "record" (aW (gs.map fw3))).1;rw [← jG] at tl;refine ⟨_,rfl,_,_,_,hx,rfl,at0 _ _,isS ?_⟩;refine ⟨_,rfl,rfl,_,rfl,iteN (am (by decide +kernel)) ⟨_,rfl,rfl,_,rfl,bB ⟨_,rfl,_,rfl,_,_,_,hx,rfl,rfl,fun v2 hv2=>?_⟩⟩⟩;obtain ⟨b,xs,rfl,hb,_,rb⟩:=hv2.unref;have lx:=rb.length;rw [List.length_map] at lx;refine ⟨b,rfl,⟨_,hb⟩,fun l hl=>?_⟩;refine dv (K:=K) (xs:=xs) (fun i zs σ H'=>zs=(((gs.map fw3).map ay).take i).map V.str∧Same H H'∧H' l=some (.lst zs)∧∃ w1 w2,σ=[w1,w2]) ⟨rfl,ah hl _,aa,_,_,rfl⟩ (fun i zs σ H' _ p=>p.2.1.tup hb) ?_ ?_
  ·rintro i y zs σ H1 N hy ⟨rfl,g1,f1',w1,w2,rfl⟩ next;obtain ⟨d0,hd0,hdy⟩:=rb.get' hy;rw [List.getElem?_map] at hd0;obtain ⟨g,hg,rfl⟩:=Option.map_eq_some_iff.mp hd0;have hgm:=List.mem_of_getElem? hg;have hz0:((gs.map fw3).map ay)[i]?=some (ay (fw3 g)):=by rw [List.getElem?_map,List.getElem?_map,hg];rfl
   obtain ⟨c,c1,c2,rfl,hc,hc1,hc2⟩:=pY (show IsP K H (.tup [.str g.1,g.2.1]) y from hdy);obtain rfl:=cD hc1;have ml:=PySem.join_mem_le (Str.ofString ", ") _ _ (List.mem_of_getElem? hz0);have tp:g.1.length+2+(ay g.2.2).length≤(ay (fw3 g)).length:=qe g.1 g.2.2;have ep:=qa (hzs g hgm).bk g.2.2;refine ⟨c,_,rfl,g1.tup hc,rfl,_,_,rfl,_,_,rfl,rfl,?_⟩;refine ⟨_,rfl,_,rfl,g.2.1,c2,g.2.2,rfl,hc2.same g1,hk g hgm,by lia,fun H2 g2=>?_⟩;refine ⟨_,_,rfl,by lia,by lia,?_⟩;rw [ep];refine ⟨g2 _ _ f1',?_,next _ _ _ ⟨?_,bD hl (g1.trans g2),aa,_,_,rfl⟩⟩
   ·rw [List.length_map,List.length_take,List.length_map,List.length_map];exact aw (by lia)
   ·rw [List.take_add_one,hz0,List.map_append]
    rfl
  rintro zs σ H1 ⟨rfl,g1,f1',w1,w2,rfl⟩;have ll:((gs.map fw3).map ay).length=gs.length:=by rw [List.length_map,List.length_map]
  rw [List.take_of_length_le (by lia)] at f1';refine ⟨_,l,(gs.map fw3).map ay,rfl,SqL.of f1',by decide +kernel,by lia,by lia,?_⟩;rw [et];exact q H1 g1
theorem ic (T:Tx K mg ad) {f ff fp:Addr} {fd fdf fdp:FuncData} (D:Gn K mg "kind_text" cf ["kind"] f fd) (Df:Gn K mg "form_text" cg ["sort","thing"] ff fdf) (Dp:Gn K mg "part_text" cj ["part","sort"] fp fdp):∀ n,FnOk P w K mg base CX0 (3*n+3) f fd ["kind"] (sKT K n)
 | 0=>bt fun _ _ _ _ h=>by obtain ⟨_,_,_,_,_,kw,_⟩:=h;cases kw
 | n+1=>mH T n D Df (ic T D Df Dp n) (mF T n Df Dp (mG T n Dp D (ic T D Df Dp n)))
theorem uV {a b:TS} {D:Ends} {σ:L2.St} {H:Hp} (h:∀ k:L2.St→Hp→Prop,(∀ σ H,b D σ H→k σ H)→a { D with nx:=k } σ H):FL a b D σ H:=h _ fun _ _ h=>h
def aM (wss:List (List Str)):List Str:=wss.flatMap fun x=>x++[("," : Str)]
theorem ie:∀ (x:List Str) (r:List (List Str)),aM (x :: r)=aW (x :: r)++[("," : Str)]
 | x,[]=>by simp [aM,aW]
 | x,y :: r=>by
  have:=ie y r;show (x++[("," : Str)])++aM (y :: r)=((x++[("," : Str)])++aW (y :: r))++_;rw [this,List.append_assoc (x++[("," : Str)])]
theorem fW (wss:List (List Str)) (x:List Str):aM (wss++[x])=aM wss++(x++[("," : Str)]):=by simp [aM]
theorem vT {α:Type} (l:List α) (a:α):atI (l++[a]) (-1)=some a:=by
 unfold atI ixN;rw [List.length_append,List.length_singleton,if_neg (by decide),if_pos (by lia),show ((-1:Int)+((l.length+1:Nat):Int)).toNat=l.length by lia];simp
theorem uW (l:List V) (a:V):i8 (l++[a]) none (some (-1))=l:=by
 unfold i8 HT.sIx;dsimp only;rw [List.length_append,List.length_singleton,if_pos (by decide),show ((-1:Int)+((l.length+1:Nat):Int)).toNat=l.length by lia];simp
theorem iY {K:PySem.W.Frag} {H:Hp} {l b:Addr} {xs ys:List Str} {Q:VK} (hl:H l=some (.lst (xs.map V.str))) (hb:H b=some (.lst (ys.map V.str))) (hn:xs.length+ys.length≤200000) (q:∀ p H',H p=none→Same H H'→H' p=some (.lst ((xs++ys).map V.str))→Q (.ref p) H'):ICatS K (.ref l) (.ref b) H Q :=
 ⟨l,b,_,_,rfl,rfl,SqL.of hl,SqL.of hb,by rw [List.length_map,List.length_map];exact fV (by lia),fun p hp=>q p _ hp (ah hp _) (by rw [aa,List.map_append])⟩
theorem cx {K:PySem.W.Frag} {H:Hp} {l:Addr} {xs:List Str} (ys:List Str) {Q:VK} (hl:H l=some (.lst (xs.map V.str))) (hn:xs.length+ys.length≤200000) (q:∀ p H',H p=none→Same H H'→H' p=some (.lst ((xs++ys).map V.str))→Q (.ref p) H'):∀ b,H b=none→ICatS K (.ref l) (.ref b) (upd H b (.lst (ys.map V.str))) Q:=fun b hb =>
 iY (by rw [ae (ag hl hb)];exact hl) aa hn fun p H' hp g h=>q p H' (by
  cases c:H p with
  | none=>rfl
  | some o=>rw [ah hb _ _ _ c] at hp;cases hp) ((ah hb _).trans g) h
theorem none_of {H H':Hp} {p:Addr} (g:Same H H') (h:H' p=none):H p=none:=by
 cases c:H p with
 | none=>rfl
 | some o=>rw [g _ _ c] at h;cases h
theorem qU {x:List Str}:∀ {wss:List (List Str)},x∈wss→bv x≤bv (aW wss)
 | [y],h=>by rw [List.mem_singleton.mp h];exact Nat.le_refl _
 | y :: z :: r,h=>by
  show _≤bv ((y++[("," : Str)])++aW (z :: r));rw [ce,ce];rcases List.mem_cons.mp h with rfl | h
  ·lia
  ·have:=qU h;lia
theorem sD (wss:List (List Str)) (i:Nat):(aM (wss.take i)).length≤(aW wss).length+1:=by
 have h:(aM (wss.take i)).length≤(aM wss).length:=by
  conv=>rhs;rw [← List.take_append_drop i wss]
  unfold aM;rw [List.flatMap_append,List.length_append];lia
 cases wss with
 | nil=>simp [aM]
 | cons x r =>
  rw [ie,List.length_append] at h;exact h
def AM (K:PySem.W.Frag) (n:Nat):Sp:=fun vs H Q _=>∃ (d:Dt) (x:V) (ws:List Str),vs=[x]∧IsP K H d x∧KW n d ws∧bv ws≤50000∧∀ l H',H l=none→Same H H'→H' l=some (.lst (ws.map V.str))→Q (.ref l) H'
theorem gC (T:Tx K mg ad) (n:Nat) {f:Addr} {fd:FuncData} (Hu:Gn K mg "_law_kind_words" bz ["kind"] f fd) (HE:FnOk P w K mg base CX0 (n+2) f fd ["kind"] (AM K n)):FnOk P w K mg base CX0 (n+3) f fd ["kind"] (AM K (n+1)):=by
 refine Hu.F.ok ai (fun vs H Q E h=>?_) (fun cdv A outer s H vs Q E hr h=>?_)
 ·obtain ⟨d,x,ws,rfl,_⟩:=h
  rfl
 obtain ⟨d,x,ws,rfl,hx,kw,hz,q⟩:=h;refine ⟨_,(@pss_cons _ _ _ _ _ (@ps_set _ _ 1 _ _ _ _ ai.nd rfl (Or.inl rfl) (@pi1 K _ _ _ _ _ _ _ rfl (pv 0)) (by rfl) (by first | exact .inl rfl | exact .inr rfl | assumption)) (@pss_cons _ _ _ _ _ (@ps_set _ _ 2 _ _ _ _ ai.nd rfl (Or.inl rfl) (@aG _ _ _ _ (@pa2 _ _ _ _ _ (pv 1) pe_str (by rfl) (by rfl))) (by rfl) (by first | exact .inl rfl | exact .inr rfl | assumption)) (@pss_cons _ _ _ _ _ (@ps_if _ _ _ _ _ _ _ _ (pt_cmpR op_eq (pv 1) pe_str (nomark _)) (@pss_one _ _ _ (cC PassesOwn.never rfl (bG (K:=K) rfl (@pi1 K _ _ _ _ _ _ _ rfl (pv 0))) (lf rfl (aC (ak (i:=3) ai.nd rfl (Or.inl rfl)) (aC (ak (i:=4) ai.nd rfl (Or.inl rfl)) cu)))
    (@pss_one _ _ _ (@ps_set _ _ 2 _ _ _ _ ai.nd rfl (Or.inl rfl) (@pe_op _ _ _ _ _ _ _ _ (be (K:=K) rfl) (@pe_op _ _ _ _ _ _ _ _ (be (K:=K) rfl) (@pe_op _ _ _ _ _ _ _ _ (be (K:=K) rfl) (pv 2) (@aG _ _ _ _ (@pa2 _ _ _ _ _ (pv 3) pe_str (by rfl) (by rfl)))) (pcl Hu HE (hr.mono (by lia)) rfl (@pa1 _ _ _ (pv 4) (by rfl)))) (@aG _ _ _ _ (@pa1 _ _ _ pe_str (by rfl)))) (by rfl) (by first | exact .inl rfl | exact .inr rfl | assumption))))) (@pss_one _ _ _ (@ps_if _ _ _ _ _ _ _ _ (pt_cmpR op_eq (pv 1) pe_str (nomark _)) (@pss_one _ _ _ (cC PassesOwn.never rfl (bG (K:=K) rfl (@pi1 K _ _ _ _ _ _ _ rfl (pv 0))) (ak (i:=3) ai.nd rfl (Or.inl rfl))
    (@pss_one _ _ _ (@ps_set _ _ 2 _ _ _ _ ai.nd rfl (Or.inl rfl) (@pe_op _ _ _ _ _ _ _ _ (be (K:=K) rfl) (pv 2) (@aG _ _ _ _ (@pa2 _ _ _ _ _ (pv 3) pe_str (by rfl) (by rfl)))) (by rfl) (by first | exact .inl rfl | exact .inr rfl | assumption))))) (@pss_one _ _ _ (@ps_if _ _ _ _ _ _ _ _ (pt_cmpR op_eq (pv 1) pe_str (nomark _)) (@pss_one _ _ _ (@ps_set _ _ 2 _ _ _ _ ai.nd rfl (Or.inl rfl) (@pe_op _ _ _ _ _ _ _ _ (be (K:=K) rfl) (@pe_op _ _ _ _ _ _ _ _ (be (K:=K) rfl) (@pe_op _ _ _ _ _ _ _ _ (be (K:=K) rfl) (pv 2) (@aG _ _ _ _ (@pa2 _ _ _ _ _ (pe_callTy cv rfl T.z_str boot_str (@pa1 _ _ _ (@pi1 K _ _ _ _ _ _ _ rfl (pv 0)) (by rfl))) pe_str (by rfl) (by rfl)))) (pcl Hu HE (hr.mono (by lia)) rfl (@pa1 _ _ _ (@pi1 K _ _ _ _ _ _ _ rfl (pv 0)) (by rfl)))) (@aG _ _ _ _ (@pa1 _ _ _ pe_str (by rfl)))) (by rfl) (by first | exact .inl rfl | exact .inr rfl | assumption))) (@pss_one _ _ _ (@ps_if _ _ _ _ _ _ _ _ (pt_cmpR op_eq (pv 1) pe_str (nomark _)) (@pss_one _ _ _ (@ps_set _ _ 2 _ _ _ _ ai.nd rfl (Or.inl rfl) (@pe_op _ _ _ _ _ _ _ _ (be (K:=K) rfl) (@pe_op _ _ _ _ _ _ _ _ (be (K:=K) rfl) (@pe_op _ _ _ _ _ _ _ _ (be (K:=K) rfl) (pv 2) (@aG _ _ _ _ (@bo _ _ _ _ _ (@pi1 K _ _ _ _ _ _ _ rfl (pv 0)) (@pa3 _ _ _ _ _ _ _ pe_str (pe_callTy cv rfl T.z_str boot_str (@pa1 _ _ _ (@pi1 K _ _ _ _ _ _ _ rfl (pv 0)) (by rfl))) pe_str (by rfl) (by rfl) (by rfl)) (by rfl)))) (pcl Hu HE (hr.mono (by lia)) rfl (@pa1 _ _ _ (@pi1 K _ _ _ _ _ _ _ rfl (pv 0)) (by rfl)))) (@aG _ _ _ _ (@pa1 _ _ _ pe_str (by rfl)))) (by rfl) (by first | exact .inl rfl | exact .inr rfl | assumption))) (@pss_one _ _ _ (cC PassesOwn.never rfl (bG (K:=K) rfl (pe_slice (eC (K:=K) rfl) (pv 0) (po_some pe_int) cw)) (ak (i:=5) ai.nd rfl (Or.inl rfl))
    (@pss_one _ _ _ (@ps_set _ _ 2 _ _ _ _ ai.nd rfl (Or.inl rfl) (@pe_op _ _ _ _ _ _ _ _ (be (K:=K) rfl) (pv 2) (@aG _ _ _ _ (@pa2 _ _ _ _ _ (pe_callTy cv rfl T.z_str boot_str (@pa1 _ _ _ (pv 5) (by rfl))) pe_str (by rfl) (by rfl)))) (by rfl) (by first | exact .inl rfl | exact .inr rfl | assumption)))))))))))) (@pss_cons _ _ _ _ _ (@ps_if _ _ _ _ _ _ _ _ (pt_cmpR op_eq (@pe_ix _ _ _ _ _ _ _ (aU (K:=K) rfl) (pv 2) (@pe_un _ _ _ _ _ _ un_neg pe_int) (fun _ _=>rfl)) pe_str (nomark _)) (@pss_one _ _ _ (@ps_set _ _ 2 _ _ _ _ ai.nd rfl (Or.inl rfl) (pe_slice (nG (K:=K) rfl) (pv 2) cw (po_some (@pe_un _ _ _ _ _ _ un_neg pe_int))) (by rfl) (by first | exact .inl rfl | exact .inr rfl | assumption))) pss_nil) (@pss_one _ _ _ (@ps_ret _ _ _ _ (@pe_op _ _ _ _ _ _ _ _ (be (K:=K) rfl) (pv 2) (@aG _ _ _ _ (@pa1 _ _ _ pe_str (by rfl)))))))))),?_⟩
 obtain ⟨wd,ds,wss,hd,rfl,alt⟩:∃ wd ds wss,d=.tup (.str wd :: ds)∧ws=brW wd (aW wss)∧((wd= "record" ∧∃ gs:List G3,ds=[.tup (gs.map pr3)]∧wss=gs.map fw3∧∀ g∈gs,KW n g.2.1 g.2.2)∨(wd= "choice" ∧∃ zs:List Str,ds=[.tup (zs.map Dt.str)]∧wss=zs.map fun z=>[z]) ∨
   (wd= "list" ∧∃ k0 kw i,ds=[k0,.int i]∧wss=[[aL i],kw]∧KW n k0 kw∧i.natAbs < 10 ^ 60)∨(wd= "rows" ∧∃ z k0 kw i,ds=[.str z,k0,.int i]∧wss=[[z],[aL i],kw]∧KW n k0 kw∧i.natAbs < 10 ^ 60) ∨
   ((¬ wd= "record" ∧¬ wd= "choice" ∧¬ wd= "list" ∧¬ wd= "rows")∧∃ js:List Int,ds=js.map Dt.int∧wss=js.map (fun i=>[aL i])∧∀ i∈js,i.natAbs < 10 ^ 60)):=by
  cases kw with
  | number _ i j hi hj=>exact ⟨_,_,[[aL i],[aL j]],rfl,rfl,.inr (.inr (.inr (.inr ⟨by decide +kernel,[i,j],rfl,rfl,fun k hk=>by
    rcases List.mem_cons.mp hk with rfl | hk
    ·exact hi
    ·rw [List.mem_singleton.mp hk];exact hj⟩)))⟩
  | text _ i hi=>exact ⟨_,_,[[aL i]],rfl,rfl,.inr (.inr (.inr (.inr ⟨by decide +kernel,[i],rfl,rfl,fun k hk=>by rw [List.mem_singleton.mp hk];exact hi⟩)))⟩
  | list hk hi=>exact ⟨_,_,_,rfl,rfl,.inr (.inr (.inl ⟨rfl,_,_,_,rfl,rfl,hk,hi⟩))⟩
  | rows hz0 hk hi=>exact ⟨_,_,_,rfl,rfl,.inr (.inr (.inr (.inl ⟨rfl,_,_,_,_,rfl,rfl,hk,hi⟩)))⟩
  | choice _ zs h0 h8 hzs=>exact ⟨_,_,_,rfl,rfl,.inr (.inl ⟨rfl,zs,rfl,rfl⟩)⟩
  | rcd h8 hzs hk=>exact ⟨_,_,_,rfl,rfl,.inl ⟨rfl,_,rfl,rfl,hk⟩⟩
 have wl:=dD (brW wd (aW wss));rw [mD] at wl;refine ⟨_,rfl,_,_,_,(hd ▸ hx),rfl,at0 _ _,isS ?_⟩;refine ⟨_,rfl,sz2,fun l hl=>?_⟩;dsimp only [i0];refine uV fun k hk=>?_;have fin:∀ (l':Addr) (H':Hp) (v3 v4 v5:Option V),Same H H'→H l'=none→H' l'=some (.lst (([wd,"("]++aM wss).map V.str))→k [some x,some (.str wd),some (.ref l'),v3,v4,v5] H':=fun l' H' v3 v4 v5 g hn hl'=>hk _ _ (by
  have ret:∀ (l1:Addr) (H1:Hp),Same H H1→H1 l1=some (.lst (([wd,"("]++aW wss).map V.str))→FN (tOp (tI K) (sG 2) (FW (ix (tC (V.str (Str.ofString ")"))) sQ))) { nx:=fun x H'=>Q V.non H',rt:=Q } [some x,some (V.str wd),some (V.ref l1),v3,v4,v5] H1:=fun l1 H1 g1 h1 =>
   ⟨_,rfl,sz1,cx [(")" : Str)] h1 (by simp only [List.length_append,List.length_cons,List.length_nil];lia) fun p H2 hp g2 h2=>q p H2 (none_of g1 hp) (g1.trans g2) h2⟩
  cases wss with
  | nil=>exact ⟨_,rfl,_,rfl,l',_,_,_,rfl,rfl,SqL.of hl',rfl,rfl,_,rfl,iteN (am (by decide +kernel)) (ret l' H' g hl')⟩
  | cons y r =>
   rw [ie,← List.append_assoc,List.map_append] at hl';refine ⟨_,rfl,_,rfl,l',_,_,_,rfl,rfl,SqL.of hl',vT _ _,rfl,_,rfl,bB ⟨_,rfl,_,rfl,_,rfl,l',_,rfl,SqL.of hl',fun p hp=>?_⟩⟩;refine ret p _ (g.trans (ah hp _)) ?_;rw [aa];exact congrArg (fun z=>some (HO.lst z)) (uW _ _))
 have hx':IsP K H (.tup (.str wd :: ds)) x:=hd ▸ hx;have g1:Same H (upd H l (.lst [V.str wd,V.str "("])):=ah hl _;have h1:(upd H l (.lst [V.str wd,V.str "("])) l=some (.lst (([wd,"("]++aM (wss.take 0)).map V.str)):=aa
 revert g1 h1
 generalize upd H l (.lst [V.str wd,V.str "("])=H1
 intro g1 h1;have win:∀ {y:List Str},y∈wss→bv y≤50000:=fun hy=>by
  have:=qU hy;rw [dQ] at hz;lia
 have cl:=sD wss;have sl:(aW wss).length≤100000:=by lia
 have size:∀ (i:Nat) (m:Nat),m≤10→([wd,"("]++aM (wss.take i)).length+m≤200000:=fun i m hm=>by
  have:=cl i;simp only [List.length_append,List.length_cons,List.length_nil];lia
 refine ⟨_,rfl,rfl,_,rfl,?_⟩;rcases alt with ⟨rfl,gs,rfl,rfl,hk⟩ | ⟨rfl,zs,rfl,rfl⟩ | ⟨rfl,k0,kz,i,rfl,rfl,hk,hi⟩ | ⟨rfl,z,k0,kz,i,rfl,rfl,hk,hi⟩ | ⟨⟨n1,n2,n3,n4⟩,js,rfl,rfl,hjs⟩
 ·refine bB ⟨_,rfl,_,_,_,hx'.same g1,rfl,rfl,fun v2 hv2=>?_⟩;obtain ⟨b,xs,rfl,hb,_,rb⟩:=hv2.unref;refine ⟨b,rfl,⟨_,hb⟩,gh (K:=K) (xs:=xs) (fun i σ H'=>∃ l' v3 v4,Same H1 H'∧H l'=none∧H' l'=some (.lst (([("record" : Str),"("]++aM ((gs.map fw3).take i)).map V.str))∧σ=[some x,some (.str "record"),some (.ref l'),v3,v4,none]) ⟨l,_,_,Same.refl _,hl,h1,rfl⟩ (fun i σ H' _ p=>by obtain ⟨_,_,_,g,_⟩:=p;exact g.tup hb) ?_ ?_⟩
  ·rintro i y σ H2 hy ⟨l',v3,v4,g2,hn,hl',rfl⟩;obtain ⟨d0,hd0,hdy⟩:=rb.get' hy;rw [List.getElem?_map] at hd0;obtain ⟨g,hg,rfl⟩:=Option.map_eq_some_iff.mp hd0;obtain ⟨c,c1,c2,rfl,hc,hc1,hc2⟩:=pY (show IsP K H1 (.tup [.str g.1,g.2.1]) y from hdy);obtain rfl:=cD hc1;have hgm:=List.mem_of_getElem? hg;have tk:(gs.map fw3).take (i+1)=(gs.map fw3).take i++[fw3 g]:=by rw [List.take_add_one,List.getElem?_map,hg];rfl
   have wg:bv g.2.2≤50000:=by
    have:=win (List.mem_map_of_mem (f:=fw3) hgm);rw [ce] at this;lia
   have lg:=dD g.2.2;have ci:=cl i;refine ⟨c,_,rfl,g2.tup hc,rfl,_,_,rfl,_,_,rfl,rfl,?_⟩;refine ⟨_,rfl,_,rfl,sz2,cx [g.1,":"] hl' (size i 2 (by decide)) fun p1 H3 hp1 g3 h3=>?_⟩;refine ⟨_,rfl,g.2.1,c2,g.2.2,rfl,(hc2.same g2).same g3,hk g hgm,wg,fun b1 H4 hb1 g4 h4=>iY (g4 _ _ h3) h4 (by simp only [List.length_append,List.length_cons,List.length_nil];lia) fun p2 H5 hp2 g5 h5=>?_⟩;refine ⟨sz1,cx [("," : Str)] h5 (by simp only [List.length_append,List.length_cons,List.length_nil];lia) fun p3 H6 hp3 g6 h6=>?_⟩;have gg:=((g2.trans g3).trans g4).trans (g5.trans g6);refine ⟨p3,_,_,gg,none_of (g1.trans (((g2.trans g3).trans g4).trans g5)) hp3,?_,rfl⟩;rw [h6,tk,fW];simp
  ·rintro σ H2 ⟨l',v3,v4,g2,hn,hl',rfl⟩;have lx:=rb.length;rw [List.length_map] at lx;rw [List.take_of_length_le (by rw [List.length_map];lia)] at hl';exact fin l' H2 _ _ _ (g1.trans g2) hn hl'
 ·refine iteN (am (by decide +kernel)) ⟨_,rfl,rfl,_,rfl,bB ⟨_,rfl,_,_,_,hx'.same g1,rfl,rfl,fun v2 hv2=>?_⟩⟩;obtain ⟨b,xs,rfl,hb,_,rb⟩:=hv2.unref;obtain rfl:=bV rb;refine ⟨b,rfl,⟨_,hb⟩,gh (K:=K) (xs:=zs.map V.str) (fun i σ H'=>∃ l' v3,Same H1 H'∧H l'=none∧H' l'=some (.lst (([("choice" : Str),"("]++aM ((zs.map fun z=>[z]).take i)).map V.str))∧σ=[some x,some (.str "choice"),some (.ref l'),v3,none,none]) ⟨l,_,Same.refl _,hl,h1,rfl⟩ (fun i σ H' _ p=>by obtain ⟨_,_,g,_⟩:=p;exact g.tup hb) ?_ ?_⟩
  ·rintro i y σ H2 hy ⟨l',v3,g2,hn,hl',rfl⟩;rw [List.getElem?_map] at hy;obtain ⟨z,hz',rfl⟩:=Option.map_eq_some_iff.mp hy;have tk:(zs.map fun z=>[z]).take (i+1)=(zs.map fun z=>[z]).take i++[[z]]:=by rw [List.take_add_one,List.getElem?_map,hz'];rfl
   refine ⟨_,rfl,_,rfl,sz2,cx [z,","] hl' (size i 2 (by decide)) fun p1 H3 hp1 g3 h3=>?_⟩;refine ⟨p1,_,g2.trans g3,none_of (g1.trans g2) hp1,?_,rfl⟩;rw [h3,tk,fW];simp
  ·rintro σ H2 ⟨l',v3,g2,hn,hl',rfl⟩;rw [List.take_of_length_le (by rw [List.length_map,List.length_map];exact Nat.le_refl _)] at hl';exact fin l' H2 _ _ _ (g1.trans g2) hn hl'
 ·have wk:=win (y:=kz) (by simp);have lk:=dD kz;refine iteN (am (by decide +kernel)) ⟨_,rfl,rfl,_,rfl,iteN (am (by decide +kernel)) ⟨_,rfl,rfl,_,rfl,bB ?_⟩⟩;refine ⟨_,rfl,_,rfl,_,_,_,hx'.same g1,rfl,rfl,isI ?_⟩;refine ⟨i,rfl,qS (Nat.lt_of_lt_of_le hi (by decide +kernel)),sz2,cx [aL i,","] h1 (size 0 2 (by decide)) fun p1 H3 hp1 g3 h3=>?_⟩;refine ⟨_,rfl,_,_,_,(hx'.same g1).same g3,rfl,rfl,fun v3 hv3=>?_⟩;refine ⟨k0,v3,kz,rfl,hv3,hk,wk,fun b1 H4 hb1 g4 h4=>iY (g4 _ _ h3) h4 (by simp only [List.length_append,List.length_cons,List.length_nil,aM,List.take_zero,List.flatMap_nil];lia) fun p2 H5 hp2 g5 h5=>?_⟩;refine ⟨sz1,cx [("," : Str)] h5 (by simp only [List.length_append,List.length_cons,List.length_nil,aM,List.take_zero,List.flatMap_nil];lia) fun p3 H6 hp3 g6 h6=>?_⟩;refine fin p3 H6 _ _ _ (g1.trans ((g3.trans g4).trans (g5.trans g6))) (none_of (g1.trans ((g3.trans g4).trans g5)) hp3) ?_;rw [h6];simp [aM]
 ·have wk:=win (y:=kz) (by simp);have lk:=dD kz;refine iteN (am (by decide +kernel)) ⟨_,rfl,rfl,_,rfl,iteN (am (by decide +kernel)) ⟨_,rfl,rfl,_,rfl,iteN (am (by decide +kernel)) ⟨_,rfl,rfl,_,rfl,bB ?_⟩⟩⟩;refine ⟨_,rfl,_,rfl,_,_,_,hx'.same g1,rfl,rfl,isS ?_⟩;refine ⟨_,rfl,_,_,_,hx'.same g1,rfl,rfl,isI ?_⟩;refine ⟨i,rfl,qS (Nat.lt_of_lt_of_le hi (by decide +kernel)),(by show 4≤sizeLine;decide),cx [z,",",aL i,","] h1 (size 0 4 (by decide)) fun p1 H3 hp1 g3 h3=>?_⟩;refine ⟨_,rfl,_,_,_,(hx'.same g1).same g3,rfl,rfl,fun v3 hv3=>?_⟩;refine ⟨k0,v3,kz,rfl,hv3,hk,wk,fun b1 H4 hb1 g4 h4=>iY (g4 _ _ h3) h4 (by simp only [List.length_append,List.length_cons,List.length_nil,aM,List.take_zero,List.flatMap_nil];lia) fun p2 H5 hp2 g5 h5=>?_⟩;refine ⟨sz1,cx [("," : Str)] h5 (by simp only [List.length_append,List.length_cons,List.length_nil,aM,List.take_zero,List.flatMap_nil];lia) fun p3 H6 hp3 g6 h6=>?_⟩;refine fin p3 H6 _ _ _ (g1.trans ((g3.trans g4).trans (g5.trans g6))) (none_of (g1.trans ((g3.trans g4).trans g5)) hp3) ?_;rw [h6];simp [aM]
 ·refine iteN (am n1) ⟨_,rfl,rfl,_,rfl,iteN (am n2) ⟨_,rfl,rfl,_,rfl,iteN (am n3) ⟨_,rfl,rfl,_,rfl,iteN (am n4) ?_⟩⟩⟩;refine ⟨_,rfl,_,rfl,_,hx'.same g1,fun v2 H2 g2 hv2=>?_⟩;rw [vN] at hv2;obtain ⟨b,xs,rfl,hb,_,rb⟩:=hv2.unref;refine ⟨b,rfl,⟨_,hb⟩,gh (K:=K) (xs:=xs) (fun i σ H'=>∃ l' v5,Same H2 H'∧H l'=none∧H' l'=some (.lst (([wd,"("]++aM ((js.map fun i=>[aL i]).take i)).map V.str))∧σ=[some x,some (.str wd),some (.ref l'),none,none,v5]) ⟨l,_,Same.refl _,hl,g2 _ _ h1,rfl⟩ (fun i σ H' _ p=>by obtain ⟨_,_,g,_⟩:=p;exact g.tup hb) ?_ ?_⟩
  ·rintro i y σ H3 hy ⟨l',v5,g3,hn,hl',rfl⟩;obtain ⟨d0,hd0,hdy⟩:=rb.get' hy;rw [List.getElem?_map] at hd0;obtain ⟨j,hj,rfl⟩:=Option.map_eq_some_iff.mp hd0;obtain rfl:=uf hdy;have tk:(js.map fun i=>[aL i]).take (i+1)=(js.map fun i=>[aL i]).take i++[[aL j]]:=by rw [List.take_add_one,List.getElem?_map,hj];rfl
   refine ⟨_,rfl,_,rfl,j,rfl,qS (Nat.lt_of_lt_of_le (hjs j (List.mem_of_getElem? hj)) (by decide +kernel)),sz2,cx [aL j,","] hl' (size i 2 (by decide)) fun p1 H4 hp1 g4 h4=>?_⟩;refine ⟨p1,_,g3.trans g4,none_of ((g1.trans g2).trans g3) hp1,?_,rfl⟩;rw [h4,tk,fW];simp
  ·rintro σ H3 ⟨l',v5,g3,hn,hl',rfl⟩;have lx:=rb.length;rw [List.length_map] at lx;rw [List.take_of_length_le (by rw [List.length_map];lia)] at hl';exact fin l' H3 _ _ _ ((g1.trans g2).trans g3) hn hl'
theorem qV (T:Tx K mg ad) {f:Addr} {fd:FuncData} (D:Gn K mg "_law_kind_words" bz ["kind"] f fd):∀ n,FnOk P w K mg base CX0 (n+2) f fd ["kind"] (AM K n)
 | 0=>bt fun _ _ _ _ h=>by obtain ⟨_,_,_,_,_,kw,_⟩:=h;cases kw
 | n+1=>gC T n D (qV T D n)
def bw (p:Str×Nat):Str:=p.1++bW (List.replicate p.2 32)
theorem jV:∀ zs:List Str,(Str.join (Str.ofString "") zs).cps.toList=zs.flatMap fun z=>z.cps.toList
 | []=>rfl
 | [x]=>by simp [Str.join]
 | x :: y :: r=>by
  have:=jV (y :: r);rw [PyProof.Rows.join_cons_cons,bO,bO,this];simp [show (Str.ofString "").cps.toList=[] from rfl]
theorem ig:∀ (ws:List Str) (bs:List Nat),(((ws.zip bs).map bw).flatMap fun z=>z.cps.toList)=aV ws bs
 | [],_=>by simp [aV]
 | _ :: _,[]=>by simp [aV]
 | w :: ws,b :: bs=>by
  rw [List.zip_cons_cons,List.map_cons,List.flatMap_cons,ig ws bs];simp only [aV,bw,bO,cI,List.append_assoc]
theorem qf:∀ (ws:List Str) (bs:List Nat),(∀ b∈bs,b≤2)→(((ws.zip bs).map bw).map (·.length)).sum≤bv ws
 | [],_,_=>by simp
 | _ :: _,[],_=>by simp
 | w :: ws,b :: bs,h=>by
  have:=qf ws bs fun x hx=>h x (List.mem_cons_of_mem _ hx);have hb:=h b List.mem_cons_self;rw [List.zip_cons_cons,List.map_cons,List.map_cons,List.sum_cons,bi];have e:(bw (w,b)).length=w.length+b:=by
   unfold bw;rw [Str.length_append,← aj (bW _),cI,List.length_replicate]
  lia
theorem qg (w:Str):blk w≤2:=by
 unfold blk
 split <;> decide
theorem ii {z:Str} {n:Nat} (h:z.cps.toList=(List.replicate ((n:Nat):Int).toNat (Str.ofString " ").cps.toList).flatten):z=bW (List.replicate n 32):=by
 rw [Int.toNat_natCast,show (Str.ofString " ").cps.toList=[32] by decide +kernel] at h;apply b8;rw [h,cI]
 clear h
 induction n with
 | zero=>rfl
 | succ n ih=>rw [List.replicate_succ,List.replicate_succ,List.flatten_cons,ih];rfl
def mI (K:PySem.W.Frag) (_:Ads):Sp:=fun vs H Q _=>∃ (l:Addr) (ws:List Str),vs=[.ref l]∧H l=some (.lst (ws.map V.str))∧bv ws≤50000∧∀ H',Same H H'→Q (.str (ay ws)) H'
theorem mJ (T:Tx K mg ad) {f:Addr} {fd:FuncData} (F:Gn K mg "_law_tight" fc ["words"] f fd):FnOk P w K mg base CX0 1 f fd ["words"] (mI K ad):=by
 refine F.F.ok mX (fun vs H Q E h=>?_) (fun cdv A outer s H vs Q E hr h=>?_)
 ·obtain ⟨l,ws,rfl,_⟩:=h
  rfl
 obtain ⟨l,ws,rfl,hl,hw,q⟩:=h;refine ⟨_,(@pss_one _ _ _ (@ps_ret _ _ _ _ (pe_bm PySem.F.plainAttrs_str PySem.F.slot_str_join PySem.F.type_str_join jn pe_str (@pa1 _ _ _ (pe_comp rfl (cs0 (NL:=["word"]) rfl (by decide +kernel) (by decide +kernel)) (dz (K:=K) rfl (pv 0)) (fun _ _ _ _=>(ak (i:=0) (show List.Nodup (α:=Str) ["word"] by decide +kernel) rfl (Or.inl rfl))) (fun _ _ _ _=>(@pe_op _ _ _ _ _ _ _ _ aH (pv 0) (@pe_op _ _ _ _ _ _ _ _ fJ pe_str (pe_callTy kt rfl T.z_int boot_int (@pa1 _ _ _ (pe_cmpR (op_in_seqK (K:=K) rfl) (pv 0) (@aG _ _ _ _ (@pa3 _ _ _ _ _ _ _ pe_str pe_str pe_str (by rfl) (by rfl) (by rfl))) rfl) (by rfl))))))) (by rfl))))),?_⟩;have lw:=dD ws;refine ⟨rfl,_,rfl,l,rfl,⟨_,SqL.of hl⟩,fun p hp=>?_⟩;refine fH (K:=K) (xs:=ws.map V.str) (fun i zs σ H'=>zs=(((ws.zip (ws.map blk)).map bw).take i).map V.str∧Same H H'∧H' p=some (.lst zs)∧∃ w1,σ=[w1]) ⟨rfl,ah hp _,aa,_,rfl⟩ (fun i zs σ H' _ r=>SqL.of (r.2.1 _ _ hl)) ?_ ?_
 ·rintro i y zs σ H1 N hy ⟨rfl,g1,f1,w1,rfl⟩ next;rw [List.getElem?_map] at hy;obtain ⟨z,hz,rfl⟩:=Option.map_eq_some_iff.mp hy;have hzm:=oI (List.mem_of_getElem? hz);have hb0:((ws.zip (ws.map blk)).map bw)[i]?=some (bw (z,blk z)):=by
   rw [List.getElem?_map,(List.getElem?_zip_eq_some (z:=(z,blk z))).mpr ⟨hz,by rw [List.getElem?_map,hz];rfl⟩]
   rfl
  refine ⟨_,rfl,_,rfl,sz3,fun b hb=>?_⟩;have eb:(if inV (V.str z) ([(",": Str),":",";"].map V.str)=true then (1:Int) else 0)=((blk z:Nat):Int):=by
   rw [qc];unfold blk
   by_cases h:z= "," ∨z= ":" ∨z= ";"
   ·rw [if_pos (decide_eq_true (by simpa using h)),if_pos h]
    rfl
   ·rw [if_neg (by simpa using h),if_neg h]
    rfl
  refine ⟨b,[(",": Str),":",";"].map V.str,rfl,.inl (SqL.of aa),rfl,rfl,.inr ⟨_,rfl,_,_,rfl,rfl,by decide +kernel,by decide +kernel,?_,?_,fun z' hz'=>?_⟩⟩
  ·show (0:Int)≤if inV (V.str z) _=true then 1 else 0
   split <;> decide
  ·show (if inV (V.str z) _=true then (1:Int) else 0)≤100
   split <;> decide
  obtain rfl:z'=bW (List.replicate (blk z) 32):=ii (by rw [← eb];exact hz');have ll:(bW (List.replicate (blk z) 32)).length≤2:=by
   rw [← aj,cI,List.length_replicate];exact qg z
  refine ⟨_,_,rfl,rfl,fV (by lia),?_⟩;have nb:p≠b:=ag f1 hb;refine ⟨by rw [ae nb];exact f1,?_,next _ _ _ ⟨?_,bD hp (g1.trans (ah hb _)),aa,_,rfl⟩⟩
  ·rw [List.length_map,List.length_take,List.length_map,List.length_zip,List.length_map];exact Nat.lt_of_le_of_lt (Nat.min_le_right _ _) (Nat.lt_of_le_of_lt (show min ws.length ws.length≤50000 by lia) (by decide))
  ·rw [List.take_add_one,hb0,List.map_append]
   rfl
 rintro zs σ H1 ⟨rfl,g1,f1,w1,rfl⟩;have ll:((ws.zip (ws.map blk)).map bw).length=ws.length:=by rw [List.length_map,List.length_zip,List.length_map,Nat.min_self]
 rw [List.take_of_length_le (by rw [ll];exact Nat.le_of_eq (List.length_map _).symm)] at f1;have bl:=qf ws (ws.map blk) fun b hb=>by
  obtain ⟨z,_,rfl⟩:=List.mem_map.mp hb;exact qg z
 refine ⟨_,p,(ws.zip (ws.map blk)).map bw,rfl,rfl,.inl (SqL.of f1),by rw [ll,show (Str.ofString "").length=0 from rfl];lia,?_⟩;rw [jS,show Str.join (Str.ofString "") ((ws.zip (ws.map blk)).map bw)=ay ws from b8 ((jV _).trans (ig _ _))];exact q H1 g1
def mK (K:PySem.W.Frag) (_:Ads):Sp:=fun vs H Q _=>∃ (l r:Addr) (n:Int) (ws:List Str),vs=[.ref l,.ref r]∧l≠r∧H l=some (.lst (ws.map V.str))∧H r=some (.lst [.int n])∧bv ws≤50000 ∧
 ∀ (z:Str) (b:Nat) (bs:List Nat) (n':Int) H',But r H H'→H' r=some (.lst [.int n'])→bs.length=ws.length→z.cps.toList=List.replicate b 32++aV ws bs→z.length≤50002→Q (.str z) H'
theorem mL (T:Tx K mg ad) {f:Addr} {fd:FuncData} (F:Gn K mg "_law_loose" de ["words","row"] f fd):FnOk P w K mg base CX0 2 f fd ["words","row"] (mK K ad):=by
 obtain ⟨_,_,Hm⟩:=T.law_digit;have Hn:=a8 (P:=P) (w:=w) (base:=base) T Hm;refine F.F.ok mY (fun vs H Q E h=>?_) (fun cdv A outer s H vs Q E hr h=>?_)
 ·obtain ⟨l,r,n,ws,rfl,_⟩:=h
  rfl
 obtain ⟨l,r,n,ws,rfl,hlr,hl,hr0,hw,q⟩:=h;refine ⟨_,(@pss_one _ _ _ (@ps_ret _ _ _ _ (@pe_op _ _ _ _ _ _ _ _ aH (@pe_op _ _ _ _ _ _ _ _ fJ pe_str (pcl Hm Hn (hr.mono (by lia)) rfl (@pa2 _ _ _ _ _ (pv 1) pe_int (by rfl) (by rfl)))) (pe_bm PySem.F.plainAttrs_str PySem.F.slot_str_join PySem.F.type_str_join jn pe_str (@pa1 _ _ _ (pe_comp rfl (csR (sc:=ac de) (NL:=["word"]) (N:=["words","row"]) (ρ:=[1]) (N':=["word","row"]) rfl rfl rfl (by decide +kernel) (by decide +kernel) (by decide +kernel) rfl (by decide +kernel)) (dz (K:=K) rfl (pv 0)) (fun _ _ _ _=>(ak (i:=0) (show List.Nodup (α:=Str) ["word","row"] by decide +kernel) rfl (Or.inl rfl))) (fun _ _ _ _=>(@pe_op _ _ _ _ _ _ _ _ aH (pv 0) (@pe_op _ _ _ _ _ _ _ _ fJ pe_str (pcl Hm Hn (hr.mono (by lia)) rfl (@pa2 _ _ _ _ _ (pv 1) pe_int (by rfl) (by rfl))))))) (by rfl)))))),?_⟩;have lw:=dD ws;obtain ⟨m0,m1⟩:=mod_lt n (m:=3) (by decide);obtain ⟨b0,hb0⟩:∃ b0:Nat,n % 3=(b0:Int):=⟨(n % 3).toNat,by lia⟩;refine ⟨_,rfl,r,n,3,rfl,hr0,by decide,by decide,_,_,rfl,rfl,by decide +kernel,by decide +kernel,by lia,by lia,fun z0 hz0=>?_⟩;rw [hb0] at hz0 m1;obtain rfl:=ii hz0;have B1:But r H (upd H r (.lst [.int (n / 3)])):=But.put;have R1:(upd H r (.lst [.int (n / 3)])) r=some (.lst [.int (n / 3)]):=aa
 revert B1 R1
 generalize upd H r (.lst [.int (n / 3)])=H1
 generalize n / 3=n1
 intro B1 R1;refine ⟨rfl,_,rfl,l,rfl,⟨_,SqL.of (B1 _ _ hlr hl)⟩,fun p hp=>?_⟩;have npr:p≠r:=fun c=>by rw [c,R1] at hp;cases hp
 have hpH:H p=none:=by
  cases c:H p with
  | none=>rfl
  | some o=>rw [B1 _ _ npr c] at hp;cases hp
 refine fH (K:=K) (xs:=ws.map V.str) (fun i zs σ H'=>∃ (bs:List Nat) (k:Int),bs.length=i∧(∀ b∈bs,b≤2)∧zs=((((ws.take i).zip bs).map bw)).map V.str∧But r H H'∧H' r=some (.lst [.int k])∧H' p=some (.lst zs)∧∃ w1,σ=[w1,some (.ref r)]) ⟨[],n1,rfl,(fun _ h=>nomatch h),rfl,fu B1 hpH,by rw [ae (Ne.symm npr)];exact R1,aa,_,rfl⟩ (fun i zs σ H' _ ⟨_,_,_,_,_,g,_⟩=>SqL.of (g _ _ hlr hl)) ?_ ?_
 ·rintro i y zs σ H2 N hy ⟨bs,k,lb,hb2,rfl,g2,r2,f2,w1,rfl⟩ next;rw [List.getElem?_map] at hy;obtain ⟨z,hz,rfl⟩:=Option.map_eq_some_iff.mp hy;have hzm:=oI (List.mem_of_getElem? hz);have hi:=(List.getElem?_eq_some_iff.mp hz).1;obtain ⟨k0,k1⟩:=mod_lt k (m:=3) (by decide);obtain ⟨c,hc⟩:∃ c:Nat,k % 3=(c:Int):=⟨(k % 3).toNat,by lia⟩;refine ⟨_,rfl,_,rfl,r,k,3,rfl,r2,by decide,by decide,_,_,rfl,rfl,by decide +kernel,by decide +kernel,by lia,by lia,fun z' hz'=>?_⟩;rw [hc] at hz';obtain rfl:=ii hz';have lc:(bW (List.replicate c 32)).length=c:=by rw [← aj,cI,List.length_replicate]
  refine ⟨_,_,rfl,rfl,fV (by lia),?_⟩;refine ⟨by rw [ae npr];exact f2,?_,next _ _ _ ⟨bs++[c],k / 3,by rw [List.length_append,lb];rfl,fun b hb=>?_,?_,fu (g2.trans But.put) hpH,by rw [ae (Ne.symm npr),aa],aa,_,rfl⟩⟩
  ·rw [List.length_map,List.length_map,List.length_zip,List.length_take];exact Nat.lt_of_le_of_lt (show min (min i ws.length) bs.length≤50000 by lia) (by decide)
  ·rcases List.mem_append.mp hb with h | h
   ·exact hb2 b h
   ·rw [List.mem_singleton.mp h];lia
  ·rw [List.take_add_one,hz];show _=((((ws.take i)++[z]).zip (bs++[c])).map bw).map V.str;rw [List.zip_append (by rw [List.length_take,lb];lia),List.map_append,List.map_append]
   rfl
 rintro zs σ H2 ⟨bs,k,lb,hb2,rfl,g2,r2,f2,w1,rfl⟩;rw [List.length_map] at lb;rw [List.take_of_length_le (by rw [List.length_map];exact Nat.le_refl _)] at f2;have bl:=qf ws bs hb2;have sl:=fU ws bs hb2;have ll:((ws.zip bs).map bw).length=ws.length:=by rw [List.length_map,List.length_zip,lb,Nat.min_self]
 refine ⟨_,p,(ws.zip bs).map bw,rfl,rfl,.inl (SqL.of f2),by rw [ll,show (Str.ofString "").length=0 from rfl];lia,?_⟩;have ej:(Str.join (Str.ofString "") ((ws.zip bs).map bw)).cps.toList=aV ws bs:=(jV _).trans (ig _ _);have lj:(Str.join (Str.ofString "") ((ws.zip bs).map bw)).length≤50000:=by
  rw [← aj,ej];lia
 have l0:(bW (List.replicate b0 32)).length=b0:=by rw [← aj,cI,List.length_replicate]
 rw [jS];refine ⟨_,_,rfl,rfl,fV (by lia),?_⟩;refine q _ b0 bs k H2 g2 r2 lb ?_ ?_
 ·rw [bO,ej,cI]
 ·show (bW (List.replicate b0 32)++Str.join (Str.ofString "") ((ws.zip bs).map bw)).length≤_;rw [Str.length_append];lia
theorem uX:∀ p:List Str,(Dt.tup (p.map Dt.str)).dep≤3:=fun p=>by
 show dJ (p.map Dt.str)+1≤3;have:∀ q:List Str,dJ (q.map Dt.str)≤2:=fun q=>by
  induction q with
  | nil=>exact Nat.zero_le _
  | cons a r ih=>simp only [List.map_cons,dJ,Dt.dep];lia
 have:=this p;lia
theorem AN {a c:Nat} {d:Dt} (g:FK a c d):d.dep≤3*a+7:=by
 induction g with
 | text i=>simp only [Dt.dep,dJ];lia
 | choice ws =>
  have:=uX ws;simp only [Dt.dep,dJ] at this ⊢;lia
 | number i j=>simp only [Dt.dep,dJ];lia
 | list g _ _ ih=>simp only [Dt.dep,dJ];lia
 | rows g _ _ _ ih=>simp only [Dt.dep,dJ] at ih ⊢;lia
 | @rcd gs g nd nm hl ih =>
  have key:∀ l:List G4,(∀ f∈l,f∈gs)→dJ (l.map prG)≤3*iI (gs.map (·.2.2.1))+8:=by
   intro l
   induction l with
   | nil=>intro _;simp only [List.map_nil,dJ];lia
   | cons f l ih2 =>
    intro h;have h0:=h f List.mem_cons_self;have h1:=ih f h0;have h3:=jq (List.mem_map.mpr ⟨f,h0,rfl⟩:f.2.2.1∈gs.map (·.2.2.1));have h2:=ih2 fun f hf=>h f (List.mem_cons_of_mem _ hf);simp only [List.map_cons,dJ,Dt.dep];lia
  have:=key gs fun _ h=>h;simp only [Dt.dep,dJ];lia
abbrev AO (K:PySem.W.Frag) (_:Ads):Sp:=Gu K
theorem Hk (T:Tx K mg ad) {f:Addr} {fd:FuncData} (F:Gn K mg "law" qW ["script"] f fd):FnOk P w K mg base CX0 depth f fd ["script"] (AO K ad):=by
 obtain ⟨f1,d1,Jg⟩:=T.law_own;have JR:=pS (P:=P) (w:=w) (base:=base) T Jg;obtain ⟨f2,d2,HB⟩:=T.law_kind;obtain ⟨e1,e2,D1⟩:=T.law_record_kind;obtain ⟨e3,e4,D2⟩:=T.law_rows_kind;have HP:=kO (P:=P) (w:=w) (base:=base) T HB D1 D2 5;obtain ⟨f3,d3,Hu⟩:=T.law_kind_words;have HE:=qV (P:=P) (w:=w) (base:=base) T Hu 5;obtain ⟨f4,d4,IR⟩:=T.law_tight;have JE:=mJ (P:=P) (w:=w) (base:=base) T IR;obtain ⟨f5,d5,IY⟩:=T.law_loose;have Js:=mL (P:=P) (w:=w) (base:=base) T IY;obtain ⟨f6,d6,HJ⟩:=T.kind_text;obtain ⟨e5,e6,D3⟩:=T.form_text;obtain ⟨e7,e8,D4⟩:=T.part_text;have HX:=ic (P:=P) (w:=w) (base:=base) T HJ D3 D4 5;obtain ⟨f7,d7,IF⟩:=T.read_kind;have I9:=mz (P:=P) (w:=w) (base:=base) T IF;refine F.F.ok ge (fun vs H Q E h=>?_) (fun cdv A outer s H vs Q E hr h=>?_)
 ·obtain ⟨a,ns,rfl,_⟩:=h
  rfl
 obtain ⟨a,ns,rfl,hS,h63,q⟩:=h;refine ⟨_,(@pss_cons _ _ _ _ _ (cC PassesOwn.never rfl (cz rfl T.z_range (@pa1 _ _ _ (pe_callB (kr rfl) rfl T.z_min boot_min (@pa2 _ _ _ _ _ pe_int (@pe_op _ _ _ _ _ _ _ _ aO pe_int (pe_callB (bh (K:=K) rfl) rfl T.z_len PySem.boot_len (@pa1 _ _ _ (pv 0) (by rfl)))) (by rfl) (by rfl))) (by rfl))) (ak (i:=1) ge.nd rfl (Or.inl rfl))
    (@pss_one _ _ _ (cC PassesOwn.never rfl (cz rfl T.z_range (@pa1 _ _ _ pe_int (by rfl))) (ak (i:=2) ge.nd rfl (Or.inl rfl))
    (@pss_cons _ _ _ _ _ (@ps_set _ _ 3 _ _ _ _ ge.nd rfl (Or.inl rfl) (pcl Jg JR (hr.mono (by lia)) rfl (@pa3 _ _ _ _ _ _ _ (pv 0) (pv 1) (pv 2) (by rfl) (by rfl) (by rfl))) (by rfl) (by first | exact .inl rfl | exact .inr rfl | assumption)) (@pss_cons _ _ _ _ _ (@ps_set _ _ 4 _ _ _ _ ge.nd rfl (Or.inl rfl) (pcl HB HP (hr.mono (by lia)) rfl (@pa3 _ _ _ _ _ _ _ (pv 3) pe_int (@aG _ _ _ _ (@pa1 _ _ _ pe_int (by rfl))) (by rfl) (by rfl) (by rfl))) (by rfl) (by first | exact .inl rfl | exact .inr rfl | assumption)) (@pss_cons _ _ _ _ _ (@ps_set _ _ 5 _ _ _ _ ge.nd rfl (Or.inl rfl) (pcl Hu HE (hr.mono (by lia)) rfl (@pa1 _ _ _ (pv 4) (by rfl))) (by rfl) (by first | exact .inl rfl | exact .inr rfl | assumption)) (@pss_cons _ _ _ _ _ (@ps_set _ _ 6 _ _ _ _ ge.nd rfl (Or.inl rfl) (pcl IR JE (hr.mono (by lia)) rfl (@pa1 _ _ _ (pv 5) (by rfl))) (by rfl) (by first | exact .inl rfl | exact .inr rfl | assumption)) (@pss_one _ _ _ (@ps_if _ _ _ _ _ _ _ _ (PW.pt (@pw_or _ _ _ _ _ _ _ (pt_cmpR op_ne (pcl HJ HX (hr.mono (by lia)) rfl (@pa1 _ _ _ (pv 4) (by rfl))) (pv 6) (nomark _)) (@pw_or _ _ _ _ _ _ _ (pt_cmpR (lI (K:=K) rfl hr.units) (pcl IF I9 (hr.mono (by lia)) rfl (@pa1 _ _ _ (pv 6) (by rfl))) (pv 4) (nomark _)) (@pw_or1 _ _ _ _ (pt_cmpR (lI (K:=K) rfl hr.units) (pcl IF I9 (hr.mono (by lia)) rfl (@pa1 _ _ _ (pcl IY Js (hr.mono (by lia)) rfl (@pa2 _ _ _ _ _ (pv 5) (pv 3) (by rfl) (by rfl))) (by rfl))) (pv 4) (nomark _)))))) (@pss_one _ _ _ (@ps_ret _ _ _ _ pe_bl)) pss_nil))))))))) (@pss_one _ _ _ (@ps_ret _ _ _ _ pe_bl))),?_⟩
 have hlen:(ns.map V.int).length=ns.length:=List.length_map _;refine ⟨_,rfl,a,_,rfl,.inl hS,_,_,rfl,rfl,_,_,rfl,?_⟩;rw [hlen]
 generalize hJ:(if (1+((ns.length:Nat):Int)) < 12 then 1+((ns.length:Nat):Int) else 12)=J
 have J1:0≤J∧J≤13:=by rw [← hJ];split <;> lia
 refine ⟨J,rfl,by lia,by lia,gQ (lo:=0) (n:=J.toNat) (fun i σ H'=>Same H H'∧∃ v1 v2 v3 v4 v5 v6,σ=[some (.ref a),v1,v2,v3,v4,v5,v6]) ⟨Same.refl H,_,_,_,_,_,_,rfl⟩ ?_ ?_⟩
 rotate_left
 ·rintro σ H1 ⟨g1,v1,v2,v3,v4,v5,v6,rfl⟩;exact q _
 rintro i σ H1 hi ⟨g1,v1,v2,v3,v4,v5,v6,rfl⟩;refine ⟨5,rfl,by decide,by decide,gQ (lo:=0) (n:=(5:Int).toNat) (fun j σ H'=>Same H H'∧∃ v2 v3 v4 v5 v6,σ=[some (.ref a),some (.int (i:Nat)),v2,v3,v4,v5,v6]) ⟨g1,_,_,_,_,_,(by show [_,some (V.int (0+(i:Int))),_,_,_,_,_]=_;rw [Int.zero_add])⟩ ?_ ?_⟩
 rotate_left
 ·rintro σ H2 ⟨g2,v2,v3,v4,v5,v6,rfl⟩;exact ⟨g2,_,_,_,_,_,_,rfl⟩
 rintro j σ H2 hj ⟨g2,v2,v3,v4,v5,v6,rfl⟩;refine ⟨_,rfl,_,rfl,_,rfl,a,ns,i,j,(by rw [Int.zero_add];rfl),g2.seq hS,h63,by lia,hj,fun r n H3 hr3 g3 e3=>?_⟩;have hrH:H r=none:=g2.free hr3;refine ⟨_,rfl,sz1,fun p hp=>?_⟩;have nrp:r≠p:=ag e3 hp;have S3:=(g2.trans g3).trans (ah hp (.lst [.int 30]));have hpH:H p=none:=(g2.trans g3).free hp;refine ⟨r,p,n,30,5,by decide,by decide,rfl,nrp,by rw [ae nrp];exact e3,aa,fun v d ka kc n4 x4 H4 b4 r4 p4 hv fk hka hkc=>?_⟩;have S4:Same H H4:=fun x o e=>b4 x o (ag e hrH) (ag e hpH) (S3 x o e);have bk:bud 30=6:=by decide
 obtain ⟨ws,kw,hw⟩:=fk.kw 5 hka;have hw5:bv ws≤50000:=by lia
 refine ⟨_,rfl,d,v,ws,rfl,hv,kw,hw5,fun l H5 hl g5 h5=>?_⟩;have nlr:l≠r:=fun c=>by rw [c,r4] at hl;cases hl
 refine ⟨_,rfl,l,ws,rfl,h5,hw5,fun H6 g6=>?_⟩;have tl:(ay ws).length≤50000:=by
  rw [← aj];exact Nat.le_trans (fU ws (ws.map blk) fun b hb=>by
   obtain ⟨z,_,rfl⟩:=List.mem_map.mp hb;exact qg z) hw5
 have dp:d.dep≤60:=by have:=AN fk;lia
 refine ⟨_,rfl,d,v,ws,rfl,(hv.same g5).same g6,kw,by lia,fun H7 g7=>?_⟩;refine ⟨_,rfl,rfl,_,rfl,nN ?_⟩;have rd1:eL 40 "kind" (ay ws).cps.toList=some d:=kw.read (Nat.le_refl _) (b:=0) (bs:=ws.map blk) (List.length_map _) rfl;have g47:=(g5.trans g6).trans g7;refine ⟨_,rfl,_,ka,kc,d,rfl,by lia,rd1,fk,hka,by lia,fun y H8 g8 hy=>?_⟩;have g48:=g47.trans g8;refine ⟨_,rfl,d,d,hy.d,(hv.same g48).d,dp,_,rfl,?_⟩;rw [gq];refine bq ⟨_,rfl,_,rfl,l,r,n4,ws,rfl,nlr,((g6.trans g7).trans g8) _ _ h5,g48 _ _ r4,hw5,fun z b bs n9 H9 b9 r9 lb ez zl=>?_⟩;refine ⟨z,ka,kc,d,rfl,by lia,kw.read (Nat.le_refl _) lb ez,fk,hka,by lia,fun y' H10 g10 hy'=>?_⟩;refine ⟨_,rfl,d,d,hy'.d,(((hv.same g48).but (g48 _ _ r4) b9).same g10).d,dp,_,rfl,?_⟩;rw [gq];refine bq ⟨fun x o e=>g10 _ _ (b9 x o (ag e hrH) (g48 _ _ (S4 x o e))),_,_,_,_,_,rfl⟩
end
@[elab_as_elim] theorem vU {α:Type} {p:List α→Prop} {us:List α} (hl:us.length=0) (h:p []):p us:=by
 cases us with
 | nil=>exact h
 | cons a r=>cases hl
@[elab_as_elim] theorem vV {α:Type} {p:List α→Prop} {us:List α} (hl:us.length=1) (h:∀ x0,p [x0]):p us:=by
 cases us with
 | nil=>cases hl
 | cons a r=>exact vU (p:=fun r=>p (a :: r)) (Nat.succ.inj hl) (h a)
@[elab_as_elim] theorem vW {α:Type} {p:List α→Prop} {us:List α} (hl:us.length=2) (h:∀ x0 x1,p [x0,x1]):p us:=by
 cases us with
 | nil=>cases hl
 | cons a r=>exact vV (p:=fun r=>p (a :: r)) (Nat.succ.inj hl) (h a)
@[elab_as_elim] theorem vX {α:Type} {p:List α→Prop} {us:List α} (hl:us.length=3) (h:∀ x0 x1 x2,p [x0,x1,x2]):p us:=by
 cases us with
 | nil=>cases hl
 | cons a r=>exact vW (p:=fun r=>p (a :: r)) (Nat.succ.inj hl) (h a)
@[elab_as_elim] theorem vY {α:Type} {p:List α→Prop} {us:List α} (hl:us.length=4) (h:∀ x0 x1 x2 x3,p [x0,x1,x2,x3]):p us:=by
 cases us with
 | nil=>cases hl
 | cons a r=>exact vX (p:=fun r=>p (a :: r)) (Nat.succ.inj hl) (h a)
@[elab_as_elim] theorem vZ {α:Type} {p:List α→Prop} {us:List α} (hl:us.length=5) (h:∀ x0 x1 x2 x3 x4,p [x0,x1,x2,x3,x4]):p us:=by
 cases us with
 | nil=>cases hl
 | cons a r=>exact vY (p:=fun r=>p (a :: r)) (Nat.succ.inj hl) (h a)
@[elab_as_elim] theorem GK {α:Type} {p:List α→Prop} {us:List α} (hl:us.length=6) (h:∀ x0 x1 x2 x3 x4 x5,p [x0,x1,x2,x3,x4,x5]):p us:=by
 cases us with
 | nil=>cases hl
 | cons a r=>exact vZ (p:=fun r=>p (a :: r)) (Nat.succ.inj hl) (h a)
theorem gnM {K:PySem.W.Frag} {h:Heap} {mg:Str→Option Value} (X:K.In h) (G:h.Ns mainGlobals mg) {x:Str} {st:Stmt} {ps:List Str} {f:Addr} {od an:Option Addr} {sl:Array (Option Value)} {oc kV dc pm cd ct:Value}
  (a:PySem.W.nsIn K mainGlobals x=some (some (.ref f))) (l:K.lookup f=some ⟨oc,od,.func (PySem.W.fnOf x x (bF st) (bj st) (ac st) .none kV dc pm an cd ct),sl⟩) (c:PySem.W.codeIn K cd x=true) (k:PySem.W.keepIn K (.ref f)=true)
  (b:∀ (kV doc pm:Value) (an:Option Addr) (cdv ct:Value) (us:List Value),us.length=ps.length→bindArgs (PySem.W.fnOf x x (bF st) (bj st) (ac st) .none kV doc pm an cdv ct) ⟨us,[]⟩=pure (ps.zip us)):∃ f fd,Gn K mg x st ps f fd :=
 ⟨f,_,gT (st:=st) l c k,(gT (st:=st) l c k).binds b,PySem.W.mg_of X G a⟩
theorem exM {K:PySem.W.Frag} {h:Heap} {mg:Str→Option Value} (X:K.In h) (G:h.Ns mainGlobals mg) {x:Str} {C:Addr} {d:ClassData} (xa:PySem.W.nsIn K mainGlobals x=some (some (.ref C))) (xq:PySem.W.excIn K C bmV "ValueError.__new__" = true) (xg:PySem.W.findIn K (.ref C) "__getattribute__" = some (some (.builtin "BaseException.__getattribute__"))) (xt:PySem.W.findIn K (.ref C) "__getattr__" = some none) (xc:PySem.W.findIn K (.ref C) "__class__" = some (some (.builtin "object.__class__"))) (xb:PySem.W.mroIn K C (.type "BaseException")=some true) (xo:PySem.W.mroIn K C (.type "object")=some true) (xd:PySem.W.clsIn K C=some d) (xk:PySem.W.keepIn K (.ref C)=true):ExC K mg x C:=⟨PySem.W.mg_of X G xa,xq,⟨xg,xt,xc,xb,xo,_,xd⟩,xk⟩
theorem csM {K:PySem.W.Frag} {h:Heap} {mg:Str→Option Value} (X:K.In h) (G:h.Ns mainGlobals mg) {x z:Str} {t:Tok} (g:PySem.W.nsIn K mainGlobals x=some (some (.str z t))):∃ t,mg x=some (.str z t):=⟨_,PySem.W.mg_of X G g⟩
theorem ciM {K:PySem.W.Frag} {h:Heap} {mg:Str→Option Value} (X:K.In h) (G:h.Ns mainGlobals mg) {x:Str} {i:Int} {t:Tok} (g:PySem.W.nsIn K mainGlobals x=some (some (.int i t))):∃ t,mg x=some (.int i t):=⟨_,PySem.W.mg_of X G g⟩
theorem cdM {K:PySem.W.Frag} {h:Heap} {mg:Str→Option Value} (X:K.In h) (G:h.Ns mainGlobals mg) {x:Str} {a:Addr} {l:List (Str×Int)} (g:PySem.W.nsIn K mainGlobals x=some (some (.ref a))) (d:KTD.tabLook (KTD.datLooks fun b=>K.lookup b) (fun b=>K.lookup b) a (j0 l)=true):∃ a,mg x=some (.ref a)∧qu K a l:=⟨_,PySem.W.mg_of X G g,tF d⟩
theorem txI {K:PySem.W.Frag} {mg:Str→Option Value} {a0 a1 a2 a3:Addr} (T:Tx K mg ⟨a0,a1,a2,a3⟩):∃ ad,Tx K mg ad:=⟨_,T⟩
theorem AS {K:PySem.W.Frag} {f:Addr} {fd:FuncData} (F:Fun K "law" "law" qW f fd):∀ (s:Shared) (u:Value),BindsTo s fd ⟨[u],[]⟩ [("script",u)]:=by
 obtain ⟨oc,od,kV,doc,pm,an,cdv,ct,osl,rfl,lk,hcd⟩:=F.ex;exact fun s u=>.of_eq rfl
end K85
open PySem PySem.W PyProof.Rows
set_option maxRecDepth 100000 in
set_option maxHeartbeats 0 in
theorem PySem.Challenge.cw_oldhands_k85_kinds_in_words_holds : PySem.Challenge.rw_oldhands_k85_kinds_in_words.Holds := by
 w_on
 refine PySem.W.holds_law K85.said fun said=>?_;refine PySem.W.holds_open (q:=K85.hQ) (loose:=K85.hW) (Xt:=K85.hX) (XP:=fun _ _=>True) (Yf:=K85.hH.obs) (Ya:=K85.hH.val) (YP:=PySem.W.InK K85.hK) (N:=4657) K85.hl K85.hH.of K85.hH.keeps (fun _ _=>trivial) (fun _ _ _ _ _=>trivial) (by rfl) (by rfl) (by rfl) (fun s e=>PySem.W.recFacts_of e) (by rfl) said (by decide +kernel) ⟨rfl,rfl,rfl,rfl,rfl,by decide +kernel⟩ ?hw ?hc
 case hw=>w_witness2
 k_fill
 refine L2.F6 (l:=PySem.Challenge.rw_oldhands_k85_kinds_in_words) (K:=K85.hK) (n:=63) (k:=K85.depth) (x:= "script") (CX:=L2.CX0) (sp:=K85.Gu) rfl (by decide) rfl ⟨rfl,by decide,by decide⟩ (fun w h Y=>Y) ?F (fun _ _ a ns hl _ hS=>⟨a,ns,rfl,hS,hl,fun _=>rfl⟩) (fun _ _ _ _ z=>z)
 case F =>
  intro w mg fa h KX G hmg;have T:∃ ad,K85.Tx (L2.KOf KX) mg ad:=by
   dsimp only [L2.KOf];refine' K85.txI ⟨K85.gnM KX G ?_ ?_ ?_ ?_ ?_,K85.gnM KX G ?_ ?_ ?_ ?_ ?_,K85.gnM KX G ?_ ?_ ?_ ?_ ?_,K85.gnM KX G ?_ ?_ ?_ ?_ ?_,K85.gnM KX G ?_ ?_ ?_ ?_ ?_,K85.gnM KX G ?_ ?_ ?_ ?_ ?_,K85.gnM KX G ?_ ?_ ?_ ?_ ?_,K85.gnM KX G ?_ ?_ ?_ ?_ ?_,K85.gnM KX G ?_ ?_ ?_ ?_ ?_,K85.gnM KX G ?_ ?_ ?_ ?_ ?_,K85.gnM KX G ?_ ?_ ?_ ?_ ?_,K85.gnM KX G ?_ ?_ ?_ ?_ ?_,K85.gnM KX G ?_ ?_ ?_ ?_ ?_,K85.gnM KX G ?_ ?_ ?_ ?_ ?_,K85.gnM KX G ?_ ?_ ?_ ?_ ?_,K85.gnM KX G ?_ ?_ ?_ ?_ ?_,K85.gnM KX G ?_ ?_ ?_ ?_ ?_,K85.gnM KX G ?_ ?_ ?_ ?_ ?_,K85.gnM KX G ?_ ?_ ?_ ?_ ?_,K85.gnM KX G ?_ ?_ ?_ ?_ ?_,K85.gnM KX G ?_ ?_ ?_ ?_ ?_,K85.gnM KX G ?_ ?_ ?_ ?_ ?_,K85.gnM KX G ?_ ?_ ?_ ?_ ?_,K85.gnM KX G ?_ ?_ ?_ ?_ ?_,K85.gnM KX G ?_ ?_ ?_ ?_ ?_,K85.gnM KX G ?_ ?_ ?_ ?_ ?_,K85.gnM KX G ?_ ?_ ?_ ?_ ?_,K85.gnM KX G ?_ ?_ ?_ ?_ ?_,K85.gnM KX G ?_ ?_ ?_ ?_ ?_,K85.gnM KX G ?_ ?_ ?_ ?_ ?_,K85.gnM KX G ?_ ?_ ?_ ?_ ?_,K85.gnM KX G ?_ ?_ ?_ ?_ ?_,K85.gnM KX G ?_ ?_ ?_ ?_ ?_,K85.gnM KX G ?_ ?_ ?_ ?_ ?_,K85.gnM KX G ?_ ?_ ?_ ?_ ?_,K85.gnM KX G ?_ ?_ ?_ ?_ ?_,K85.gnM KX G ?_ ?_ ?_ ?_ ?_,K85.gnM KX G ?_ ?_ ?_ ?_ ?_,K85.gnM KX G ?_ ?_ ?_ ?_ ?_,K85.gnM KX G ?_ ?_ ?_ ?_ ?_,K85.gnM KX G ?_ ?_ ?_ ?_ ?_,K85.gnM KX G ?_ ?_ ?_ ?_ ?_,K85.gnM KX G ?_ ?_ ?_ ?_ ?_,K85.gnM KX G ?_ ?_ ?_ ?_ ?_,K85.gnM KX G ?_ ?_ ?_ ?_ ?_,K85.gnM KX G ?_ ?_ ?_ ?_ ?_,K85.gnM KX G ?_ ?_ ?_ ?_ ?_,K85.gnM KX G ?_ ?_ ?_ ?_ ?_,K85.gnM KX G ?_ ?_ ?_ ?_ ?_,K85.gnM KX G ?_ ?_ ?_ ?_ ?_,K85.gnM KX G ?_ ?_ ?_ ?_ ?_,K85.gnM KX G ?_ ?_ ?_ ?_ ?_,K85.gnM KX G ?_ ?_ ?_ ?_ ?_,K85.gnM KX G ?_ ?_ ?_ ?_ ?_,K85.gnM KX G ?_ ?_ ?_ ?_ ?_,K85.gnM KX G ?_ ?_ ?_ ?_ ?_,K85.gnM KX G ?_ ?_ ?_ ?_ ?_,K85.gnM KX G ?_ ?_ ?_ ?_ ?_,K85.gnM KX G ?_ ?_ ?_ ?_ ?_,PySem.W.mg_of KX G ?_,⟨?_,?_,?_,?_⟩,(show PySem.W.findIn _ _ _=some none from ?_),(show PySem.W.findIn _ _ _=some none from ?_),L2.miM (f:=310) ?_ ?_ ?_ ?_ ?_ ?_ ?_ ?_,L2.mnM (f:=317) ?_ ?_ ?_ ?_ ?_ ?_,L2.mnM (f:=324) ?_ ?_ ?_ ?_ ?_ ?_,L2.mnM (f:=331) ?_ ?_ ?_ ?_ ?_ ?_,L2.mnM (f:=338) ?_ ?_ ?_ ?_ ?_ ?_,K85.exM KX G ?_ ?_ ?_ ?_ ?_ ?_ ?_ ?_ ?_,K85.exM KX G ?_ ?_ ?_ ?_ ?_ ?_ ?_ ?_ ?_,K85.exM KX G ?_ ?_ ?_ ?_ ?_ ?_ ?_ ?_ ?_,K85.csM KX G ?_,K85.ciM KX G ?_,K85.csM KX G ?_,K85.ciM KX G ?_,K85.ciM KX G ?_,K85.ciM KX G ?_,K85.ciM KX G ?_,K85.ciM KX G ?_,K85.ciM KX G ?_,K85.cdM KX G ?_ ?_,K85.ciM KX G ?_,K85.csM KX G ?_,⟨PySem.W.mg_of KX G ?_,L2.AQ ?_,L2.Gp ?_⟩,⟨PySem.W.mg_of KX G ?_,L2.AQ ?_,L2.Gp ?_⟩,⟨PySem.W.mg_of KX G ?_,L2.AQ ?_,L2.Gp ?_⟩,K85.csM KX G ?_,K85.csM KX G ?_,K85.csM KX G ?_,K85.csM KX G ?_,K85.csM KX G ?_,K85.csM KX G ?_,K85.ciM KX G ?_,K85.ciM KX G ?_,⟨PySem.W.mg_of KX G ?_,L2.Gp ?_⟩,⟨_,PySem.W.mg_of KX G ?_,L2.AR ?_⟩,⟨PySem.W.mg_of KX G ?_,L2.Gs ?_,L2.Gp ?_⟩,PySem.W.mg_none_of KX G ?_,PySem.W.mg_none_of KX G ?_,PySem.W.mg_none_of KX G ?_,PySem.W.mg_none_of KX G ?_,PySem.W.mg_none_of KX G ?_,PySem.W.mg_none_of KX G ?_,PySem.W.mg_none_of KX G ?_,PySem.W.mg_none_of KX G ?_,PySem.W.mg_none_of KX G ?_,PySem.W.mg_none_of KX G ?_,PySem.W.mg_none_of KX G ?_,PySem.W.mg_none_of KX G ?_,PySem.W.mg_none_of KX G ?_,PySem.W.mg_none_of KX G ?_,PySem.W.mg_none_of KX G ?_,PySem.W.mg_none_of KX G ?_⟩
   any_goals (first | k_is | kernel_rfl | exact fun _ _ _ _ _ _ _ e=>K85.vU e rfl | exact fun _ _ _ _ _ _ _ e=>K85.vV e fun _=>rfl | exact fun _ _ _ _ _ _ _ e=>K85.vW e fun _ _=>rfl | exact fun _ _ _ _ _ _ _ e=>K85.vX e fun _ _ _=>rfl | exact fun _ _ _ _ _ _ _ e=>K85.vY e fun _ _ _ _=>rfl | exact fun _ _ _ _ _ _ _ e=>K85.vZ e fun _ _ _ _ _=>rfl | exact fun _ _ _ _ _ _ _ e=>K85.GK e fun _ _ _ _ _ _=>rfl)
  obtain ⟨ad,T⟩:=T;obtain ⟨fL,dL,L⟩:=T.law;have e:=hmg.symm.trans L.m
  cases e
  exact ⟨dL,K85.AS L.F,fun base _ _=>K85.Hk T L⟩
#print axioms PySem.Challenge.cw_oldhands_k85_kinds_in_words_holds
