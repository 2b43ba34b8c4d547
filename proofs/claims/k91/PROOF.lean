import PyProof.Rows.All
import Wide.All
import OpenK.AllK
import Wide.FinOn
import Lean
import PyProof.EqAt
import PyProof.EqKinds
import PyProof.TupleCall
import PyProof.NeKinds
import KE.KIntText
import PyProof.StrCalls
import PyProof.ZipIter
import PyProof.Rows.SetFrom
import PyProof.SetRoads
import PyProof.CompUse
import PyProof.Rows.MinMaxN
import PyProof.Rows.SortStr
import PyProof.Rows.SortWalk
import PyProof.Rows.SeqMore2
import KE.KMinKey
import PyProof.Rows.CallKwBuiltin
import PyProof.TupleOfStr
import PyProof.Draws
import PyProof.Rows.TupIter
import KE.KxText
import PyProof.FString5
import PyProof.DictWalks
import PyProof.CollectStr
import PyProof.FactsAll.set_1
import KE.KDictLaws
import PySem.Challenge.RW_oldhands_k91_as_great_as_may_be
set_option Elab.async false
set_option linter.all false
set_option maxHeartbeats 4000000
set_option maxRecDepth 100000
namespace L2
open PySem PySem.Spec PyProof.Rows
def aP (s:Stmt) (j:Nat):Stmt:=match s with
 | .ClassDef _ _ _ body _ _ _ _ _ _ _=>body.getD j (.Pass ⟨0,0,0,0⟩)
 | _=>.Pass ⟨0,0,0,0⟩
def br (s:Stmt):Arguments:=match s with
 | .FunctionDef _ a _ _ _ _ _ _ _ _=>a
 | _=>{ posonlyargs:=[],args:=[],vararg:=none,kwonlyargs:=[],kw_defaults:=[],kwarg:=none,defaults:=[] }
def aX (s:Stmt):List Stmt:=match s with
 | .FunctionDef _ _ b _ _ _ _ _ _ _=>b
 | _=>[]
def aa (s:Stmt):Scope:=match s with
 | .FunctionDef _ _ _ _ _ _ sc _ _ _=>sc
 | _=>{ kind:=.function,names:=[],isGenerator:=false,isCoroutine:=false }
end L2
namespace K91
open PySem L2 PyProof.Rows
def top (i:Nat):Stmt:=PySem.Challenge.pw_oldhands_k91_as_great_as_may_be.main.body.getD i (.Pass ⟨0,0,0,0⟩)
noncomputable def hT (t:Nat):Value:=.str "/claim/cut.py" t
noncomputable def hE (P:Params) (x:Str) (t:Nat) (v:Value):DictEntry:={ hash:=PyData.keyHash P x,key:=.str x t,val:=v }
noncomputable def hF (x y m:Str) (st:Stmt) (t c:Nat):Obj:={ cls:=.type "function",data:=.func (PySem.W.fnOf x y (br st) (aX st) (aa st) .none .none .none (.str m t) none (.ref c) .none) }
noncomputable def hU (x y:Str) (st:Stmt):Obj:={ cls:=.none,data:=.func { name:=x,qualname:=y,params:=br st,body:=.stmts (aX st),scope:=aa st,globals:=builtinsNs,closure:=[],defaults:=.none,kwdefaults:=.none } }
noncomputable def hC (x y:Str) (t u v:Nat) (r:List Value):Obj:={ cls:=.type "code",data:=.fields (Array.mk (.str x t :: .str y u :: hT v :: r)) }
noncomputable def hS (r:List Value):Obj:={ cls:=.type "tuple",data:=.seq (Array.mk r) }
noncomputable def hN:Obj:={ cls:=.none,data:=.fields (Array.mk []) }
noncomputable def gE:Params→List DictEntry:=fun P =>
 hE P "__doc__" 166 (.none) ::
 hE P "__package__" 167 (.none) ::
 hE P "__loader__" 168 (.builtin "__main__.__loader__#opaque") ::
 hE P "__spec__" 169 (.none) ::
 hE P "__annotations__" 170 (.ref 6) ::
 hE P "__builtins__" 171 (.ref 4) ::
 hE P "__file__" 173 (.str ("/claim/cut.py") 172) ::
 hE P "__cached__" 174 (.none) ::
 hE P "HandError" 206 (.ref 24) ::
 hE P "BadValue" 222 (.ref 37) ::
 hE P "BadText" 238 (.ref 49) ::
 hE P "LETTERS" 242 (.str ("abcdefghijklmnopqrstuvwxyz") 241) ::
 hE P "LONGEST_NAME" 244 (.int 8 243) ::
 hE P "is_whole" 251 (.ref 58) ::
 hE P "is_whole_within" 260 (.ref 65) ::
 hE P "PERCENT" 264 (.int 37 263) ::
 hE P "is_sign" 271 (.ref 72) ::
 hE P "is_of" 280 (.ref 79) ::
 hE P "made_value" 288 (.ref 86) ::
 hE P "is_text_of" 294 (.ref 91) ::
 hE P "holds_tuple" 302 (.ref 98) ::
 hE P "holds_items" 308 (.ref 103) ::
 hE P "is_record_of" 314 (.ref 108) ::
 hE P "is_pair_of" 322 (.ref 115) ::
 hE P "are_keyed" 328 (.ref 120) ::
 hE P "field_of" 338 (.ref 127) ::
 hE P "FIGURES" 342 (.str ("0123456789") 341) ::
 hE P "figures_of" 349 (.ref 134) ::
 hE P "number_of" 355 (.ref 139) ::
 hE P "BLANK" 359 (.str (" ") 358) ::
 hE P "QUOTE" 361 (.str ("\"") 360) ::
 hE P "MINUS" 363 (.str ("-") 362) ::
 hE P "OPENING" 365 (.str ("([{") 364) ::
 hE P "CLOSING" 367 (.str (")]}") 366) ::
 hE P "MARKS" 369 (.str ("()[]{},:;/") 368) ::
 hE P "MOST_FIGURES" 371 (.int 60 370) ::
 hE P "MOST_BRACKETS" 373 (.int 40 372) ::
 hE P "END" 376 (.ref 140) ::
 hE P "words_of" 386 (.ref 147) ::
 hE P "word_end" 395 (.ref 154) ::
 hE P "run_end" 405 (.ref 161) ::
 hE P "made_word" 411 (.ref 166) ::
 hE P "deepest_brackets" 422 (.ref 173) ::
 hE P "WordRow" 486 (.ref 218) ::
 hE P "KIND_PARTS" 505 (.ref 223) ::
 hE P "TURN_PARTS" 537 (.ref 228) ::
 hE P "PIECE_PARTS" 589 (.ref 239) ::
 hE P "parts_behind" 597 (.ref 256) ::
 hE P "kind_text" 603 (.ref 261) ::
 hE P "most_exchanged" 611 (.ref 268) ::
 hE P "value_text" 617 (.ref 273) ::
 hE P "turn_text" 623 (.ref 278) ::
 hE P "piece_text" 630 (.ref 285) ::
 hE P "path_text" 637 (.ref 292) ::
 hE P "form_text" 643 (.ref 297) ::
 hE P "part_text" 651 (.ref 304) ::
 hE P "in_brackets" 660 (.ref 311) ::
 hE P "with_commas" 667 (.ref 318) ::
 hE P "pair_text" 675 (.ref 325) ::
 hE P "quoted" 682 (.ref 332) ::
 hE P "PAIR_SORTS" 694 (.ref 333) ::
 hE P "BRACKETED" 707 (.ref 337) ::
 hE P "read_value" 715 (.ref 344) ::
 hE P "read_turn" 722 (.ref 351) ::
 hE P "read_piece" 729 (.ref 358) ::
 hE P "read_path" 736 (.ref 365) ::
 hE P "read_all" 746 (.ref 372) ::
 hE P "part_read" 755 (.ref 379) ::
 hE P "pair_read" 764 (.ref 386) ::
 hE P "kind_read" 773 (.ref 393) ::
 hE P "value_read" 784 (.ref 400) ::
 hE P "turn_read" 793 (.ref 407) ::
 hE P "path_read" 801 (.ref 414) ::
 hE P "form_read" 813 (.ref 421) ::
 hE P "list_read" 823 (.ref 428) ::
 hE P "at_least_one" 830 (.ref 435) ::
 hE P "_law_cell_at" 840 (.ref 442) ::
 hE P "_law_mixed" 849 (.ref 449) ::
 hE P "_law_own" 861 (.ref 456) ::
 hE P "_law_digit" 870 (.ref 463) ::
 hE P "_law_turn_told" 878 (.ref 470) ::
 hE P "_law_piece_told" 886 (.ref 477) ::
 hE P "_law_path_told" 894 (.ref 484) ::
 hE P "_law_value_told" 902 (.ref 491) ::
 hE P "_law_due" 910 (.ref 498) ::
 hE P "_law_deep" 922 (.ref 505) ::
 hE P "_law_long" 934 (.ref 512) ::
 hE P "law" 942 (.ref 519) ::
 []
noncomputable def gD (P:Params) (x:Str) (t m k:Nat):Obj:={ cls:=.type "dict",data:=.dict (Array.mk (hE P "__name__" 165 (.str x t) :: (gE P).take m)) k }
noncomputable def tE:List Value:=.int 2 0 :: .int 0 0 :: .ref 20 :: .int 4 0 :: .int 0 0 :: .ref 33 :: .int 6 0 :: .int 0 0 :: .ref 45 :: .int 11 0 :: .int 0 0 :: .ref 57 :: .int 13 0 :: .int 0 0 :: .ref 64 :: .int 17 0 :: .int 0 0 :: .ref 71 :: .int 19 0 :: .int 0 0 :: .ref 78 :: .int 32 0 :: .int 0 0 :: .ref 85 :: .int 36 0 :: .int 0 0 :: .ref 90 :: .int 40 0 :: .int 0 0 :: .ref 97 :: .int 42 0 :: .int 0 0 :: .ref 102 :: .int 46 0 :: .int 0 0 :: .ref 107 :: .int 50 0 :: .int 0 0 :: .ref 114 :: .int 54 0 :: .int 0 0 :: .ref 119 :: .int 57 0 :: .int 0 0 :: .ref 126 :: .int 64 0 :: .int 0 0 :: .ref 133 :: .int 66 0 :: .int 0 0 :: .ref 138 :: .int 83 0 :: .int 0 0 :: .ref 146 :: .int 94 0 :: .int 0 0 :: .ref 153 :: .int 105 0 :: .int 0 0 :: .ref 160 :: .int 110 0 :: .int 0 0 :: .ref 165 :: .int 121 0 :: .int 0 0 :: .ref 172 :: .int 131 0 :: .int 0 0 :: .ref 179 :: .int 159 0 :: .int 0 0 :: .ref 255 :: .int 165 0 :: .int 0 0 :: .ref 260 :: .int 172 0 :: .int 0 0 :: .ref 267 :: .int 176 0 :: .int 0 0 :: .ref 272 :: .int 188 0 :: .int 0 0 :: .ref 277 :: .int 195 0 :: .int 0 0 :: .ref 284 :: .int 197 0 :: .int 0 0 :: .ref 291 :: .int 199 0 :: .int 0 0 :: .ref 296 :: .int 202 0 :: .int 0 0 :: .ref 303 :: .int 210 0 :: .int 0 0 :: .ref 310 :: .int 213 0 :: .int 0 0 :: .ref 317 :: .int 215 0 :: .int 0 0 :: .ref 324 :: .int 217 0 :: .int 0 0 :: .ref 331 :: .int 222 0 :: .int 0 0 :: .ref 343 :: .int 224 0 :: .int 0 0 :: .ref 350 :: .int 226 0 :: .int 0 0 :: .ref 357 :: .int 228 0 :: .int 0 0 :: .ref 364 :: .int 230 0 :: .int 0 0 :: .ref 371 :: .int 236 0 :: .int 0 0 :: .ref 378 :: .int 253 0 :: .int 0 0 :: .ref 385 :: .int 257 0 :: .int 0 0 :: .ref 392 :: .int 267 0 :: .int 0 0 :: .ref 399 :: .int 275 0 :: .int 0 0 :: .ref 406 :: .int 282 0 :: .int 0 0 :: .ref 413 :: .int 291 0 :: .int 0 0 :: .ref 420 :: .int 303 0 :: .int 0 0 :: .ref 427 :: .int 311 0 :: .int 0 0 :: .ref 434 :: .int 316 0 :: .int 0 0 :: .ref 441 :: .int 320 0 :: .int 0 0 :: .ref 448 :: .int 323 0 :: .int 0 0 :: .ref 455 :: .int 331 0 :: .int 0 0 :: .ref 462 :: .int 335 0 :: .int 0 0 :: .ref 469 :: .int 342 0 :: .int 0 0 :: .ref 476 :: .int 349 0 :: .int 0 0 :: .ref 483 :: .int 356 0 :: .int 0 0 :: .ref 490 :: .int 365 0 :: .int 0 0 :: .ref 497 :: .int 369 0 :: .int 0 0 :: .ref 504 :: .int 385 0 :: .int 0 0 :: .ref 511 :: .int 401 0 :: .int 0 0 :: .ref 518 :: []
noncomputable def tD (m:Nat):Obj:={ cls:=.none,data:=.fields (Array.mk (tE.take m)) }
noncomputable def o0 (P:Params):Obj:=PySem.W.boot_o_0 P
noncomputable def o1 (P:Params):Obj:=PySem.W.boot_o_1 P
noncomputable def o2 (P:Params):Obj:=PySem.W.boot_o_2 P
noncomputable def o3 (P:Params):Obj:={ cls:=.type "dict",data:=.dict (Array.mk (hE P "__name__" 165 (.str ("law_oldhands_k91_as_great_as_may_be") 831) :: gE P)) 89 }
noncomputable def o4 (P:Params):Obj:=PySem.W.boot_o_4 P
noncomputable def o5 (P:Params):Obj:=PySem.W.boot_o_5 P
noncomputable def o6 (P:Params):Obj:=PySem.W.boot_o_6 P
noncomputable def o7 (P:Params):Obj:=PySem.W.boot_o_7 P
noncomputable def o8 (P:Params):Obj:=PySem.W.boot_o_8 P
noncomputable def o9 (P:Params):Obj:=PySem.W.boot_o_9 P
noncomputable def o10 (P:Params):Obj:=PySem.W.boot_o_10 P
noncomputable def o11 (P:Params):Obj:=hS []
noncomputable def o12 (P:Params):Obj:={ cls:=.none,data:=.fields (Array.mk tE) }
noncomputable def o13 (P:Params):Obj:=hC "<module>" "<module>" 182 183 184 [.int 1 0,.int 0 0,.int 0 0,.int 0 0,.int 0 0,.ref 11,.bool false,.int 181 0,.ref 12,.none,.none,.none,.none,.int 185 0,.int 1 0,hT 186]
noncomputable def o14 (P:Params):Obj:={ cls:=.type "frame",slots:=#[some (.ref 13),some (.ref 3),some (.ref 3),none,some (.str ("__main__") 164),none,some (.ref 0)] }
noncomputable def o15 (P:Params):Obj:=hS [.type "ValueError"]
noncomputable def o16 (P:Params):Obj:={ cls:=.type "builtin_function_or_method",data:=.fields #[.builtin "type.__prepare__",.type "type"] }
noncomputable def o17 (P:Params):Obj:={ cls:=.type "dict",data:=.dict #[hE P "__module__" 196 (.str ("oldhands.errors") 187),hE P "__qualname__" 198 (.str ("HandError") 197),hE P "__firstlineno__" 200 (.int 2 199),hE P "__static_attributes__" 201 (.ref 22)] 4 }
noncomputable def o18 (P:Params):Obj:=hS []
noncomputable def o19 (P:Params):Obj:=hN
noncomputable def o20 (P:Params):Obj:=hC "HandError" "HandError" 191 192 193 [.int 2 0,.int 0 0,.int 0 0,.int 0 0,.int 0 0,.ref 18,.bool false,.int 181 0,.ref 19,.none,.none,.none,.none,.int 194 0,.int 2 0,hT 195]
noncomputable def o21 (P:Params):Obj:={ cls:=.type "frame",slots:=#[some (.ref 20),some (.ref 3),some (.ref 17),none,some (.str ("oldhands.errors") 187),none,some (.ref 0)] }
noncomputable def o22 (P:Params):Obj:=hS []
noncomputable def o23 (P:Params):Obj:={ cls:=.type "dict",data:=.dict #[hE P "__module__" 196 (.str ("oldhands.errors") 187),hE P "__firstlineno__" 200 (.int 2 199),hE P "__static_attributes__" 201 (.ref 22),hE P "__weakref__" 203 (.ref 25),hE P "__doc__" 204 (.none)] 3 }
noncomputable def o24 (P:Params):Obj:={ cls:=.type "type",data:=.cls { name:= "HandError",bases:=[.type "ValueError"],mro:=[.ref 24,.type "ValueError",.type "Exception",.type "BaseException",.type "object"],ns:=23,qualname:= "HandError",subclasses:=[.ref 37,.ref 49] },slots:=#[some (.ref 15),none,some (.str ("HandError") 189),some (.str ("HandError") 197),some (.builtin "ValueError.__new__"),some (.bool true)] }
noncomputable def o25 (P:Params):Obj:={ cls:=.type "getset_descriptor",data:=.fields #[.str ("__weakref__") 202,.ref 24,.builtin "ExceptionGroup.__weakref__",.none] }
noncomputable def o26 (P:Params):Obj:={ cls:=.type "super",data:=.fields #[.ref 24,.ref 24,.ref 24] }
noncomputable def o27 (P:Params):Obj:={ cls:=.type "builtin_function_or_method",data:=.fields #[.builtin "object.__init_subclass__",.ref 24] }
noncomputable def o28 (P:Params):Obj:=hS [.ref 24]
noncomputable def o29 (P:Params):Obj:={ cls:=.type "builtin_function_or_method",data:=.fields #[.builtin "type.__prepare__",.type "type"] }
noncomputable def o30 (P:Params):Obj:={ cls:=.type "dict",data:=.dict #[hE P "__module__" 214 (.str ("oldhands.errors") 187),hE P "__qualname__" 216 (.str ("BadValue") 215),hE P "__firstlineno__" 218 (.int 4 217),hE P "__static_attributes__" 219 (.ref 35)] 4 }
noncomputable def o31 (P:Params):Obj:=hS []
noncomputable def o32 (P:Params):Obj:=hN
noncomputable def o33 (P:Params):Obj:=hC "BadValue" "BadValue" 209 210 211 [.int 4 0,.int 0 0,.int 0 0,.int 0 0,.int 0 0,.ref 31,.bool false,.int 181 0,.ref 32,.none,.none,.none,.none,.int 212 0,.int 4 0,hT 213]
noncomputable def o34 (P:Params):Obj:={ cls:=.type "frame",slots:=#[some (.ref 33),some (.ref 3),some (.ref 30),none,some (.str ("oldhands.errors") 187),none,some (.ref 0)] }
noncomputable def o35 (P:Params):Obj:=hS []
noncomputable def o36 (P:Params):Obj:={ cls:=.type "dict",data:=.dict #[hE P "__module__" 214 (.str ("oldhands.errors") 187),hE P "__firstlineno__" 218 (.int 4 217),hE P "__static_attributes__" 219 (.ref 35),hE P "__doc__" 220 (.none)] 2 }
noncomputable def o37 (P:Params):Obj:={ cls:=.type "type",data:=.cls { name:= "BadValue",bases:=[.ref 24],mro:=[.ref 37,.ref 24,.type "ValueError",.type "Exception",.type "BaseException",.type "object"],ns:=36,qualname:= "BadValue" },slots:=#[some (.ref 28),none,some (.str ("BadValue") 207),some (.str ("BadValue") 215),some (.builtin "ValueError.__new__"),some (.bool true)] }
noncomputable def o38 (P:Params):Obj:={ cls:=.type "super",data:=.fields #[.ref 37,.ref 37,.ref 37] }
noncomputable def o39 (P:Params):Obj:={ cls:=.type "builtin_function_or_method",data:=.fields #[.builtin "object.__init_subclass__",.ref 37] }
noncomputable def o40 (P:Params):Obj:=hS [.ref 24]
noncomputable def o41 (P:Params):Obj:={ cls:=.type "builtin_function_or_method",data:=.fields #[.builtin "type.__prepare__",.type "type"] }
noncomputable def o42 (P:Params):Obj:={ cls:=.type "dict",data:=.dict #[hE P "__module__" 230 (.str ("oldhands.errors") 187),hE P "__qualname__" 232 (.str ("BadText") 231),hE P "__firstlineno__" 234 (.int 6 233),hE P "__static_attributes__" 235 (.ref 47)] 4 }
noncomputable def o43 (P:Params):Obj:=hS []
noncomputable def o44 (P:Params):Obj:=hN
noncomputable def o45 (P:Params):Obj:=hC "BadText" "BadText" 225 226 227 [.int 6 0,.int 0 0,.int 0 0,.int 0 0,.int 0 0,.ref 43,.bool false,.int 181 0,.ref 44,.none,.none,.none,.none,.int 228 0,.int 6 0,hT 229]
noncomputable def o46 (P:Params):Obj:={ cls:=.type "frame",slots:=#[some (.ref 45),some (.ref 3),some (.ref 42),none,some (.str ("oldhands.errors") 187),none,some (.ref 0)] }
noncomputable def o47 (P:Params):Obj:=hS []
noncomputable def o48 (P:Params):Obj:={ cls:=.type "dict",data:=.dict #[hE P "__module__" 230 (.str ("oldhands.errors") 187),hE P "__firstlineno__" 234 (.int 6 233),hE P "__static_attributes__" 235 (.ref 47),hE P "__doc__" 236 (.none)] 2 }
noncomputable def o49 (P:Params):Obj:={ cls:=.type "type",data:=.cls { name:= "BadText",bases:=[.ref 24],mro:=[.ref 49,.ref 24,.type "ValueError",.type "Exception",.type "BaseException",.type "object"],ns:=48,qualname:= "BadText" },slots:=#[some (.ref 40),none,some (.str ("BadText") 223),some (.str ("BadText") 231),some (.builtin "ValueError.__new__"),some (.bool true)] }
noncomputable def o50 (P:Params):Obj:={ cls:=.type "super",data:=.fields #[.ref 49,.ref 49,.ref 49] }
noncomputable def o51 (P:Params):Obj:={ cls:=.type "builtin_function_or_method",data:=.fields #[.builtin "object.__init_subclass__",.ref 49] }
noncomputable def o52 (P:Params):Obj:=hS []
noncomputable def o53 (P:Params):Obj:=hN
noncomputable def o54 (P:Params):Obj:=hS [.str ("thing") 248]
noncomputable def o55 (P:Params):Obj:=hS []
noncomputable def o56 (P:Params):Obj:=hU "is_whole" "is_whole" (top 7)
noncomputable def o57 (P:Params):Obj:=hC "is_whole" "is_whole" 245 246 247 [.int 11 0,.int 1 0,.int 0 0,.int 0 0,.int 3 0,.ref 52,.bool true,.int 181 0,.ref 53,.none,.ref 54,.ref 55,.ref 56,.int 249 0,.int 11 0,hT 250]
noncomputable def o58 (P:Params):Obj:=hF "is_whole" "is_whole" "oldhands.kinds" (top 7) 239 57
noncomputable def o59 (P:Params):Obj:=hS []
noncomputable def o60 (P:Params):Obj:=hN
noncomputable def o61 (P:Params):Obj:=hS [.str ("thing") 255,.str ("low") 256,.str ("high") 257]
noncomputable def o62 (P:Params):Obj:=hS []
noncomputable def o63 (P:Params):Obj:=hU "is_whole_within" "is_whole_within" (top 8)
noncomputable def o64 (P:Params):Obj:=hC "is_whole_within" "is_whole_within" 252 253 254 [.int 13 0,.int 3 0,.int 0 0,.int 0 0,.int 3 0,.ref 59,.bool true,.int 181 0,.ref 60,.none,.ref 61,.ref 62,.ref 63,.int 258 0,.int 13 0,hT 259]
noncomputable def o65 (P:Params):Obj:=hF "is_whole_within" "is_whole_within" "oldhands.kinds" (top 8) 239 64
noncomputable def o66 (P:Params):Obj:=hS []
noncomputable def o67 (P:Params):Obj:=hN
noncomputable def o68 (P:Params):Obj:=hS [.str ("letter") 268]
noncomputable def o69 (P:Params):Obj:=hS []
noncomputable def o70 (P:Params):Obj:=hU "is_sign" "is_sign" (top 11)
noncomputable def o71 (P:Params):Obj:=hC "is_sign" "is_sign" 265 266 267 [.int 17 0,.int 1 0,.int 0 0,.int 0 0,.int 3 0,.ref 66,.bool true,.int 181 0,.ref 67,.none,.ref 68,.ref 69,.ref 70,.int 269 0,.int 17 0,hT 270]
noncomputable def o72 (P:Params):Obj:=hF "is_sign" "is_sign" "oldhands.values" (top 11) 261 71
noncomputable def o73 (P:Params):Obj:=hS []
noncomputable def o74 (P:Params):Obj:=hN
noncomputable def o75 (P:Params):Obj:=hS [.str ("value") 275,.str ("kind") 276,.str ("word") 277]
noncomputable def o76 (P:Params):Obj:=hS []
noncomputable def o77 (P:Params):Obj:=hU "is_of" "is_of" (top 12)
noncomputable def o78 (P:Params):Obj:=hC "is_of" "is_of" 272 273 274 [.int 19 0,.int 2 0,.int 0 0,.int 0 0,.int 3 0,.ref 73,.bool true,.int 181 0,.ref 74,.none,.ref 75,.ref 76,.ref 77,.int 278 0,.int 19 0,hT 279]
noncomputable def o79 (P:Params):Obj:=hF "is_of" "is_of" "oldhands.values" (top 12) 261 78
noncomputable def o80 (P:Params):Obj:=hS []
noncomputable def o81 (P:Params):Obj:=hN
noncomputable def o82 (P:Params):Obj:=hS [.str ("value") 284,.str ("kind") 285]
noncomputable def o83 (P:Params):Obj:=hS []
noncomputable def o84 (P:Params):Obj:=hU "made_value" "made_value" (top 13)
noncomputable def o85 (P:Params):Obj:=hC "made_value" "made_value" 281 282 283 [.int 32 0,.int 2 0,.int 0 0,.int 0 0,.int 3 0,.ref 80,.bool true,.int 181 0,.ref 81,.none,.ref 82,.ref 83,.ref 84,.int 286 0,.int 32 0,hT 287]
noncomputable def o86 (P:Params):Obj:=hF "made_value" "made_value" "oldhands.values" (top 13) 261 85
noncomputable def o87 (P:Params):Obj:=hS []
noncomputable def o88 (P:Params):Obj:=hN
noncomputable def o89 (P:Params):Obj:=hU "is_text_of" "is_text_of" (top 14)
noncomputable def o90 (P:Params):Obj:=hC "is_text_of" "is_text_of" 289 290 291 [.int 36 0,.int 2 0,.int 0 0,.int 0 0,.int 3 0,.ref 87,.bool true,.int 181 0,.ref 88,.none,.none,.none,.ref 89,.int 292 0,.int 36 0,hT 293]
noncomputable def o91 (P:Params):Obj:=hF "is_text_of" "is_text_of" "oldhands.values" (top 14) 261 90
noncomputable def o92 (P:Params):Obj:=hS []
noncomputable def o93 (P:Params):Obj:=hN
noncomputable def o94 (P:Params):Obj:=hS [.str ("value") 298,.str ("word") 299]
noncomputable def o95 (P:Params):Obj:=hS []
noncomputable def o96 (P:Params):Obj:=hU "holds_tuple" "holds_tuple" (top 15)
noncomputable def o97 (P:Params):Obj:=hC "holds_tuple" "holds_tuple" 295 296 297 [.int 40 0,.int 2 0,.int 0 0,.int 0 0,.int 3 0,.ref 92,.bool true,.int 181 0,.ref 93,.none,.ref 94,.ref 95,.ref 96,.int 300 0,.int 40 0,hT 301]
noncomputable def o98 (P:Params):Obj:=hF "holds_tuple" "holds_tuple" "oldhands.values" (top 15) 261 97
noncomputable def o99 (P:Params):Obj:=hS []
noncomputable def xJ (P:Params):Obj:=hN
noncomputable def xK (P:Params):Obj:=hU "holds_items" "holds_items" (top 16)
noncomputable def sX (P:Params):Obj:=hC "holds_items" "holds_items" 303 304 305 [.int 42 0,.int 4 0,.int 0 0,.int 0 0,.int 3 0,.ref 99,.bool true,.int 181 0,.ref 100,.none,.none,.none,.ref 101,.int 306 0,.int 42 0,hT 307]
noncomputable def sY (P:Params):Obj:=hF "holds_items" "holds_items" "oldhands.values" (top 16) 261 102
noncomputable def xL (P:Params):Obj:=hS []
noncomputable def xM (P:Params):Obj:=hN
noncomputable def xN (P:Params):Obj:=hU "is_record_of" "is_record_of" (top 17)
noncomputable def sZ (P:Params):Obj:=hC "is_record_of" "is_record_of" 309 310 311 [.int 46 0,.int 2 0,.int 0 0,.int 0 0,.int 3 0,.ref 104,.bool true,.int 181 0,.ref 105,.none,.none,.none,.ref 106,.int 312 0,.int 46 0,hT 313]
noncomputable def tj (P:Params):Obj:=hF "is_record_of" "is_record_of" "oldhands.values" (top 17) 261 107
noncomputable def xO (P:Params):Obj:=hS []
noncomputable def xP (P:Params):Obj:=hN
noncomputable def xQ (P:Params):Obj:=hS [.str ("pair") 318,.str ("field") 319]
noncomputable def xR (P:Params):Obj:=hS []
noncomputable def xS (P:Params):Obj:=hU "is_pair_of" "is_pair_of" (top 18)
noncomputable def tp (P:Params):Obj:=hC "is_pair_of" "is_pair_of" 315 316 317 [.int 50 0,.int 2 0,.int 0 0,.int 0 0,.int 3 0,.ref 109,.bool true,.int 181 0,.ref 110,.none,.ref 111,.ref 112,.ref 113,.int 320 0,.int 50 0,hT 321]
noncomputable def tq (P:Params):Obj:=hF "is_pair_of" "is_pair_of" "oldhands.values" (top 18) 261 114
noncomputable def xT (P:Params):Obj:=hS []
noncomputable def xU (P:Params):Obj:=hN
noncomputable def xV (P:Params):Obj:=hU "are_keyed" "are_keyed" (top 19)
noncomputable def tu (P:Params):Obj:=hC "are_keyed" "are_keyed" 323 324 325 [.int 54 0,.int 2 0,.int 0 0,.int 0 0,.int 3 0,.ref 116,.bool true,.int 181 0,.ref 117,.none,.none,.none,.ref 118,.int 326 0,.int 54 0,hT 327]
noncomputable def tw (P:Params):Obj:=hF "are_keyed" "are_keyed" "oldhands.values" (top 19) 261 119
noncomputable def xW (P:Params):Obj:=hS []
noncomputable def xX (P:Params):Obj:=hN
noncomputable def xY (P:Params):Obj:=hS [.str ("record") 332,.str ("name") 333,.str ("own") 334,.str ("value") 335]
noncomputable def xZ (P:Params):Obj:=hS []
noncomputable def x6 (P:Params):Obj:=hU "field_of" "field_of" (top 20)
noncomputable def tz (P:Params):Obj:=hC "field_of" "field_of" 329 330 331 [.int 57 0,.int 2 0,.int 0 0,.int 0 0,.int 3 0,.ref 121,.bool true,.int 181 0,.ref 122,.none,.ref 123,.ref 124,.ref 125,.int 336 0,.int 57 0,hT 337]
noncomputable def tF (P:Params):Obj:=hF "field_of" "field_of" "oldhands.values" (top 20) 261 126
noncomputable def x8 (P:Params):Obj:=hS []
noncomputable def x9 (P:Params):Obj:=hN
noncomputable def ya (P:Params):Obj:=hS [.str ("number") 346]
noncomputable def yb (P:Params):Obj:=hS []
noncomputable def yc (P:Params):Obj:=hU "figures_of" "figures_of" (top 23)
noncomputable def tG (P:Params):Obj:=hC "figures_of" "figures_of" 343 344 345 [.int 64 0,.int 1 0,.int 0 0,.int 0 0,.int 3 0,.ref 128,.bool true,.int 181 0,.ref 129,.none,.ref 130,.ref 131,.ref 132,.int 347 0,.int 64 0,hT 348]
noncomputable def tH (P:Params):Obj:=hF "figures_of" "figures_of" "oldhands.turns" (top 23) 339 133
noncomputable def yd (P:Params):Obj:=hS []
noncomputable def ye (P:Params):Obj:=hN
noncomputable def yf (P:Params):Obj:=hU "number_of" "number_of" (top 24)
noncomputable def tI (P:Params):Obj:=hC "number_of" "number_of" 350 351 352 [.int 66 0,.int 1 0,.int 0 0,.int 0 0,.int 3 0,.ref 135,.bool true,.int 181 0,.ref 136,.none,.none,.none,.ref 137,.int 353 0,.int 66 0,hT 354]
noncomputable def tK (P:Params):Obj:=hF "number_of" "number_of" "oldhands.turns" (top 24) 339 138
noncomputable def tL (P:Params):Obj:=hS [.str ("end") 374,.str ("") 375]
noncomputable def yg (P:Params):Obj:=hS []
noncomputable def yh (P:Params):Obj:=hN
noncomputable def yi (P:Params):Obj:=hS [.str ("text") 380,.str ("found") 381,.str ("at") 382,.str ("end") 383]
noncomputable def yj (P:Params):Obj:=hS []
noncomputable def yk (P:Params):Obj:=hU "words_of" "words_of" (top 35)
noncomputable def tM (P:Params):Obj:=hC "words_of" "words_of" 377 378 379 [.int 83 0,.int 1 0,.int 0 0,.int 0 0,.int 3 0,.ref 141,.bool true,.int 181 0,.ref 142,.none,.ref 143,.ref 144,.ref 145,.int 384 0,.int 83 0,hT 385]
noncomputable def tN (P:Params):Obj:=hF "words_of" "words_of" "oldhands.tokens" (top 35) 356 146
noncomputable def yl (P:Params):Obj:=hS []
noncomputable def ym (P:Params):Obj:=hN
noncomputable def yn (P:Params):Obj:=hS [.str ("text") 390,.str ("at") 391,.str ("close") 392]
noncomputable def yo (P:Params):Obj:=hS []
noncomputable def yp (P:Params):Obj:=hU "word_end" "word_end" (top 36)
noncomputable def tO (P:Params):Obj:=hC "word_end" "word_end" 387 388 389 [.int 94 0,.int 2 0,.int 0 0,.int 0 0,.int 3 0,.ref 148,.bool true,.int 181 0,.ref 149,.none,.ref 150,.ref 151,.ref 152,.int 393 0,.int 94 0,hT 394]
noncomputable def tP (P:Params):Obj:=hF "word_end" "word_end" "oldhands.tokens" (top 36) 356 153
noncomputable def yq (P:Params):Obj:=hS []
noncomputable def yr (P:Params):Obj:=hN
noncomputable def yt (P:Params):Obj:=hS [.str ("text") 399,.str ("at") 400,.str ("letters") 401,.str ("end") 402]
noncomputable def yu (P:Params):Obj:=hS []
noncomputable def yv (P:Params):Obj:=hU "run_end" "run_end" (top 37)
noncomputable def tQ (P:Params):Obj:=hC "run_end" "run_end" 396 397 398 [.int 105 0,.int 3 0,.int 0 0,.int 0 0,.int 3 0,.ref 155,.bool true,.int 181 0,.ref 156,.none,.ref 157,.ref 158,.ref 159,.int 403 0,.int 105 0,hT 404]
noncomputable def tR (P:Params):Obj:=hF "run_end" "run_end" "oldhands.tokens" (top 37) 356 160
noncomputable def yw (P:Params):Obj:=hS []
noncomputable def yx (P:Params):Obj:=hN
noncomputable def yy (P:Params):Obj:=hU "made_word" "made_word" (top 38)
noncomputable def tS (P:Params):Obj:=hC "made_word" "made_word" 406 407 408 [.int 110 0,.int 1 0,.int 0 0,.int 0 0,.int 3 0,.ref 162,.bool true,.int 181 0,.ref 163,.none,.none,.none,.ref 164,.int 409 0,.int 110 0,hT 410]
noncomputable def tT (P:Params):Obj:=hF "made_word" "made_word" "oldhands.tokens" (top 38) 356 165
noncomputable def yz (P:Params):Obj:=hS []
noncomputable def yA (P:Params):Obj:=hN
noncomputable def yB (P:Params):Obj:=hS [.str ("words") 415,.str ("deepest") 416,.str ("here") 417,.str ("sort") 418,.str ("told") 419]
noncomputable def yC (P:Params):Obj:=hS []
noncomputable def yD (P:Params):Obj:=hU "deepest_brackets" "deepest_brackets" (top 39)
noncomputable def tU (P:Params):Obj:=hC "deepest_brackets" "deepest_brackets" 412 413 414 [.int 121 0,.int 1 0,.int 0 0,.int 0 0,.int 3 0,.ref 167,.bool true,.int 181 0,.ref 168,.none,.ref 169,.ref 170,.ref 171,.int 420 0,.int 121 0,hT 421]
noncomputable def tV (P:Params):Obj:=hF "deepest_brackets" "deepest_brackets" "oldhands.tokens" (top 39) 356 172
noncomputable def yE (P:Params):Obj:=hS []
noncomputable def yF (P:Params):Obj:={ cls:=.type "builtin_function_or_method",data:=.fields #[.builtin "type.__prepare__",.type "type"] }
noncomputable def yG (P:Params):Obj:={ cls:=.type "dict",data:=.dict #[hE P "__module__" 430 (.str ("oldhands.tokens") 356),hE P "__qualname__" 432 (.str ("WordRow") 431),hE P "__firstlineno__" 434 (.int 131 433),hE P "__init__" 442 (.ref 187),hE P "coming" 451 (.ref 194),hE P "comes" 459 (.ref 201),hE P "take" 468 (.ref 208),hE P "take_mark" 476 (.ref 215),hE P "__static_attributes__" 479 (.ref 216)] 9 }
noncomputable def yH (P:Params):Obj:=hS []
noncomputable def yI (P:Params):Obj:={ cls:=.none,data:=.fields #[.int 133 0,.int 4 0,.ref 186,.int 137 0,.int 4 0,.ref 193,.int 141 0,.int 4 0,.ref 200,.int 144 0,.int 4 0,.ref 207,.int 151 0,.int 4 0,.ref 214] }
noncomputable def yJ (P:Params):Obj:=hC "WordRow" "WordRow" 425 426 427 [.int 131 0,.int 0 0,.int 0 0,.int 0 0,.int 0 0,.ref 177,.bool false,.int 181 0,.ref 178,.none,.none,.none,.none,.int 428 0,.int 131 0,hT 429]
noncomputable def yK (P:Params):Obj:={ cls:=.type "frame",slots:=#[some (.ref 179),some (.ref 3),some (.ref 176),none,some (.str ("oldhands.tokens") 356),none,some (.ref 0)] }
noncomputable def yL (P:Params):Obj:=hS []
noncomputable def yM (P:Params):Obj:=hN
noncomputable def yN (P:Params):Obj:=hS [.str ("self") 438,.str ("text") 439]
noncomputable def yO (P:Params):Obj:=hS []
noncomputable def yP (P:Params):Obj:=hU "__init__" "WordRow.__init__" (aP (top 40) 0)
noncomputable def tW (P:Params):Obj:=hC "__init__" "WordRow.__init__" 435 436 437 [.int 133 0,.int 2 0,.int 0 0,.int 0 0,.int 3 0,.ref 181,.bool true,.int 181 0,.ref 182,.none,.ref 183,.ref 184,.ref 185,.int 440 0,.int 133 0,hT 441]
noncomputable def tX (P:Params):Obj:=hF "__init__" "WordRow.__init__" "oldhands.tokens" (aP (top 40) 0) 356 186
noncomputable def yQ (P:Params):Obj:=hS []
noncomputable def yR (P:Params):Obj:=hN
noncomputable def yS (P:Params):Obj:=hS [.str ("self") 446,.str ("ahead") 447,.str ("at") 448]
noncomputable def yT (P:Params):Obj:=hS []
noncomputable def yU (P:Params):Obj:=hU "coming" "WordRow.coming" (aP (top 40) 1)
noncomputable def tY (P:Params):Obj:=hC "coming" "WordRow.coming" 443 444 445 [.int 137 0,.int 2 0,.int 0 0,.int 0 0,.int 3 0,.ref 188,.bool true,.int 181 0,.ref 189,.none,.ref 190,.ref 191,.ref 192,.int 449 0,.int 137 0,hT 450]
noncomputable def tZ (P:Params):Obj:=hF "coming" "WordRow.coming" "oldhands.tokens" (aP (top 40) 1) 356 193
noncomputable def yV (P:Params):Obj:=hS []
noncomputable def yW (P:Params):Obj:=hN
noncomputable def yX (P:Params):Obj:=hS [.str ("self") 455,.str ("mark") 456]
noncomputable def yY (P:Params):Obj:=hS []
noncomputable def yZ (P:Params):Obj:=hU "comes" "WordRow.comes" (aP (top 40) 2)
noncomputable def uc (P:Params):Obj:=hC "comes" "WordRow.comes" 452 453 454 [.int 141 0,.int 2 0,.int 0 0,.int 0 0,.int 3 0,.ref 195,.bool true,.int 181 0,.ref 196,.none,.ref 197,.ref 198,.ref 199,.int 457 0,.int 141 0,hT 458]
noncomputable def ud (P:Params):Obj:=hF "comes" "WordRow.comes" "oldhands.tokens" (aP (top 40) 2) 356 200
noncomputable def y3 (P:Params):Obj:=hS []
noncomputable def y4 (P:Params):Obj:=hN
noncomputable def y6 (P:Params):Obj:=hS [.str ("self") 463,.str ("sort") 464,.str ("found") 465]
noncomputable def y7 (P:Params):Obj:=hS []
noncomputable def y8 (P:Params):Obj:=hU "take" "WordRow.take" (aP (top 40) 3)
noncomputable def ue (P:Params):Obj:=hC "take" "WordRow.take" 460 461 462 [.int 144 0,.int 2 0,.int 0 0,.int 0 0,.int 3 0,.ref 202,.bool true,.int 181 0,.ref 203,.none,.ref 204,.ref 205,.ref 206,.int 466 0,.int 144 0,hT 467]
noncomputable def uf (P:Params):Obj:=hF "take" "WordRow.take" "oldhands.tokens" (aP (top 40) 3) 356 207
noncomputable def y9 (P:Params):Obj:=hS []
noncomputable def za (P:Params):Obj:=hN
noncomputable def zc (P:Params):Obj:=hS [.str ("self") 472,.str ("mark") 473]
noncomputable def zd (P:Params):Obj:=hS []
noncomputable def ze (P:Params):Obj:=hU "take_mark" "WordRow.take_mark" (aP (top 40) 4)
noncomputable def ug (P:Params):Obj:=hC "take_mark" "WordRow.take_mark" 469 470 471 [.int 151 0,.int 2 0,.int 0 0,.int 0 0,.int 3 0,.ref 209,.bool true,.int 181 0,.ref 210,.none,.ref 211,.ref 212,.ref 213,.int 474 0,.int 151 0,hT 475]
noncomputable def uh (P:Params):Obj:=hF "take_mark" "WordRow.take_mark" "oldhands.tokens" (aP (top 40) 4) 356 214
noncomputable def uk (P:Params):Obj:=hS [.str ("all_words") 477,.str ("place") 478]
noncomputable def ul (P:Params):Obj:={ cls:=.type "dict",data:=.dict #[hE P "__module__" 430 (.str ("oldhands.tokens") 356),hE P "__firstlineno__" 434 (.int 131 433),hE P "__init__" 442 (.ref 187),hE P "coming" 451 (.ref 194),hE P "comes" 459 (.ref 201),hE P "take" 468 (.ref 208),hE P "take_mark" 476 (.ref 215),hE P "__static_attributes__" 479 (.ref 216),hE P "__dict__" 481 (.ref 219),hE P "__weakref__" 483 (.ref 220),hE P "__doc__" 484 (.none)] 4 }
noncomputable def um (P:Params):Obj:={ cls:=.type "type",data:=.cls { name:= "WordRow",bases:=[.type "object"],mro:=[.ref 218,.type "object"],ns:=217,qualname:= "WordRow" },slots:=#[none,none,some (.str ("WordRow") 423),some (.str ("WordRow") 431),some (.builtin "object.__new__"),some (.bool true)] }
noncomputable def uo (P:Params):Obj:={ cls:=.type "getset_descriptor",data:=.fields #[.str ("__dict__") 480,.ref 218,.builtin "function.__dict__",.builtin "function.__dict__#set"] }
noncomputable def uq (P:Params):Obj:={ cls:=.type "getset_descriptor",data:=.fields #[.str ("__weakref__") 482,.ref 218,.builtin "ExceptionGroup.__weakref__",.none] }
noncomputable def zg (P:Params):Obj:={ cls:=.type "super",data:=.fields #[.ref 218,.ref 218,.ref 218] }
noncomputable def zh (P:Params):Obj:={ cls:=.type "builtin_function_or_method",data:=.fields #[.builtin "object.__init_subclass__",.ref 218] }
noncomputable def ur (P:Params):Obj:={ cls:=.type "dict",data:=.dict #[hE P "number" 489 (.ref 224),hE P "text" 492 (.ref 225),hE P "list" 494 (.ref 226),hE P "rows" 497 (.ref 227)] 4 }
noncomputable def ut (P:Params):Obj:=hS [.str ("number") 490,.str ("number") 491]
noncomputable def uu (P:Params):Obj:=hS [.str ("number") 493]
noncomputable def uv (P:Params):Obj:=hS [.str ("number") 495,.str ("kind") 496]
noncomputable def uw (P:Params):Obj:=hS [.str ("word") 498,.str ("number") 499,.str ("kind") 500]
noncomputable def ux (P:Params):Obj:={ cls:=.type "dict",data:=.dict #[hE P "bounds" 506 (.ref 229),hE P "scale" 509 (.ref 230),hE P "shrink" 511 (.ref 231),hE P "figures" 513 (.ref 232),hE P "number" 515 (.ref 233),hE P "cut" 518 (.ref 234),hE P "first" 520 (.ref 235),hE P "one" 522 (.ref 236),hE P "out" 524 (.ref 237),hE P "items" 525 (.ref 238)] 10 }
noncomputable def uy (P:Params):Obj:=hS [.str ("number") 507,.str ("number") 508]
noncomputable def uz (P:Params):Obj:=hS [.str ("number") 510]
noncomputable def uA (P:Params):Obj:=hS [.str ("number") 512]
noncomputable def uB (P:Params):Obj:=hS [.str ("number") 514]
noncomputable def uC (P:Params):Obj:=hS [.str ("number") 516,.str ("number") 517]
noncomputable def uD (P:Params):Obj:=hS [.str ("number") 519]
noncomputable def uE (P:Params):Obj:=hS [.str ("number") 521]
noncomputable def uF (P:Params):Obj:=hS [.str ("number") 523]
noncomputable def uG (P:Params):Obj:=hS []
noncomputable def uH (P:Params):Obj:=hS [.str ("turn") 526]
noncomputable def uI (P:Params):Obj:={ cls:=.type "dict",data:=.dict #[hE P "put" 538 (.ref 240),hE P "drop" 542 (.ref 241),hE P "name" 545 (.ref 242),hE P "sink" 548 (.ref 243),hE P "lift" 551 (.ref 244),hE P "turn" 554 (.ref 245),hE P "split" 557 (.ref 246),hE P "join" 562 (.ref 247),hE P "part" 567 (.ref 248),hE P "whole" 572 (.ref 249)] 10 }
noncomputable def uJ (P:Params):Obj:=hS [.str ("word") 539,.str ("kind") 540,.str ("value") 541]
noncomputable def uK (P:Params):Obj:=hS [.str ("word") 543,.str ("value") 544]
noncomputable def uL (P:Params):Obj:=hS [.str ("word") 546,.str ("word") 547]
noncomputable def uM (P:Params):Obj:=hS [.str ("word") 549,.str ("word") 550]
noncomputable def uN (P:Params):Obj:=hS [.str ("word") 552,.str ("word") 553]
noncomputable def uO (P:Params):Obj:=hS [.str ("word") 555,.str ("turn") 556]
noncomputable def uP (P:Params):Obj:=hS [.str ("word") 558,.str ("text") 559,.str ("word") 560,.str ("word") 561]
noncomputable def uQ (P:Params):Obj:=hS [.str ("word") 563,.str ("word") 564,.str ("text") 565,.str ("word") 566]
noncomputable def uR (P:Params):Obj:=hS [.str ("word") 568,.str ("number") 569,.str ("word") 570,.str ("word") 571]
noncomputable def uS (P:Params):Obj:=hS [.str ("word") 573,.str ("word") 574,.str ("number") 575,.str ("word") 576,.str ("number") 577,.str ("number") 578]
noncomputable def zi (P:Params):Obj:=hS []
noncomputable def zj (P:Params):Obj:=hN
noncomputable def zk (P:Params):Obj:=hS [.str ("sort") 593,.str ("word") 594]
noncomputable def zl (P:Params):Obj:=hS []
noncomputable def zm (P:Params):Obj:=hU "parts_behind" "parts_behind" (top 45)
noncomputable def uT (P:Params):Obj:=hC "parts_behind" "parts_behind" 590 591 592 [.int 159 0,.int 2 0,.int 0 0,.int 0 0,.int 3 0,.ref 250,.bool true,.int 181 0,.ref 251,.none,.ref 252,.ref 253,.ref 254,.int 595 0,.int 159 0,hT 596]
noncomputable def uU (P:Params):Obj:=hF "parts_behind" "parts_behind" "oldhands.words" (top 45) 487 255
noncomputable def zn (P:Params):Obj:=hS []
noncomputable def zo (P:Params):Obj:=hN
noncomputable def zp (P:Params):Obj:=hU "kind_text" "kind_text" (top 46)
noncomputable def uV (P:Params):Obj:=hC "kind_text" "kind_text" 598 599 600 [.int 165 0,.int 1 0,.int 0 0,.int 0 0,.int 3 0,.ref 257,.bool true,.int 181 0,.ref 258,.none,.none,.none,.ref 259,.int 601 0,.int 165 0,hT 602]
noncomputable def uW (P:Params):Obj:=hF "kind_text" "kind_text" "oldhands.words" (top 46) 487 260
noncomputable def zr (P:Params):Obj:=hS []
noncomputable def zu (P:Params):Obj:=hN
noncomputable def zw (P:Params):Obj:=hS [.str ("word") 607,.str ("parts") 608]
noncomputable def zx (P:Params):Obj:=hS []
noncomputable def zy (P:Params):Obj:=hU "most_exchanged" "most_exchanged" (top 47)
noncomputable def uX (P:Params):Obj:=hC "most_exchanged" "most_exchanged" 604 605 606 [.int 172 0,.int 2 0,.int 0 0,.int 0 0,.int 3 0,.ref 262,.bool true,.int 181 0,.ref 263,.none,.ref 264,.ref 265,.ref 266,.int 609 0,.int 172 0,hT 610]
noncomputable def uY (P:Params):Obj:=hF "most_exchanged" "most_exchanged" "oldhands.words" (top 47) 487 267
noncomputable def zA (P:Params):Obj:=hS []
noncomputable def zB (P:Params):Obj:=hN
noncomputable def zC (P:Params):Obj:=hU "value_text" "value_text" (top 48)
noncomputable def uZ (P:Params):Obj:=hC "value_text" "value_text" 612 613 614 [.int 176 0,.int 1 0,.int 0 0,.int 0 0,.int 3 0,.ref 269,.bool true,.int 181 0,.ref 270,.none,.none,.none,.ref 271,.int 615 0,.int 176 0,hT 616]
noncomputable def u0 (P:Params):Obj:=hF "value_text" "value_text" "oldhands.words" (top 48) 487 272
noncomputable def zD (P:Params):Obj:=hS []
noncomputable def zE (P:Params):Obj:=hN
noncomputable def zF (P:Params):Obj:=hU "turn_text" "turn_text" (top 49)
noncomputable def u3 (P:Params):Obj:=hC "turn_text" "turn_text" 618 619 620 [.int 188 0,.int 1 0,.int 0 0,.int 0 0,.int 3 0,.ref 274,.bool true,.int 181 0,.ref 275,.none,.none,.none,.ref 276,.int 621 0,.int 188 0,hT 622]
noncomputable def u4 (P:Params):Obj:=hF "turn_text" "turn_text" "oldhands.words" (top 49) 487 277
noncomputable def zG (P:Params):Obj:=hS []
noncomputable def zH (P:Params):Obj:=hN
noncomputable def zI (P:Params):Obj:=hS [.str ("piece") 627]
noncomputable def zJ (P:Params):Obj:=hS []
noncomputable def zK (P:Params):Obj:=hU "piece_text" "piece_text" (top 50)
noncomputable def u5 (P:Params):Obj:=hC "piece_text" "piece_text" 624 625 626 [.int 195 0,.int 1 0,.int 0 0,.int 0 0,.int 3 0,.ref 279,.bool true,.int 181 0,.ref 280,.none,.ref 281,.ref 282,.ref 283,.int 628 0,.int 195 0,hT 629]
noncomputable def u6 (P:Params):Obj:=hF "piece_text" "piece_text" "oldhands.words" (top 50) 487 284
noncomputable def zL (P:Params):Obj:=hS []
noncomputable def zM (P:Params):Obj:=hN
noncomputable def zN (P:Params):Obj:=hS [.str ("path") 634]
noncomputable def zO (P:Params):Obj:=hS []
noncomputable def zP (P:Params):Obj:=hU "path_text" "path_text" (top 51)
noncomputable def u7 (P:Params):Obj:=hC "path_text" "path_text" 631 632 633 [.int 197 0,.int 1 0,.int 0 0,.int 0 0,.int 3 0,.ref 286,.bool true,.int 181 0,.ref 287,.none,.ref 288,.ref 289,.ref 290,.int 635 0,.int 197 0,hT 636]
noncomputable def u8 (P:Params):Obj:=hF "path_text" "path_text" "oldhands.words" (top 51) 487 291
noncomputable def zQ (P:Params):Obj:=hS []
noncomputable def zR (P:Params):Obj:=hN
noncomputable def zS (P:Params):Obj:=hU "form_text" "form_text" (top 52)
noncomputable def u9 (P:Params):Obj:=hC "form_text" "form_text" 638 639 640 [.int 199 0,.int 2 0,.int 0 0,.int 0 0,.int 3 0,.ref 293,.bool true,.int 181 0,.ref 294,.none,.none,.none,.ref 295,.int 641 0,.int 199 0,hT 642]
noncomputable def va (P:Params):Obj:=hF "form_text" "form_text" "oldhands.words" (top 52) 487 296
noncomputable def zT (P:Params):Obj:=hS []
noncomputable def zU (P:Params):Obj:=hN
noncomputable def zV (P:Params):Obj:=hS [.str ("part") 647,.str ("sort") 648]
noncomputable def zW (P:Params):Obj:=hS []
noncomputable def zX (P:Params):Obj:=hU "part_text" "part_text" (top 53)
noncomputable def vb (P:Params):Obj:=hC "part_text" "part_text" 644 645 646 [.int 202 0,.int 2 0,.int 0 0,.int 0 0,.int 3 0,.ref 298,.bool true,.int 181 0,.ref 299,.none,.ref 300,.ref 301,.ref 302,.int 649 0,.int 202 0,hT 650]
noncomputable def vc (P:Params):Obj:=hF "part_text" "part_text" "oldhands.words" (top 53) 487 303
noncomputable def zY (P:Params):Obj:=hS []
noncomputable def zZ (P:Params):Obj:=hN
noncomputable def z6 (P:Params):Obj:=hS [.str ("word") 655,.str ("texts") 656,.str ("inner") 657]
noncomputable def z7 (P:Params):Obj:=hS []
noncomputable def z8 (P:Params):Obj:=hU "in_brackets" "in_brackets" (top 54)
noncomputable def ve (P:Params):Obj:=hC "in_brackets" "in_brackets" 652 653 654 [.int 210 0,.int 2 0,.int 0 0,.int 0 0,.int 3 0,.ref 305,.bool true,.int 181 0,.ref 306,.none,.ref 307,.ref 308,.ref 309,.int 658 0,.int 210 0,hT 659]
noncomputable def vf (P:Params):Obj:=hF "in_brackets" "in_brackets" "oldhands.words" (top 54) 487 310
noncomputable def z9 (P:Params):Obj:=hS []
noncomputable def Aa (P:Params):Obj:=hN
noncomputable def Ab (P:Params):Obj:=hS [.str ("texts") 664]
noncomputable def Ac (P:Params):Obj:=hS []
noncomputable def Ad (P:Params):Obj:=hU "with_commas" "with_commas" (top 55)
noncomputable def vg (P:Params):Obj:=hC "with_commas" "with_commas" 661 662 663 [.int 213 0,.int 1 0,.int 0 0,.int 0 0,.int 3 0,.ref 312,.bool true,.int 181 0,.ref 313,.none,.ref 314,.ref 315,.ref 316,.int 665 0,.int 213 0,hT 666]
noncomputable def vh (P:Params):Obj:=hF "with_commas" "with_commas" "oldhands.words" (top 55) 487 317
noncomputable def Ae (P:Params):Obj:=hS []
noncomputable def Af (P:Params):Obj:=hN
noncomputable def Ag (P:Params):Obj:=hS [.str ("word") 671,.str ("text") 672]
noncomputable def Ah (P:Params):Obj:=hS []
noncomputable def Ai (P:Params):Obj:=hU "pair_text" "pair_text" (top 56)
noncomputable def vi (P:Params):Obj:=hC "pair_text" "pair_text" 668 669 670 [.int 215 0,.int 2 0,.int 0 0,.int 0 0,.int 3 0,.ref 319,.bool true,.int 181 0,.ref 320,.none,.ref 321,.ref 322,.ref 323,.int 673 0,.int 215 0,hT 674]
noncomputable def vj (P:Params):Obj:=hF "pair_text" "pair_text" "oldhands.words" (top 56) 487 324
noncomputable def Aj (P:Params):Obj:=hS []
noncomputable def Ak (P:Params):Obj:=hN
noncomputable def Al (P:Params):Obj:=hS [.str ("text") 679]
noncomputable def Am (P:Params):Obj:=hS []
noncomputable def An (P:Params):Obj:=hU "quoted" "quoted" (top 57)
noncomputable def vk (P:Params):Obj:=hC "quoted" "quoted" 676 677 678 [.int 217 0,.int 1 0,.int 0 0,.int 0 0,.int 3 0,.ref 326,.bool true,.int 181 0,.ref 327,.none,.ref 328,.ref 329,.ref 330,.int 680 0,.int 217 0,hT 681]
noncomputable def vm (P:Params):Obj:=hF "quoted" "quoted" "oldhands.words" (top 57) 487 331
noncomputable def vn (P:Params):Obj:={ cls:=.type "dict",data:=.dict #[hE P "field" 685 (.str ("kind") 686),hE P "entry" 687 (.str ("value") 688),hE P "way" 689 (.str ("word") 690)] 3 }
noncomputable def vo (P:Params):Obj:=hS [.str ("[") 695,.str ("list") 696,.str ("value") 697,.str ("]") 698]
noncomputable def vp (P:Params):Obj:=hS [.str ("{") 699,.str ("record") 700,.str ("entry") 701,.str ("}") 702]
noncomputable def vq (P:Params):Obj:=hS [.str ("(") 703,.str ("rows") 704,.str ("value") 705,.str (")") 706]
noncomputable def vv (P:Params):Obj:=hS [.ref 334,.ref 335,.ref 336]
noncomputable def Ao (P:Params):Obj:=hS []
noncomputable def Ap (P:Params):Obj:=hN
noncomputable def Aq (P:Params):Obj:=hS [.str ("text") 711,.str ("kind") 712]
noncomputable def Ar (P:Params):Obj:=hS []
noncomputable def As (P:Params):Obj:=hU "read_value" "read_value" (top 61)
noncomputable def vw (P:Params):Obj:=hC "read_value" "read_value" 708 709 710 [.int 222 0,.int 2 0,.int 0 0,.int 0 0,.int 3 0,.ref 338,.bool true,.int 181 0,.ref 339,.none,.ref 340,.ref 341,.ref 342,.int 713 0,.int 222 0,hT 714]
noncomputable def vx (P:Params):Obj:=hF "read_value" "read_value" "oldhands.texts" (top 61) 683 343
noncomputable def At (P:Params):Obj:=hS []
noncomputable def Au (P:Params):Obj:=hN
noncomputable def Av (P:Params):Obj:=hS [.str ("text") 719]
noncomputable def Aw (P:Params):Obj:=hS []
noncomputable def Ax (P:Params):Obj:=hU "read_turn" "read_turn" (top 62)
noncomputable def vy (P:Params):Obj:=hC "read_turn" "read_turn" 716 717 718 [.int 224 0,.int 1 0,.int 0 0,.int 0 0,.int 3 0,.ref 345,.bool true,.int 181 0,.ref 346,.none,.ref 347,.ref 348,.ref 349,.int 720 0,.int 224 0,hT 721]
noncomputable def vz (P:Params):Obj:=hF "read_turn" "read_turn" "oldhands.texts" (top 62) 683 350
noncomputable def Ay (P:Params):Obj:=hS []
noncomputable def Az (P:Params):Obj:=hN
noncomputable def AA (P:Params):Obj:=hS [.str ("text") 726]
noncomputable def AB (P:Params):Obj:=hS []
noncomputable def AC (P:Params):Obj:=hU "read_piece" "read_piece" (top 63)
noncomputable def vA (P:Params):Obj:=hC "read_piece" "read_piece" 723 724 725 [.int 226 0,.int 1 0,.int 0 0,.int 0 0,.int 3 0,.ref 352,.bool true,.int 181 0,.ref 353,.none,.ref 354,.ref 355,.ref 356,.int 727 0,.int 226 0,hT 728]
noncomputable def vB (P:Params):Obj:=hF "read_piece" "read_piece" "oldhands.texts" (top 63) 683 357
noncomputable def AD (P:Params):Obj:=hS []
noncomputable def AE (P:Params):Obj:=hN
noncomputable def AF (P:Params):Obj:=hS [.str ("text") 733]
noncomputable def AG (P:Params):Obj:=hS []
noncomputable def AH (P:Params):Obj:=hU "read_path" "read_path" (top 64)
noncomputable def vC (P:Params):Obj:=hC "read_path" "read_path" 730 731 732 [.int 228 0,.int 1 0,.int 0 0,.int 0 0,.int 3 0,.ref 359,.bool true,.int 181 0,.ref 360,.none,.ref 361,.ref 362,.ref 363,.int 734 0,.int 228 0,hT 735]
noncomputable def vD (P:Params):Obj:=hF "read_path" "read_path" "oldhands.texts" (top 64) 683 364
noncomputable def AI (P:Params):Obj:=hS []
noncomputable def AJ (P:Params):Obj:=hN
noncomputable def AK (P:Params):Obj:=hS [.str ("text") 740,.str ("sort") 741,.str ("row") 742,.str ("told") 743]
noncomputable def AL (P:Params):Obj:=hS []
noncomputable def AM (P:Params):Obj:=hU "read_all" "read_all" (top 65)
noncomputable def vE (P:Params):Obj:=hC "read_all" "read_all" 737 738 739 [.int 230 0,.int 2 0,.int 0 0,.int 0 0,.int 3 0,.ref 366,.bool true,.int 181 0,.ref 367,.none,.ref 368,.ref 369,.ref 370,.int 744 0,.int 230 0,hT 745]
noncomputable def vF (P:Params):Obj:=hF "read_all" "read_all" "oldhands.texts" (top 65) 683 371
noncomputable def AN (P:Params):Obj:=hS []
noncomputable def AO (P:Params):Obj:=hN
noncomputable def AQ (P:Params):Obj:=hS [.str ("row") 750,.str ("sort") 751,.str ("path") 752]
noncomputable def AR (P:Params):Obj:=hS []
noncomputable def AS (P:Params):Obj:=hU "part_read" "part_read" (top 66)
noncomputable def vG (P:Params):Obj:=hC "part_read" "part_read" 747 748 749 [.int 236 0,.int 2 0,.int 0 0,.int 0 0,.int 3 0,.ref 373,.bool true,.int 181 0,.ref 374,.none,.ref 375,.ref 376,.ref 377,.int 753 0,.int 236 0,hT 754]
noncomputable def vH (P:Params):Obj:=hF "part_read" "part_read" "oldhands.texts" (top 66) 683 378
noncomputable def AT (P:Params):Obj:=hS []
noncomputable def AU (P:Params):Obj:=hN
noncomputable def AV (P:Params):Obj:=hS [.str ("row") 759,.str ("sort") 760,.str ("word") 761]
noncomputable def AW (P:Params):Obj:=hS []
noncomputable def AX (P:Params):Obj:=hU "pair_read" "pair_read" (top 67)
noncomputable def vI (P:Params):Obj:=hC "pair_read" "pair_read" 756 757 758 [.int 253 0,.int 2 0,.int 0 0,.int 0 0,.int 3 0,.ref 380,.bool true,.int 181 0,.ref 381,.none,.ref 382,.ref 383,.ref 384,.int 762 0,.int 253 0,hT 763]
noncomputable def vJ (P:Params):Obj:=hF "pair_read" "pair_read" "oldhands.texts" (top 67) 683 385
noncomputable def AY (P:Params):Obj:=hS []
noncomputable def AZ (P:Params):Obj:=hN
noncomputable def A0 (P:Params):Obj:=hS [.str ("row") 768,.str ("word") 769,.str ("found") 770]
noncomputable def A1 (P:Params):Obj:=hS []
noncomputable def A2 (P:Params):Obj:=hU "kind_read" "kind_read" (top 68)
noncomputable def vK (P:Params):Obj:=hC "kind_read" "kind_read" 765 766 767 [.int 257 0,.int 1 0,.int 0 0,.int 0 0,.int 3 0,.ref 387,.bool true,.int 181 0,.ref 388,.none,.ref 389,.ref 390,.ref 391,.int 771 0,.int 257 0,hT 772]
noncomputable def vL (P:Params):Obj:=hF "kind_read" "kind_read" "oldhands.texts" (top 68) 683 392
noncomputable def A3 (P:Params):Obj:=hS []
noncomputable def A4 (P:Params):Obj:=hN
noncomputable def A5 (P:Params):Obj:=hS [.str ("row") 777,.str ("opening") 778,.str ("word") 779,.str ("sort") 780,.str ("closing") 781]
noncomputable def A6 (P:Params):Obj:=hS []
noncomputable def A7 (P:Params):Obj:=hU "value_read" "value_read" (top 69)
noncomputable def vM (P:Params):Obj:=hC "value_read" "value_read" 774 775 776 [.int 267 0,.int 1 0,.int 0 0,.int 0 0,.int 3 0,.ref 394,.bool true,.int 181 0,.ref 395,.none,.ref 396,.ref 397,.ref 398,.int 782 0,.int 267 0,hT 783]
noncomputable def vN (P:Params):Obj:=hF "value_read" "value_read" "oldhands.texts" (top 69) 683 399
noncomputable def A8 (P:Params):Obj:=hS []
noncomputable def A9 (P:Params):Obj:=hN
noncomputable def Ba (P:Params):Obj:=hS [.str ("row") 788,.str ("word") 789,.str ("forth") 790]
noncomputable def Bb (P:Params):Obj:=hS []
noncomputable def Bc (P:Params):Obj:=hU "turn_read" "turn_read" (top 70)
noncomputable def vO (P:Params):Obj:=hC "turn_read" "turn_read" 785 786 787 [.int 275 0,.int 1 0,.int 0 0,.int 0 0,.int 3 0,.ref 401,.bool true,.int 181 0,.ref 402,.none,.ref 403,.ref 404,.ref 405,.int 791 0,.int 275 0,hT 792]
noncomputable def vP (P:Params):Obj:=hF "turn_read" "turn_read" "oldhands.texts" (top 70) 683 406
noncomputable def Bd (P:Params):Obj:=hS []
noncomputable def Be (P:Params):Obj:=hN
noncomputable def Bf (P:Params):Obj:=hS [.str ("row") 797,.str ("names") 798]
noncomputable def Bg (P:Params):Obj:=hS []
noncomputable def Bh (P:Params):Obj:=hU "path_read" "path_read" (top 71)
noncomputable def vQ (P:Params):Obj:=hC "path_read" "path_read" 794 795 796 [.int 282 0,.int 1 0,.int 0 0,.int 0 0,.int 3 0,.ref 408,.bool true,.int 181 0,.ref 409,.none,.ref 410,.ref 411,.ref 412,.int 799 0,.int 282 0,hT 800]
noncomputable def vR (P:Params):Obj:=hF "path_read" "path_read" "oldhands.texts" (top 71) 683 413
noncomputable def Bi (P:Params):Obj:=hS []
noncomputable def Bj (P:Params):Obj:=hN
noncomputable def Bk (P:Params):Obj:=hS [.str ("row") 805,.str ("sort") 806,.str ("word") 807,.str ("form") 808,.str ("found") 809,.str ("part_sort") 810]
noncomputable def Bl (P:Params):Obj:=hS []
noncomputable def Bm (P:Params):Obj:=hU "form_read" "form_read" (top 72)
noncomputable def vT (P:Params):Obj:=hC "form_read" "form_read" 802 803 804 [.int 291 0,.int 3 0,.int 0 0,.int 0 0,.int 3 0,.ref 415,.bool true,.int 181 0,.ref 416,.none,.ref 417,.ref 418,.ref 419,.int 811 0,.int 291 0,hT 812]
noncomputable def vU (P:Params):Obj:=hF "form_read" "form_read" "oldhands.texts" (top 72) 683 420
noncomputable def Bn (P:Params):Obj:=hS []
noncomputable def Bo (P:Params):Obj:=hN
noncomputable def Bp (P:Params):Obj:=hS [.str ("row") 817,.str ("sort") 818,.str ("closing") 819,.str ("found") 820]
noncomputable def Bq (P:Params):Obj:=hS []
noncomputable def Br (P:Params):Obj:=hU "list_read" "list_read" (top 73)
noncomputable def vV (P:Params):Obj:=hC "list_read" "list_read" 814 815 816 [.int 303 0,.int 3 0,.int 0 0,.int 0 0,.int 3 0,.ref 422,.bool true,.int 181 0,.ref 423,.none,.ref 424,.ref 425,.ref 426,.int 821 0,.int 303 0,hT 822]
noncomputable def vW (P:Params):Obj:=hF "list_read" "list_read" "oldhands.texts" (top 73) 683 427
noncomputable def Bs (P:Params):Obj:=hS []
noncomputable def Bt (P:Params):Obj:=hN
noncomputable def Bu (P:Params):Obj:=hS [.str ("parts") 827]
noncomputable def Bv (P:Params):Obj:=hS []
noncomputable def Bw (P:Params):Obj:=hU "at_least_one" "at_least_one" (top 74)
noncomputable def vX (P:Params):Obj:=hC "at_least_one" "at_least_one" 824 825 826 [.int 311 0,.int 1 0,.int 0 0,.int 0 0,.int 3 0,.ref 429,.bool true,.int 181 0,.ref 430,.none,.ref 431,.ref 432,.ref 433,.int 828 0,.int 311 0,hT 829]
noncomputable def vY (P:Params):Obj:=hF "at_least_one" "at_least_one" "oldhands.texts" (top 74) 683 434
noncomputable def Bx (P:Params):Obj:=hS []
noncomputable def By (P:Params):Obj:=hN
noncomputable def Bz (P:Params):Obj:=hS [.str ("script") 836,.str ("k") 837]
noncomputable def BA (P:Params):Obj:=hS []
noncomputable def BB (P:Params):Obj:=hU "_law_cell_at" "_law_cell_at" (top 76)
noncomputable def vZ (P:Params):Obj:=hC "_law_cell_at" "_law_cell_at" 833 834 835 [.int 316 0,.int 2 0,.int 0 0,.int 0 0,.int 3 0,.ref 436,.bool true,.int 181 0,.ref 437,.none,.ref 438,.ref 439,.ref 440,.int 838 0,.int 316 0,hT 839]
noncomputable def v6 (P:Params):Obj:=hF "_law_cell_at" "_law_cell_at" "law_oldhands_k91_as_great_as_may_be" (top 76) 831 441
noncomputable def BC (P:Params):Obj:=hS []
noncomputable def BD (P:Params):Obj:=hN
noncomputable def BE (P:Params):Obj:=hS [.str ("cell") 844,.str ("k") 845,.str ("stir") 846]
noncomputable def BF (P:Params):Obj:=hS []
noncomputable def BG (P:Params):Obj:=hU "_law_mixed" "_law_mixed" (top 77)
noncomputable def v7 (P:Params):Obj:=hC "_law_mixed" "_law_mixed" 841 842 843 [.int 320 0,.int 2 0,.int 0 0,.int 0 0,.int 3 0,.ref 443,.bool true,.int 181 0,.ref 444,.none,.ref 445,.ref 446,.ref 447,.int 847 0,.int 320 0,hT 848]
noncomputable def v9 (P:Params):Obj:=hF "_law_mixed" "_law_mixed" "law_oldhands_k91_as_great_as_may_be" (top 77) 831 448
noncomputable def BH (P:Params):Obj:=hS []
noncomputable def BI (P:Params):Obj:=hN
noncomputable def BJ (P:Params):Obj:=hS [.str ("script") 853,.str ("k") 854,.str ("turn") 855,.str ("cell") 856,.str ("found") 857,.str ("j") 858]
noncomputable def BK (P:Params):Obj:=hS []
noncomputable def BL (P:Params):Obj:=hU "_law_own" "_law_own" (top 78)
noncomputable def wa (P:Params):Obj:=hC "_law_own" "_law_own" 850 851 852 [.int 323 0,.int 3 0,.int 0 0,.int 0 0,.int 3 0,.ref 450,.bool true,.int 181 0,.ref 451,.none,.ref 452,.ref 453,.ref 454,.int 859 0,.int 323 0,hT 860]
noncomputable def wf (P:Params):Obj:=hF "_law_own" "_law_own" "law_oldhands_k91_as_great_as_may_be" (top 78) 831 455
noncomputable def BM (P:Params):Obj:=hS []
noncomputable def BN (P:Params):Obj:=hN
noncomputable def BO (P:Params):Obj:=hS [.str ("row") 865,.str ("many") 866,.str ("digit") 867]
noncomputable def BP (P:Params):Obj:=hS []
noncomputable def BQ (P:Params):Obj:=hU "_law_digit" "_law_digit" (top 79)
noncomputable def wg (P:Params):Obj:=hC "_law_digit" "_law_digit" 862 863 864 [.int 331 0,.int 2 0,.int 0 0,.int 0 0,.int 3 0,.ref 457,.bool true,.int 181 0,.ref 458,.none,.ref 459,.ref 460,.ref 461,.int 868 0,.int 331 0,hT 869]
noncomputable def wj (P:Params):Obj:=hF "_law_digit" "_law_digit" "law_oldhands_k91_as_great_as_may_be" (top 79) 831 462
noncomputable def BR (P:Params):Obj:=hS []
noncomputable def BS (P:Params):Obj:=hN
noncomputable def BU (P:Params):Obj:=hS [.str ("text") 874,.str ("told") 875]
noncomputable def BV (P:Params):Obj:=hS []
noncomputable def BW (P:Params):Obj:=hU "_law_turn_told" "_law_turn_told" (top 80)
noncomputable def wk (P:Params):Obj:=hC "_law_turn_told" "_law_turn_told" 871 872 873 [.int 335 0,.int 1 0,.int 0 0,.int 0 0,.int 3 0,.ref 464,.bool true,.int 181 0,.ref 465,.none,.ref 466,.ref 467,.ref 468,.int 876 0,.int 335 0,hT 877]
noncomputable def wl (P:Params):Obj:=hF "_law_turn_told" "_law_turn_told" "law_oldhands_k91_as_great_as_may_be" (top 80) 831 469
noncomputable def BX (P:Params):Obj:=hS []
noncomputable def BY (P:Params):Obj:=hN
noncomputable def BZ (P:Params):Obj:=hS [.str ("text") 882,.str ("told") 883]
noncomputable def B1 (P:Params):Obj:=hS []
noncomputable def B2 (P:Params):Obj:=hU "_law_piece_told" "_law_piece_told" (top 81)
noncomputable def wm (P:Params):Obj:=hC "_law_piece_told" "_law_piece_told" 879 880 881 [.int 342 0,.int 1 0,.int 0 0,.int 0 0,.int 3 0,.ref 471,.bool true,.int 181 0,.ref 472,.none,.ref 473,.ref 474,.ref 475,.int 884 0,.int 342 0,hT 885]
noncomputable def wn (P:Params):Obj:=hF "_law_piece_told" "_law_piece_told" "law_oldhands_k91_as_great_as_may_be" (top 81) 831 476
noncomputable def B3 (P:Params):Obj:=hS []
noncomputable def B4 (P:Params):Obj:=hN
noncomputable def B5 (P:Params):Obj:=hS [.str ("text") 890,.str ("told") 891]
noncomputable def B6 (P:Params):Obj:=hS []
noncomputable def B7 (P:Params):Obj:=hU "_law_path_told" "_law_path_told" (top 82)
noncomputable def wo (P:Params):Obj:=hC "_law_path_told" "_law_path_told" 887 888 889 [.int 349 0,.int 1 0,.int 0 0,.int 0 0,.int 3 0,.ref 478,.bool true,.int 181 0,.ref 479,.none,.ref 480,.ref 481,.ref 482,.int 892 0,.int 349 0,hT 893]
noncomputable def wq (P:Params):Obj:=hF "_law_path_told" "_law_path_told" "law_oldhands_k91_as_great_as_may_be" (top 82) 831 483
noncomputable def B8 (P:Params):Obj:=hS []
noncomputable def B9 (P:Params):Obj:=hN
noncomputable def Ca (P:Params):Obj:=hS [.str ("text") 898,.str ("told") 899]
noncomputable def Cb (P:Params):Obj:=hS []
noncomputable def Cc (P:Params):Obj:=hU "_law_value_told" "_law_value_told" (top 83)
noncomputable def wt (P:Params):Obj:=hC "_law_value_told" "_law_value_told" 895 896 897 [.int 356 0,.int 1 0,.int 0 0,.int 0 0,.int 3 0,.ref 485,.bool true,.int 181 0,.ref 486,.none,.ref 487,.ref 488,.ref 489,.int 900 0,.int 356 0,hT 901]
noncomputable def ww (P:Params):Obj:=hF "_law_value_told" "_law_value_told" "law_oldhands_k91_as_great_as_may_be" (top 83) 831 490
noncomputable def Cd (P:Params):Obj:=hS []
noncomputable def Ce (P:Params):Obj:=hN
noncomputable def Cf (P:Params):Obj:=hS [.str ("text") 906,.str ("good") 907]
noncomputable def Cg (P:Params):Obj:=hS []
noncomputable def Ch (P:Params):Obj:=hU "_law_due" "_law_due" (top 84)
noncomputable def wx (P:Params):Obj:=hC "_law_due" "_law_due" 903 904 905 [.int 365 0,.int 2 0,.int 0 0,.int 0 0,.int 3 0,.ref 492,.bool true,.int 181 0,.ref 493,.none,.ref 494,.ref 495,.ref 496,.int 908 0,.int 365 0,hT 909]
noncomputable def wy (P:Params):Obj:=hF "_law_due" "_law_due" "law_oldhands_k91_as_great_as_may_be" (top 84) 831 497
noncomputable def Ci (P:Params):Obj:=hS []
noncomputable def Cj (P:Params):Obj:=hN
noncomputable def Ck (P:Params):Obj:=hS [.str ("row") 914,.str ("deep") 915,.str ("text") 916,.str ("value") 917,.str ("k") 918,.str ("mark") 919]
noncomputable def Cl (P:Params):Obj:=hS []
noncomputable def Cm (P:Params):Obj:=hU "_law_deep" "_law_deep" (top 85)
noncomputable def wA (P:Params):Obj:=hC "_law_deep" "_law_deep" 911 912 913 [.int 369 0,.int 1 0,.int 0 0,.int 0 0,.int 3 0,.ref 499,.bool true,.int 181 0,.ref 500,.none,.ref 501,.ref 502,.ref 503,.int 920 0,.int 369 0,hT 921]
noncomputable def wB (P:Params):Obj:=hF "_law_deep" "_law_deep" "law_oldhands_k91_as_great_as_may_be" (top 85) 831 504
noncomputable def Cn (P:Params):Obj:=hS []
noncomputable def Co (P:Params):Obj:=hN
noncomputable def Cp (P:Params):Obj:=hS [.str ("row") 926,.str ("many") 927,.str ("figures") 928,.str ("text") 929,.str ("size") 930,.str ("word") 931]
noncomputable def Cq (P:Params):Obj:=hS []
noncomputable def Cr (P:Params):Obj:=hU "_law_long" "_law_long" (top 86)
noncomputable def wC (P:Params):Obj:=hC "_law_long" "_law_long" 923 924 925 [.int 385 0,.int 1 0,.int 0 0,.int 0 0,.int 3 0,.ref 506,.bool true,.int 181 0,.ref 507,.none,.ref 508,.ref 509,.ref 510,.int 932 0,.int 385 0,hT 933]
noncomputable def wD (P:Params):Obj:=hF "_law_long" "_law_long" "law_oldhands_k91_as_great_as_may_be" (top 86) 831 511
noncomputable def Cs (P:Params):Obj:=hS []
noncomputable def Ct (P:Params):Obj:=hN
noncomputable def Cu (P:Params):Obj:=hS [.str ("script") 938,.str ("k") 939]
noncomputable def Cv (P:Params):Obj:=hS []
noncomputable def Cw (P:Params):Obj:=hU "law" "law" (top 87)
noncomputable def wE (P:Params):Obj:=hC "law" "law" 935 936 937 [.int 401 0,.int 1 0,.int 0 0,.int 0 0,.int 3 0,.ref 513,.bool true,.int 181 0,.ref 514,.none,.ref 515,.ref 516,.ref 517,.int 940 0,.int 401 0,hT 941]
noncomputable def wF (P:Params):Obj:=hF "law" "law" "law_oldhands_k91_as_great_as_may_be" (top 87) 831 518
noncomputable abbrev N (v:Obj) (l r:PySem.W.BT):PySem.W.BT:=.node v l r
noncomputable abbrev E:PySem.W.BT:=.nil
noncomputable def fT (P:Params):PySem.W.BT:=N (o0 P) (N (o1 P) (N (o3 P) (N (o7 P) (N (o15 P) (N (o31 P) (N (o63 P) (N (tF P) (N (uT P) (N (wC P) E E) E) (N (AW P) E E)) (N (yT P) (N (Ae P) E E) (N (BG P) E E))) (N (o95 P) (N (yv P) (N (zM P) E E) (N (Bi P) E E)) (N (ur P) (N (vz P) E E) (N (B4 P) E E)))) (N (o47 P) (N (o79 P) (N (yi P) (N (zC P) E E) (N (vM P) E E)) (N (ue P) (N (vp P) E E) (N (wj P) E E))) (N (xQ P) (N (yF P) (N (vb P) E E) (N (Bu P) E E)) (N (uI P) (N (AJ P) E E) (N (Cg P) E E))))) (N (o23 P) (N (o39 P) (N (o71 P) (N (yd P) (N (zu P) (N (wF P) E E) E) (N (A2 P) E E)) (N (yZ P) (N (Ak P) E E) (N (wa P) E E))) (N (sY P) (N (yz P) (N (zS P) E E) (N (Bo P) E E)) (N (uA P) (N (AD P) E E) (N (Ca P) E E)))) (N (o55 P) (N (o87 P) (N (yo P) (N (zG P) E E) (N (vP P) E E)) (N (uh P) (N (vw P) E E) (N (BX P) E E))) (N (tu P) (N (yN P) (N (vf P) E E) (N (BA P) E E)) (N (uQ P) (N (AQ P) E E) (N (Cm P) E E)))))) (N (o11 P) (N (o19 P) (N (o35 P) (N (o67 P) (N (yb P) (N (zp P) (N (Cu P) E E) E) (N (AY P) E E)) (N (yV P) (N (Ai P) E E) (N (BI P) E E))) (N (o99 P) (N (yx P) (N (u7 P) E E) (N (Bm P) E E)) (N (uw P) (N (AB P) E E) (N (wo P) E E)))) (N (o51 P) (N (o83 P) (N (tN P) (N (zE P) E E) (N (Ba P) E E)) (N (zc P) (N (Ap P) E E) (N (BV P) E E))) (N (tq P) (N (yJ P) (N (z6 P) E E) (N (vY P) E E)) (N (uM P) (N (vE P) E E) (N (Ci P) E E))))) (N (o27 P) (N (o43 P) (N (o75 P) (N (tK P) (N (uX P) E E) (N (A4 P) E E)) (N (y4 P) (N (vk P) E E) (N (BO P) E E))) (N (sZ P) (N (yD P) (N (zU P) E E) (N (vV P) E E)) (N (uE P) (N (AH P) E E) (N (ww P) E E)))) (N (o59 P) (N (o91 P) (N (yq P) (N (zK P) E E) (N (Bg P) E E)) (N (uo P) (N (Av P) E E) (N (B2 P) E E))) (N (xY P) (N (tX P) (N (Ac P) E E) (N (BC P) E E)) (N (zj P) (N (vH P) E E) (N (Co P) E E))))))) (N (o5 P) (N (o9 P) (N (o17 P) (N (o33 P) (N (o65 P) (N (x9 P) (N (zn P) (N (Cs P) E E) E) (N (vI P) E E)) (N (tY P) (N (Ag P) E E) (N (v9 P) E E))) (N (o97 P) (N (tR P) (N (zO P) E E) (N (Bk P) E E)) (N (uu P) (N (Az P) E E) (N (B6 P) E E)))) (N (o49 P) (N (o81 P) (N (yk P) (N (u0 P) E E) (N (A8 P) E E)) (N (y9 P) (N (vv P) E E) (N (BS P) E E))) (N (xS P) (N (yH P) (N (zY P) E E) (N (Bw P) E E)) (N (uK P) (N (AL P) E E) (N (wx P) E E))))) (N (o25 P) (N (o41 P) (N (o73 P) (N (yf P) (N (zx P) E E) (N (vL P) E E)) (N (ud P) (N (Am P) E E) (N (BM P) E E))) (N (xM P) (N (yB P) (N (va P) E E) (N (Bq P) E E)) (N (uC P) (N (AF P) E E) (N (Cc P) E E)))) (N (o57 P) (N (o89 P) (N (tO P) (N (zI P) E E) (N (Be P) E E)) (N (ul P) (N (At P) E E) (N (BZ P) E E))) (N (xW P) (N (yP P) (N (Aa P) E E) (N (vZ P) E E)) (N (uS P) (N (AS P) E E) (N (wB P) E E)))))) (N (o13 P) (N (o21 P) (N (o37 P) (N (o69 P) (N (tG P) (N (uW P) (N (Cw P) E E) E) (N (A0 P) E E)) (N (yX P) (N (vj P) E E) (N (BK P) E E))) (N (xK P) (N (tS P) (N (zQ P) E E) (N (vU P) E E)) (N (uy P) (N (vA P) E E) (N (B8 P) E E)))) (N (o53 P) (N (o85 P) (N (ym P) (N (u3 P) E E) (N (Bc P) E E)) (N (ze P) (N (Ar P) E E) (N (wk P) E E))) (N (xU P) (N (yL P) (N (z8 P) E E) (N (By P) E E)) (N (uO P) (N (AN P) E E) (N (Ck P) E E))))) (N (o29 P) (N (o45 P) (N (o77 P) (N (yg P) (N (zA P) E E) (N (A6 P) E E)) (N (y7 P) (N (vn P) E E) (N (BQ P) E E))) (N (xO P) (N (tV P) (N (zW P) E E) (N (Bs P) E E)) (N (uG P) (N (vD P) E E) (N (Ce P) E E)))) (N (o61 P) (N (o93 P) (N (yt P) (N (u6 P) E E) (N (vQ P) E E)) (N (zg P) (N (Ax P) E E) (N (wn P) E E))) (N (x6 P) (N (yR P) (N (vg P) E E) (N (BE P) E E)) (N (zl P) (N (AU P) E E) (N (Cq P) E E)))))))) (N (o2 P) (N (o4 P) (N (o8 P) (N (o16 P) (N (o32 P) (N (o64 P) (N (x8 P) (N (uU P) (N (wD P) E E) E) (N (AX P) E E)) (N (yU P) (N (Af P) E E) (N (v7 P) E E))) (N (o96 P) (N (tQ P) (N (zN P) E E) (N (Bj P) E E)) (N (ut P) (N (Ay P) E E) (N (B5 P) E E)))) (N (o48 P) (N (o80 P) (N (yj P) (N (uZ P) E E) (N (vN P) E E)) (N (uf P) (N (vq P) E E) (N (BR P) E E))) (N (xR P) (N (yG P) (N (vc P) E E) (N (Bv P) E E)) (N (uJ P) (N (AK P) E E) (N (Ch P) E E))))) (N (o24 P) (N (o40 P) (N (o72 P) (N (ye P) (N (zw P) E E) (N (vK P) E E)) (N (uc P) (N (Al P) E E) (N (wf P) E E))) (N (xL P) (N (yA P) (N (u9 P) E E) (N (Bp P) E E)) (N (uB P) (N (AE P) E E) (N (Cb P) E E)))) (N (o56 P) (N (o88 P) (N (yp P) (N (zH P) E E) (N (Bd P) E E)) (N (uk P) (N (vx P) E E) (N (BY P) E E))) (N (tw P) (N (yO P) (N (z9 P) E E) (N (BB P) E E)) (N (uR P) (N (AR P) E E) (N (wA P) E E)))))) (N (o12 P) (N (o20 P) (N (o36 P) (N (o68 P) (N (yc P) (N (uV P) (N (Cv P) E E) E) (N (AZ P) E E)) (N (yW P) (N (vi P) E E) (N (BJ P) E E))) (N (xJ P) (N (yy P) (N (u8 P) E E) (N (vT P) E E)) (N (ux P) (N (AC P) E E) (N (wq P) E E)))) (N (o52 P) (N (o84 P) (N (yl P) (N (zF P) E E) (N (Bb P) E E)) (N (zd P) (N (Aq P) E E) (N (BW P) E E))) (N (xT P) (N (yK P) (N (z7 P) E E) (N (Bx P) E E)) (N (uN P) (N (vF P) E E) (N (Cj P) E E))))) (N (o28 P) (N (o44 P) (N (o76 P) (N (tL P) (N (uY P) E E) (N (A5 P) E E)) (N (y6 P) (N (vm P) E E) (N (BP P) E E))) (N (tj P) (N (tU P) (N (zV P) E E) (N (vW P) E E)) (N (uF P) (N (vC P) E E) (N (Cd P) E E)))) (N (o60 P) (N (o92 P) (N (yr P) (N (u5 P) E E) (N (Bh P) E E)) (N (uq P) (N (Aw P) E E) (N (wm P) E E))) (N (xZ P) (N (yQ P) (N (Ad P) E E) (N (BD P) E E)) (N (zk P) (N (AT P) E E) (N (Cp P) E E))))))) (N (o6 P) (N (o10 P) (N (o18 P) (N (o34 P) (N (o66 P) (N (ya P) (N (zo P) (N (Ct P) E E) E) (N (vJ P) E E)) (N (tZ P) (N (Ah P) E E) (N (BH P) E E))) (N (o98 P) (N (yw P) (N (zP P) E E) (N (Bl P) E E)) (N (uv P) (N (AA P) E E) (N (B7 P) E E)))) (N (o50 P) (N (o82 P) (N (tM P) (N (zD P) E E) (N (A9 P) E E)) (N (za P) (N (Ao P) E E) (N (BU P) E E))) (N (tp P) (N (yI P) (N (zZ P) E E) (N (vX P) E E)) (N (uL P) (N (AM P) E E) (N (wy P) E E))))) (N (o26 P) (N (o42 P) (N (o74 P) (N (tI P) (N (zy P) E E) (N (A3 P) E E)) (N (y3 P) (N (An P) E E) (N (BN P) E E))) (N (xN P) (N (yC P) (N (zT P) E E) (N (Br P) E E)) (N (uD P) (N (AG P) E E) (N (wt P) E E)))) (N (o58 P) (N (o90 P) (N (tP P) (N (zJ P) E E) (N (Bf P) E E)) (N (um P) (N (Au P) E E) (N (B1 P) E E))) (N (xX P) (N (tW P) (N (Ab P) E E) (N (v6 P) E E)) (N (zi P) (N (vG P) E E) (N (Cn P) E E)))))) (N (o14 P) (N (o22 P) (N (o38 P) (N (o70 P) (N (tH P) (N (zr P) (N (wE P) E E) E) (N (A1 P) E E)) (N (yY P) (N (Aj P) E E) (N (BL P) E E))) (N (sX P) (N (tT P) (N (zR P) E E) (N (Bn P) E E)) (N (uz P) (N (vB P) E E) (N (B9 P) E E)))) (N (o54 P) (N (o86 P) (N (yn P) (N (u4 P) E E) (N (vO P) E E)) (N (ug P) (N (As P) E E) (N (wl P) E E))) (N (xV P) (N (yM P) (N (ve P) E E) (N (Bz P) E E)) (N (uP P) (N (AO P) E E) (N (Cl P) E E))))) (N (o30 P) (N (o46 P) (N (o78 P) (N (yh P) (N (zB P) E E) (N (A7 P) E E)) (N (y8 P) (N (vo P) E E) (N (wg P) E E))) (N (xP P) (N (yE P) (N (zX P) E E) (N (Bt P) E E)) (N (uH P) (N (AI P) E E) (N (Cf P) E E)))) (N (o62 P) (N (o94 P) (N (yu P) (N (zL P) E E) (N (vR P) E E)) (N (zh P) (N (vy P) E E) (N (B3 P) E E))) (N (tz P) (N (yS P) (N (vh P) E E) (N (BF P) E E)) (N (zm P) (N (AV P) E E) (N (Cr P) E E))))))))
noncomputable def fO (P:Params) (i:Nat):Obj:=match (fT P).get i with | some v=>v | none=>hN
noncomputable def mT (P:Params) (n:Nat):Nat→Nat→Nat→PySem.W.BT
 | 0,_,_=>.nil
 | k+1,a,b=>match Nat.blt b n with
  | true=>.node (fO P b) (mT P n k (Nat.mul 2 a) (Nat.add a b)) (mT P n k (Nat.mul 2 a) (Nat.add (Nat.mul 2 a) b))
  | false=>.nil
noncomputable abbrev hA1:Option Value:=some (.ref 6)
noncomputable abbrev hB1:List Frame:=[PySem.W.topFrame ⟨0,0,0,0⟩]
noncomputable def cg:Env:={ scope:=PySem.Challenge.pw_oldhands_k91_as_great_as_may_be.main.scope,locals:=mainNs,globals:=mainNs,cells:=[],code:=.ref 13,frame:=some 14 }
noncomputable abbrev hCo:Code:=.body (PySem.W.behindTheImports PySem.Challenge.pw_oldhands_k91_as_great_as_may_be) cg
noncomputable def hp0 (P:Params):Heap:=⟨Array.mk (o0 P :: o1 P :: o2 P :: (gD P "__main__" 164 8 9) :: o4 P :: o5 P :: o6 P :: o7 P :: o8 P :: o9 P :: o10 P :: o11 P :: (tD 0) :: o13 P :: o14 P :: []),{}⟩
noncomputable def tB (P:Params):PySem.W.BT:=((mT P 15 11 1 0).set 3 (fun _=>gD P "__main__" 164 8 9)).set 12 (fun _=>tD 0)
noncomputable def sB (w:World) (os:OsState):PySem.W.SharedT:=⟨tB w.params,15,{},Array.mk [],{},187,os⟩
noncomputable def t0 (P:Params):PySem.W.BT:=(((mT P 28 11 1 0).set 3 (fun _=>gD P "oldhands.errors" 187 9 10)).set 12 (fun _=>tD 3)).set 24 (fun _=>{ cls:=.type "type",data:=.cls { name:= "HandError",bases:=[.type "ValueError"],mro:=[.ref 24,.type "ValueError",.type "Exception",.type "BaseException",.type "object"],ns:=23,qualname:= "HandError" },slots:=#[some (.ref 15),none,some (.str ("HandError") 189),some (.str ("HandError") 197),some (.builtin "ValueError.__new__"),some (.bool true)] })
noncomputable def s0 (w:World) (os:OsState):PySem.W.SharedT:=⟨t0 w.params,28,{},Array.mk [],{},207,os⟩
noncomputable def st0:List Stmt:=((PySem.W.behindTheImports PySem.Challenge.pw_oldhands_k91_as_great_as_may_be).drop 0).take 2
noncomputable def t1 (P:Params):PySem.W.BT:=(((mT P 40 11 1 0).set 3 (fun _=>gD P "oldhands.errors" 187 10 11)).set 12 (fun _=>tD 6)).set 24 (fun _=>{ cls:=.type "type",data:=.cls { name:= "HandError",bases:=[.type "ValueError"],mro:=[.ref 24,.type "ValueError",.type "Exception",.type "BaseException",.type "object"],ns:=23,qualname:= "HandError",subclasses:=[.ref 37] },slots:=#[some (.ref 15),none,some (.str ("HandError") 189),some (.str ("HandError") 197),some (.builtin "ValueError.__new__"),some (.bool true)] })
noncomputable def s1 (w:World) (os:OsState):PySem.W.SharedT:=⟨t1 w.params,40,{},Array.mk [],{},223,os⟩
noncomputable def st1:List Stmt:=((PySem.W.behindTheImports PySem.Challenge.pw_oldhands_k91_as_great_as_may_be).drop 2).take 1
noncomputable def t2 (P:Params):PySem.W.BT:=((mT P 80 11 1 0).set 3 (fun _=>gD P "oldhands.values" 261 18 19)).set 12 (fun _=>tD 21)
noncomputable def s2 (w:World) (os:OsState):PySem.W.SharedT:=⟨t2 w.params,80,{},Array.mk [],{},281,os⟩
noncomputable def st2:List Stmt:=((PySem.W.behindTheImports PySem.Challenge.pw_oldhands_k91_as_great_as_may_be).drop 3).take 10
noncomputable def t3 (P:Params):PySem.W.BT:=((mT P 141 11 1 0).set 3 (fun _=>gD P "oldhands.tokens" 356 38 39)).set 12 (fun _=>tD 51)
noncomputable def s3 (w:World) (os:OsState):PySem.W.SharedT:=⟨t3 w.params,141,{},Array.mk [],{},377,os⟩
noncomputable def st3:List Stmt:=((PySem.W.behindTheImports PySem.Challenge.pw_oldhands_k91_as_great_as_may_be).drop 13).take 22
noncomputable def t4 (P:Params):PySem.W.BT:=((mT P 174 11 1 0).set 3 (fun _=>gD P "oldhands.tokens" 356 43 44)).set 12 (fun _=>tD 66)
noncomputable def s4 (w:World) (os:OsState):PySem.W.SharedT:=⟨t4 w.params,174,{},Array.mk [],{},423,os⟩
noncomputable def st4:List Stmt:=((PySem.W.behindTheImports PySem.Challenge.pw_oldhands_k91_as_great_as_may_be).drop 35).take 5
noncomputable def t5 (P:Params):PySem.W.BT:=((mT P 223 11 1 0).set 3 (fun _=>gD P "oldhands.words" 487 44 45)).set 12 (fun _=>tD 69)
noncomputable def s5 (w:World) (os:OsState):PySem.W.SharedT:=⟨t5 w.params,223,{},Array.mk [],{},489,os⟩
noncomputable def st5:List Stmt:=((PySem.W.behindTheImports PySem.Challenge.pw_oldhands_k91_as_great_as_may_be).drop 40).take 2
noncomputable def t6 (P:Params):PySem.W.BT:=((mT P 239 11 1 0).set 3 (fun _=>gD P "oldhands.words" 487 46 47)).set 12 (fun _=>tD 69)
noncomputable def s6 (w:World) (os:OsState):PySem.W.SharedT:=⟨t6 w.params,239,{},Array.mk [],{},538,os⟩
noncomputable def st6:List Stmt:=((PySem.W.behindTheImports PySem.Challenge.pw_oldhands_k91_as_great_as_may_be).drop 42).take 2
noncomputable def t7 (P:Params):PySem.W.BT:=((mT P 293 11 1 0).set 3 (fun _=>gD P "oldhands.words" 487 54 55)).set 12 (fun _=>tD 90)
noncomputable def s7 (w:World) (os:OsState):PySem.W.SharedT:=⟨t7 w.params,293,{},Array.mk [],{},638,os⟩
noncomputable def st7:List Stmt:=((PySem.W.behindTheImports PySem.Challenge.pw_oldhands_k91_as_great_as_may_be).drop 44).take 8
noncomputable def t8 (P:Params):PySem.W.BT:=((mT P 366 11 1 0).set 3 (fun _=>gD P "oldhands.texts" 683 66 67)).set 12 (fun _=>tD 120)
noncomputable def s8 (w:World) (os:OsState):PySem.W.SharedT:=⟨t8 w.params,366,{},Array.mk [],{},737,os⟩
noncomputable def st8:List Stmt:=((PySem.W.behindTheImports PySem.Challenge.pw_oldhands_k91_as_great_as_may_be).drop 52).take 13
noncomputable def t9 (P:Params):PySem.W.BT:=((mT P 450 11 1 0).set 3 (fun _=>gD P "law_oldhands_k91_as_great_as_may_be" 831 78 79)).set 12 (fun _=>tD 156)
noncomputable def s9 (w:World) (os:OsState):PySem.W.SharedT:=⟨t9 w.params,450,{},Array.mk [],{},850,os⟩
noncomputable def st9:List Stmt:=((PySem.W.behindTheImports PySem.Challenge.pw_oldhands_k91_as_great_as_may_be).drop 65).take 13
noncomputable def t10 (P:Params):PySem.W.BT:=mT P 520 11 1 0
noncomputable def s10 (w:World) (os:OsState):PySem.W.SharedT:=⟨t10 w.params,520,{},Array.mk [],{},943,os⟩
noncomputable def Cy:List Stmt:=((PySem.W.behindTheImports PySem.Challenge.pw_oldhands_k91_as_great_as_may_be).drop 78).take 10
noncomputable def hp1 (P:Params):Heap:=⟨Array.mk (o0 P :: o1 P :: o2 P :: o3 P :: o4 P :: o5 P :: o6 P :: o7 P :: o8 P :: o9 P :: o10 P :: o11 P :: o12 P :: o13 P :: o14 P :: o15 P :: o16 P :: o17 P :: o18 P :: o19 P :: o20 P :: o21 P :: o22 P :: o23 P :: o24 P :: o25 P :: o26 P :: o27 P :: o28 P :: o29 P :: o30 P :: o31 P :: o32 P :: o33 P :: o34 P :: o35 P :: o36 P :: o37 P :: o38 P :: o39 P :: o40 P :: o41 P :: o42 P :: o43 P :: o44 P :: o45 P :: o46 P :: o47 P :: o48 P :: o49 P :: o50 P :: o51 P :: o52 P :: o53 P :: o54 P :: o55 P :: o56 P :: o57 P :: o58 P :: o59 P :: o60 P :: o61 P :: o62 P :: o63 P :: o64 P :: o65 P :: o66 P :: o67 P :: o68 P :: o69 P :: o70 P :: o71 P :: o72 P :: o73 P :: o74 P :: o75 P :: o76 P :: o77 P :: o78 P :: o79 P :: o80 P :: o81 P :: o82 P :: o83 P :: o84 P :: o85 P :: o86 P :: o87 P :: o88 P :: o89 P :: o90 P :: o91 P :: o92 P :: o93 P :: o94 P :: o95 P :: o96 P :: o97 P :: o98 P :: o99 P :: xJ P :: xK P :: sX P :: sY P :: xL P :: xM P :: xN P :: sZ P :: tj P :: xO P :: xP P :: xQ P :: xR P :: xS P :: tp P :: tq P :: xT P :: xU P :: xV P :: tu P :: tw P :: xW P :: xX P :: xY P :: xZ P :: x6 P :: tz P :: tF P :: x8 P :: x9 P :: ya P :: yb P :: yc P :: tG P :: tH P :: yd P :: ye P :: yf P :: tI P :: tK P :: tL P :: yg P :: yh P :: yi P :: yj P :: yk P :: tM P :: tN P :: yl P :: ym P :: yn P :: yo P :: yp P :: tO P :: tP P :: yq P :: yr P :: yt P :: yu P :: yv P :: tQ P :: tR P :: yw P :: yx P :: yy P :: tS P :: tT P :: yz P :: yA P :: yB P :: yC P :: yD P :: tU P :: tV P :: yE P :: yF P :: yG P :: yH P :: yI P :: yJ P :: yK P :: yL P :: yM P :: yN P :: yO P :: yP P :: tW P :: tX P :: yQ P :: yR P :: yS P :: yT P :: yU P :: tY P :: tZ P :: yV P :: yW P :: yX P :: yY P :: yZ P :: uc P :: ud P :: y3 P :: y4 P :: y6 P :: y7 P :: y8 P :: ue P :: uf P :: y9 P :: za P :: zc P :: zd P :: ze P :: ug P :: uh P :: uk P :: ul P :: um P :: uo P :: uq P :: zg P :: zh P :: ur P :: ut P :: uu P :: uv P :: uw P :: ux P :: uy P :: uz P :: uA P :: uB P :: uC P :: uD P :: uE P :: uF P :: uG P :: uH P :: uI P :: uJ P :: uK P :: uL P :: uM P :: uN P :: uO P :: uP P :: uQ P :: uR P :: uS P :: zi P :: zj P :: zk P :: zl P :: zm P :: uT P :: uU P :: zn P :: zo P :: zp P :: uV P :: uW P :: zr P :: zu P :: zw P :: zx P :: zy P :: uX P :: uY P :: zA P :: zB P :: zC P :: uZ P :: u0 P :: zD P :: zE P :: zF P :: u3 P :: u4 P :: zG P :: zH P :: zI P :: zJ P :: zK P :: u5 P :: u6 P :: zL P :: zM P :: zN P :: zO P :: zP P :: u7 P :: u8 P :: zQ P :: zR P :: zS P :: u9 P :: va P :: zT P :: zU P :: zV P :: zW P :: zX P :: vb P :: vc P :: zY P :: zZ P :: z6 P :: z7 P :: z8 P :: ve P :: vf P :: z9 P :: Aa P :: Ab P :: Ac P :: Ad P :: vg P :: vh P :: Ae P :: Af P :: Ag P :: Ah P :: Ai P :: vi P :: vj P :: Aj P :: Ak P :: Al P :: Am P :: An P :: vk P :: vm P :: vn P :: vo P :: vp P :: vq P :: vv P :: Ao P :: Ap P :: Aq P :: Ar P :: As P :: vw P :: vx P :: At P :: Au P :: Av P :: Aw P :: Ax P :: vy P :: vz P :: Ay P :: Az P :: AA P :: AB P :: AC P :: vA P :: vB P :: AD P :: AE P :: AF P :: AG P :: AH P :: vC P :: vD P :: AI P :: AJ P :: AK P :: AL P :: AM P :: vE P :: vF P :: AN P :: AO P :: AQ P :: AR P :: AS P :: vG P :: vH P :: AT P :: AU P :: AV P :: AW P :: AX P :: vI P :: vJ P :: AY P :: AZ P :: A0 P :: A1 P :: A2 P :: vK P :: vL P :: A3 P :: A4 P :: A5 P :: A6 P :: A7 P :: vM P :: vN P :: A8 P :: A9 P :: Ba P :: Bb P :: Bc P :: vO P :: vP P :: Bd P :: Be P :: Bf P :: Bg P :: Bh P :: vQ P :: vR P :: Bi P :: Bj P :: Bk P :: Bl P :: Bm P :: vT P :: vU P :: Bn P :: Bo P :: Bp P :: Bq P :: Br P :: vV P :: vW P :: Bs P :: Bt P :: Bu P :: Bv P :: Bw P :: vX P :: vY P :: Bx P :: By P :: Bz P :: BA P :: BB P :: vZ P :: v6 P :: BC P :: BD P :: BE P :: BF P :: BG P :: v7 P :: v9 P :: BH P :: BI P :: BJ P :: BK P :: BL P :: wa P :: wf P :: BM P :: BN P :: BO P :: BP P :: BQ P :: wg P :: wj P :: BR P :: BS P :: BU P :: BV P :: BW P :: wk P :: wl P :: BX P :: BY P :: BZ P :: B1 P :: B2 P :: wm P :: wn P :: B3 P :: B4 P :: B5 P :: B6 P :: B7 P :: wo P :: wq P :: B8 P :: B9 P :: Ca P :: Cb P :: Cc P :: wt P :: ww P :: Cd P :: Ce P :: Cf P :: Cg P :: Ch P :: wx P :: wy P :: Ci P :: Cj P :: Ck P :: Cl P :: Cm P :: wA P :: wB P :: Cn P :: Co P :: Cp P :: Cq P :: Cr P :: wC P :: wD P :: Cs P :: Ct P :: Cu P :: Cv P :: Cw P :: wE P :: wF P :: []),{}⟩
theorem Do:∀ w:World,(fun os=>PySem.W.topGo treeTable PySem.Challenge.pw_oldhands_k91_as_great_as_may_be w 11 hA1 12 ⟨PySem.W.boot_heap w.params,Array.mk [],PySem.W.boot_drawn,PySem.W.boot_toks,os⟩ (PySem.W.topStub PySem.Challenge.pw_oldhands_k91_as_great_as_may_be))=fun os=>some (⟨hp0 w.params,Array.mk [],{},187,os⟩,⟨denote treeTable hCo,hCo,⟨0,0,0,0⟩,hB1⟩):=fun w=>by kernel_rfl
theorem wG:∀ w:World,(fun os=>PySem.W.segRun treeTable PySem.Challenge.pw_oldhands_k91_as_great_as_may_be w 11 hA1 1 1 ⟨hp0 w.params,Array.mk [],{},187,os⟩ (PySem.W.blockOf (PySem.W.behindTheImports PySem.Challenge.pw_oldhands_k91_as_great_as_may_be) cg hCo ⟨0,0,0,0⟩ hB1))=fun os=>some (.next,(sB w os).abs,hCo,⟨0,0,0,0⟩):=fun w=>by kernel_rfl
theorem r0:∀ w:World,(fun os=>PySem.W.segRunT treeTable PySem.Challenge.pw_oldhands_k91_as_great_as_may_be w 11 hA1 1 196 (sB w os) (PySem.W.piecesOf st0 cg hCo ⟨0,0,0,0⟩ hB1))=fun os=>some (.next,s0 w os,hCo,⟨2,0,3,8⟩):=fun w=>by kernel_rfl
theorem r1:∀ w:World,(fun os=>PySem.W.segRunT treeTable PySem.Challenge.pw_oldhands_k91_as_great_as_may_be w 11 hA1 1 214 (s0 w os) (PySem.W.piecesOf st1 cg hCo ⟨2,0,3,8⟩ hB1))=fun os=>some (.next,s1 w os,hCo,⟨4,0,5,8⟩):=fun w=>by kernel_rfl
theorem r2:∀ w:World,(fun os=>PySem.W.segRunT treeTable PySem.Challenge.pw_oldhands_k91_as_great_as_may_be w 11 hA1 1 379 (s1 w os) (PySem.W.piecesOf st2 cg hCo ⟨4,0,5,8⟩ hB1))=fun os=>some (.next,s2 w os,hCo,⟨19,0,31,88⟩):=fun w=>by kernel_rfl
theorem r3:∀ w:World,(fun os=>PySem.W.segRunT treeTable PySem.Challenge.pw_oldhands_k91_as_great_as_may_be w 11 hA1 1 393 (s2 w os) (PySem.W.piecesOf st3 cg hCo ⟨19,0,31,88⟩ hB1))=fun os=>some (.next,s3 w os,hCo,⟨82,0,82,3⟩):=fun w=>by kernel_rfl
theorem r4:∀ w:World,(fun os=>PySem.W.segRunT treeTable PySem.Challenge.pw_oldhands_k91_as_great_as_may_be w 11 hA1 1 155 (s3 w os) (PySem.W.piecesOf st4 cg hCo ⟨82,0,82,3⟩ hB1))=fun os=>some (.next,s4 w os,hCo,⟨121,0,130,18⟩):=fun w=>by kernel_rfl
theorem r5:∀ w:World,(fun os=>PySem.W.segRunT treeTable PySem.Challenge.pw_oldhands_k91_as_great_as_may_be w 11 hA1 1 363 (s4 w os) (PySem.W.piecesOf st5 cg hCo ⟨121,0,130,18⟩ hB1))=fun os=>some (.next,s5 w os,hCo,⟨155,0,155,8⟩):=fun w=>by kernel_rfl
theorem r6f:∀ w:World,(fun os=>PySem.W.segRunT treeTable PySem.Challenge.pw_oldhands_k91_as_great_as_may_be (w.withFollow "special-get-raises" false) 11 hA1 1 264 (s5 (w.withFollow "special-get-raises" false) os) (PySem.W.piecesOf st6 cg hCo ⟨155,0,155,8⟩ hB1))=fun os=>some (.next,s6 (w.withFollow "special-get-raises" false) os,hCo,⟨157,0,157,10⟩):=fun w=>by kernel_rfl
theorem r6t:∀ w:World,(fun os=>PySem.W.segRunT treeTable PySem.Challenge.pw_oldhands_k91_as_great_as_may_be (w.withFollow "special-get-raises" true) 11 hA1 1 264 (s5 (w.withFollow "special-get-raises" true) os) (PySem.W.piecesOf st6 cg hCo ⟨155,0,155,8⟩ hB1))=fun os=>some (.next,s6 (w.withFollow "special-get-raises" true) os,hCo,⟨157,0,157,10⟩):=fun w=>by kernel_rfl
theorem r6:∀ w:World,(fun os=>PySem.W.segRunT treeTable PySem.Challenge.pw_oldhands_k91_as_great_as_may_be w 11 hA1 1 264 (s5 w os) (PySem.W.piecesOf st6 cg hCo ⟨155,0,155,8⟩ hB1))=fun os=>some (.next,s6 w os,hCo,⟨157,0,157,10⟩):=PySem.W.byRow2 "special-get-raises" (P:=fun w=>(fun os=>PySem.W.segRunT treeTable PySem.Challenge.pw_oldhands_k91_as_great_as_may_be w 11 hA1 1 264 (s5 w os) (PySem.W.piecesOf st6 cg hCo ⟨155,0,155,8⟩ hB1))=fun os=>some (.next,s6 w os,hCo,⟨157,0,157,10⟩)) r6f r6t
theorem r7f:∀ w:World,(fun os=>PySem.W.segRunT treeTable PySem.Challenge.pw_oldhands_k91_as_great_as_may_be (w.withFollow "special-get-raises" false) 11 hA1 1 398 (s6 (w.withFollow "special-get-raises" false) os) (PySem.W.piecesOf st7 cg hCo ⟨157,0,157,10⟩ hB1))=fun os=>some (.next,s7 (w.withFollow "special-get-raises" false) os,hCo,⟨197,0,198,31⟩):=fun w=>by kernel_rfl
theorem r7t:∀ w:World,(fun os=>PySem.W.segRunT treeTable PySem.Challenge.pw_oldhands_k91_as_great_as_may_be (w.withFollow "special-get-raises" true) 11 hA1 1 398 (s6 (w.withFollow "special-get-raises" true) os) (PySem.W.piecesOf st7 cg hCo ⟨157,0,157,10⟩ hB1))=fun os=>some (.next,s7 (w.withFollow "special-get-raises" true) os,hCo,⟨197,0,198,31⟩):=fun w=>by kernel_rfl
theorem r7:∀ w:World,(fun os=>PySem.W.segRunT treeTable PySem.Challenge.pw_oldhands_k91_as_great_as_may_be w 11 hA1 1 398 (s6 w os) (PySem.W.piecesOf st7 cg hCo ⟨157,0,157,10⟩ hB1))=fun os=>some (.next,s7 w os,hCo,⟨197,0,198,31⟩):=PySem.W.byRow2 "special-get-raises" (P:=fun w=>(fun os=>PySem.W.segRunT treeTable PySem.Challenge.pw_oldhands_k91_as_great_as_may_be w 11 hA1 1 398 (s6 w os) (PySem.W.piecesOf st7 cg hCo ⟨157,0,157,10⟩ hB1))=fun os=>some (.next,s7 w os,hCo,⟨197,0,198,31⟩)) r7f r7t
theorem r8f:∀ w:World,(fun os=>PySem.W.segRunT treeTable PySem.Challenge.pw_oldhands_k91_as_great_as_may_be (w.withFollow "special-get-raises" false) 11 hA1 1 385 (s7 (w.withFollow "special-get-raises" false) os) (PySem.W.piecesOf st8 cg hCo ⟨197,0,198,31⟩ hB1))=fun os=>some (.next,s8 (w.withFollow "special-get-raises" false) os,hCo,⟨228,0,229,33⟩):=fun w=>by kernel_rfl
theorem r8t:∀ w:World,(fun os=>PySem.W.segRunT treeTable PySem.Challenge.pw_oldhands_k91_as_great_as_may_be (w.withFollow "special-get-raises" true) 11 hA1 1 385 (s7 (w.withFollow "special-get-raises" true) os) (PySem.W.piecesOf st8 cg hCo ⟨197,0,198,31⟩ hB1))=fun os=>some (.next,s8 (w.withFollow "special-get-raises" true) os,hCo,⟨228,0,229,33⟩):=fun w=>by kernel_rfl
theorem r8:∀ w:World,(fun os=>PySem.W.segRunT treeTable PySem.Challenge.pw_oldhands_k91_as_great_as_may_be w 11 hA1 1 385 (s7 w os) (PySem.W.piecesOf st8 cg hCo ⟨197,0,198,31⟩ hB1))=fun os=>some (.next,s8 w os,hCo,⟨228,0,229,33⟩):=PySem.W.byRow2 "special-get-raises" (P:=fun w=>(fun os=>PySem.W.segRunT treeTable PySem.Challenge.pw_oldhands_k91_as_great_as_may_be w 11 hA1 1 385 (s7 w os) (PySem.W.piecesOf st8 cg hCo ⟨197,0,198,31⟩ hB1))=fun os=>some (.next,s8 w os,hCo,⟨228,0,229,33⟩)) r8f r8t
theorem r9:∀ w:World,(fun os=>PySem.W.segRunT treeTable PySem.Challenge.pw_oldhands_k91_as_great_as_may_be w 11 hA1 1 385 (s8 w os) (PySem.W.piecesOf st9 cg hCo ⟨228,0,229,33⟩ hB1))=fun os=>some (.next,s9 w os,hCo,⟨320,0,322,56⟩):=fun w=>by kernel_rfl
theorem r10:∀ w:World,(fun os=>PySem.W.segRunT treeTable PySem.Challenge.pw_oldhands_k91_as_great_as_may_be w 11 hA1 1 314 (s9 w os) (PySem.W.piecesOf Cy cg hCo ⟨320,0,322,56⟩ hB1))=fun os=>some (.next,s10 w os,hCo,⟨401,0,405,15⟩):=fun w=>by kernel_rfl
theorem Dp:∀ w:World,(fun os=>PySem.W.topRun treeTable PySem.Challenge.pw_oldhands_k91_as_great_as_may_be w 11 hA1 2 (s10 w os).abs ⟨PySem.W.doneF .next,hCo,⟨401,0,405,15⟩,hB1⟩)=fun os=>some (⟨hp1 w.params,Array.mk [],{},943,os⟩:Shared):=fun w=>by kernel_rfl
theorem Dq:PySem.W.behindTheImports PySem.Challenge.pw_oldhands_k91_as_great_as_may_be=st0++(st1++(st2++(st3++(st4++(st5++(st6++(st7++(st8++(st9++(Cy++[])))))))))):=by kernel_rfl
theorem Dr (w:World) (os:OsState):PySem.W.topRun treeTable PySem.Challenge.pw_oldhands_k91_as_great_as_may_be w 11 hA1 (12+(1+(196+(214+(379+(393+(155+(363+(264+(398+(385+(385+(314+(2)))))))))))))) ⟨PySem.W.boot_heap w.params,Array.mk [],PySem.W.boot_drawn,PySem.W.boot_toks,os⟩ (PySem.W.topStub PySem.Challenge.pw_oldhands_k91_as_great_as_may_be)=some ⟨hp1 w.params,Array.mk [],{},943,os⟩:=by
 refine PySem.W.go_top (congrFun (Do w) os) (PySem.W.piece_block (congrFun (wG w) os) ?_);rw [Dq];exact (PySem.W.piece_app (PySem.W.segRun_of (congrFun (r0 w) os)) (PySem.W.piece_app (PySem.W.segRun_of (congrFun (r1 w) os)) (PySem.W.piece_app (PySem.W.segRun_of (congrFun (r2 w) os)) (PySem.W.piece_app (PySem.W.segRun_of (congrFun (r3 w) os)) (PySem.W.piece_app (PySem.W.segRun_of (congrFun (r4 w) os)) (PySem.W.piece_app (PySem.W.segRun_of (congrFun (r5 w) os)) (PySem.W.piece_app (PySem.W.segRun_of (congrFun (r6 w) os)) (PySem.W.piece_app (PySem.W.segRun_of (congrFun (r7 w) os)) (PySem.W.piece_app (PySem.W.segRun_of (congrFun (r8 w) os)) (PySem.W.piece_app (PySem.W.segRun_of (congrFun (r9 w) os)) (PySem.W.piece_app (PySem.W.segRun_of (congrFun (r10 w) os)) (show PySem.W.topRun treeTable PySem.Challenge.pw_oldhands_k91_as_great_as_may_be w 11 hA1 2 _ (PySem.W.restOf [] cg hCo ⟨401,0,405,15⟩ hB1)=_ from congrFun (Dp w) os))))))))))))
noncomputable def hK:Params→PySem.W.Frag:=fun P =>
 (nat_lit 3,o3 P) :: (nat_lit 4,o4 P) :: (nat_lit 6,o6 P) :: (nat_lit 15,o15 P) :: (nat_lit 22,o22 P) :: (nat_lit 23,o23 P) :: (nat_lit 24,o24 P) :: (nat_lit 25,o25 P) :: (nat_lit 28,o28 P) :: (nat_lit 35,o35 P) :: (nat_lit 36,o36 P) :: (nat_lit 37,o37 P) :: (nat_lit 40,o40 P) :: (nat_lit 47,o47 P) :: (nat_lit 48,o48 P) :: (nat_lit 49,o49 P) :: (nat_lit 57,o57 P) :: (nat_lit 58,o58 P) :: (nat_lit 64,o64 P) :: (nat_lit 65,o65 P) :: (nat_lit 71,o71 P) :: (nat_lit 72,o72 P) :: (nat_lit 78,o78 P) :: (nat_lit 79,o79 P) :: (nat_lit 85,o85 P) :: (nat_lit 86,o86 P) :: (nat_lit 90,o90 P) :: (nat_lit 91,o91 P) :: (nat_lit 97,o97 P) :: (nat_lit 98,o98 P) :: (nat_lit 102,sX P) :: (nat_lit 103,sY P) :: (nat_lit 107,sZ P) :: (nat_lit 108,tj P) :: (nat_lit 114,tp P) :: (nat_lit 115,tq P) :: (nat_lit 119,tu P) :: (nat_lit 120,tw P) :: (nat_lit 126,tz P) :: (nat_lit 127,tF P) :: (nat_lit 133,tG P) :: (nat_lit 134,tH P) :: (nat_lit 138,tI P) :: (nat_lit 139,tK P) :: (nat_lit 140,tL P) :: (nat_lit 146,tM P) :: (nat_lit 147,tN P) :: (nat_lit 153,tO P) :: (nat_lit 154,tP P) :: (nat_lit 160,tQ P) :: (nat_lit 161,tR P) :: (nat_lit 165,tS P) :: (nat_lit 166,tT P) :: (nat_lit 172,tU P) :: (nat_lit 173,tV P) :: (nat_lit 186,tW P) :: (nat_lit 187,tX P) :: (nat_lit 193,tY P) :: (nat_lit 194,tZ P) :: (nat_lit 200,uc P) :: (nat_lit 201,ud P) :: (nat_lit 207,ue P) :: (nat_lit 208,uf P) :: (nat_lit 214,ug P) :: (nat_lit 215,uh P) :: (nat_lit 216,uk P) :: (nat_lit 217,ul P) :: (nat_lit 218,um P) :: (nat_lit 219,uo P) :: (nat_lit 220,uq P) :: (nat_lit 223,ur P) :: (nat_lit 224,ut P) :: (nat_lit 225,uu P) :: (nat_lit 226,uv P) :: (nat_lit 227,uw P) :: (nat_lit 228,ux P) :: (nat_lit 229,uy P) :: (nat_lit 230,uz P) :: (nat_lit 231,uA P) :: (nat_lit 232,uB P) :: (nat_lit 233,uC P) :: (nat_lit 234,uD P) :: (nat_lit 235,uE P) :: (nat_lit 236,uF P) :: (nat_lit 237,uG P) :: (nat_lit 238,uH P) :: (nat_lit 239,uI P) :: (nat_lit 240,uJ P) :: (nat_lit 241,uK P) :: (nat_lit 242,uL P) :: (nat_lit 243,uM P) :: (nat_lit 244,uN P) :: (nat_lit 245,uO P) :: (nat_lit 246,uP P) :: (nat_lit 247,uQ P) :: (nat_lit 248,uR P) :: (nat_lit 249,uS P) :: (nat_lit 255,uT P) :: (nat_lit 256,uU P) :: (nat_lit 260,uV P) :: (nat_lit 261,uW P) :: (nat_lit 267,uX P) :: (nat_lit 268,uY P) :: (nat_lit 272,uZ P) :: (nat_lit 273,u0 P) :: (nat_lit 277,u3 P) :: (nat_lit 278,u4 P) :: (nat_lit 284,u5 P) :: (nat_lit 285,u6 P) :: (nat_lit 291,u7 P) :: (nat_lit 292,u8 P) :: (nat_lit 296,u9 P) :: (nat_lit 297,va P) :: (nat_lit 303,vb P) :: (nat_lit 304,vc P) :: (nat_lit 310,ve P) :: (nat_lit 311,vf P) :: (nat_lit 317,vg P) :: (nat_lit 318,vh P) :: (nat_lit 324,vi P) :: (nat_lit 325,vj P) :: (nat_lit 331,vk P) :: (nat_lit 332,vm P) :: (nat_lit 333,vn P) :: (nat_lit 334,vo P) :: (nat_lit 335,vp P) :: (nat_lit 336,vq P) :: (nat_lit 337,vv P) :: (nat_lit 343,vw P) :: (nat_lit 344,vx P) :: (nat_lit 350,vy P) :: (nat_lit 351,vz P) :: (nat_lit 357,vA P) :: (nat_lit 358,vB P) :: (nat_lit 364,vC P) :: (nat_lit 365,vD P) :: (nat_lit 371,vE P) :: (nat_lit 372,vF P) :: (nat_lit 378,vG P) :: (nat_lit 379,vH P) :: (nat_lit 385,vI P) :: (nat_lit 386,vJ P) :: (nat_lit 392,vK P) :: (nat_lit 393,vL P) :: (nat_lit 399,vM P) :: (nat_lit 400,vN P) :: (nat_lit 406,vO P) :: (nat_lit 407,vP P) :: (nat_lit 413,vQ P) :: (nat_lit 414,vR P) :: (nat_lit 420,vT P) :: (nat_lit 421,vU P) :: (nat_lit 427,vV P) :: (nat_lit 428,vW P) :: (nat_lit 434,vX P) :: (nat_lit 435,vY P) :: (nat_lit 441,vZ P) :: (nat_lit 442,v6 P) :: (nat_lit 448,v7 P) :: (nat_lit 449,v9 P) :: (nat_lit 455,wa P) :: (nat_lit 456,wf P) :: (nat_lit 462,wg P) :: (nat_lit 463,wj P) :: (nat_lit 469,wk P) :: (nat_lit 470,wl P) :: (nat_lit 476,wm P) :: (nat_lit 477,wn P) :: (nat_lit 483,wo P) :: (nat_lit 484,wq P) :: (nat_lit 490,wt P) :: (nat_lit 491,ww P) :: (nat_lit 497,wx P) :: (nat_lit 498,wy P) :: (nat_lit 504,wA P) :: (nat_lit 505,wB P) :: (nat_lit 511,wC P) :: (nat_lit 512,wD P) :: (nat_lit 518,wE P) :: (nat_lit 519,wF P) :: []
noncomputable def hA:List Addr:=[3,4,6,15,22,23,24,25,28,35,36,37,40,47,48,49,57,58,64,65,71,72,78,79,85,86,90,91,97,98,102,103,107,108,114,115,119,120,126,127,133,134,138,139,140,146,147,153,154,160,161,165,166,172,173,186,187,193,194,200,201,207,208,214,215,216,217,218,219,220,223,224,225,226,227,228,229,230,231,232,233,234,235,236,237,238,239,240,241,242,243,244,245,246,247,248,249,255,256,260,261,267,268,272,273,277,278,284,285,291,292,296,297,303,304,310,311,317,318,324,325,331,332,333,334,335,336,337,343,344,350,351,357,358,364,365,371,372,378,379,385,386,392,393,399,400,406,407,413,414,420,421,427,428,434,435,441,442,448,449,455,456,462,463,469,470,476,477,483,484,490,491,497,498,504,505,511,512,518,519]
theorem hKA:∀ P,hA=(hK P).map (·.1):=fun _=>by kernel_rfl
noncomputable abbrev hH:PySem.W.Hook:=PySem.W.kHook hK hA hKA
noncomputable abbrev hQ:Program:=PySem.W.view PySem.Challenge.pw_oldhands_k91_as_great_as_may_be [87]
def hW:List Str:= "HandError" :: "BadValue" :: "BadText" :: "LETTERS" :: "LONGEST_NAME" :: "is_whole" :: "is_whole_within" :: "PERCENT" :: "is_sign" :: "is_of" :: "made_value" :: "is_text_of" :: "holds_tuple" :: "holds_items" :: "is_record_of" :: "is_pair_of" :: "are_keyed" :: "field_of" :: "FIGURES" :: "figures_of" :: "number_of" :: "BLANK" :: "QUOTE" :: "MINUS" :: "OPENING" :: "CLOSING" :: "MARKS" :: "MOST_FIGURES" :: "MOST_BRACKETS" :: "END" :: "words_of" :: "word_end" :: "run_end" :: "made_word" :: "deepest_brackets" :: "WordRow" :: "KIND_PARTS" :: "TURN_PARTS" :: "PIECE_PARTS" :: "parts_behind" :: "kind_text" :: "most_exchanged" :: "value_text" :: "turn_text" :: "piece_text" :: "path_text" :: "form_text" :: "part_text" :: "in_brackets" :: "with_commas" :: "pair_text" :: "quoted" :: "PAIR_SORTS" :: "BRACKETED" :: "read_value" :: "read_turn" :: "read_piece" :: "read_path" :: "read_all" :: "part_read" :: "pair_read" :: "kind_read" :: "value_read" :: "turn_read" :: "path_read" :: "form_read" :: "list_read" :: "at_least_one" :: "_law_cell_at" :: "_law_mixed" :: "_law_own" :: "_law_digit" :: "_law_turn_told" :: "_law_piece_told" :: "_law_path_told" :: "_law_value_told" :: "_law_due" :: "_law_deep" :: "_law_long" :: []
noncomputable abbrev hX (s:Shared):Bool:=PySem.W.recOk (PySem.W.RowW.records (PySem.W.OpenRow.toRowW PySem.Challenge.rw_oldhands_k91_as_great_as_may_be.row)) s
theorem Cz:∀ w:World,((PySem.W.boot_heap w.params).isNs mainGlobals && (Array.mk []:Array GenState).size == 0,(PySem.W.boot_heap w.params).objs.size,(PySem.W.boot_heap w.params).nsMap mainGlobals "__annotations__")=(true,11,hA1):=fun w=>by kernel_rfl
theorem rL1:∀ w:World,(fun os=>(PySem.W.staticsOk (importedModules PySem.Challenge.pw_oldhands_k91_as_great_as_may_be.main.body) (PySem.W.boot_heap w.params) (hp1 w.params) && PySem.W.namesBound PySem.Challenge.pw_oldhands_k91_as_great_as_may_be (hp1 w.params) && PySem.W.gensDone ⟨hp1 w.params,Array.mk [],{},943,os⟩ && PySem.W.laidKept (PySem.W.boot_heap w.params) (hp1 w.params)))=fun _=>true:=fun w=>by kernel_rfl
theorem rL2:∀ w:World,(fun os=>PySem.W.openSeen hQ hW (importedModules PySem.Challenge.pw_oldhands_k91_as_great_as_may_be.main.body) hX true ⟨hp1 w.params,Array.mk [],{},943,os⟩)=fun _=>PySem.W.openGood hQ hW:=fun w=>by kernel_rfl
theorem rL3:∀ w:World,(fun os=>hH.obs ⟨hp1 w.params,Array.mk [],{},943,os⟩)=fun _=>hH.val w:=fun w=>by kernel_rfl
theorem hl:PySem.W.LeftO PySem.Challenge.pw_oldhands_k91_as_great_as_may_be hQ hW hX hH.obs hH.val 4461 :=
 PySem.W.LeftO.of_pieces (H₀:=PySem.W.boot_heap) (H₁:=hp1) (gs₀:=Array.mk []) (gs₁:=Array.mk []) (d₀:=PySem.W.boot_drawn) (d₁:={}) (k₀:=PySem.W.boot_toks) (k₁:=943) (m₀:=11) (ann:=hA1) (M:=12+(1+(196+(214+(379+(393+(155+(363+(264+(398+(385+(385+(314+(2))))))))))))))
  (PySem.W.boot_open (by kernel_rfl) (by rfl) (fun s=>by rfl)) Cz Dr (by rfl) (fun w=>funext fun os=>PySem.W.looks_pair (congrFun (rL1 w) os) (PySem.W.looks_pair (congrFun (rL2 w) os) (congrFun (rL3 w) os)))
theorem said:PySem.Challenge.rw_oldhands_k91_as_great_as_may_be.wellSaid=true:=by
 unfold PySem.W.OpenLaw.wellSaid PySem.W.OpenRow.wellSaid PySem.W.OpenRow.partSaid PySem.W.looksOpen
 repeat' (with_reducible refine PySem.W.look_both ?_ ?_)
 all_goals decide +kernel
end K91
namespace L2
open PySem PySem.Spec PyProof.Rows
abbrev Key:=Sum Int Str
def jn:Key→Value→Bool
 | .inl k,v=>Value.isInt k v
 | .inr x,v=>Value.isStrOf x v
def Ds (w:World):Key→Int
 | .inl k=>hashInt k
 | .inr x=>hashStr w x
theorem aK:∀ {k:Key} {v:Value},jn k v=true→(∃ i t,k=Sum.inl i∧v=Value.int i t)∨(∃ x t,k=Sum.inr x∧v=Value.str x t)
 | .inl i,v,h=>by
  obtain ⟨t,e⟩:=Value.isInt_shape (k:=i) (v:=v) h;exact .inl ⟨i,t,rfl,e⟩
 | .inr x,v,h=>by
  obtain ⟨t,e⟩:=Value.isStrOf_shape (x:=x) (v:=v) h;exact .inr ⟨x,t,rfl,e⟩
theorem n9 (i:Int) (t:Tok):jn (.inl i) (.int i t)=true:=by simp [jn,Value.isInt]
theorem og (x:Str) (t:Tok):jn (.inr x) (.str x t)=true:=by simp [jn,Value.isStrOf]
theorem wH (a b:Int):decide ((Sum.inl a:Key)=Sum.inl b)=(a == b):=by
 by_cases e:a=b
 ·subst e;simp
 ·have h:¬ (Sum.inl a:Key)=Sum.inl b:=fun q=>e (Sum.inl.inj q);rw [decide_eq_false h];exact (beq_eq_false_iff_ne.mpr e).symm
theorem wI (a b:Str):decide ((Sum.inr a:Key)=Sum.inr b)=decide (a=b):=by
 by_cases e:a=b
 ·subst e;simp
 ·have h:¬ (Sum.inr a:Key)=Sum.inr b:=fun q=>e (Sum.inr.inj q);rw [decide_eq_false h,decide_eq_false e]
theorem wJ (a:Int) (b:Str):decide ((Sum.inl a:Key)=Sum.inr b)=false:=decide_eq_false (fun q=>nomatch q)
theorem wK (a:Str) (b:Int):decide ((Sum.inr a:Key)=Sum.inl b)=false:=decide_eq_false (fun q=>nomatch q)
def bt (prog:Program) (w:World):PySem.KeyKind prog w Key where
 is:=jn
 hash:=Ds w
 inj:=fun v a b ha hb=>by
  rcases aK ha with ⟨i,t,rfl,rfl⟩ | ⟨x,t,rfl,rfl⟩
  ·rcases aK hb with ⟨j,u,rfl,e⟩ | ⟨y,u,rfl,e⟩
   ·injection e with e1 _;rw [e1]
   ·exact nomatch e
  ·rcases aK hb with ⟨j,u,rfl,e⟩ | ⟨y,u,rfl,e⟩
   ·exact nomatch e
   ·injection e with e1 _;rw [e1]
 byValue:=fun k v h=>by
  rcases aK h with ⟨i,t,rfl,rfl⟩ | ⟨x,t,rfl,rfl⟩ <;> rfl
 pyHash:=fun hv h=>by
  rcases aK hv with ⟨i,t,rfl,rfl⟩ | ⟨x,t,rfl,rfl⟩
  ·exact wpAny_pyHash_int h
  ·exact wpAny_pyHash_str h
 eqBool:=fun hu hv h=>by
  rcases aK hu with ⟨i,t,rfl,rfl⟩ | ⟨x,t,rfl,rfl⟩
  ·rcases aK hv with ⟨j,u,rfl,rfl⟩ | ⟨y,u,rfl,rfl⟩
   ·rw [wH] at h;exact wpAny_eqBool_int h
   ·rw [wJ] at h;exact SeqAt.EqAt.int_str i t y u _ _ _ _ h
  ·rcases aK hv with ⟨j,u,rfl,rfl⟩ | ⟨y,u,rfl,rfl⟩
   ·rw [wK] at h;exact SeqAt.EqAt.str_int x t j u _ _ _ _ h
   ·rw [wI] at h;exact wpAny_eqBool_str h
 «strs»:=fun k x t v h=>by
  rcases aK h with ⟨i,u,rfl,e⟩ | ⟨y,u,rfl,e⟩
  ·exact nomatch e
  ·injection e with e1 _
   subst e1
   cases v <;> rfl
theorem kQ (prog:Program) (w:World) (i:Int) (t:Tok):(bt prog w).is (.inl i) (.int i t)=true:=n9 i t
theorem kR (prog:Program) (w:World) (x:Str) (t:Tok):(bt prog w).is (.inr x) (.str x t)=true:=og x t
inductive V where
 | non | bl (b:Bool) | int (i:Int) | str (x:Str) | byt (b:Array UInt8) | flt (b:UInt64) | ref (a:Addr) | ty (n:String)
 deriving DecidableEq
def RelV:V→Value→Prop
 | .non,u=>u=Value.none
 | .bl b,u=>u=Value.bool b
 | .int i,u=>∃ t,u=Value.int i t
 | .str x,u=>∃ t,u=Value.str x t
 | .byt b,u=>∃ t,u=Value.bytes b t
 | .flt b,u=>∃ t,u=Value.float b t
 | .ref a,u=>u=Value.ref a
 | .ty n,u=>u=Value.type n
abbrev Vals:List V→List Value→Prop:=Paired RelV
theorem Vals.length {xs:List V} {us:List Value} (r:Vals xs us):xs.length=us.length:=Paired.length r
theorem Vals.get:∀ {xs:List V} {us:List Value} {i:Nat} {x:V},Vals xs us→xs[i]?=some x→∃ u,us[i]?=some u∧RelV x u
 | _,_,_,_,.nil,e=>by simp at e
 | _,_,0,_,.cons r _,e=>by simp at e;subst e;exact ⟨_,rfl,r⟩
 | _,_,i+1,x,.cons _ t,e=>by
  obtain ⟨u,h1,h2⟩:=Vals.get (i:=i) (x:=x) t (by simpa using e);exact ⟨u,by simpa using h1,h2⟩
theorem Vals.set {x:V} {u:Value} (r:RelV x u):∀ {xs:List V} {us:List Value} (i:Nat),Vals xs us→Vals (xs.set i x) (us.set i u)
 | _,_,_,.nil=>.nil
 | _,_,0,.cons _ t=>.cons r t
 | _,_,i+1,.cons q t=>.cons q (Vals.set r i t)
theorem Vals.append:∀ {xs ys:List V} {us ws:List Value},Vals xs us→Vals ys ws→Vals (xs++ys) (us++ws)
 | _,_,_,_,.nil,s=>s
 | _,_,_,_,.cons r t,s=>.cons r (Vals.append t s)
theorem Vals.take:∀ {xs:List V} {us:List Value} (n:Nat),Vals xs us→Vals (xs.take n) (us.take n)
 | _,_,0,_=>.nil
 | _,_,_+1,.nil=>.nil
 | _,_,n+1,.cons r t=>.cons r (Vals.take n t)
theorem Vals.drop:∀ {xs:List V} {us:List Value} (n:Nat),Vals xs us→Vals (xs.drop n) (us.drop n)
 | _,_,0,r=>r
 | _,_,_+1,.nil=>.nil
 | _,_,n+1,.cons _ t=>Vals.drop n t
def RelO:Option V→Option Value→Prop
 | some v,some u=>RelV v u
 | none,none=>True
 | _,_=>False
def KV {κ:Type}:List (κ×V)→List (κ×Value)→Prop:=Paired fun (p:κ×V) (q:κ×Value)=>p.1=q.1∧RelV p.2 q.2
def kV:Key→V
 | .inl i=>.int i
 | .inr x=>.str x
inductive HO where
 | lst (xs:List V)
 | tup (xs:List V)
 | dK (kvs:List (Key×V)) | dT (kvs:List (List Key×V))
 | set (S:Int→Bool) (n:Nat)
 | ins (C dx:Addr) (fs:List (Str×V))
 | own (x:Addr)
 | xd (fs:List (Str×V))
 | met (f x:Addr)
 | rng (lo hi:Int)
 | frz (o:Obj) (u:HO)
 | tbl (ps:Array Value)
 | ext (φ:Heap→Prop)
abbrev Hp:=Addr→Option HO
def upd (H:Hp) (a:Addr) (o:HO):Hp:=fun b=>if b=a then some o else H b
theorem ac {H:Hp} {a:Addr} {o:HO}:upd H a o a=some o:=by unfold upd;rw [if_pos rfl]
theorem af {H:Hp} {a b:Addr} {o:HO} (h:b≠a):upd H a o b=H b:=by unfold upd;rw [if_neg h]
theorem qY {H:Hp} {a:Addr} {o u:HO}:upd (upd H a o) a u=upd H a u:=by
 funext b;unfold upd;split <;> rfl
theorem jo {H:Hp} {a b:Addr} {o u:HO} (h:H a=some o) (h':H b=some u) (d:o≠u):a≠b:=by
 intro e;subst e;rw [h] at h';exact d (Option.some.inj h')
theorem am {H:Hp} {a b:Addr} {o:HO} (h:H a=some o) (h':H b=none):a≠b:=by
 intro e;subst e;rw [h] at h';cases h'
section
variable (P:Program) (w:World)
def ObjOk (H:Hp) (h:Heap) (a:Addr):HO→Prop
 | .lst xs=>xs.length≤sizeLine∧∃ (its:List Value) (n:Nat),Vals xs its∧h.get? a=some { cls:=.type "list",data:=.seq its.toArray n }
 | .tup xs=>xs.length≤sizeLine∧∃ its:List Value,Vals xs its∧IsTup h a its.toArray
 | .dK kvs=>kvs.length≤sizeLine∧(a == sysModules)=false∧∃ vs,KV kvs vs∧h.DictOf (bt P w) a vs
 | .dT kvs=>kvs.length≤sizeLine∧(a == sysModules)=false∧∃ xs:List (List Key×Addr×Value),
   Paired (fun (p:List Key×V) (q:List Key×Addr×Value)=>p.1=q.1∧H q.2.1=some (.tup (p.1.map kV))∧RelV p.2 q.2.2) kvs xs ∧
   ∃ o es ep,h.get? a=some o∧o.ExactDict∧o.data=.dict es ep∧es.toList=xs.map (entryOfKey (tupleKind (bt P w)))∧(xs.map (·.1)).Nodup
 | .set S n=>h.SetOf (intKind P w) a S n
 | .ins C dx fs=>H dx=some (.own a)∧fs.length≤1000∧dx≠a∧h.get? a=some (PySem.W.instObj C dx) ∧
   ∃ mA,h.Ns1 dx mA∧(∀ f,RelO (fs.lookup f) (mA f))∧PySem.Within mA (fs.map (·.1))
 | .own _=>∃ o,h.get? a=some o
 | .xd fs=>∃ mA,h.Ns1 a mA∧∀ f,RelO (fs.lookup f) (mA f)
 | .rng lo hi=>∃ t u v,h.get? a=some { cls:=.type "range",data:=.fields #[.int lo t,.int hi u,.int 1 v] }
 | .frz o u=>h.get? a=some o∧ObjOk H h a u
 | .tbl ps=>h.get? a=some { cls:=.none,data:=.fields ps }
 | .met f x=>h.get? a=some (PySem.W.methodObj (.ref f) (.ref x))
 | .ext φ=>φ h∧(∃ o,h.get? a=some o)∧∀ h1 h2:Heap,φ h1→(∀ o,h1.get? a=some o→h2.get? a=some o)→φ h2
def HOk (H:Hp) (h:Heap):Prop:=∀ a o,H a=some o→ObjOk P w H h a o
end
section
variable {P:Program} {w:World} {H H':Hp} {h h':Heap} {a:Addr} {o:HO}
theorem ObjOk.lt (x:ObjOk P w H h a o):a < h.objs.size:=by
 cases o with
 | lst xs=>obtain ⟨_,_,_,_,e⟩:=x;exact Heap.lt_size e
 | tup xs=>obtain ⟨_,_,_,p⟩:=x;exact p.lt
 | dK kvs=>obtain ⟨_,_,_,_,o,_,_,e,_⟩:=x;exact Heap.lt_size e
 | dT kvs=>obtain ⟨_,_,_,_,o,_,_,e,_⟩:=x;exact Heap.lt_size e
 | set S n=>obtain ⟨o,_,_,_,e,_⟩:=x;exact Heap.lt_size e
 | ins C dx fs=>obtain ⟨_,_,_,e,_⟩:=x;exact Heap.lt_size e
 | own y=>obtain ⟨_,e⟩:=x;exact Heap.lt_size e
 | xd fs=>obtain ⟨_,⟨_,_,_,e,_⟩,_⟩:=x;exact Heap.lt_size e
 | rng lo hi=>obtain ⟨_,_,_,e⟩:=x;exact Heap.lt_size e
 | frz ob u=>obtain ⟨e,_⟩:=x;exact Heap.lt_size e
 | tbl ps=>exact Heap.lt_size (show h.get? a=some _ from x)
 | met f y=>exact Heap.lt_size (show h.get? a=some _ from x)
 | ext φ=>obtain ⟨_,⟨_,e⟩,_⟩:=x;exact Heap.lt_size e
theorem Paired.mapP {α β:Type} {F G:α→β→Prop}:∀ {l₁:List α} {l₂:List β},Paired F l₁ l₂→(∀ a b,F a b→G a b)→Paired G l₁ l₂
 | _,_,.nil,_=>.nil
 | _,_,.cons r t,f=>.cons (f _ _ r) (Paired.mapP t f)
theorem ObjOk.stay (x:ObjOk P w H h a o) (k:∀ b u,(b=a∨H b=some (.own a))→h.get? b=some u→h'.get? b=some u)
  (ho:∀ b,H b=some (.own a)→H' b=some (.own a)) (ht:∀ b xs,H b=some (.tup xs)→H' b=some (.tup xs)):ObjOk P w H' h' a o:=by
 induction o with
 | lst xs=>obtain ⟨z,its,n,r,e⟩:=x;exact ⟨z,its,n,r,k _ _ (.inl rfl) e⟩
 | tup xs=>obtain ⟨z,its,r,ob,e,c⟩:=x;exact ⟨z,its,r,ob,k _ _ (.inl rfl) e,c⟩
 | dK kvs=>obtain ⟨z,y,vs,r,ob,es,ep,e,c⟩:=x;exact ⟨z,y,vs,r,ob,es,ep,k _ _ (.inl rfl) e,c⟩
 | dT kvs =>
  obtain ⟨z,y,xs,r,ob,es,ep,e,c⟩:=x;exact ⟨z,y,xs,Paired.mapP r fun p q z=>⟨z.1,ht _ _ z.2.1,z.2.2⟩,ob,es,ep,k _ _ (.inl rfl) e,c⟩
 | set S n=>obtain ⟨ob,es,ep,t,e,c⟩:=x;exact ⟨ob,es,ep,t,k _ _ (.inl rfl) e,c⟩
 | ins C dx fs =>
  obtain ⟨d,z,ne,e,mA,⟨od,es,ep,e2,c⟩,r⟩:=x;exact ⟨ho _ d,z,ne,k _ _ (.inl rfl) e,mA,⟨od,es,ep,k _ _ (.inr d) e2,c⟩,r⟩
 | own y=>obtain ⟨ob,e⟩:=x;exact ⟨ob,k _ _ (.inl rfl) e⟩
 | xd fs=>obtain ⟨mA,⟨od,es,ep,e,c⟩,r⟩:=x;exact ⟨mA,⟨od,es,ep,k _ _ (.inl rfl) e,c⟩,r⟩
 | rng lo hi=>obtain ⟨t,u,v,e⟩:=x;exact ⟨t,u,v,k _ _ (.inl rfl) e⟩
 | frz ob u ih=>obtain ⟨e,q⟩:=x;exact ⟨k _ _ (.inl rfl) e,ih q⟩
 | tbl ps =>
  have e:h.get? a=some { cls:=.none,data:=.fields ps }:=x;show h'.get? a=some { cls:=.none,data:=.fields ps };exact k a _ (.inl rfl) e
 | met f y =>
  have e:h.get? a=some (PySem.W.methodObj (.ref f) (.ref y)):=x;show h'.get? a=some (PySem.W.methodObj (.ref f) (.ref y));exact k a _ (.inl rfl) e
 | ext φ=>obtain ⟨p,⟨o,e⟩,st⟩:=x;exact ⟨st _ _ p fun o q=>k _ _ (.inl rfl) q,⟨o,k _ _ (.inl rfl) e⟩,st⟩
theorem HOk.lt (x:HOk P w H h) (e:H a=some o):a < h.objs.size:=(x a o e).lt
theorem HOk.fresh (x:HOk P w H h) (e:h.objs.size≤a):H a=none:=by
 cases q:H a with
 | none=>rfl
 | some u=>exact absurd (Nat.lt_of_lt_of_le (x.lt q) e) (Nat.lt_irrefl _)
theorem HOk.kept (x:HOk P w H h) (k:∀ b u,h.get? b=some u→h'.get? b=some u):HOk P w H h':=fun a o e =>
 (x a o e).stay (fun b u _ q=>k b u q) (fun _ q=>q) fun _ _ q=>q
theorem HOk.laid (x:HOk P w H h) (k:∀ b u,h.get? b=some u→h'.get? b=some u) (hp:h.objs.size≤a) (new:ObjOk P w (upd H a o) h' a o):HOk P w (upd H a o) h':=fun b u e=>by
 have hn:=x.fresh hp
 by_cases hb:b=a
 ·subst hb;rw [ac] at e;cases e;exact new
 ·rw [af hb] at e;exact (x b u e).stay (fun c v _ q=>k c v q) (fun c q=>by rw [af (am q hn)];exact q) fun c xs q=>by rw [af (am q hn)];exact q
end
def Rd (H:Hp) (a:Addr) (u:HO):Prop:=H a=some u∨∃ o,H a=some (.frz o u)
theorem Rd.ok {P:Program} {w:World} {H:Hp} {h:Heap} {a:Addr} {u:HO} (r:Rd H a u) (x:HOk P w H h):ObjOk P w H h a u:=by
 rcases r with r | ⟨o,r⟩
 ·exact x a u r
 ·obtain ⟨_,q⟩:=x a _ r;exact q
def Mut:Option HO→Prop
 | some (.lst _)=>True
 | some (.dK _)=>True
 | some (.dT _)=>True
 | some (.set _ _)=>True
 | some (.ins _ _ _)=>True
 | some (.ext _)=>True
 | _=>False
section
variable {P:Program} {w:World} {H:Hp} {h h':Heap} {x e:Addr} {o':HO}
theorem HOk.write (ok:HOk P w H h) (mu:Mut (H x)) (he:e=x∨H e=some (.own x)) (k:∀ b u,b≠e→h.get? b=some u→h'.get? b=some u) (heo:∃ u,h'.get? e=some u)
  (new:ObjOk P w (upd H x o') h' x o'):HOk P w (upd H x o') h':=fun b u q=>by
 have nown:∀ c y,H c=some (.own y)→c≠x:=fun c y r z=>by subst z;rw [r] at mu;exact mu
 have ntup:∀ c xs,H c=some (.tup xs)→c≠x:=fun c xs r z=>by subst z;rw [r] at mu;exact mu
 by_cases hb:b=x
 ·subst hb;rw [ac] at q;cases q;exact new
 ·rw [af hb] at q
  by_cases hbe:b=e
  ·have q':H b=some (.own x):=by
    rcases he with z | z
    ·exact absurd (hbe.trans z) hb
    ·rw [hbe];exact z
   rw [q] at q';cases q';obtain ⟨v,hv⟩:=heo;exact ⟨v,by rw [hbe];exact hv⟩
  ·refine (ok b u q).stay (fun c v hc r=>k c v ?_ r) (fun c r=>by rw [af (nown c b r)];exact r) fun c xs r=>by rw [af (ntup c xs r)];exact r
   rcases hc with rfl | hc
   ·exact hbe
   ·rintro rfl;rcases he with z | z
    ·exact nown c b hc z
    ·rw [hc] at z;cases z;exact hb rfl
end
structure Un (fs ex:List Addr) (H H':Hp) (h h':Heap):Prop where
 keep:∀ b o,h.get? b=some o→H b=none→b∉fs→b∉ex→h'.get? b=some o
 slot:∀ b o,h.get? b=some o→H b=none→b∈fs→b∉ex→∃ sl,h'.get? b=some { o with slots:=sl }
 free:∀ b o,h.get? b=some o→H b=none→b∉ex→H' b=none
 there:∀ b o,h.get? b=some o→b∉ex→∃ o',h'.get? b=some o'
 tups:∀ b xs,H b=some (.tup xs)→H' b=some (.tup xs)
 frzs:∀ b o u,H b=some (.frz o u)→H' b=some (.frz o u)
 tbls:∀ b ps,H b=some (.tbl ps)→∃ more,H' b=some (.tbl (ps++more))
section
variable {fs fs' ex ex':List Addr} {H H1 H2:Hp} {h h1 h2 h':Heap} {a x e:Addr} {o:HO}
theorem Un.any (u:Un fs ex H H1 h h1) {b:Addr} {ob:Obj} (q:h.get? b=some ob) (n:H b=none) (hx:b∉ex):∃ sl,h1.get? b=some { ob with slots:=sl }:=by
 by_cases hb:b∈fs
 ·exact u.slot b ob q n hb hx
 ·exact ⟨ob.slots,u.keep b ob q n hb hx⟩
theorem Un.trans (a:Un fs ex H H1 h h1) (b:Un fs ex H1 H2 h1 h2):Un fs ex H H2 h h2 where
 keep:=fun c ob q n hc hx=>b.keep c ob (a.keep c ob q n hc hx) (a.free c ob q n hx) hc hx
 slot:=fun c ob q n hc hx=>by
  obtain ⟨sl,e1⟩:=a.slot c ob q n hc hx;obtain ⟨sl',e2⟩:=b.slot c _ e1 (a.free c ob q n hx) hc hx;exact ⟨sl',e2⟩
 free:=fun c ob q n hx=>by
  obtain ⟨o',e1⟩:=a.there c ob q hx;exact b.free c o' e1 (a.free c ob q n hx) hx
 there:=fun c ob q hx=>by
  obtain ⟨o',e1⟩:=a.there c ob q hx;exact b.there c o' e1 hx
 tups:=fun c xs q=>b.tups c xs (a.tups c xs q)
 frzs:=fun c ob xs q=>b.frzs c ob xs (a.frzs c ob xs q)
 tbls:=fun c ps q=>by
  obtain ⟨m1,e1⟩:=a.tbls c ps q;obtain ⟨m2,e2⟩:=b.tbls c _ e1;exact ⟨m1++m2,by rw [e2,Array.append_assoc]⟩
theorem Un.kept (k:∀ b u,h.get? b=some u→h'.get? b=some u):Un fs ex H H h h' :=
 ⟨fun b ob q _ _ _=>k b ob q,fun b ob q _ _ _=>⟨ob.slots,k b ob q⟩,fun _ _ _ n _=>n,fun b ob q _=>⟨ob,k b ob q⟩,fun _ _ q=>q,fun _ _ _ q=>q,fun _ ps q=>⟨#[],by rw [q];simp⟩⟩
theorem Un.refl:Un fs ex H H h h:=Un.kept fun _ _ q=>q
theorem Un.laid (k:∀ b u,h.get? b=some u→h'.get? b=some u) (hp:h.objs.size≤a) (hn:H a=none):Un fs ex H (upd H a o) h h' where
 keep:=fun b u q _ _ _=>k b u q
 slot:=fun b u q _ _ _=>⟨u.slots,k b u q⟩
 free:=fun b u q n _=>by rw [af (Nat.ne_of_lt (Nat.lt_of_lt_of_le (Heap.lt_size q) hp))];exact n
 there:=fun b u q _=>⟨u,k b u q⟩
 tups:=fun b xs q=>by rw [af (am q hn)];exact q
 frzs:=fun b u xs q=>by rw [af (am q hn)];exact q
 tbls:=fun b ps q=>⟨#[],by rw [af (am q hn),q];simp⟩
theorem Un.write (mu:Mut (H x)) (he:e=x∨H e=some (.own x)) (k:∀ b u,b≠e→h.get? b=some u→h'.get? b=some u) (heo:∃ u,h'.get? e=some u):Un fs ex H (upd H x o) h h':=by
 have hx:∀ b,H b=none→b≠x:=fun b n z=>by subst z;rw [n] at mu;exact mu
 have hb:∀ b,H b=none→b≠e:=fun b n z=>by
  subst z;rcases he with r | r
  ·exact hx b n r
  ·rw [n] at r;cases r
 have hm:∀ b u,H b=some u→¬ Mut (some u)→b≠x:=fun b u q nm z=>by subst z;rw [q] at mu;exact nm mu
 refine ⟨fun b u q n _ _=>k b u (hb b n) q,fun b u q n _ _=>⟨u.slots,k b u (hb b n) q⟩,fun b u q n _=>by rw [af (hx b n)];exact n,fun b u q _=>?_,
  fun b xs q=>by rw [af (hm b _ q fun z=>z)];exact q,fun b u xs q=>by rw [af (hm b _ q fun z=>z)];exact q,fun b ps q=>⟨#[],by rw [af (hm b _ q fun z=>z),q];simp⟩⟩
 by_cases hbe:b=e
 ·subst hbe;exact heo
 ·exact ⟨u,k b u hbe q⟩
end
def trk (h:Heap) (H:Hp):List Addr:=(List.range h.objs.size).filter fun a=>(H a).isSome
def jM (h:Heap) (H:Hp):Heap:=PySem.W.hideAll h (trk h H)
theorem oh (h:Heap) (H:Hp):(jM h H).objs.size=h.objs.size:=PySem.W.hideAll_size _ _
theorem pB {h:Heap} {H:Hp} {b:Addr} {o:Obj} (e:h.get? b=some o) (n:H b=none):(jM h H).get? b=some o :=
 PySem.W.hideAll_get _ e fun hm=>by
  have q:(H b).isSome=true:=(List.mem_filter.mp hm).2;rw [n] at q;simp at q
theorem qZ {h:Heap} {H:Hp} {b:Addr} {o:Obj} (e:(jM h H).get? b=some o):h.get? b=some o∧H b=none:=by
 have e':h.get? b=some o:=PySem.W.of_hideAll (trk h H) e;refine ⟨e',?_⟩
 cases q:H b with
 | none=>rfl
 | some x =>
  have hm:b∈trk h H:=List.mem_filter.mpr ⟨List.mem_range.mpr (Heap.lt_size e'),by simp [q]⟩;have z:(jM h H).get? b=none:=PySem.W.hideAll_none (trk h H) hm;rw [z] at e;cases e
def q9 (g h:Heap) (L:Addr):List (Addr×Obj):=(List.range h.objs.size).filterMap fun a=>if a=L∨(g.get? a).isSome=true then none else (h.get? a).map fun o=>(a,o)
def rest (g h:Heap) (L d:Addr):List (Addr×Obj):=(q9 g h L).filter fun p=>decide (p.1≠d)
structure Mod (K:PySem.W.Frag) (mg:Str→Option Value) (base:Heap):Prop where
 kin:K.In base
 glob:base.Ns mainGlobals mg
 blt:∃ mb,base.Ns builtinsNs mb∧∀ x:Str,x≠ "__name__" →mb x=bootBuiltins x
 nolimit:base.NoLimit
structure Cx where
 prog:Program
 w:World
 K:PySem.W.Frag
 mg:Str→Option Value
 base:Heap
 A:Around
 N:List Str
 s₀:Shared
 H₀:Hp
 env:Env
 outer:List Env
 stack:List Env
 ex:List Addr
 fn:Str→Bool
 calm:Bool
 pn:List (Addr×Obj)
 xe:Value→Shared→Prop
def frs (l:List Env):List Addr:=l.filterMap (·.frame)
abbrev Cx.fs (X:Cx):List Addr:=frs X.outer
def Vis (sc:Scope) (x:Str):Prop:=sc.names.lookup x=some .local∨sc.names.lookup x=some .cell∨sc.names.lookup x=some .free
def Loc (sc:Scope) (x:Str):Prop:=sc.names.lookup x=some .local∨sc.names.lookup x=some .cell
def Du (env:Env) (h:Heap) (m:Str→Option Value) (x:Str) (u:Value):Prop :=
 (env.kindOf x=some .local∧m x=some u)∨((env.kindOf x=some .cell∨env.kindOf x=some .free)∧∃ c,env.cells.lookup x=some c∧h.IsCell c (some u))
structure Cx.Ok (X:Cx):Prop where
 mod:Mod X.K X.mg X.base
 kind:X.env.scope.kind=.function
 glob:X.env.globals=mainGlobals
 blt:X.env.builtins=builtinsNs
 above:X.s₀.heap.objs.size≤X.env.locals
 inj:∀ x y c,X.env.cells.lookup x=some c→X.env.cells.lookup y=some c→x=y
 has:∀ x,(X.env.kindOf x=some .cell∨X.env.kindOf x=some .free)→∃ c,X.env.cells.lookup x=some c
 cab:∀ x c,X.fn x=true→X.env.cells.lookup x=some c→X.s₀.heap.objs.size≤c
 hd:X.calm=true→X.A.handled=none
 frames:X.A.frames=some X.stack
 stk:X.stack=X.outer∨(X.stack=X.env :: X.outer∧X.env.frame=some X.env.locals)
 exf:∀ b∈X.ex,b≠X.env.locals∧∀ x c,X.env.cells.lookup x=some c→c≠b
 bs:∀ b o,X.base.get? b=some o→X.s₀.heap.get? b=some o∧X.H₀ b=none
 bsz:X.base.objs.size≤X.s₀.heap.objs.size
 noex:∀ b o,X.base.get? b=some o→b∉X.ex
 exfs:∀ b∈X.ex,b∉X.fs
 funs:X.s₀.heap.FunFrames X.base X.outer
 frf:∀ b∈X.fs,X.H₀ b=none
structure Inv (X:Cx) (pins:List (Addr×Obj)) (σ:List (Option V)) (H:Hp) (s:Shared):Prop where
 ok:X.Ok
 os:s.os=X.s₀.os
 bare:AllBare s.gens
 base:Un X.fs X.ex X.H₀ H X.s₀.heap s.heap
 loc:∃ m,s.heap.Ns X.env.locals m∧∀ (i:Nat) (x:Str) (v:V),X.N[i]?=some x→σ[i]?=some (some v)→Vis X.env.scope x→∃ u,RelV v u∧Du X.env s.heap m x u
 cell:∀ x c,X.env.cells.lookup x=some c→∃ v,s.heap.IsCell c v
 free:H X.env.locals=none
 freeC:∀ x c,X.env.cells.lookup x=some c→H c=none
 pin:∀ p∈X.pn++pins,s.heap.get? p.1=some p.2∧H p.1=none∧p.1≠X.env.locals∧p.1∉X.fs∧∀ v,p.2.data≠.cell v
 hok:HOk X.prog X.w H s.heap
 len:σ.length=X.N.length
section
variable {X:Cx} {pins:List (Addr×Obj)} {σ:List (Option V)} {H H':Hp} {s:Shared} {h':Heap}
theorem Cx.Ok.nofr (ok:X.Ok) {b:Addr} {o:Obj} (e:X.base.get? b=some o):b∉X.fs:=fun hb=>by
 have:=(ok.funs.mem hb).1;rw [e] at this;cases this
theorem Inv.bs (I:Inv X pins σ H s):∀ b o,X.base.get? b=some o→s.heap.get? b=some o∧H b=none:=fun b o e =>
 ⟨I.base.keep b o (I.ok.bs b o e).1 (I.ok.bs b o e).2 (I.ok.nofr e) (I.ok.noex b o e),I.base.free b o (I.ok.bs b o e).1 (I.ok.bs b o e).2 (I.ok.noex b o e)⟩
theorem Inv.bk (I:Inv X pins σ H s):∀ b o,X.base.get? b=some o→s.heap.get? b=some o:=fun b o e=>(I.bs b o e).1
theorem Inv.mod (I:Inv X pins σ H s):Mod X.K X.mg X.base:=I.ok.mod
theorem Inv.kIn (I:Inv X pins σ H s):X.K.In s.heap:=I.ok.mod.kin.keeps I.bk
theorem Inv.lt (I:Inv X pins σ H s):X.env.locals < s.heap.objs.size:=let ⟨_,hn,_⟩:=I.loc;hn.lt
theorem Inv.sz (I:Inv X pins σ H s):X.s₀.heap.objs.size≤s.heap.objs.size:=Nat.le_trans I.ok.above (Nat.le_of_lt I.lt)
theorem Inv.nofs (I:Inv X pins σ H s) {a:Addr} (h:s.heap.objs.size≤a):a∉X.fs:=fun hb=>by
 obtain ⟨_,o,ho,_⟩:=I.ok.funs.mem hb;exact absurd (Nat.lt_of_lt_of_le (Heap.lt_size ho) (Nat.le_trans I.sz h)) (Nat.lt_irrefl _)
theorem Inv.cne (I:Inv X pins σ H s):∀ x c,X.env.cells.lookup x=some c→c≠X.env.locals:=fun x c e z=>by
 obtain ⟨v,o,ho,hd⟩:=I.cell x c e;obtain ⟨m,⟨o',es,ep,ho',hd',_⟩,_⟩:=I.loc;rw [z,ho'] at ho;cases ho;rw [hd'] at hd;cases hd
theorem Inv.funs (I:Inv X pins σ H s):s.heap.FunFrames X.base X.outer:=by
 have all:∀ (l:List Env),(∀ b∈frs l,b∈X.fs)→X.s₀.heap.FunFrames X.base l→s.heap.FunFrames X.base l:=by
  intro l
  induction l with
  | nil=>intro _ _;trivial
  | cons env r ih =>
   intro hs hl;obtain ⟨hk,⟨L,o,hf,hn,ho,hd⟩,hr⟩:=hl;have hL:L∈X.fs:=hs L (by unfold frs;rw [List.filterMap_cons,hf];exact List.mem_cons_self);obtain ⟨sl,e⟩:=I.base.slot L o ho (I.ok.frf L hL) hL fun z=>I.ok.exfs L z hL;exact ⟨hk,⟨L,_,hf,hn,e,hd⟩,ih (fun b hb=>hs b (by unfold frs;rw [List.filterMap_cons,hf];exact List.mem_cons_of_mem _ hb)) hr⟩
 exact all X.outer (fun _ hb=>hb) I.ok.funs
theorem Inv.stack (I:Inv X pins σ H s):s.heap.FunFrames X.base X.stack:=by
 rcases I.ok.stk with e | ⟨e,hf⟩
 ·rw [e];exact I.funs
 ·rw [e];obtain ⟨m,hn,_⟩:=I.loc;refine .cons (by rw [I.ok.kind];decide) hf hn ?_ I.funs;exact Heap.get?_none_of_le (Nat.le_trans I.ok.bsz I.ok.above)
theorem Inv.stkSub (I:Inv X pins σ H s):∀ b∈frs X.stack,b∈X.env.locals :: X.fs:=fun b hb=>by
 rcases I.ok.stk with e | ⟨e,hf⟩
 ·rw [e] at hb;exact List.mem_cons_of_mem _ hb
 ·rw [e] at hb;unfold frs at hb;rw [List.filterMap_cons,hf] at hb;exact hb
theorem Inv.stkFree (I:Inv X pins σ H s):∀ b∈frs X.stack,H b=none:=fun b hb=>by
 rcases List.mem_cons.mp (I.stkSub b hb) with e | hb
 ·rw [e];exact I.free
 ·obtain ⟨_,o,ho,_⟩:=I.ok.funs.mem hb;exact I.base.free b o ho (I.ok.frf b hb) fun z=>I.ok.exfs b z hb
theorem Inv.step {g':Array GenState} {t':Nat} {d':Drawn} {ch:List Addr} (I:Inv X pins σ H s)
  (hch:∀ b∈ch,(b∈X.ex∨X.s₀.heap.objs.size≤b)∧b≠X.env.locals∧(∀ x c,X.env.cells.lookup x=some c→c≠b)∧∀ p∈X.pn++pins,p.1≠b)
  (keep:∀ b o,b≠X.env.locals→b∉X.fs→b∉ch→s.heap.get? b=some o→H b=none→h'.get? b=some o)
  (slot:∀ b o,b≠X.env.locals→b∈X.fs→b∉ch→s.heap.get? b=some o→H b=none→∃ sl,h'.get? b=some { o with slots:=sl }) (free:∀ b o,b∉ch→s.heap.get? b=some o→H b=none→H' b=none)
  (there:∀ b o,b∉ch→s.heap.get? b=some o→∃ o',h'.get? b=some o')
  (tups:∀ b xs,H b=some (.tup xs)→H' b=some (.tup xs)) (frzs:∀ b o u,H b=some (.frz o u)→H' b=some (.frz o u)) (tbls:∀ b ps,H b=some (.tbl ps)→∃ more,H' b=some (.tbl (ps++more)))
  (ns:∀ m,s.heap.Ns X.env.locals m→h'.Ns X.env.locals m) (hok:HOk X.prog X.w H' h') (hg:AllBare g') :
  Inv X pins σ H' { s with heap:=h',gens:=g',drawn:=d',toks:=t' }:=by
 have neL:∀ b o,X.s₀.heap.get? b=some o→b≠X.env.locals:=fun b o e=>Nat.ne_of_lt (Nat.lt_of_lt_of_le (Heap.lt_size e) I.ok.above);have neC:∀ b o,X.s₀.heap.get? b=some o→b∉X.ex→b∉ch:=fun b o e hx hb=>by
  rcases (hch b hb).1 with z | z
  ·exact hx z
  ·exact absurd (Nat.lt_of_lt_of_le (Heap.lt_size e) z) (Nat.lt_irrefl _)
 have cellK:∀ x c,X.env.cells.lookup x=some c→∀ v,s.heap.IsCell c v→h'.IsCell c v:=fun x c e v ⟨o,ho,hd⟩=>by
  have nch:c∉ch:=fun z=>(hch c z).2.2.1 x c e rfl
  by_cases hc:c∈X.fs
  ·obtain ⟨sl,q⟩:=slot c o (I.cne x c e) hc nch ho (I.freeC x c e);exact ⟨_,q,hd⟩
  ·exact ⟨o,keep c o (I.cne x c e) hc nch ho (I.freeC x c e),hd⟩
 refine ⟨I.ok,I.os,hg,⟨fun b o e n hb hx=>?_,fun b o e n hb hx=>?_,fun b o e n hx=>?_,fun b o e hx=>?_,fun b xs e=>tups b xs (I.base.tups b xs e),fun b o xs e=>frzs b o xs (I.base.frzs b o xs e),fun b ps e=>?_⟩,?_,fun x c e=>?_,?_,fun x c e=>?_,fun p hp=>?_,hok,I.len⟩
 ·exact keep b o (neL b o e) hb (neC b o e hx) (I.base.keep b o e n hb hx) (I.base.free b o e n hx)
 ·obtain ⟨sl,e1⟩:=I.base.slot b o e n hb hx;obtain ⟨sl',e2⟩:=slot b _ (neL b o e) hb (neC b o e hx) e1 (I.base.free b o e n hx);exact ⟨sl',e2⟩
 ·obtain ⟨o',e1⟩:=I.base.there b o e hx;exact free b o' (neC b o e hx) e1 (I.base.free b o e n hx)
 ·obtain ⟨o',e1⟩:=I.base.there b o e hx;exact there b o' (neC b o e hx) e1
 ·obtain ⟨m1,e1⟩:=I.base.tbls b ps e;obtain ⟨m2,e2⟩:=tbls b _ e1;exact ⟨m1++m2,by rw [e2,Array.append_assoc]⟩
 ·obtain ⟨m,hn,hl⟩:=I.loc;refine ⟨m,ns m hn,fun i x v e1 e2 e3=>?_⟩;obtain ⟨u,r,l⟩:=hl i x v e1 e2 e3;refine ⟨u,r,?_⟩;rcases l with l | ⟨k,c,e,z⟩
  ·exact .inl l
  ·exact .inr ⟨k,c,e,cellK x c e _ z⟩
 ·obtain ⟨v,z⟩:=I.cell x c e;exact ⟨v,cellK x c e v z⟩
 ·obtain ⟨m,⟨o,_,_,ho,_⟩,_⟩:=I.loc;exact free _ o (fun z=>(hch _ z).2.1 rfl) ho I.free
 ·obtain ⟨v,o,ho,hd⟩:=I.cell x c e;exact free c o (fun z=>(hch c z).2.2.1 x c e rfl) ho (I.freeC x c e)
 ·obtain ⟨e,n,ne,nf,d⟩:=I.pin p hp;have nch:p.1∉ch:=fun z=>(hch p.1 z).2.2.2 p hp rfl;exact ⟨keep p.1 p.2 ne nf nch e n,free p.1 p.2 nch e n,ne,nf,d⟩
theorem Inv.un {t':Nat} (I:Inv X pins σ H s) (u:Un X.fs [] H H' s.heap h') (hok:HOk X.prog X.w H' h'):Inv X pins σ H' { s with heap:=h',toks:=t' }:=by
 obtain ⟨m,⟨o,es,ep,ho,r⟩,_⟩:=id I.loc;obtain ⟨sl,hL⟩:=u.any ho I.free (by simp);exact I.step (g':=s.gens) (d':=s.drawn) (ch:=[]) (fun _ z=>nomatch z) (fun b o _ hb _ e n=>u.keep b o e n hb (by simp)) (fun b o _ hb _ e n=>u.slot b o e n hb (by simp)) (fun b o _ e n=>u.free b o e n (by simp)) (fun b o _ e=>u.there b o e (by simp)) u.tups u.frzs u.tbls (fun m' hm=>by
  obtain ⟨o',es',ep',ho',r'⟩:=hm;rw [ho] at ho';cases ho';exact ⟨_,es',ep',hL,r'⟩) hok I.bare
theorem Inv.call {g':Array GenState} {t':Nat} {d':Drawn} {ch:List Addr} (I:Inv X pins σ H s) (u:Un (frs X.stack) ch H H' s.heap h') (hok:HOk X.prog X.w H' h') (hg:AllBare g')
  (hch:∀ b∈ch,(b∈X.ex∨X.s₀.heap.objs.size≤b)∧b≠X.env.locals∧(∀ x c,X.env.cells.lookup x=some c→c≠b)∧∀ p∈X.pn++pins,p.1≠b) :
  Inv X pins σ H' { s with heap:=h',gens:=g',drawn:=d',toks:=t' }:=by
 obtain ⟨m,⟨o,es,ep,ho,r⟩,_⟩:=id I.loc;obtain ⟨sl,hL⟩:=u.any ho I.free fun z=>(hch _ z).2.1 rfl;exact I.step (ch:=ch) hch (fun b o hL hb hc e n=>u.keep b o e n (fun z=>(List.mem_cons.mp (I.stkSub b z)).elim hL hb) hc) (fun b o _ _ hc e n=>u.any e n hc) (fun b o hc e n=>u.free b o e n hc) (fun b o hc e=>u.there b o e hc) u.tups u.frzs u.tbls (fun m' hm=>by
  obtain ⟨o',es',ep',ho',r'⟩:=hm;rw [ho] at ho';cases ho';exact ⟨_,es',ep',hL,r'⟩) hok hg
theorem Inv.turned {t':Nat} {it:Addr} (I:Inv X pins σ H s) (k:∀ b o,b≠it→s.heap.get? b=some o→h'.get? b=some o) (hn:H it=none) (hL:it≠X.env.locals)
  (h1:it∈X.ex∨X.s₀.heap.objs.size≤it) (h2:∀ x c,X.env.cells.lookup x=some c→c≠it) (h3:∀ p∈X.pn++pins,p.1≠it):Inv X pins σ H { s with heap:=h',toks:=t' }:=by
 have nit:∀ b u,H b=some u→b≠it:=fun b u e z=>by rw [z,hn] at e;cases e
 refine I.step (g':=s.gens) (d':=s.drawn) (ch:=[it]) (fun b hb=>?_) (fun b o _ _ hc e _=>k b o (fun z=>hc (by simp [z])) e) (fun b o _ _ hc e _=>⟨o.slots,k b o (fun z=>hc (by simp [z])) e⟩) (fun _ _ _ _ n=>n)
  (fun b o hc e=>⟨o,k b o (fun z=>hc (by simp [z])) e⟩) (fun _ _ e=>e) (fun _ _ _ e=>e) (fun b ps e=>⟨#[],by rw [e];simp⟩) (fun m hm=>?_) (fun b u e=>?_) I.bare
 ·have e:b=it:=by simpa using hb
  subst e;exact ⟨h1,hL,h2,h3⟩
 ·obtain ⟨o,es,ep,ho,r⟩:=hm;exact ⟨o,es,ep,k _ o (Ne.symm hL) ho,r⟩
 ·refine (I.hok b u e).stay (fun c v hc q=>k c v ?_ q) (fun _ q=>q) fun _ _ q=>q;rcases hc with z | z
  ·rw [z];exact nit b u e
  ·exact nit c _ z
theorem Inv.tok (I:Inv X pins σ H s) (t:Nat):Inv X pins σ H { s with toks:=t }:=I.un (h':=s.heap) (t':=t) Un.refl I.hok
theorem Inv.kept {t':Nat} (I:Inv X pins σ H s) (k:∀ b u,s.heap.get? b=some u→h'.get? b=some u):Inv X pins σ H { s with heap:=h',toks:=t' }:=I.un (Un.kept k) (I.hok.kept k)
theorem Inv.laid {a:Addr} {o:HO} {t':Nat} (I:Inv X pins σ H s) (k:∀ b u,s.heap.get? b=some u→h'.get? b=some u) (hp:s.heap.objs.size≤a) (new:ObjOk X.prog X.w (upd H a o) h' a o) :
  Inv X pins σ (upd H a o) { s with heap:=h',toks:=t' }:=I.un (Un.laid k hp (I.hok.fresh hp)) (I.hok.laid k hp new)
theorem Inv.write {x e:Addr} {o:HO} {t':Nat} (I:Inv X pins σ H s) (mu:Mut (H x)) (he:e=x∨H e=some (.own x)) (k:∀ b u,b≠e→s.heap.get? b=some u→h'.get? b=some u) (heo:∃ u,h'.get? e=some u)
  (new:ObjOk X.prog X.w (upd H x o) h' x o):Inv X pins σ (upd H x o) { s with heap:=h',toks:=t' }:=I.un (Un.write mu he k heo) (I.hok.write mu he k heo new)
theorem Inv.pins_of {pins':List (Addr×Obj)} (I:Inv X pins σ H s) (h:∀ p∈pins',s.heap.get? p.1=some p.2∧H p.1=none∧p.1≠X.env.locals∧p.1∉X.fs∧∀ v,p.2.data≠.cell v):Inv X pins' σ H s :=
 ⟨I.ok,I.os,I.bare,I.base,I.loc,I.cell,I.free,I.freeC,fun p hp=>(List.mem_append.mp hp).elim (fun z=>I.pin p (List.mem_append_left _ z)) (h p),I.hok,I.len⟩
theorem kS {N:List Str} (hN:N.Nodup) {i j:Nat} {x:Str} (a:N[i]?=some x) (b:N[j]?=some x):i=j:=by
 obtain ⟨h1,e1⟩:=List.getElem?_eq_some_iff.mp a;obtain ⟨h2,e2⟩:=List.getElem?_eq_some_iff.mp b;exact (List.getElem_inj hN).mp (e1.trans e2.symm)
theorem oi {M:Model} {A:Around} {E:Value→Shared→Prop} {i:Nat} {x:Str} {v:V} {u:Value} {Q:Unit→Shared→Prop} (I:Inv X pins σ H s) (hN:X.N.Nodup) (hi:X.N[i]?=some x) (hx:Loc X.env.scope x) (r:RelV v u)
  (h:∀ s',Inv X pins (σ.set i (some v)) H s'→(∃ a,Heap.SameBut a s.heap s'.heap∧(a=X.env.locals∨X.env.cells.lookup x=some a))→Q () s') (hf:X.fn x=true∨X.env.scope.names.lookup x=some .local:=by first | exact .inl rfl | exact .inr rfl | assumption):wpAny M A (storeName X.env x u) Q E s:=by
 obtain ⟨m,hn,hl⟩:=id I.loc;have hcls:(X.env.scope.kind == .class || (X.env.scope.kind == .module && X.env.locals != X.env.globals))=false:=by rw [I.ok.kind];rfl
 have hiσ:i < σ.length:=by rw [I.len];exact (List.getElem?_eq_some_iff.mp hi).1
 have cne:=I.cne;have tracked:∀ {a:Addr} {h':Heap},(∃ o,s.heap.get? a=some o∧H a=none)→Heap.SameBut a s.heap h'→HOk X.prog X.w H h':=fun {a h'} ha hs b ob e=>by
  obtain ⟨_,_,hfree⟩:=ha;refine (I.hok b ob e).stay (fun c w' hc q=>(hs.2 c ?_).trans q) (fun _ q=>q) fun _ _ q=>q;rintro rfl;rcases hc with rfl | hc
  ·rw [hfree] at e;cases e
  ·rw [hfree] at hc;cases hc
 rcases hx with hk | hk
 ·refine wpAny_storeName_local hk hn (fun h' hn' hs=>?_) hcls;obtain ⟨oL,_,_,hoL,_⟩:=id hn;refine h _ ⟨I.ok,I.os,I.bare,⟨fun b o e n hb hx=>?_,fun b o e n hb hx=>?_,I.base.free,fun b o e hx=>?_,I.base.tups,I.base.frzs,I.base.tbls⟩,⟨_,hn',fun j y v' e1 e2 e3=>?_⟩,fun y c e=>?_,I.free,I.freeC,fun p hp=>?_,tracked ⟨oL,hoL,I.free⟩ hs,by simpa using I.len⟩ ⟨_,hs,.inl rfl⟩
  ·exact (hs.2 b (Nat.ne_of_lt (Nat.lt_of_lt_of_le (Heap.lt_size e) I.ok.above))).trans (I.base.keep b o e n hb hx)
  ·obtain ⟨sl,e1⟩:=I.base.slot b o e n hb hx;exact ⟨sl,(hs.2 b (Nat.ne_of_lt (Nat.lt_of_lt_of_le (Heap.lt_size e) I.ok.above))).trans e1⟩
  ·obtain ⟨o',e1⟩:=I.base.there b o e hx;exact ⟨o',(hs.2 b (Nat.ne_of_lt (Nat.lt_of_lt_of_le (Heap.lt_size e) I.ok.above))).trans e1⟩
  ·by_cases hj:j=i
   ·subst hj;rw [hi] at e1;cases e1;rw [List.getElem?_set_self hiσ] at e2
    cases e2
    exact ⟨u,r,.inl ⟨hk,by simp⟩⟩
   ·rw [List.getElem?_set_ne (Ne.symm hj)] at e2;obtain ⟨u',r',q⟩:=hl j y v' e1 e2 e3;refine ⟨u',r',?_⟩;rcases q with ⟨k,e⟩ | ⟨k,c,e,z⟩
    ·refine .inl ⟨k,?_⟩;have:y≠x:=fun e=>hj (kS hN e1 (e ▸ hi));simp [this,e]
    ·exact .inr ⟨k,c,e,z.sameBut hs (cne y c e)⟩
  ·obtain ⟨w',z⟩:=I.cell y c e;exact ⟨w',z.sameBut hs (cne y c e)⟩
  ·obtain ⟨e,n,ne,nf,d⟩:=I.pin p hp;exact ⟨(hs.2 p.1 ne).trans e,n,ne,nf,d⟩
 ·have hfn:X.fn x=true:=by
   rcases hf with z | z
   ·exact z
   ·rw [z] at hk;cases hk
  obtain ⟨c,hc⟩:=I.ok.has x (.inl hk);obtain ⟨w',z⟩:=I.cell x c hc;refine wpAny_storeName_cell I.ok.kind hk hc z (fun h' hc' hs=>?_);obtain ⟨oc,hoc,hocd⟩:=id z;refine h { s with heap:=h' } ⟨I.ok,I.os,I.bare,⟨fun b o e n hb hx=>?_,fun b o e n hb hx=>?_,I.base.free,fun b o e hx=>?_,I.base.tups,I.base.frzs,I.base.tbls⟩,⟨m,hn.sameBut hs (Ne.symm (cne x c hc)),fun j y v' e1 e2 e3=>?_⟩,fun y c' e=>?_,I.free,I.freeC,fun p hp=>?_,tracked ⟨oc,hoc,I.freeC x c hc⟩ hs,by simpa using I.len⟩ ⟨c,hs,.inr hc⟩
  ·exact (hs.2 b (Nat.ne_of_lt (Nat.lt_of_lt_of_le (Heap.lt_size e) (I.ok.cab x c hfn hc)))).trans (I.base.keep b o e n hb hx)
  ·obtain ⟨sl,e1⟩:=I.base.slot b o e n hb hx;exact ⟨sl,(hs.2 b (Nat.ne_of_lt (Nat.lt_of_lt_of_le (Heap.lt_size e) (I.ok.cab x c hfn hc)))).trans e1⟩
  ·obtain ⟨o',e1⟩:=I.base.there b o e hx;exact ⟨o',(hs.2 b (Nat.ne_of_lt (Nat.lt_of_lt_of_le (Heap.lt_size e) (I.ok.cab x c hfn hc)))).trans e1⟩
  ·by_cases hj:j=i
   ·subst hj;rw [hi] at e1;cases e1;rw [List.getElem?_set_self hiσ] at e2
    cases e2
    exact ⟨u,r,.inr ⟨.inl hk,c,hc,hc'⟩⟩
   ·rw [List.getElem?_set_ne (Ne.symm hj)] at e2;obtain ⟨u',r',q⟩:=hl j y v' e1 e2 e3;refine ⟨u',r',?_⟩;rcases q with q | ⟨k,c',e,z'⟩
    ·exact .inl q
    ·refine .inr ⟨k,c',e,z'.sameBut hs ?_⟩;rintro rfl;exact hj (kS hN e1 (I.ok.inj _ _ _ e hc ▸ hi))
  ·by_cases hcc:c'=c
   ·subst hcc;exact ⟨_,hc'⟩
   ·obtain ⟨w2,z2⟩:=I.cell y c' e;exact ⟨w2,z2.sameBut hs hcc⟩
  ·obtain ⟨e,n,ne,nf,d⟩:=I.pin p hp;refine ⟨(hs.2 p.1 ?_).trans e,n,ne,nf,d⟩;intro q;rw [q,hoc] at e;have q':oc=p.2:=Option.some.inj e;exact d w' (by rw [← q'];exact hocd)
theorem eT {M:Model} {A:Around} {E:Value→Shared→Prop} {i:Nat} {x:Str} {v:V} {u:Value} {Q:Unit→Shared→Prop} (I:Inv X pins σ H s) (hN:X.N.Nodup) (hi:X.N[i]?=some x) (hx:Loc X.env.scope x) (r:RelV v u)
  (h:∀ s',Inv X pins (σ.set i (some v)) H s'→Q () s') (hf:X.fn x=true∨X.env.scope.names.lookup x=some .local:=by first | exact .inl rfl | exact .inr rfl | assumption):wpAny M A (storeName X.env x u) Q E s :=
 oi I hN hi hx r (fun s' I' _=>h s' I') hf
theorem Inv.call' {s':Shared} {ch:List Addr} (I:Inv X pins σ H s) (ho:s'.os=s.os) (u:Un (frs X.stack) ch H H' s.heap s'.heap) (hok:HOk X.prog X.w H' s'.heap) (hg:AllBare s'.gens)
  (hch:∀ b∈ch,(b∈X.ex∨X.s₀.heap.objs.size≤b)∧b≠X.env.locals∧(∀ x c,X.env.cells.lookup x=some c→c≠b)∧∀ p∈X.pn++pins,p.1≠b):Inv X pins σ H' s':=by
 obtain ⟨h',g',d',t',o'⟩:=s';have e:o'=s.os:=ho;subst e;exact I.call (g':=g') (t':=t') (d':=d') u hok hg hch
end
abbrev XK:=Value→Option Addr→Hp→Prop
abbrev St:=List (Option V)
abbrev VK:=V→Hp→Prop
abbrev TE:=St→Hp→VK→Prop
abbrev TT:=St→Hp→(Bool→Hp→Prop)→Prop
abbrev TA:=St→Hp→(List V→Hp→Prop)→Prop
structure Ends where
 nx:St→Hp→Prop
 rt:VK
 bk:St→Hp→Prop:=fun _ _=>False
 ct:St→Hp→Prop:=fun _ _=>False
abbrev TS:=Ends→St→Hp→Prop
def EP (X:Cx) (pins:List (Addr×Obj)) (σ:St) (Q:VK) (u:Value) (s':Shared):Prop:=∃ v H',Inv X pins σ H' s'∧RelV v u∧Q v H'
def TP (X:Cx) (pins:List (Addr×Obj)) (σ:St) (Q:Bool→Hp→Prop) (b:Bool) (s':Shared):Prop:=∃ H',Inv X pins σ H' s'∧Q b H'
def AP (X:Cx) (pins:List (Addr×Obj)) (σ:St) (Q:List V→Hp→Prop) (us:List Value) (s':Shared):Prop:=∃ vs H',Inv X pins σ H' s'∧Vals vs us∧Q vs H'
def SP (X:Cx) (pins:List (Addr×Obj)) (D:Ends) (f:Flow) (s':Shared):Prop :=
 match f with
 | .next=>∃ σ' H',Inv X pins σ' H' s'∧D.nx σ' H'
 | .brk=>∃ σ' H',Inv X pins σ' H' s'∧D.bk σ' H'
 | .cont=>∃ σ' H',Inv X pins σ' H' s'∧D.ct σ' H'
 | .ret u=>∃ v σ' H',Inv X pins σ' H' s'∧RelV v u∧D.rt v H'
def PE (X:Cx) (e:Expr) (t:TE):Prop :=
 ∀ (pins:List (Addr×Obj)) (s:Shared) (σ:St) (H:Hp) (Q:VK),Inv X pins σ H s→t σ H Q→wpAny (model X.prog X.w) X.A (eval e X.env) (EP X pins σ Q) X.xe s
def PT (X:Cx) (e:Expr) (t:TT):Prop :=
 ∀ (pins:List (Addr×Obj)) (s:Shared) (σ:St) (H:Hp) (Q:Bool→Hp→Prop),Inv X pins σ H s→t σ H Q→wpAny (model X.prog X.w) X.A (isTrue e X.env (eval e X.env)) (TP X pins σ Q) X.xe s
def PW (X:Cx) (e:Expr) (t:TT):Prop :=
 ∀ (whole:Sem Value) (pins:List (Addr×Obj)) (s:Shared) (σ:St) (H:Hp) (Q:Bool→Hp→Prop),Inv X pins σ H s→t σ H Q→wpAny (model X.prog X.w) X.A (isTrue e X.env whole) (TP X pins σ Q) X.xe s
theorem PW.pt {X:Cx} {e:Expr} {t:TT} (h:PW X e t):PT X e t:=h _
def PA (X:Cx) (es:List Expr) (t:TA):Prop :=
 ∀ (pos:Pos) (pins:List (Addr×Obj)) (s:Shared) (σ:St) (H:Hp) (Q:List V→Hp→Prop),Inv X pins σ H s→t σ H Q→wpAny (model X.prog X.w) X.A (spliced (backTo pos (starEach es X.env))) (AP X pins σ Q) X.xe s
def PS (X:Cx) (st:Stmt) (t:TS):Prop :=
 ∀ (pins:List (Addr×Obj)) (s:Shared) (σ:St) (H:Hp) (D:Ends),Inv X pins σ H s→t D σ H→wpAny (model X.prog X.w) X.A (exec st X.env) (SP X pins D) X.xe s
def PSs (X:Cx) (st:List Stmt) (t:TS):Prop :=
 ∀ (pins:List (Addr×Obj)) (s:Shared) (σ:St) (H:Hp) (D:Ends),Inv X pins σ H s→t D σ H→wpAny (model X.prog X.w) X.A (execs st X.env) (SP X pins D) X.xe s
theorem thn {α:Type} {t:Sem α} {Q Q':α→Shared→Prop} {M:Model} {A:Around} {E:Value→Shared→Prop} {s:Shared} (h:wpAny M A t Q E s) (hQ:∀ a s,Q a s→Q' a s):wpAny M A t Q' E s:=wpAny_mono h hQ fun _ _ x=>x
section
variable {X:Cx}
inductive IVar (i:Nat) (σ:St) (H:Hp) (Q:VK):Prop
 | mk (v:V):(σ[i]?=some (some v))→(Q v H)→IVar i σ H Q
def wL (i:Nat):TE:=fun σ H Q=>IVar i σ H Q
def tC (v:V):TE:=fun _ H Q=>Q v H
theorem wM {i:Nat} {x:Str} {pos:Pos} (hN:X.N[i]?=some x) (hv:Vis X.env.scope x) (hd:(x == ("__debug__" : Str))=false:=by decide) (hcd:(x == ("__classdict__" : Str))=false:=by decide):PE X (.Name x pos) (wL i):=by
 intro pins s σ H Q I h;obtain ⟨v,e,h⟩:=h;obtain ⟨m,hn,hl⟩:=I.loc;obtain ⟨u,r,l⟩:=hl i x v hN e hv;have fin:EP X pins σ Q u s:=⟨v,H,I,r,h⟩;rcases l with ⟨hk,hm⟩ | ⟨hk,c,hc,hcell⟩
 ·exact wpAny_Name (wpAny_loadName_local I.ok.kind hk hn hm fin) hd
 ·rcases hk with hk | hk
  ·exact wpAny_Name (wpAny_loadName_cell I.ok.kind hk hc hcell fin) hd
  ·exact wpAny_Name (wpAny_loadName_free I.ok.kind hk hc hcell fin hcd) hd
theorem pe_int {i j pos}:PE X (.Constant (.int i) j pos) (tC (.int i)):=fun _ _ _ H _ I h=>wpAny_Constant_int ⟨.int i,H,I.tok _,⟨_,rfl⟩,h⟩
theorem pe_bl {b j pos}:PE X (.Constant (.bool b) j pos) (tC (.bl b)):=fun _ _ _ H _ I h=>Constant_bool ⟨.bl b,H,I,rfl,h⟩
theorem pe_non {j pos}:PE X (.Constant .none j pos) (tC .non):=fun _ _ _ H _ I h=>Constant_none ⟨.non,H,I,rfl,h⟩
theorem pe_str {x j pos}:PE X (.Constant (.str x) j pos) (tC (.str x)):=fun _ _ _ H _ I h=>Calls.Constant_str ⟨.str x,H,I.tok _,⟨_,rfl⟩,h⟩
def Gl (X:Cx) (x:Str):Prop:=X.env.kindOf x=some .globalImplicit
theorem cv {E:Value→Shared→Prop} {pins:List (Addr×Obj)} {s:Shared} {σ:St} {H:Hp} {x:Str} {u:Value} {pos:Pos} {Q:Value→Shared→Prop} (I:Inv X pins σ H s) (hg:Gl X x) (hm:X.mg x=some u) (h:Q u s)
  (hd:(x == ("__debug__" : Str))=false:=by decide):wpAny (model X.prog X.w) X.A (eval (.Name x pos) X.env) Q E s :=
 Calls.Name_function_global I.ok.kind hg (Calls.loadGlobal_global (by rw [I.ok.glob];exact I.mod.glob.keeps I.bk) hm h) hd
theorem gS {E:Value→Shared→Prop} {pins:List (Addr×Obj)} {s:Shared} {σ:St} {H:Hp} {x:Str} {u:Value} {pos:Pos} {Q:Value→Shared→Prop} (I:Inv X pins σ H s) (hg:Gl X x) (hm:X.mg x=none) (hv:bootBuiltins x=some u) (h:Q u s)
  (hn:x≠ "__name__" :=by decide) (hd:(x == ("__debug__" : Str))=false:=by decide):wpAny (model X.prog X.w) X.A (eval (.Name x pos) X.env) Q E s:=by
 obtain ⟨mb,h1,h2⟩:=I.mod.blt;exact Calls.Name_function_global I.ok.kind hg (Calls.loadGlobal_builtin (by rw [I.ok.glob];exact I.mod.glob.keeps I.bk) hm (by rw [I.ok.blt];exact h1.keeps I.bk) ((h2 x hn).trans hv) h) hd
theorem jN {x:Str} {v:V} {u:Value} {pos:Pos} (hg:Gl X x) (hm:X.mg x=some u) (r:RelV v u) (hd:(x == ("__debug__" : Str))=false:=by decide):PE X (.Name x pos) (tC v) :=
 fun _ _ _ H _ I h=>cv I hg hm ⟨v,H,I,r,h⟩ hd
theorem re {x:Str} {v:V} {u:Value} {pos:Pos} (hg:Gl X x) (hm:X.mg x=none) (hv:bootBuiltins x=some u) (r:RelV v u) (hn:x≠ "__name__" :=by decide) (hd:(x == ("__debug__" : Str))=false:=by decide):PE X (.Name x pos) (tC v) :=
 fun _ _ _ H _ I h=>gS I hg hm hv ⟨v,H,I,r,h⟩ hn hd
variable {a b:Expr} {ta tb:TE} {pos:Pos}
def tB (t:TE):TT:=fun σ H Q=>t σ H fun x H1=>∃ c,x=.bl c∧Q c H1
theorem pt_val {e:Expr} {t:TE} (h:PE X e t) (he:∀ whole,isTrue e X.env whole=(do let v ← whole;standAt e.pos;holding [v] (truthy v)):=by intro _;rfl):PT X e (tB t):=by
 intro pins s σ H Q I hw;refine isTrue_plain (thn (h pins s σ H _ I hw) fun v s1 ⟨x,H1,I1,r1,q1⟩=>?_) (he _);obtain ⟨d,rfl,q⟩:=q1
 cases r1
 exact wpAny_truthy_bool ⟨H1,I1,q⟩
variable {tA tB':TT} {rest:List Expr}
def Dv (t u:TT):TT:=fun σ H Q=>t σ H fun c H1=>if c=true then u σ H1 Q else Q false H1
def tOr (t u:TT):TT:=fun σ H Q=>t σ H fun c H1=>if c=true then Q true H1 else u σ H1 Q
def Dw (t:TT):TT:=fun σ H Q=>t σ H fun c H1=>Q (!c) H1
theorem pw_and1 (ha:PT X a tA):PW X (.BoolOp .And [a] pos) tA:=by
 intro wh pins s σ H Q I h;refine isTrue_and (thn (ha pins s σ H Q I h) fun c s1 e=>?_)
 cases c with
 | true=>exact isTrue_and_nil e
 | false=>exact e
theorem pw_or1 (ha:PT X a tA):PW X (.BoolOp .Or [a] pos) tA:=by
 intro wh pins s σ H Q I h;refine isTrue_or (thn (ha pins s σ H Q I h) fun c s1 e=>?_)
 cases c with
 | false=>exact isTrue_or_nil e
 | true=>exact e
theorem pw_and (ha:PT X a tA) (hb:PW X (.BoolOp .And (b :: rest) pos) tB'):PW X (.BoolOp .And (a :: b :: rest) pos) (Dv tA tB'):=by
 intro wh pins s σ H Q I h;refine isTrue_and (thn (ha pins s σ H _ I h) fun c s1 ⟨H1,I1,q1⟩=>?_)
 cases c with
 | true=>exact hb wh pins s1 σ H1 Q I1 q1
 | false=>exact ⟨H1,I1,q1⟩
theorem kT (ha:PT X a tA) (hb:PW X (.BoolOp .Or (b :: rest) pos) tB'):PW X (.BoolOp .Or (a :: b :: rest) pos) (tOr tA tB'):=by
 intro wh pins s σ H Q I h;refine isTrue_or (thn (ha pins s σ H _ I h) fun c s1 ⟨H1,I1,q1⟩=>?_)
 cases c with
 | true=>exact ⟨H1,I1,q1⟩
 | false=>exact hb wh pins s1 σ H1 Q I1 q1
theorem pt_not (ha:PT X a tA):PT X (.UnaryOp .Not a pos) (Dw tA):=by
 intro pins s σ H Q I h;exact isTrue_not (ha pins s σ H (fun c H1=>Q (!c) H1) I h)
def CA (ta tb:TE):TE:=fun σ H Q=>ta σ H fun x H1=>∃ c,x=.bl c∧if c=true then tb σ H1 Q else Q (.bl false) H1
theorem me {op} {t:TE} (h:PE X a t):PE X (.BoolOp op [a] pos) t:=fun pins s σ H Q I hw=>BoolOp_one (h pins s σ H Q I hw)
theorem jO (ha:PE X a ta) (hb:PE X (.BoolOp .And (b :: rest) pos) tb):PE X (.BoolOp .And (a :: b :: rest) pos) (CA ta tb):=by
 intro pins s σ H Q I h;refine BoolOp_and (thn (ha pins s σ H _ I h) fun v s1 ⟨x,H1,I1,r1,q1⟩=>?_);obtain ⟨c,rfl,q1⟩:=q1
 cases r1
 refine wpAny_truthy_bool ?_
 cases c with
 | true=>exact hb pins s1 σ H1 Q I1 q1
 | false=>exact ⟨.bl false,H1,I1,rfl,q1⟩
def tIf (t:TT) (ta tb:TE):TE:=fun σ H Q=>t σ H fun c H1=>if c=true then ta σ H1 Q else tb σ H1 Q
theorem gT {c:Expr} (hc:PT X c tA) (ha:PE X a ta) (hb:PE X b tb):PE X (.IfExp c a b pos) (tIf tA ta tb):=by
 intro pins s σ H Q I h;refine wpAny_IfExp (thn (hc pins s σ H _ I h) fun d s1 ⟨H1,I1,q1⟩=>?_)
 cases d with
 | true=>exact ha pins s1 σ H1 Q I1 q1
 | false=>exact hb pins s1 σ H1 Q I1 q1
end
def SqL (K:PySem.W.Frag) (H:Hp) (a:Addr) (xs:List V):Prop :=
 Rd H a (.lst xs) ∨
  ∃ (o:Obj) (its:Array Value) (n:Nat),K.lookup a=some o∧o.cls=.type "list" ∧o.dict=none∧o.data=.seq its n∧its.size≤sizeLine∧Vals xs its.toList
def SqT (K:PySem.W.Frag) (H:Hp) (a:Addr) (xs:List V):Prop :=
 Rd H a (.tup xs) ∨
  ∃ (o:Obj) (its:Array Value) (n:Nat),K.lookup a=some o∧o.cls=.type "tuple" ∧o.data=.seq its n∧its.size≤sizeLine∧Vals xs its.toList
def Dx:Value→Option V
 | .none=>some .non
 | .bool b=>some (.bl b)
 | .int i _=>some (.int i)
 | .str x _=>some (.str x)
 | .bytes b _=>some (.byt b)
 | .float b _=>some (.flt b)
 | .ref a=>some (.ref a)
 | .type n=>some (.ty n)
 | _=>none
theorem RelV.abs {x:V} {u:Value} (r:RelV x u):Dx u=some x:=by
 cases x with
 | non=>cases r;rfl
 | bl _=>cases r;rfl
 | int _=>obtain ⟨t,rfl⟩:=r;rfl
 | str _=>obtain ⟨t,rfl⟩:=r;rfl
 | byt _=>obtain ⟨t,rfl⟩:=r;rfl
 | flt _=>obtain ⟨t,rfl⟩:=r;rfl
 | ref _=>cases r;rfl
 | ty _=>cases r;rfl
theorem RelV.inj {x y:V} {u:Value} (r:RelV x u) (q:RelV y u):x=y:=Option.some.inj (r.abs.symm.trans q.abs)
theorem Vals.inj:∀ {xs ys:List V} {us:List Value},Vals xs us→Vals ys us→xs=ys
 | _,_,_,.nil,.nil=>rfl
 | _,_,_,.cons r t,.cons r' t'=>by rw [r.inj r',Vals.inj t t']
section
variable {X:Cx} {pins:List (Addr×Obj)} {σ:St} {H:Hp} {s:Shared} {a:Addr} {xs ys:List V}
theorem SqL.of {K:PySem.W.Frag} (h:H a=some (.lst xs)):SqL K H a xs:=.inl (.inl h)
theorem SqT.of {K:PySem.W.Frag} (h:H a=some (.tup xs)):SqT K H a xs:=.inl (.inl h)
theorem Inv.list (I:Inv X pins σ H s) (h:SqL X.K H a xs):∃ its:List Value,Vals xs its∧PlainL s.heap a its.toArray∧xs.length≤sizeLine:=by
 rcases h with h | ⟨o,its,n,hk,hc,hd,hs,hz,r⟩
 ·obtain ⟨z,its,n,r,e⟩:=h.ok I.hok;exact ⟨its,r,⟨_,n,e,rfl,rfl,rfl⟩,z⟩
 ·refine ⟨its.toList,r,⟨o,n,I.kIn a o hk,hc,hd,by simpa using hs⟩,?_⟩;have e:=r.length;simp only [Array.length_toList] at e;lia
theorem Inv.tuple (I:Inv X pins σ H s) (h:SqT X.K H a xs):∃ its:List Value,Vals xs its∧IsTup s.heap a its.toArray∧xs.length≤sizeLine:=by
 rcases h with h | ⟨o,its,n,hk,hc,hs,hz,r⟩
 ·obtain ⟨z,its,r,p⟩:=h.ok I.hok;exact ⟨its,r,p,z⟩
 ·refine ⟨its.toList,r,⟨o,I.kIn a o hk,hc,n,by simpa using hs⟩,?_⟩;have e:=r.length;simp only [Array.length_toList] at e;lia
theorem Inv.list_inj (I:Inv X pins σ H s) (h:SqL X.K H a xs) (h':SqL X.K H a ys):xs=ys:=by
 obtain ⟨its,r,⟨o,n,e,_,_,d⟩,_⟩:=I.list h;obtain ⟨its',r',⟨o',n',e',_,_,d'⟩,_⟩:=I.list h';rw [e] at e';cases e';rw [d] at d';injection d' with d1 _
 have:its=its':=by simpa using congrArg Array.toList d1
 subst this;exact r.inj r'
theorem Inv.tuple_inj (I:Inv X pins σ H s) (h:SqT X.K H a xs) (h':SqT X.K H a ys):xs=ys:=by
 obtain ⟨its,r,⟨o,e,_,n,d⟩,_⟩:=I.tuple h;obtain ⟨its',r',⟨o',e',_,n',d'⟩,_⟩:=I.tuple h';rw [e] at e';cases e';rw [d] at d';injection d' with d1 _
 have:its=its':=by simpa using congrArg Array.toList d1
 subst this;exact r.inj r'
end
abbrev Cx.wish (X:Cx) (E:Value→Shared→Prop):Cx:={ X with xe:=E }
abbrev Cx.nox (X:Cx):Cx:=X.wish fun _ _=>False
theorem Cx.Ok.wish {X:Cx} (ok:X.Ok) (E:Value→Shared→Prop):(X.wish E).Ok :=
 ⟨ok.mod,ok.kind,ok.glob,ok.blt,ok.above,ok.inj,ok.has,ok.cab,ok.hd,ok.frames,ok.stk,ok.exf,ok.bs,ok.bsz,ok.noex,ok.exfs,ok.funs,ok.frf⟩
theorem Cx.Ok.unwish {X:Cx} {E:Value→Shared→Prop} (ok:(X.wish E).Ok):X.Ok :=
 ⟨ok.mod,ok.kind,ok.glob,ok.blt,ok.above,ok.inj,ok.has,ok.cab,ok.hd,ok.frames,ok.stk,ok.exf,ok.bs,ok.bsz,ok.noex,ok.exfs,ok.funs,ok.frf⟩
section
variable {X:Cx} {pins:List (Addr×Obj)} {σ:St} {H:Hp} {s:Shared} {E:Value→Shared→Prop}
theorem Inv.wish (I:Inv X pins σ H s) (E:Value→Shared→Prop):Inv (X.wish E) pins σ H s:=⟨I.ok.wish E,I.os,I.bare,I.base,I.loc,I.cell,I.free,I.freeC,I.pin,I.hok,I.len⟩
theorem Inv.unwish (I:Inv (X.wish E) pins σ H s):Inv X pins σ H s:=⟨I.ok.unwish,I.os,I.bare,I.base,I.loc,I.cell,I.free,I.freeC,I.pin,I.hok,I.len⟩
theorem SP.unwish {D:Ends} {f:Flow} {s':Shared} (h:SP (X.wish E) pins D f s'):SP X pins D f s':=by
 cases f with
 | next=>obtain ⟨σ',H',I,q⟩:=h;exact ⟨σ',H',I.unwish,q⟩
 | brk=>obtain ⟨σ',H',I,q⟩:=h;exact ⟨σ',H',I.unwish,q⟩
 | cont=>obtain ⟨σ',H',I,q⟩:=h;exact ⟨σ',H',I.unwish,q⟩
 | ret u=>obtain ⟨v,σ',H',I,r,q⟩:=h;exact ⟨v,σ',H',I.unwish,r,q⟩
theorem PSs.nox {st:List Stmt} {t:TS} (h:PSs X.nox st t):PSs X st t:=fun pins s σ H D I hw =>
 wpAny_mono (h pins s σ H D (I.wish _) hw) (fun _ _ q=>q.unwish) fun _ _ z=>False.elim z
end
section
variable {X:Cx} {st:Stmt} {rest:List Stmt} {t u:TS} {e:Expr} {te:TE} {pos:Pos}
def CB:TS:=fun D σ H=>D.nx σ H
def Dy (t u:TS):TS:=fun D σ H=>t { D with nx:=u D } σ H
theorem pss_nil:PSs X [] CB:=fun _ _ σ H _ I h=>wpAny_execs_nil ⟨σ,H,I,h⟩
theorem pss_cons (h1:PS X st t) (h2:PSs X rest u):PSs X (st :: rest) (Dy t u):=by
 intro pins s σ H D I h;refine wpAny_execs_cons (thn (h1 pins s σ H { D with nx:=u D } I h) fun f s1 q=>?_)
 cases f with
 | next =>
  obtain ⟨σ',H',I',q⟩:=q;exact h2 pins s1 σ' H' D I' q
 | ret v=>exact q
 | brk=>exact q
 | cont=>exact q
theorem pss_one (h1:PS X st t):PSs X [st] t:=by
 intro pins s σ H D I h;refine wpAny_execs_cons (thn (h1 pins s σ H D I h) fun f s1 q=>?_)
 cases f with
 | next=>exact wpAny_execs_nil q
 | ret v=>exact q
 | brk=>exact q
 | cont=>exact q
theorem Inv.quiet {pins:List (Addr×Obj)} {σ:St} {H:Hp} {s:Shared} (I:Inv X pins σ H s):interactive X.env=false:=by simp [interactive,I.ok.kind]
def CC (te:TE):TS:=fun D σ H=>te σ H fun _ H1=>D.nx σ H1
theorem ps_expr (he:PE X e te) (hs:swapsWith e none pos.line X.env=pure false:=by rfl):PS X (.Expr e pos) (CC te):=by
 intro pins s σ H D I h;exact wpAny_Expr_any (thn (he pins s σ H _ I h) fun v s1 ⟨x,H1,I1,r1,q1⟩=>⟨σ,H1,I1,q1⟩) I.quiet hs
def Dz (te:TE):TS:=fun D σ H=>te σ H D.rt
theorem ps_ret (he:PE X e te):PS X (.Return (some e) pos) (Dz te):=by
 intro pins s σ H D I h;exact wpAny_Return_some (thn (he pins s σ H _ I h) fun v s1 ⟨x,H1,I1,r1,q1⟩=>⟨x,σ,H1,I1,r1,q1⟩)
def DA (c:TT) (t u:TS):TS:=fun D σ H=>c σ H fun b H1=>if b=true then t D σ H1 else u D σ H1
theorem ps_if {c:Expr} {a b:List Stmt} {tc:TT} (hc:PT X c tc) (ha:PSs X a t) (hb:PSs X b u):PS X (.If c a b pos) (DA tc t u):=by
 intro pins s σ H D I h;refine wpAny_If (thn (hc pins s σ H _ I h) fun d s1 ⟨H1,I1,q1⟩=>?_)
 cases d with
 | true=>exact ha pins s1 σ H1 D I1 q1
 | false=>exact hb pins s1 σ H1 D I1 q1
end
abbrev TG:=V→St→Hp→(St→Hp→Prop)→Prop
abbrev TGs:=List V→St→Hp→(St→Hp→Prop)→Prop
def PG (X:Cx) (target:Expr) (t:TG):Prop :=
 ∀ (pins:List (Addr×Obj)) (s:Shared) (σ:St) (H:Hp) (v:V) (u:Value) (Q:St→Hp→Prop),Inv X pins σ H s→RelV v u→t v σ H Q →
  wpAny (model X.prog X.w) X.A (assign target X.env u) (fun _ s'=>∃ σ' H',Inv X pins σ' H' s'∧Q σ' H') X.xe s
def PGs (X:Cx) (ts:List Expr) (t:TGs):Prop :=
 ∀ (pins:List (Addr×Obj)) (s:Shared) (σ:St) (H:Hp) (vs:List V) (us:List Value) (Q:St→Hp→Prop),Inv X pins σ H s→Vals vs us→t vs σ H Q →
  wpAny (model X.prog X.w) X.A (assignInOrder ((assignEach ts X.env).map (·.2)) us) (fun _ s'=>∃ σ' H',Inv X pins σ' H' s'∧Q σ' H') X.xe s
abbrev wN:=V→V→V→Hp→(Hp→Prop)→Prop
def CD (X:Cx) (t:wN):Prop :=
 ∀ (pins:List (Addr×Obj)) (s:Shared) (σ:St) (H:Hp) (o i v:V) (ov iv u:Value) (Q:Hp→Prop),Inv X pins σ H s→RelV o ov→RelV i iv→RelV v u→t o i v H Q →
  wpAny (model X.prog X.w) X.A (setItem ov iv u) (fun _ s'=>∃ H',Inv X pins σ H' s'∧Q H') X.xe s
abbrev TIp:=V→V→Hp→VK→Prop
def PIp (X:Cx) (op:Operator) (t:TIp):Prop :=
 ∀ (pins:List (Addr×Obj)) (s:Shared) (σ:St) (H:Hp) (x y:V) (v u:Value) (Q:VK),Inv X pins σ H s→RelV x v→RelV y u→t x y H Q →
  wpAny (model X.prog X.w) X.A (inplaceOp op v u) (EP X pins σ Q) X.xe s
section
variable {X:Cx} {pos:Pos}
def pC (i:Nat):TG:=fun v σ H Q=>Q (σ.set i (some v)) H
theorem aE {i:Nat} {x:Str} (hN:X.N.Nodup) (hi:X.N[i]?=some x) (hx:Loc X.env.scope x) (hf:X.fn x=true∨X.env.scope.names.lookup x=some .local:=by first | exact .inl rfl | exact .inr rfl | assumption):PG X (.Name x pos) (pC i):=by
 intro pins s σ H v u Q I r h;exact wpAny_assign_Name (eT I hN hi hx r (fun s' I'=>⟨_,H,I',h⟩) hf)
def DB:TGs:=fun vs σ H Q=>vs=[]∧Q σ H
def CF (t:TG) (u:TGs):TGs:=fun vs σ H Q=>∃ v r,vs=v :: r∧t v σ H fun σ' H'=>u r σ' H' Q
theorem eU:PGs X [] DB:=by
 intro pins s σ H vs us Q I r h;obtain ⟨e,h⟩:=h;subst e
 cases r
 exact assignInOrder_nil ⟨σ,H,I,h⟩
theorem aU {e:Expr} {es:List Expr} {t:TG} {u:TGs} (h1:PG X e t) (h2:PGs X es u)
  (hs:(assignEach (e :: es) X.env).map (·.2)=assign e X.env :: (assignEach es X.env).map (·.2):=by rfl):PGs X (e :: es) (CF t u):=by
 intro pins s σ H vs us Q I r h;obtain ⟨v,vr,e1,h⟩:=h;subst e1
 cases r with
 | cons r rr =>
  rw [hs];refine assignInOrder_cons (thn (h1 pins s σ H _ _ _ I r h) fun _ s1 ⟨σ1,H1,I1,q1⟩=>?_);exact h2 pins s1 σ1 H1 _ _ Q I1 rr q1
def CG (K:PySem.W.Frag) (n:Nat) (t:TGs):TG:=fun v σ H Q=>∃ a xs,v=.ref a∧SqT K H a xs∧xs.length=n∧t xs σ H Q
theorem mf {es:List Expr} {k:Nat} {t:TGs} {n:Nat} (hc:X.calm=true) (h:PGs X es t)
  (hn:(assignEach es X.env).length=n:=by rfl) (hst:(assignEach es X.env).findIdx? (·.1)=none:=by rfl):PG X (.Tuple es k pos) (CG X.K n t):=by
 intro pins s σ H v u Q I r hw;obtain ⟨a,xs,e1,hq,hl,hw⟩:=hw;subst e1
 cases r
 obtain ⟨its,rv,ht,hz⟩:=I.tuple hq;refine assign_Tuple_tuple (I.ok.hd hc) ht (by simp [hn,← hl,rv.length]) hst fun h' hx=>?_;have I1:Inv X pins σ H { s with heap:=h' }:=I.kept (t':=s.toks) fun b o e=>hx b o (Nat.ne_of_lt (Heap.lt_size e)) e;exact h pins _ σ H xs _ Q I1 (by simpa using rv) hw
def gSub (to ti:TE) (t:wN):TG:=fun v σ H Q=>to σ H fun o H1=>ti σ H1 fun i H2=>t o i v H2 fun H3=>Q σ H3
theorem wO {o i:Expr} {to ti:TE} {t:wN} (ho:PE X o to) (hi:PE X i ti) (hs:CD X t)
  (ha:∀ v,assign (.Subscript o i pos) X.env v=(do
   let ov ← holding [v] (eval o X.env)
   let iv ← holding [v,ov] (eval i X.env)
   standAt pos
   holding [v,ov,iv] (setItem ov iv v)
   release [v,ov,iv] []):=by intro _;rfl):PG X (.Subscript o i pos) (gSub to ti t):=by
 intro pins s σ H v u Q I r h;rw [ha];refine wpAny_bind (wpAny_holding (thn (ho pins s σ H _ I h) fun ov s1 ⟨x,H1,I1,r1,q1⟩=>?_));refine wpAny_bind (wpAny_holding (thn (hi pins s1 σ H1 _ I1 q1) fun iv s2 ⟨y,H2,I2,r2,q2⟩=>?_));refine wpAny_bind (wpAny_standAt (wpAny_bind (wpAny_holding (thn (hs pins s2 σ H2 x y v ov iv u _ I2 r1 r2 r q2) fun _ s3 ⟨H3,I3,q3⟩=>?_))));exact wpAny_release ⟨σ,H3,I3,q3⟩
def CH (te:TE) (g:TG):TS:=fun D σ H=>te σ H fun x H1=>g x σ H1 D.nx
theorem wP {tg e:Expr} {te:TE} {g:TG} (he:PE X e te) (hg:PG X tg g) (hs:swapsWithSole [tg] e pos.line X.env=pure false:=by rfl) (hw:swappedStores [tg] e X.env=pure none:=by rfl)
  (h1:(assignEach [tg] X.env).map (·.2)=[assign tg X.env]:=by rfl):PS X (.Assign [tg] e pos) (CH te g):=by
 intro pins s σ H D I h;refine wpAny_Assign_stores (thn (he pins s σ H _ I h) fun v s1 ⟨x,H1,I1,r1,q1⟩=>?_) hs hw;rw [h1];exact thn (hg pins s1 σ H1 x v _ I1 r1 q1) fun _ s2 q=>q
theorem ps_set {i:Nat} {x:Str} {e:Expr} {te:TE} {pos':Pos} (hN:X.N.Nodup) (hi:X.N[i]?=some x) (hx:Loc X.env.scope x) (he:PE X e te) (hs:swapsWith e (some (.Name x pos')) pos.line X.env=pure false:=by rfl) (hf:X.fn x=true∨X.env.scope.names.lookup x=some .local:=by first | exact .inl rfl | exact .inr rfl | assumption) :
  PS X (.Assign [.Name x pos'] e pos) (CH te (pC i)):=by
 intro pins s σ H D I h;refine wpAny_Assign_Name (thn (he pins s σ H _ I h) fun v s1 ⟨y,H1,I1,r1,q1⟩=>?_) hs;exact eT I1 hN hi hx r1 (fun s2 I2=>⟨_,H1,I2,q1⟩) hf
def DC (i:Nat) (te:TE) (ti:TIp):TS:=fun D σ H=>∃ x,σ[i]?=some (some x)∧te σ H fun y H1=>ti x y H1 fun z H2=>D.nx (σ.set i (some z)) H2
theorem mh {i:Nat} {x:Str} {e:Expr} {te:TE} {op:Operator} {ti:TIp} {pos':Pos} (hN:X.N.Nodup) (hi:X.N[i]?=some x) (hx:Loc X.env.scope x) (he:PE X e te) (ho:PIp X op ti) (hf:X.fn x=true∨X.env.scope.names.lookup x=some .local:=by first | exact .inl rfl | exact .inr rfl | assumption) :
  PS X (.AugAssign (.Name x pos') op e pos) (DC i te ti):=by
 intro pins s σ H D I h;obtain ⟨v,e1,h⟩:=h;obtain ⟨m,hn,hl⟩:=I.loc;have vis:Vis X.env.scope x:=by rcases hx with k | k;exact .inl k;exact .inr (.inl k)
 obtain ⟨u,r,l⟩:=hl i x v hi e1 vis;refine wpAny_AugAssign_Name ?_;have go:wpAny (model X.prog X.w) X.A (eval e X.env) (fun w s₂=>wpAny (model X.prog X.w) X.A (inplaceOp op u w) (fun r s₃=>wpAny (model X.prog X.w) X.A (storeName X.env x r) (fun _=>SP X pins D .next) X.xe s₃) X.xe s₂) X.xe s:=by
  refine thn (he pins s σ H _ I h) fun w s1 ⟨y,H1,I1,r1,q1⟩=>?_;refine thn (ho pins s1 σ H1 v y u w _ I1 r r1 q1) fun z s2 ⟨zv,H2,I2,r2,q2⟩=>?_;exact eT I2 hN hi hx r2 (fun s3 I3=>⟨_,H2,I3,q2⟩) hf
 rcases l with ⟨hk,hm⟩ | ⟨hk,c,hc,hcell⟩
 ·exact wpAny_loadName_local I.ok.kind hk hn hm go
 ·rcases hk with hk | hk
  ·exact wpAny_loadName_cell I.ok.kind hk hc hcell go
  ·rcases hx with k | k
   ·have:X.env.scope.names.lookup x=some .free:=hk;rw [k] at this;cases this
   ·have:X.env.scope.names.lookup x=some .free:=hk;rw [k] at this;cases this
def ipI (f:Int→Int→Int):TIp:=fun x y H Q=>∃ i j,x=.int i∧y=.int j∧Q (.int (f i j)) H
theorem ip_add:PIp X .Add (ipI fun i j=>i+j):=by
 intro pins s σ H x y v u Q I r1 r2 h;obtain ⟨i,j,e1,e2,q⟩:=h;subst e1;subst e2;obtain ⟨t,rfl⟩:=r1;obtain ⟨t',rfl⟩:=r2;exact iadd_int ⟨.int _,H,I.tok _,⟨_,rfl⟩,q⟩
theorem wQ:PIp X .Sub (ipI fun i j=>i - j):=by
 intro pins s σ H x y v u Q I r1 r2 h;obtain ⟨i,j,e1,e2,q⟩:=h;subst e1;subst e2;obtain ⟨t,rfl⟩:=r1;obtain ⟨t',rfl⟩:=r2;exact isub_int ⟨.int _,H,I.tok _,⟨_,rfl⟩,q⟩
end
section
variable {X:Cx} {pos:Pos}
def wR (c:TT) (tb:TS):TS:=fun D σ H=>∃ W:Nat→St→Hp→Prop,(∃ m,W m σ H)∧∀ m σ H,W m σ H →
 c σ H fun b H1=>if b=true then ∃ N:St→Hp→Prop,(∀ σ' H',N σ' H'→∃ m',m' < m∧W m' σ' H')∧tb { D with nx:=N,ct:=N,bk:=D.nx } σ H1 else D.nx σ H1
theorem eV {c:Expr} {body:List Stmt} {tc:TT} {tb:TS} (hp:PassesOwn (model X.prog X.w) X.A X.env X.xe) (hc:PT X c tc) (hb:PSs X body tb):PS X (.While c body [] pos) (wR tc tb):=by
 intro pins s σ H D I h;obtain ⟨W,⟨m0,w0⟩,turn⟩:=h;refine wpAny_While (codeAny_whileLoop (fun n s'=>∃ σ' H',Inv X pins σ' H' s'∧W n σ' H') ?_ m0 ⟨σ,H,I,w0⟩);rintro n s1 ⟨σ1,H1,I1,w1⟩;refine wpAny_passesOwn hp (thn (hc pins s1 σ1 H1 _ I1 (turn n σ1 H1 w1)) fun b s2 ⟨H2,I2,q2⟩=>?_)
 cases b with
 | true =>
  obtain ⟨N,hN,q2⟩:=q2;rw [if_pos rfl];refine wpAny_passesOwn hp (thn (hb pins s2 σ1 H2 _ I2 q2) fun f s3 q3=>?_)
  cases f with
  | next =>
   obtain ⟨σ3,H3,I3,n3⟩:=q3;obtain ⟨m',hm,w3⟩:=hN σ3 H3 n3;exact ⟨m',hm,σ3,H3,I3,w3⟩
  | cont =>
   obtain ⟨σ3,H3,I3,n3⟩:=q3;obtain ⟨m',hm,w3⟩:=hN σ3 H3 n3;exact ⟨m',hm,σ3,H3,I3,w3⟩
  | brk=>exact q3
  | ret v=>exact q3
 | false =>
  rw [if_neg Bool.false_ne_true];exact wpAny_execs_nil ⟨σ1,H2,I2,q2⟩
end
structure It where
 go:Nat→Hp→Prop
 yld:Nat→Hp→V→Hp→Prop
 stop:Nat→Hp→Prop
def eW (X:Cx) (pins:List (Addr×Obj)) (H:Hp) (b:Addr):Prop :=
 H b=none∧b≠X.env.locals∧b∉X.fs∧(b∈X.ex∨X.s₀.heap.objs.size≤b)∧(∀ x c,X.env.cells.lookup x=some c→c≠b)∧∀ p∈X.pn++pins,p.1≠b
theorem Inv.fpOk {X:Cx} {pins:List (Addr×Obj)} {σ:St} {H H':Hp} {s:Shared} {b:Addr} (I:Inv X pins σ H s) (hb:s.heap.objs.size≤b) (hn:H' b=none):eW X pins H' b:=by
 refine ⟨hn,Nat.ne_of_gt (Nat.lt_of_lt_of_le I.lt hb),I.nofs hb,.inr (Nat.le_trans I.sz hb),fun x c e z=>?_,fun p hp z=>?_⟩
 ·obtain ⟨v,q⟩:=I.cell x c e;exact absurd (Nat.lt_of_lt_of_le q.lt (by rw [z];exact hb)) (Nat.lt_irrefl _)
 ·exact absurd (Nat.lt_of_lt_of_le (Heap.lt_size (I.pin p hp).1) (by rw [z];exact hb)) (Nat.lt_irrefl _)
structure Turn (P:Program) (w:World) (K:PySem.W.Frag) (tg:Expr) (J:It) (fp:List Addr) (it:Addr) (tn:Nat→Heap→Prop):Prop where
 mem:it∈fp
 obj:∀ i h,tn i h→∀ b∈fp,∃ o,h.get? b=some o∧∀ v,o.data≠.cell v
 keep:∀ i h h',tn i h→(∀ b∈fp,∀ o,h.get? b=some o→h'.get? b=some o)→tn i h'
 item:∀ (X:Cx),X.prog=P→X.w=w→X.K=K→X.calm=true→∀ (i:Nat) (pins:List (Addr×Obj)) (s:Shared) (σ:St) (H:Hp) (E:Value→Shared→Prop),Inv X pins σ H s→(∀ b∈fp,eW X pins H b)→tn i s.heap→J.go i H →
  wpAny (model P w) X.A (pyNext (.ref it)) (fun r s1=>∃ u,r=some u ∧
   wpAny (model P w) X.A (letOwnedTupleGo tg (.ref it) u) (fun _ s2=>∃ x H',Inv X pins σ H' s2∧RelV x u∧J.yld i H x H'∧tn (i+1) s2.heap∧∀ b∈fp,H' b=none) E s1) E s
 done:∀ (X:Cx),X.prog=P→X.w=w→X.K=K→X.calm=true→∀ (i:Nat) (pins:List (Addr×Obj)) (s:Shared) (σ:St) (H:Hp) (E:Value→Shared→Prop),Inv X pins σ H s→(∀ b∈fp,eW X pins H b)→tn i s.heap→J.stop i H →
  wpAny (model P w) X.A (pyNext (.ref it)) (fun r s1=>r=none∧Inv X pins σ H s1) E s
 self:∀ (A:Around) (i:Nat) (s:Shared) (Q:Value→Shared→Prop) (E:Value→Shared→Prop),tn i s.heap→Q (.ref it) s→wpAny (model P w) A (pyIter (.ref it)) Q E s
abbrev TI:=St→Hp→(It→Hp→Prop)→Prop
def PIE (X:Cx) (pins:List (Addr×Obj)) (σ:St) (tg:Expr) (R:It→Hp→Prop) (itv:Value) (s2:Shared):Prop :=
 ∃ (it:Addr) (fp:List Addr) (tn:Nat→Heap→Prop) (J:It) (H':Hp),itv=.ref it∧Inv X pins σ H' s2∧Turn X.prog X.w X.K tg J fp it tn∧tn 0 s2.heap∧(∀ b∈fp,eW X pins H' b)∧R J H'
def PI (X:Cx) (tg iter:Expr) (wi:TI):Prop :=
 ∀ (pins:List (Addr×Obj)) (s:Shared) (σ:St) (H:Hp) (R:It→Hp→Prop),Inv X pins σ H s→wi σ H R →
  wpAny (model X.prog X.w) X.A (eval iter X.env) (fun v s1=>wpAny (model X.prog X.w) X.A (pyIter v) (PIE X pins σ tg R) X.xe s1) X.xe s
theorem nz {M:Model} {A:Around} {E:Value→Shared→Prop} {s:Shared} {tg:Expr} {it:Addr} {u:Value} {o:Obj} {n:String} {vs:Array Value} {Q:Unit→Shared→Prop} (ho:s.heap.get? it=some o) (hc:o.cls=.type n) (hd:o.data=.fields vs)
    (hn:["enumerate","zip","dict_itemiterator","dict_reverseitemiterator","odict_iterator","itertools.zip_longest","itertools.pairwise"].contains n=false) (hQ:Q () s):wpAny M A (letOwnedTupleGo tg (.ref it) u) Q E s:=by
  unfold letOwnedTupleGo
  cases tg <;> first
    | exact wpAny_pure hQ
    | (cases u <;> first
        | exact wpAny_pure hQ
        | (refine wpAny_bind (wpAny_load ho ?_)
           rw [hc,hd];show wpAny M A (if (["enumerate","zip","dict_itemiterator","dict_reverseitemiterator","odict_iterator","itertools.zip_longest","itertools.pairwise"].contains n && vs[0]? == some (rawInt _))=true then _ else _) Q E s;rw [if_neg (by intro h;rw [hn,Bool.false_and] at h;cases h)];exact wpAny_pure hQ))
def Itl (K:PySem.W.Frag) (a:Addr):It :=
 ⟨fun i H=>∃ xs x,SqL K H a xs∧xs[i]?=some x,fun i H x H'=>H'=H∧∀ xs,SqL K H a xs→xs[i]?=some x,fun i H=>∃ xs,SqL K H a xs∧xs.length≤i⟩
def Itt (K:PySem.W.Frag) (a:Addr):It :=
 ⟨fun i H=>∃ xs x,SqT K H a xs∧xs[i]?=some x,fun i H x H'=>H'=H∧∀ xs,SqT K H a xs→xs[i]?=some x,fun i H=>∃ xs,SqT K H a xs∧xs.length≤i⟩
def Itr (lo:Int) (n:Nat):It:=⟨fun i _=>i < n,fun i H x H'=>H'=H∧x=.int (lo+i),fun i _=>n≤i⟩
theorem oj {P:Program} {w:World} {K:PySem.W.Frag} {tg:Expr} (a it:Addr):Turn P w K tg (Itl K a) [it] it (fun i h=>h.IsListIter it a i) where
 mem:=by simp
 obj:=fun i h st b hb=>by
  have e:b=it:=by simpa using hb
  subst e;obtain ⟨o,e,c,d⟩:=st;exact ⟨o,e,fun v z=>by rw [d] at z;cases z⟩
 keep:=fun i h h' st k=>st.at fun o e=>k it (by simp) o e
 item:=by
  intro X hP hw hK hc i pins s σ H E I hf st hg;subst hP hw hK;obtain ⟨xs,x,hq,hx⟩:=hg;obtain ⟨its,rv,p,hz⟩:=I.list hq;obtain ⟨u,hu,ru⟩:=rv.get hx;obtain ⟨f0,f1,f2,f3,f4,f5⟩:=hf it (by simp);refine wpAny_pyNext_list_item st p.isList (x:=u) (by simpa using hu) fun h' st' sb=>?_;have I1:Inv X pins σ H { s with heap:=h' }:=I.turned (t':=s.toks) (fun b o hb e=>(sb.2 b hb).trans e) f0 f1 f3 f4 f5;obtain ⟨o,e,c,d⟩:=id st';exact ⟨u,rfl,nz (s:={ s with heap:=h' }) e c d (by decide) ⟨x,H,I1,ru,⟨rfl,fun ys hy=>by rw [I.list_inj hy hq];exact hx⟩,st',fun b hb=>(hf b hb).1⟩⟩
 done:=by
  intro X hP hw hK hc i pins s σ H E I hf st hg;subst hP hw hK;obtain ⟨xs,hq,hx⟩:=hg;obtain ⟨its,rv,p,hz⟩:=I.list hq;obtain ⟨f0,f1,f2,f3,f4,f5⟩:=hf it (by simp);have hl:=rv.length;exact wpAny_pyNext_list_end (I.ok.hd hc) st p.isList (by simp;lia) fun h' eb=>⟨rfl,I.turned (t':=s.toks) (fun b o hb e=>eb b o hb e) f0 f1 f3 f4 f5⟩
 self:=fun _ _ _ _ _ st h=>wpAny_pyIter_listiter st h
theorem mi {P:Program} {w:World} {K:PySem.W.Frag} {tg:Expr} (a it:Addr):Turn P w K tg (Itt K a) [it] it (fun i h=>h.IsTupleIter it a i) where
 mem:=by simp
 obj:=fun i h st b hb=>by
  have e:b=it:=by simpa using hb
  subst e;obtain ⟨o,e,c,d⟩:=st;exact ⟨o,e,fun v z=>by rw [d] at z;cases z⟩
 keep:=fun i h h' st k=>st.at fun o e=>k it (by simp) o e
 item:=by
  intro X hP hw hK hc i pins s σ H E I hf st hg;subst hP hw hK;obtain ⟨xs,x,hq,hx⟩:=hg;obtain ⟨its,rv,p,hz⟩:=I.tuple hq;obtain ⟨u,hu,ru⟩:=rv.get hx;obtain ⟨f0,f1,f2,f3,f4,f5⟩:=hf it (by simp);refine wpAny_pyNext_tuple_item st (show s.heap.IsTuple a its.toArray from p) (x:=u) (by simpa using hu) fun h' st' sb=>?_;have I1:Inv X pins σ H { s with heap:=h' }:=I.turned (t':=s.toks) (fun b o hb e=>(sb.2 b hb).trans e) f0 f1 f3 f4 f5;obtain ⟨o,e,c,d⟩:=id st';exact ⟨u,rfl,nz (s:={ s with heap:=h' }) e c d (by decide) ⟨x,H,I1,ru,⟨rfl,fun ys hy=>by rw [I.tuple_inj hy hq];exact hx⟩,st',fun b hb=>(hf b hb).1⟩⟩
 done:=by
  intro X hP hw hK hc i pins s σ H E I hf st hg;subst hP hw hK;obtain ⟨xs,hq,hx⟩:=hg;obtain ⟨its,rv,p,hz⟩:=I.tuple hq;obtain ⟨f0,f1,f2,f3,f4,f5⟩:=hf it (by simp);have hl:=rv.length;exact wpAny_pyNext_tuple_end (I.ok.hd hc) st (show s.heap.IsTuple a its.toArray from p) (by simp;lia) fun h' eb=>⟨rfl,I.turned (t':=s.toks) (fun b o hb e=>eb b o hb e) f0 f1 f3 f4 f5⟩
 self:=fun _ _ _ _ _ st h=>wpAny_pyIter_tupleiter st h
theorem mj {P:Program} {w:World} {K:PySem.W.Frag} {tg:Expr} (it:Addr) (lo:Int) (n:Nat):Turn P w K tg (Itr lo n) [it] it (fun i h=>IsRangeIter h it (lo+(i:Nat)*1) ((n:Int) - (i:Nat)) 1) where
 mem:=by simp
 obj:=fun i h st b hb=>by
  have e:b=it:=by simpa using hb
  subst e;exact ⟨_,st,fun v z=>by
   have z':Data.fields _=Data.cell v:=z
   cases z'⟩
 keep:=fun i h h' st k=>k it (by simp) _ st
 item:=by
  intro X hP hw hK hc i pins s σ H E I hf st hg;subst hP hw hK;obtain ⟨f0,f1,f2,f3,f4,f5⟩:=hf it (by simp);have W:=Walks.range (prog:=X.prog) (w:=X.w) (I.ok.hd hc) it lo 1 n;refine W.item i s _ _ hg st fun v h' tk hv st' kk=>?_;obtain ⟨t,rfl⟩:=hv;have I1:Inv X pins σ H { s with heap:=h',toks:=tk }:=I.turned (fun b o hb e=>kk b o (by simpa using hb) e) f0 f1 f3 f4 f5;refine ⟨_,rfl,nz (s:={ s with heap:=h',toks:=tk }) (n:= "range_iterator") st' rfl rfl (by decide) ⟨.int (lo+i),H,I1,⟨t,?_⟩,⟨rfl,rfl⟩,st',fun b hb=>(hf b hb).1⟩⟩;rw [Int.mul_one]
 done:=by
  intro X hP hw hK hc i pins s σ H E I hf st hg;subst hP hw hK;obtain ⟨f0,f1,f2,f3,f4,f5⟩:=hf it (by simp);exact wpAny_pyNext_range_end (I.ok.hd hc) st (by have:n≤i:=hg;lia) fun h' eb=>⟨rfl,I.turned (t':=s.toks) (fun b o hb e=>eb b o hb e) f0 f1 f3 f4 f5⟩
 self:=fun _ _ _ _ _ st h=>wpAny_pyIter_rangeiter st h
section
variable {X:Cx} {tg:Expr}
def sH (K:PySem.W.Frag) (tl:TE):TI:=fun σ H R=>tl σ H fun x H1=>∃ a,x=.ref a∧(∃ xs,SqL K H1 a xs)∧R (Itl K a) H1
def CI (K:PySem.W.Frag) (tl:TE):TI:=fun σ H R=>tl σ H fun x H1=>∃ a,x=.ref a∧(∃ xs,SqT K H1 a xs)∧R (Itt K a) H1
theorem rf {l:Expr} {tl:TE} (hl:PE X l tl):PI X tg l (sH X.K tl):=by
 intro pins s σ H R I h;refine thn (hl pins s σ H _ I h) fun v s1 ⟨x,H1,I1,r1,q1⟩=>?_;obtain ⟨a,e,⟨xs,hq⟩,q⟩:=q1;subst e
 cases r1
 obtain ⟨its,rv,p,hz⟩:=I1.list hq;refine wpAny_pyIter_list p.isList ?_;refine ⟨s1.heap.objs.size,[s1.heap.objs.size],_,_,H1,rfl,I1.kept (t':=s1.toks) fun b o e=>Heap.get?_push_of_some _ e,oj a _,⟨_,Heap.get?_push_size _ rfl,rfl,rfl⟩,fun b hb=>?_,q⟩;have e:b=s1.heap.objs.size:=by simpa using hb
 subst e;exact I1.fpOk (Nat.le_refl _) (I1.hok.fresh (Nat.le_refl _))
theorem wT {l:Expr} {tl:TE} (hl:PE X l tl):PI X tg l (CI X.K tl):=by
 intro pins s σ H R I h;refine thn (hl pins s σ H _ I h) fun v s1 ⟨x,H1,I1,r1,q1⟩=>?_;obtain ⟨a,e,⟨xs,hq⟩,q⟩:=q1;subst e
 cases r1
 obtain ⟨its,rv,p,hz⟩:=I1.tuple hq;refine wpAny_pyIter_tuple (show s1.heap.IsTuple a its.toArray from p) ?_;refine ⟨s1.heap.objs.size,[s1.heap.objs.size],_,_,H1,rfl,I1.kept (t':=s1.toks) fun b o e=>Heap.get?_push_of_some _ e,mi a _,⟨_,Heap.get?_push_size _ rfl,rfl,rfl⟩,fun b hb=>?_,q⟩;have e:b=s1.heap.objs.size:=by simpa using hb
 subst e;exact I1.fpOk (Nat.le_refl _) (I1.hok.fresh (Nat.le_refl _))
theorem pD {pins:List (Addr×Obj)} {σ:St} {H:Hp} {s:Shared} {R:It→Hp→Prop} {E:Value→Shared→Prop} {lo hi:Int} {t u v:Tok} {tk:Nat} (I:Inv X pins σ H s) (h1:-(2 ^ 62)≤lo) (h2:lo < 2 ^ 62) (h3:-(2 ^ 62)≤hi) (h4:hi < 2 ^ 62)
  (q:R (Itr lo (hi - lo).toNat) H):wpAny (model X.prog X.w) X.A (pyIter (.ref s.heap.objs.size)) (PIE X pins σ tg R) E { s with heap:=s.heap.push { cls:=.type "range",data:=.fields #[.int lo t,.int hi u,.int 1 v] },toks:=tk }:=by
 refine wpAny_pyIter_range (IsRange.new ..) (small_one h1 h2 h3 h4) ?_;have I1:Inv X pins σ H { s with heap:=s.heap.push { cls:=.type "range",data:=.fields #[.int lo t,.int hi u,.int 1 v] },toks:=tk }:=I.kept fun b o e=>Heap.get?_push_of_some _ e;refine ⟨(s.heap.push { cls:=.type "range",data:=.fields #[.int lo t,.int hi u,.int 1 v] }).objs.size,[(s.heap.push { cls:=.type "range",data:=.fields #[.int lo t,.int hi u,.int 1 v] }).objs.size],_,_,H,rfl,
  I1.kept (t':=tk) fun b o e=>Heap.get?_push_of_some _ e,mj _ lo (hi - lo).toNat,?_,fun b hb=>?_,q⟩
 ·have e1:lo+((0:Nat):Int)*1=lo:=by simp
  have e2:(((hi - lo).toNat:Nat):Int) - ((0:Nat):Int)=Builtin.Range.rangeSize lo hi 1:=by rw [rangeSize_one];split <;> lia
  show IsRangeIter _ _ (lo+((0:Nat):Int)*1) ((((hi - lo).toNat:Nat):Int) - ((0:Nat):Int)) 1;rw [e1,e2];exact Heap.get?_push_size _ rfl
 ·have e:b=(s.heap.push { cls:=.type "range",data:=.fields #[.int lo t,.int hi u,.int 1 v] }).objs.size:=by simpa using hb
  subst e;exact I1.fpOk (Nat.le_refl _) (I1.hok.fresh (Nat.le_refl _))
def CJ (ta:TA):TI:=fun σ H R=>ta σ H fun vs H1=>∃ j:Int,vs=[.int j]∧-(2 ^ 62)≤j∧j < 2 ^ 62∧R (Itr 0 j.toNat) H1
theorem fG {a:Expr} {ta:TA} {p pos:Pos} (hg:Gl X "range") (hm:X.mg "range" = none) (ha:PA X [a] ta) (hs:starEach [a] X.env=[(false,eval a X.env)]:=by rfl):PI X tg (.Call (.Name "range" p) [a] [] pos) (CJ ta):=by
 intro pins s σ H R I h;refine Call_ (gS I hg hm boot_range (PyProof.Rows.callWith_type1 (thn (ha pos pins s σ H _ I h) fun us s1 ⟨vs,H1,I1,r1,q1⟩=>?_) hs rfl));obtain ⟨j,e,q1,q2,q⟩:=q1;subst e
 cases r1 with
 | cons r rr =>
  cases rr
  obtain ⟨t,rfl⟩:=r;exact call_range_1 (pD I1 (by lia) (by lia) q1 q2 (by simpa using q))
def tFor (wi:TI) (g:TG) (tb:TS):TS:=fun D σ H=>wi σ H fun J H1=>∃ W:Nat→Nat→St→Hp→Prop,(∃ m,W 0 m σ H1)∧∀ i m σ H,W i m σ H →
 (J.stop i H∧D.nx σ H)∨(J.go i H∧∃ N:St→Hp→Prop,(∀ σ' H',N σ' H'→∃ m',m' < m∧W (i+1) m' σ' H')∧∀ x H',J.yld i H x H'→g x σ H' fun σ2 H2=>tb { D with nx:=N,ct:=N,bk:=D.nx } σ2 H2)
def jP (fp:List Addr) (h:Heap):List (Addr×Obj):=fp.filterMap fun b=>(h.get? b).map fun o=>(b,o)
theorem cS {fp:List Addr} {h:Heap} {b:Addr} {o:Obj} (hb:b∈fp) (e:h.get? b=some o):(b,o)∈jP fp h:=List.mem_filterMap.mpr ⟨b,hb,by rw [e];rfl⟩
theorem ol {fp:List Addr} {h:Heap} {p:Addr×Obj} (hp:p∈jP fp h):p.1∈fp∧h.get? p.1=some p.2:=by
 obtain ⟨b,hb,e⟩:=List.mem_filterMap.mp hp
 cases q:h.get? b with
 | none=>rw [q] at e;cases e
 | some o =>
  rw [q] at e;have e':(b,o)=p:=Option.some.inj e;subst e';exact ⟨hb,q⟩
theorem Inv.pinned {pins:List (Addr×Obj)} {σ:St} {H:Hp} {s:Shared} {fp:List Addr} (I:Inv X pins σ H s) (hf:∀ b∈fp,eW X pins H b) (ho:∀ b∈fp,∃ o,s.heap.get? b=some o∧∀ v,o.data≠.cell v):Inv X (pins++jP fp s.heap) σ H s :=
 I.pins_of fun p hp=>(List.mem_append.mp hp).elim (fun z=>I.pin p (List.mem_append_right _ z)) fun z=>by
  obtain ⟨hb,e⟩:=ol z;obtain ⟨f0,f1,f2,_⟩:=hf p.1 hb;obtain ⟨o,e',d⟩:=ho p.1 hb;rw [e] at e';cases e';exact ⟨e,f0,f1,f2,d⟩
theorem Inv.unpinned {pins pl:List (Addr×Obj)} {σ:St} {H:Hp} {s:Shared} (I:Inv X (pins++pl) σ H s):Inv X pins σ H s:=I.pins_of fun p hp=>I.pin p (List.mem_append_right _ (List.mem_append_left _ hp))
theorem fH {iter:Expr} {body:List Stmt} {wi:TI} {g:TG} {tb:TS} {pos:Pos} (hp:PassesOwn (model X.prog X.w) X.A X.env X.xe) (hc:X.calm=true) (hi:PI X tg iter wi) (hg:PG X tg g) (hb:PSs X body tb)
  (hs:∀ x,foldedSetIterable iter X.env x=pure x:=by intro _;rfl):PS X (.For tg iter body [] pos) (tFor wi g tb):=by
 intro pins s σ H D I h;refine wpAny_For (thn (hi pins s σ H _ I h) fun v s1 h1=>thn h1 fun itv s2 h2=>?_) hs;obtain ⟨it,fp,tn,J,H2,e,I2,T,st2,f2,W,⟨m0,w0⟩,turn⟩:=h2;subst e;have stat:∀ {H':Hp},(∀ b∈fp,H' b=none)→∀ b∈fp,eW X pins H' b:=fun hn b hb=>⟨hn b hb,(f2 b hb).2⟩;refine codeAny_forLoop_any (fun n s'=>∃ i σ' H',Inv X pins σ' H' s'∧tn i s'.heap∧(∀ b∈fp,H' b=none)∧W i n σ' H') ?_ m0 ⟨0,σ,H2,I2,st2,fun b hb=>(f2 b hb).1,w0⟩;rintro n s3 ⟨i,σ3,H3,I3,st3,fr3,w3⟩;rcases turn i n σ3 H3 w3 with ⟨stop,qn⟩ | ⟨go,N,hN,step⟩
 ·refine wpAny_passesOwn hp (thn (T.done X rfl rfl rfl hc i pins s3 σ3 H3 X.xe I3 (stat fr3) st3 stop) fun r s4 ⟨hr,I4⟩=>?_);subst hr;exact wpAny_execs_nil ⟨σ3,H3,I4,qn⟩
 ·refine wpAny_passesOwn hp (thn (T.item X rfl rfl rfl hc i pins s3 σ3 H3 X.xe I3 (stat fr3) st3 go) fun r s4 ⟨u,hr,h4⟩=>?_);subst hr;refine wpAny_passesOwn hp (thn h4 fun _ s5 ⟨x,H5,I5,r5,y5,st5,fr5⟩=>?_);have I5':=I5.pinned (stat fr5) (T.obj _ _ st5);refine wpAny_passesOwn hp (thn (hg _ s5 σ3 H5 x u _ I5' r5 (step x H5 y5)) fun _ s6 ⟨σ6,H6,I6,q6⟩=>?_);refine wpAny_passesOwn hp (thn (hb _ s6 σ6 H6 _ I6 q6) fun f s7 q7=>?_);have again:∀ {σ7:St} {H7:Hp},Inv X (pins++jP fp s5.heap) σ7 H7 s7→N σ7 H7→∃ m,m < n∧∃ i σ' H',Inv X pins σ' H' s7∧tn i s7.heap∧(∀ b∈fp,H' b=none)∧W i m σ' H':=fun {σ7 H7} I7 n7=>by
   obtain ⟨m',hm,w7⟩:=hN σ7 H7 n7;refine ⟨m',hm,i+1,σ7,H7,I7.unpinned,T.keep _ _ _ st5 fun b hb o e=>(I7.pin (b,o) (List.mem_append_right _ (List.mem_append_right _ (cS hb e)))).1,fun b hb=>?_,w7⟩;obtain ⟨o,e,d⟩:=T.obj _ _ st5 b hb;exact (I7.pin (b,o) (List.mem_append_right _ (List.mem_append_right _ (cS hb e)))).2.1
  cases f with
  | next=>obtain ⟨σ7,H7,I7,n7⟩:=q7;exact again I7 n7
  | cont=>obtain ⟨σ7,H7,I7,n7⟩:=q7;exact again I7 n7
  | brk=>obtain ⟨σ7,H7,I7,q7⟩:=q7;exact ⟨σ7,H7,I7.unpinned,q7⟩
  | ret v=>obtain ⟨x7,σ7,H7,I7,r7,q7⟩:=q7;exact ⟨x7,σ7,H7,I7.unpinned,r7,q7⟩
end
theorem pE {K:PySem.W.Frag} {a:Addr} {xs:List V} {g:TG} {tb:TS} {D:Ends} {σ:St} {H:Hp} (Pv:Nat→St→Hp→Prop) (h0:Pv 0 σ H) (hl:∀ i σ H,i≤xs.length→Pv i σ H→SqL K H a xs)
  (hs:∀ i x σ H,xs[i]?=some x→Pv i σ H→g x σ H fun σ2 H2=>tb { D with nx:=Pv (i+1),ct:=Pv (i+1),bk:=D.nx } σ2 H2) (hd:∀ σ H,Pv xs.length σ H→D.nx σ H) :
  ∃ W:Nat→Nat→St→Hp→Prop,(∃ m,W 0 m σ H)∧∀ i m σ H,W i m σ H →
   ((Itl K a).stop i H∧D.nx σ H)∨((Itl K a).go i H∧∃ N:St→Hp→Prop,(∀ σ' H',N σ' H'→∃ m',m' < m∧W (i+1) m' σ' H')∧∀ x H',(Itl K a).yld i H x H'→g x σ H' fun σ2 H2=>tb { D with nx:=N,ct:=N,bk:=D.nx } σ2 H2):=by
 refine ⟨fun i m σ H=>m=xs.length - i∧i≤xs.length∧Pv i σ H,⟨xs.length,by simp,Nat.zero_le _,h0⟩,?_⟩;rintro i m σ H ⟨rfl,hi,p⟩;have q:=hl i σ H hi p
 by_cases hlt:i < xs.length
 ·refine .inr ⟨⟨xs,xs[i],q,by simp [hlt]⟩,Pv (i+1),fun σ' H' p'=>⟨xs.length - (i+1),by lia,rfl,hlt,p'⟩,fun x H' y=>?_⟩;obtain ⟨e,y⟩:=y;subst e;exact hs i x σ _ (y xs q) p
 ·have e:i=xs.length:=by lia
  subst e;exact .inl ⟨⟨xs,q,Nat.le_refl _⟩,hd σ H p⟩
theorem nA {K:PySem.W.Frag} {a:Addr} {xs:List V} {g:TG} {tb:TS} {D:Ends} {σ:St} {H:Hp} (Pv:Nat→St→Hp→Prop) (h0:Pv 0 σ H) (hl:∀ i σ H,i≤xs.length→Pv i σ H→SqT K H a xs)
  (hs:∀ i x σ H,xs[i]?=some x→Pv i σ H→g x σ H fun σ2 H2=>tb { D with nx:=Pv (i+1),ct:=Pv (i+1),bk:=D.nx } σ2 H2) (hd:∀ σ H,Pv xs.length σ H→D.nx σ H) :
  ∃ W:Nat→Nat→St→Hp→Prop,(∃ m,W 0 m σ H)∧∀ i m σ H,W i m σ H →
   ((Itt K a).stop i H∧D.nx σ H)∨((Itt K a).go i H∧∃ N:St→Hp→Prop,(∀ σ' H',N σ' H'→∃ m',m' < m∧W (i+1) m' σ' H')∧∀ x H',(Itt K a).yld i H x H'→g x σ H' fun σ2 H2=>tb { D with nx:=N,ct:=N,bk:=D.nx } σ2 H2):=by
 refine ⟨fun i m σ H=>m=xs.length - i∧i≤xs.length∧Pv i σ H,⟨xs.length,by simp,Nat.zero_le _,h0⟩,?_⟩;rintro i m σ H ⟨rfl,hi,p⟩;have q:=hl i σ H hi p
 by_cases hlt:i < xs.length
 ·refine .inr ⟨⟨xs,xs[i],q,by simp [hlt]⟩,Pv (i+1),fun σ' H' p'=>⟨xs.length - (i+1),by lia,rfl,hlt,p'⟩,fun x H' y=>?_⟩;obtain ⟨e,y⟩:=y;subst e;exact hs i x σ _ (y xs q) p
 ·have e:i=xs.length:=by lia
  subst e;exact .inl ⟨⟨xs,q,Nat.le_refl _⟩,hd σ H p⟩
theorem fI {lo:Int} {n:Nat} {g:TG} {tb:TS} {D:Ends} {σ:St} {H:Hp} (Pv:Nat→St→Hp→Prop) (h0:Pv 0 σ H)
  (hs:∀ i σ H,i < n→Pv i σ H→g (.int (lo+i)) σ H fun σ2 H2=>tb { D with nx:=Pv (i+1),ct:=Pv (i+1),bk:=D.nx } σ2 H2) (hd:∀ σ H,Pv n σ H→D.nx σ H) :
  ∃ W:Nat→Nat→St→Hp→Prop,(∃ m,W 0 m σ H)∧∀ i m σ H,W i m σ H →
   ((Itr lo n).stop i H∧D.nx σ H)∨((Itr lo n).go i H∧∃ N:St→Hp→Prop,(∀ σ' H',N σ' H'→∃ m',m' < m∧W (i+1) m' σ' H')∧∀ x H',(Itr lo n).yld i H x H'→g x σ H' fun σ2 H2=>tb { D with nx:=N,ct:=N,bk:=D.nx } σ2 H2):=by
 refine ⟨fun i m σ H=>m=n - i∧i≤n∧Pv i σ H,⟨n,by simp,Nat.zero_le _,h0⟩,?_⟩;rintro i m σ H ⟨rfl,hi,p⟩
 by_cases hlt:i < n
 ·refine .inr ⟨hlt,Pv (i+1),fun σ' H' p'=>⟨n - (i+1),by lia,rfl,hlt,p'⟩,fun x H' y=>?_⟩;obtain ⟨e,y⟩:=y;subst e y;exact hs i σ _ hlt p
 ·have e:i=n:=by lia
  subst e;exact .inl ⟨Nat.le_refl _,hd σ H p⟩
abbrev R2:=V→V→Hp→VK→Prop
def OpR (X:Cx) (f:Value→Value→Sem Value) (r:R2):Prop :=
 ∀ (pins:List (Addr×Obj)) (s:Shared) (σ:St) (H:Hp) (x y:V) (v u:Value) (Q:VK),Inv X pins σ H s→RelV x v→RelV y u→r x y H Q →
  wpAny (model X.prog X.w) X.A (f v u) (EP X pins σ Q) X.xe s
def UnR (X:Cx) (f:Value→Sem Value) (r:V→Hp→VK→Prop):Prop :=
 ∀ (pins:List (Addr×Obj)) (s:Shared) (σ:St) (H:Hp) (x:V) (v:Value) (Q:VK),Inv X pins σ H s→RelV x v→r x H Q →
  wpAny (model X.prog X.w) X.A (f v) (EP X pins σ Q) X.xe s
def bh (X:Cx) (f:Value) (r:List V→Hp→VK→Prop):Prop :=
 ∀ (pins:List (Addr×Obj)) (s:Shared) (σ:St) (H:Hp) (xs:List V) (us:List Value) (Q:VK),Inv X pins σ H s→Vals xs us→r xs H Q →
  wpAny (model X.prog X.w) X.A (call f us) (EP X pins σ Q) X.xe s
def tOp (r:R2) (ta tb:TE):TE:=fun σ H Q=>ta σ H fun x H1=>tb σ H1 fun y H2=>r x y H2 Q
def tUn (r:V→Hp→VK→Prop) (ta:TE):TE:=fun σ H Q=>ta σ H fun x H1=>r x H1 Q
inductive IRI (C:Int→Int→Prop) (g:Int→Int→V) (x y:V) (H:Hp) (Q:VK):Prop
 | mk (i j:Int):(x=.int i)→(y=.int j)→(C i j)→(Q (g i j) H)→IRI C g x y H Q
def rI (C:Int→Int→Prop) (g:Int→Int→V):R2:=fun x y H Q=>IRI C g x y H Q
inductive IRI0 (g:Int→Int→V) (x y:V) (H:Hp) (Q:VK):Prop
 | mk (i j:Int):(x=.int i)→(y=.int j)→(Q (g i j) H)→IRI0 g x y H Q
def rI0 (g:Int→Int→V):R2:=fun x y H Q=>IRI0 g x y H Q
def rU (g:Int→V):V→Hp→VK→Prop:=fun x H Q=>∃ i,x=.int i∧Q (g i) H
section
variable {X:Cx} {a b c:Expr} {ta tb tc:TE} {pos:Pos}
theorem wU (ha:PE X a ta) (hb:PE X b tb) {pins:List (Addr×Obj)} {s:Shared} {σ:St} {H:Hp} {R:V→V→Hp→Prop} (I:Inv X pins σ H s)
  (h:ta σ H fun x H1=>tb σ H1 fun y H2=>R x y H2) {Q:Value→Shared→Prop} {f:Value→Value→Sem Value}
  (hf:∀ v u s2 x y H2,Inv X pins σ H2 s2→RelV x v→RelV y u→R x y H2→wpAny (model X.prog X.w) X.A (f v u) Q X.xe s2) :
  wpAny (model X.prog X.w) X.A (eval a X.env) (fun v s₁=>wpAny (model X.prog X.w) X.A (eval b X.env) (fun u s₂=>wpAny (model X.prog X.w) X.A (f v u) Q X.xe s₂) X.xe s₁) X.xe s:=by
 refine thn (ha pins s σ H _ I h) fun v s1 ⟨x,H1,I1,r1,q1⟩=>?_;refine thn (hb pins s1 σ H1 _ I1 q1) fun u s2 ⟨y,H2,I2,r2,q2⟩=>?_;exact hf v u s2 x y H2 I2 r1 r2 q2
theorem ah {op:Operator} {r:R2} (ho:OpR X (binaryOp op) r) (ha:PE X a ta) (hb:PE X b tb):PE X (.BinOp a op b pos) (tOp r ta tb):=by
 intro pins s σ H Q I h;exact wpAny_BinOp (wU ha hb I h fun v u s2 x y H2 I2 rx ry q=>ho pins s2 σ H2 x y v u Q I2 rx ry q)
theorem pe_un {op:UnaryOp} {r:V→Hp→VK→Prop} (ho:UnR X (unaryOp op) r) (ha:PE X a ta):PE X (.UnaryOp op a pos) (tUn r ta):=by
 intro pins s σ H Q I h;exact UnaryOp_ (thn (ha pins s σ H _ I h) fun v s1 ⟨x,H1,I1,r1,q1⟩=>ho pins s1 σ H1 x v Q I1 r1 q1)
theorem opI {f:Value→Value→Sem Value} {C:Int→Int→Prop} {g:Int→Int→Int}
  (rule:∀ (i j:Int) (t u:Tok) (s:Shared) (Q:Value→Shared→Prop) (E:Value→Shared→Prop),C i j→Q (.int (g i j) s.toks) { s with toks:=s.toks+1 }→wpAny (model X.prog X.w) X.A (f (.int i t) (.int j u)) Q E s) :
  OpR X f (rI C fun i j=>.int (g i j)):=by
 intro pins s σ H x y v u Q I rx ry h;obtain ⟨i,j,rfl,rfl,hc,q⟩:=h;obtain ⟨t,rfl⟩:=rx;obtain ⟨t',rfl⟩:=ry;exact rule i j t t' s _ _ hc ⟨.int (g i j),H,I.tok _,⟨_,rfl⟩,q⟩
theorem CK {f:Value→Value→Sem Value} {g:Int→Int→Int}
  (rule:∀ (i j:Int) (t u:Tok) (s:Shared) (Q:Value→Shared→Prop) (E:Value→Shared→Prop),Q (.int (g i j) s.toks) { s with toks:=s.toks+1 }→wpAny (model X.prog X.w) X.A (f (.int i t) (.int j u)) Q E s) :
  OpR X f (rI0 fun i j=>.int (g i j)):=by
 intro pins s σ H x y v u Q I rx ry h;obtain ⟨i,j,rfl,rfl,q⟩:=h;obtain ⟨t,rfl⟩:=rx;obtain ⟨t',rfl⟩:=ry;exact rule i j t t' s _ _ ⟨.int (g i j),H,I.tok _,⟨_,rfl⟩,q⟩
theorem rg {f:Value→Value→Sem Value} {g:Int→Int→Bool}
  (rule:∀ (i j:Int) (t u:Tok) (s:Shared) (Q:Value→Shared→Prop) (E:Value→Shared→Prop),Q (.bool (g i j)) s→wpAny (model X.prog X.w) X.A (f (.int i t) (.int j u)) Q E s) :
  OpR X f (rI0 fun i j=>.bl (g i j)):=by
 intro pins s σ H x y v u Q I rx ry h;obtain ⟨i,j,rfl,rfl,q⟩:=h;obtain ⟨t,rfl⟩:=rx;obtain ⟨t',rfl⟩:=ry;exact rule i j t t' s _ _ ⟨.bl (g i j),H,I,rfl,q⟩
def DD (i j:Int):Prop:=0≤j∧j≤1000000∧i.natAbs < 2 ^ 64
def CMul (i j:Int):Prop:=(-(2 ^ 64) < i∧i < 2 ^ 64)∨(-(2 ^ 64) < j∧j < 2 ^ 64)
theorem CMul.ok {i j:Int} (h:CMul i j):IntMulOk i j:=by
 rcases h with ⟨h1,h2⟩ | ⟨h1,h2⟩
 ·exact .of_left (intBits_le_64 h1 h2)
 ·exact .of_right (intBits_le_64 h1 h2)
theorem aQ:OpR X (binaryOp .Add) (rI0 fun i j=>.int (i+j)):=CK fun _ _ _ _ _ _ _ q=>add_int q
theorem mm:OpR X (binaryOp .Sub) (rI0 fun i j=>.int (i - j)):=CK fun _ _ _ _ _ _ _ q=>sub_int q
theorem eE:OpR X (binaryOp .Mult) (rI CMul fun i j=>.int (i*j)):=opI fun _ _ _ _ _ _ _ hc q=>mul_int q hc.ok
theorem eG:OpR X (binaryOp .Mod) (rI (fun _ j=>0 < j) fun i j=>.int (i % j)):=opI fun i j _ _ _ _ _ hc q=>by
 have h1:(0:Int) < j:=hc;exact mod_int' (by lia) (by rw [Int.fmod_eq_emod_of_nonneg i (by lia)];exact q)
theorem gU:OpR X (binaryOp .Pow) (rI DD fun i j=>.int (i ^ j.toNat)):=opI fun _ _ _ _ _ _ _ hc q=>pow_int_small hc.1 hc.2.1 hc.2.2 q
theorem unI {f:Value→Sem Value} {g:Int→Int}
  (rule:∀ (i:Int) (t:Tok) (s:Shared) (Q:Value→Shared→Prop) (E:Value→Shared→Prop),Q (.int (g i) s.toks) { s with toks:=s.toks+1 }→wpAny (model X.prog X.w) X.A (f (.int i t)) Q E s) :
  UnR X f (rU fun i=>.int (g i)):=by
 intro pins s σ H x v Q I rx h;obtain ⟨i,rfl,q⟩:=h;obtain ⟨t,rfl⟩:=rx;exact rule i t s _ _ ⟨.int (g i),H,I.tok _,⟨_,rfl⟩,q⟩
theorem un_neg:UnR X (unaryOp .USub) (rU fun i=>.int (-i)):=unI fun _ _ _ _ _ q=>neg_int q
end
def CL:V→V→Bool
 | .non,.non=>true | .non,.int _=>true | .int _,.non=>true | .non,.bl _=>true | .bl _,.non=>true | .non,.str _=>true | .str _,.non=>true
 | .int _,.int _=>true | .bl _,.bl _=>true | .str _,.str _=>true | .byt _,.byt _=>true
 | .int _,.str _=>true | .str _,.int _=>true | .bl _,.str _=>true | .str _,.bl _=>true
 | _,_=>false
def rEq:R2:=fun x y H Q=>CL x y=true∧Q (.bl (decide (x=y))) H
def rNe:R2:=fun x y H Q=>CL x y=true∧Q (.bl (!decide (x=y))) H
theorem nB {i j:Int}:decide (V.int i=V.int j)=(i == j):=by
 rw [Bool.eq_iff_iff];simp
theorem pF {i j:Bool}:decide (V.bl i=V.bl j)=(i == j):=by
 rw [Bool.eq_iff_iff];simp
theorem nD {i j:Str}:decide (V.str i=V.str j)=(i == j):=by
 rw [Bool.eq_iff_iff];simp
theorem nE {i j:Array UInt8}:decide (V.byt i=V.byt j)=(i.toList == j.toList):=by
 rw [Bool.eq_iff_iff]
 cases i
 cases j
 simp
section
variable {X:Cx} {a b c:Expr} {ta tb tc:TE} {pos:Pos}
theorem av {pins:List (Addr×Obj)} {σ:St} {H:Hp} {s:Shared} {Q:VK} {k k':Bool} (I:Inv X pins σ H s) (q:Q (.bl k) H) (e:k=k'):EP X pins σ Q (.bool k') s:=by
 subst e;exact ⟨.bl k,H,I,rfl,q⟩
theorem op_eq:OpR X (compareOp .Eq) rEq:=by
 intro pins s σ H x y v u Q I rx ry h;obtain ⟨hs,q⟩:=h
 cases x with
 | non =>
  cases rx
  cases y with
  | non=>cases ry;exact PySem.EqNone.eq_none_none (av I q (by simp))
  | bl j=>cases ry;exact PySem.EqNone.eq_none_bool (av I q (by simp))
  | int j=>obtain ⟨t',rfl⟩:=ry;exact PySem.EqNone.eq_none_int (av I q (by simp))
  | str j=>obtain ⟨t',rfl⟩:=ry;exact PySem.EqNone.eq_none_str (av I q (by simp))
  | _=>exact absurd (show false=true from hs) Bool.false_ne_true
 | bl i =>
  cases rx
  cases y with
  | non=>cases ry;exact PySem.EqNone.eq_bool_none (av I q (by simp))
  | bl j=>cases ry;exact eq_bool (av I q pF)
  | str j=>obtain ⟨t',rfl⟩:=ry;exact PySem.EqMixed.eq_bool_str (av I q (by simp))
  | _=>exact absurd (show false=true from hs) Bool.false_ne_true
 | int i =>
  obtain ⟨t,rfl⟩:=rx
  cases y with
  | non=>cases ry;exact PySem.EqNone.eq_int_none (av I q (by simp))
  | int j=>obtain ⟨t',rfl⟩:=ry;exact eq_int (av I q nB)
  | str j=>obtain ⟨t',rfl⟩:=ry;exact PySem.EqMixed.eq_int_str (av I q (by simp))
  | _=>exact absurd (show false=true from hs) Bool.false_ne_true
 | str i =>
  obtain ⟨t,rfl⟩:=rx
  cases y with
  | non=>cases ry;exact PySem.EqNone.eq_str_none (av I q (by simp))
  | bl j=>cases ry;exact PySem.EqMixed.eq_str_bool (av I q (by simp))
  | int j=>obtain ⟨t',rfl⟩:=ry;exact PySem.EqMixed.eq_str_int (av I q (by simp))
  | str j=>obtain ⟨t',rfl⟩:=ry;exact eq_str (av I q nD)
  | _=>exact absurd (show false=true from hs) Bool.false_ne_true
 | byt i =>
  obtain ⟨t,rfl⟩:=rx
  cases y with
  | byt j=>obtain ⟨t',rfl⟩:=ry;exact PySem.W.eq_bytes (av I q nE)
  | _=>exact absurd (show false=true from hs) Bool.false_ne_true
 | _=>cases y <;> exact absurd (show false=true from hs) Bool.false_ne_true
theorem op_ne:OpR X (compareOp .NotEq) rNe:=by
 intro pins s σ H x y v u Q I rx ry h;obtain ⟨hs,q⟩:=h
 cases x with
 | non =>
  cases rx
  cases y with
  | non=>cases ry;exact PySem.EqNone.ne_none_none (av I q (by simp))
  | bl j=>cases ry;exact PySem.EqNone.ne_none_bool (av I q (by simp))
  | int j=>obtain ⟨t',rfl⟩:=ry;exact PySem.EqNone.ne_none_int (av I q (by simp))
  | str j=>obtain ⟨t',rfl⟩:=ry;exact PySem.EqNone.ne_none_str (av I q (by simp))
  | _=>exact absurd (show false=true from hs) Bool.false_ne_true
 | bl i =>
  cases rx
  cases y with
  | non=>cases ry;exact PySem.EqNone.ne_bool_none (av I q (by simp))
  | bl j=>cases ry;exact ne_bool (av I q (congrArg not pF))
  | str j=>obtain ⟨t',rfl⟩:=ry;exact PySem.EqMixed.ne_bool_str (av I q (by simp))
  | _=>exact absurd (show false=true from hs) Bool.false_ne_true
 | int i =>
  obtain ⟨t,rfl⟩:=rx
  cases y with
  | non=>cases ry;exact PySem.EqNone.ne_int_none (av I q (by simp))
  | int j=>obtain ⟨t',rfl⟩:=ry;exact ne_int (av I q (congrArg not nB))
  | str j=>obtain ⟨t',rfl⟩:=ry;exact PySem.EqMixed.ne_int_str (av I q (by simp))
  | _=>exact absurd (show false=true from hs) Bool.false_ne_true
 | str i =>
  obtain ⟨t,rfl⟩:=rx
  cases y with
  | non=>cases ry;exact PySem.EqNone.ne_str_none (av I q (by simp))
  | bl j=>cases ry;exact PySem.EqMixed.ne_str_bool (av I q (by simp))
  | int j=>obtain ⟨t',rfl⟩:=ry;exact PySem.EqMixed.ne_str_int (av I q (by simp))
  | str j=>obtain ⟨t',rfl⟩:=ry;exact ne_str (av I q (congrArg not nD))
  | _=>exact absurd (show false=true from hs) Bool.false_ne_true
 | byt i =>
  obtain ⟨t,rfl⟩:=rx
  cases y with
  | byt j=>obtain ⟨t',rfl⟩:=ry;exact PySem.W.ne_bytes (av I q (congrArg not nE))
  | _=>exact absurd (show false=true from hs) Bool.false_ne_true
 | _=>cases y <;> exact absurd (show false=true from hs) Bool.false_ne_true
theorem kU:OpR X (compareOp .Lt) (rI0 fun i j=>.bl (decide (i < j))):=rg fun _ _ _ _ _ _ _ q=>lt_int q
theorem et:OpR X (compareOp .LtE) (rI0 fun i j=>.bl (decide (i≤j))):=rg fun _ _ _ _ _ _ _ q=>le_int q
theorem op_gt:OpR X (compareOp .Gt) (rI0 fun i j=>.bl (decide (j < i))):=rg fun _ _ _ _ _ _ _ q=>gt_int q
theorem CM:OpR X (compareOp .GtE) (rI0 fun i j=>.bl (decide (j≤i))):=rg fun _ _ _ _ _ _ _ q=>ge_int q
theorem op_in_str:OpR X (compareOp .In) (fun x y H Q=>∃ i j,x=.str i∧y=.str j∧Q (.bl (!(Builtin.Str.occurrences j i 0 j.length 1).isEmpty)) H):=by
 intro pins s σ H x y v u Q I rx ry h;obtain ⟨i,j,rfl,rfl,q⟩:=h;obtain ⟨t,rfl⟩:=rx;obtain ⟨t',rfl⟩:=ry;exact in_str (av I q rfl)
theorem pG:OpR X (compareOp .Is) (fun x y H Q=>y=.non∧Q (.bl (decide (x=.non))) H):=by
 intro pins s σ H x y v u Q I rx ry h;obtain ⟨rfl,q⟩:=h
 cases ry
 refine is_none_gen (av I q ?_)
 cases x <;> first
  | (cases rx;rfl)
  | (obtain ⟨t,rfl⟩:=rx;rfl)
theorem nomark (b:Expr) {op:CmpOp} (h:op≠.In:=by decide) (h2:op≠.NotIn:=by decide):behindInMarks op b=false:=by
 have e1:(op == CmpOp.In)=false:=by cases op <;> first | rfl | exact absurd rfl h
 have e2:(op == CmpOp.NotIn)=false:=by cases op <;> first | rfl | exact absurd rfl h2
 cases b <;> simp [behindInMarks,e1,e2]
theorem aR {op:CmpOp} {r:R2} (ho:OpR X (compareOp op) r) (ha:PE X a ta) (hb:PE X b tb) (hm:behindInMarks op b=false):PE X (.Compare a [op] [b] pos) (tOp r ta tb):=by
 intro pins s σ H Q I h;exact wpAny_Compare1 (wU ha hb I h fun v u s2 x y H2 I2 rx ry q=>ho pins s2 σ H2 x y v u Q I2 rx ry q) hm
inductive IBl (x:V) (H':Hp) (Q:Bool→Hp→Prop):Prop
 | mk (k:Bool):(x=.bl k)→(Q k H')→IBl x H' Q
def CN (t:TE):TT:=fun σ H Q=>t σ H fun x H'=>IBl x H' Q
theorem pt_cmpR {op:CmpOp} {r:R2} (ho:OpR X (compareOp op) r) (ha:PE X a ta) (hb:PE X b tb) (hm:behindInMarks op b=false):PT X (.Compare a [op] [b] pos) (CN (tOp r ta tb)):=by
 intro pins s σ H Q I h;refine wpAny_isTrue_Compare1 (thn (ha pins s σ H _ I h) fun v s1 ⟨x,H1,I1,r1,q1⟩=>thn (hb pins s1 σ H1 _ I1 q1) fun u s2 ⟨y,H2,I2,r2,q2⟩ =>
  thn (ho pins s2 σ H2 x y v u _ I2 r1 r2 q2) fun c s3 ⟨z,H3,I3,r3,k,e,q3⟩=>?_) hm
 subst e
 cases r3
 exact wpAny_truthy_bool ⟨H3,I3,q3⟩
def wV (r r':R2) (ta tb tc:TE):TE:=fun σ H Q=>ta σ H fun x H1=>tb σ H1 fun y H2=>r x y H2 fun z H3=>∃ k,z=.bl k ∧
 (if k=true then tc σ H3 fun w' H4=>r' y w' H4 Q else Q (.bl false) H3)
theorem pH {op op':CmpOp} {r r':R2} (ho:OpR X (compareOp op) r) (ho':OpR X (compareOp op') r') (ha:PE X a ta) (hb:PE X b tb) (hc:PE X c tc)
  (hm:lastMarks [op,op'] [b,c]=false:=by with_unfolding_all rfl):PE X (.Compare a [op,op'] [b,c] pos) (wV r r' ta tb tc):=by
 intro pins s σ H Q I h;refine Compare_chain (thn (ha pins s σ H _ I h) fun v s1 ⟨x,H1,I1,r1,q1⟩=>chain_link (thn (hb pins s1 σ H1 _ I1 q1) fun u s2 ⟨y,H2,I2,r2,q2⟩ =>
  thn (ho pins s2 σ H2 x y v u _ I2 r1 r2 q2) fun d s3 ⟨z,H3,I3,r3,k,e,q3⟩=>?_)) hm
 subst e
 cases r3
 refine wpAny_truthy_bool ?_
 cases k with
 | false=>exact ite_ff ⟨.bl false,H3,I3,rfl,q3⟩
 | true=>exact ite_tt (chain_last (thn (hc pins s3 σ H3 _ I3 q3) fun w' s4 ⟨z',H4,I4,r4,q4⟩=>ho' pins s4 σ H4 y z' u w' Q I4 r2 r4 q4))
theorem fJ:(sizeLine:Nat) < 2 ^ 63:=by rw [sizeLine_eq];decide
theorem ai:OpR X (binaryOp .Add) (fun x y H Q=>∃ i j,x=.str i∧y=.str j∧i.length+j.length≤sizeLine∧Q (.str (i++j)) H):=by
 intro pins s σ H x y v u Q I rx ry h;obtain ⟨i,j,rfl,rfl,hz,q⟩:=h;obtain ⟨t,rfl⟩:=rx;obtain ⟨t',rfl⟩:=ry;exact add_str (fun t' tk=>⟨.str (i++j),H,I.tok _,⟨_,rfl⟩,q⟩) hz
theorem cK {x:V} {us:List Value} (r:Vals [x] us):∃ u,us=[u]∧RelV x u:=by
 cases r with
 | cons r1 r2=>cases r2;exact ⟨_,rfl,r1⟩
theorem nF {x y:V} {us:List Value} (r:Vals [x,y] us):∃ u w',us=[u,w']∧RelV x u∧RelV y w':=by
 cases r with
 | cons r1 r2 =>
  cases r2 with
  | cons r3 r4=>cases r4;exact ⟨_,_,rfl,r1,r3⟩
theorem om (hc:X.calm=true):bh X (.builtin "max") (fun xs H Q=>∃ i j,xs=[.int i,.int j]∧Q (.int (if j > i then j else i)) H):=by
 intro pins s σ H xs us Q I r h;obtain ⟨i,j,rfl,q⟩:=h;obtain ⟨u,w',rfl,⟨t,rfl⟩,⟨t',rfl⟩⟩:=nF r;refine max_two_ints (I.ok.hd hc) fun h' tk k=>⟨_,H,I.kept k,?_,q⟩
 by_cases hj:j > i
 ·rw [if_pos hj,if_pos hj];exact ⟨_,rfl⟩
 ·rw [if_neg hj,if_neg hj];exact ⟨_,rfl⟩
theorem oq (hc:X.calm=true):bh X (.builtin "min") (fun xs H Q=>∃ i j,xs=[.int i,.int j]∧Q (.int (if j < i then j else i)) H):=by
 intro pins s σ H xs us Q I r h;obtain ⟨i,j,rfl,q⟩:=h;obtain ⟨u,w',rfl,⟨t,rfl⟩,⟨t',rfl⟩⟩:=nF r;refine min_two_ints (I.ok.hd hc) fun h' tk k=>⟨_,H,I.kept k,?_,q⟩
 by_cases hj:j < i
 ·rw [if_pos hj,if_pos hj];exact ⟨_,rfl⟩
 ·rw [if_neg hj,if_neg hj];exact ⟨_,rfl⟩
theorem jp:bh X (.type "int") (fun xs H Q=>(∃ i,xs=[.int i]∧Q (.int i) H)∨∃ k,xs=[.bl k]∧Q (.int (if k then 1 else 0)) H):=by
 intro pins s σ H xs us Q I r h;rcases h with ⟨i,rfl,q⟩ | ⟨k,rfl,q⟩
 ·obtain ⟨u,rfl,t,rfl⟩:=cK r;exact call_int_int ⟨.int i,H,I,⟨_,rfl⟩,q⟩
 ·obtain ⟨u,rfl,r1⟩:=cK r
  cases r1
  exact call_int_bool ⟨.int (if k then 1 else 0),H,I.tok _,⟨_,rfl⟩,q⟩
theorem eX:bh X (.type "str") (fun xs H Q=>∃ i,xs=[.int i]∧i.natAbs.log2 < 1920∧Q (.str (toString i)) H):=by
 intro pins s σ H xs us Q I r h;obtain ⟨i,rfl,hz,q⟩:=h;obtain ⟨u,rfl,t,rfl⟩:=cK r;exact PySem.P.str_of_int hz ⟨.str _,H,I.tok _,⟨_,rfl⟩,q⟩
theorem pI:bh X (.builtin "ord") (fun xs H Q=>∃ x,xs=[.str x]∧x.length=1∧Q (.int (x.cps.getD 0 0:Nat)) H):=by
 intro pins s σ H xs us Q I r h;obtain ⟨x,rfl,hz,q⟩:=h;obtain ⟨u,rfl,t,rfl⟩:=cK r;exact ord_of_one hz ⟨.int _,H,I.tok _,⟨_,rfl⟩,q⟩
end
structure ObjM (h:Heap) (x dx C:Addr) (mA:Str→Option Value):Prop where
 obj:h.get? x=some (PySem.W.instObj C dx)
 ns:h.Ns1 dx mA
 ne:dx≠x
theorem ou {h:Heap} {dx:Addr} {mA:Str→Option Value} (n:h.Ns1 dx mA):∃ od,h.get? dx=some od∧∀ name,PySem.W.lookIn name od=some (mA name):=by
 obtain ⟨o,es,ep,ho,hd,hk,_,hm⟩:=n;refine ⟨o,ho,fun name=>?_⟩;have e:=hm name;unfold nsFind findBy at e;rw [← Array.find?_toList] at e;unfold PySem.W.lookIn;rw [hd];dsimp only
 split
 ·rename_i y q
  rw [q] at e;exact congrArg some e
 ·rename_i q
  rw [q] at e;have a:es.toList.any (·.refKey)=false:=by
   rw [List.any_eq_false];intro y hy;obtain ⟨z,t,hkey⟩:=hk y (Array.mem_toList_iff.mp hy);simp [DictEntry.refKey,hkey]
  have a':¬ es.toList.any (·.refKey)=true:=by rw [a];exact Bool.false_ne_true
  rw [if_neg a'];exact congrArg some e
theorem ObjM.look {h:Heap} {x dx C:Addr} {mA:Str→Option Value} (I:ObjM h x dx C mA):∃ od,PySem.W.InstAt h x (PySem.W.instObj C dx) C (some od)∧∀ name,PySem.W.lookIn name od=some (mA name) :=
 let ⟨od,ho,hl⟩:=ou I.ns
 ⟨od,⟨I.obj,rfl,rfl,ho⟩,hl⟩
section
variable {prog:Program} {w:World} {A:Around} {E:Value→Shared→Prop} {s:Shared} {K:PySem.W.Frag} {x dx C f:Addr} {mA:Str→Option Value} {name:Str} {v:Value}
theorem rh {expr:Bool} {Q:Value→Shared→Prop} (X:K.In s.heap) (I:ObjM s.heap x dx C mA) (hg:PySem.W.plainGet K C name=true) (hh:PySem.W.hasDictIn K C=true)
  (ha:PySem.W.findIn K (.ref C) name=some none) (hv:mA name=some v) (hv':PySem.W.handedIn v=true) (h:Q v { s with toks:=s.toks+1 }) :
  wpAny (model prog w) A (getAttr (.ref x) name expr) Q E s:=by
 obtain ⟨od,J,hl⟩:=I.look;exact PySem.W.get_value X J (PySem.W.plainGet_of hg).1 (PySem.W.findObj_own hh ha rfl (by rw [hl,hv])) hv' h
theorem pJ {pl:Sem Bool} {Q:Value×List Value→Shared→Prop} (X:K.In s.heap) (I:ObjM s.heap x dx C mA) (hg:PySem.W.plainGet K C name=true)
  (hf:PySem.W.findIn K (.ref C) name=some (some (.ref f))) (ht:PySem.W.isFn K (.ref f)=true) (hv:mA name=none) (h:Q (.ref f,[.ref x]) s) :
  wpAny (model prog w) A (getMethod (.ref x) name pl) Q E s:=by
 obtain ⟨od,J,hl⟩:=I.look;exact PySem.W.method_fn X J (PySem.W.plainGet_of hg).1 (PySem.W.plainGet_of hg).2 hf (beq_iff_eq.mp ht) (by show (PySem.W.lookIn name od).map (·.isSome)=some false;rw [hl,hv];rfl) h
theorem rj {ns:List Str} {Q:Unit→Shared→Prop} (X:K.In s.heap) (I:ObjM s.heap x dx C mA)
  (hs:PySem.W.findIn K (.ref C) "__setattr__" = some (some (.builtin "object.__setattr__"))) (hp:PySem.W.plainOver K C=true) (ht:PySem.W.takerIn K C name=some none) (hh:PySem.W.hasDictIn K C=true)
  (hw:PySem.Within mA ns) (hsz:ns.length≤sizeLine)
  (h:∀ h',ObjM h' x dx C (fun y=>if y=name then some v else mA y)→Heap.SameBut dx s.heap h'→Q () { s with heap:=h',toks:=s.toks+2 }) :
  wpAny (model prog w) A (setAttr (.ref x) name v) Q E s:=by
 obtain ⟨od,J,hl⟩:=I.look;refine PySem.W.set_plain X J hs (PySem.W.osa_open (s:={ s with toks:=s.toks+1 }) (r:=none) X J hp ht fun b=>?_);obtain ⟨cd,hc,hd'⟩:=PySem.W.any_some hh;have hx:s.heap.get? x=some ⟨.ref C,some dx,.plain,#[]⟩:=I.obj;refine wpAny_bind (wpAny_pure (wpAny_bind (wpAny_bind (wpAny_loadPart hx (wpAny_bind (PySem.W.Looks.here (s:={ s with toks:=s.toks+1 }) (PySem.W.looks_clsIn X hc) ?_))))));rw [hd'];refine wpAny_pure (a:=some dx) (wpAny_bind (wpAny_pure (wpAny_bind ?_)));refine wpAny_nsSet1 (s:={ s with toks:=s.toks+1 }) I.ns fun h' hn2 hs2=>?_;obtain ⟨oD,esD,epD,hoD,hdD,hcD⟩:=hn2.count (PySem.Within.cons name v hw);refine wpAny_bind (wpAny_lookBehind hoD (by rw [hdD];exact pastItsLine_dict (Nat.le_trans hcD (by rw [List.length_cons];lia))) ?_);exact wpAny_pure (h _ ⟨(hs2.2 _ (Ne.symm I.ne)).trans I.obj,hn2,I.ne⟩ hs2)
theorem pK {R:Result→Shared→Prop} {vs:List Value} {kw:List (Str×Value)} (X:K.In s.heap) (hm:PySem.W.makesIn K C=true)
  (hi:PySem.W.findIn K (.ref C) "__init__" = some (some (.ref f))) (hf:PySem.W.typeIn K (.ref f)=some (.type "function"))
  (h:codeAny (model prog w) (A.under (.builtin "type.__call__" ⟨.ref C :: vs,kw⟩)) (.call (.ref f) ⟨.ref (s.heap.objs.size+1) :: vs,kw⟩) (PySem.W.InitBack (s.heap.objs.size+1) R)
   { s with heap:=(s.heap.push PySem.W.emptyDict).push (PySem.W.instObj C s.heap.objs.size) }) :
  codeAny (model prog w) A (.call (.ref C) ⟨vs,kw⟩) R s:=by
 obtain ⟨hh,g,d,t,os⟩:=s;exact PySem.W.make_core (PySem.W.makes_of X hm) (PySem.W.looks_findIn X hi) (fun self=>PySem.W.bind_fn X self hf) (.inl rfl) h
end
def cT (f:Str) (v:V):List (Str×V)→List (Str×V)
 | []=>[(f,v)]
 | (g,x) :: r=>if g=f then (g,v) :: r else (g,x) :: cT f v r
theorem gi (f g:Str) (v:V):∀ fs:List (Str×V),(cT f v fs).lookup g=if g=f then some v else fs.lookup g
 | []=>by
  show List.lookup g [(f,v)]=_
  by_cases h:g=f
  ·have hb:(g == f)=true:=beq_iff_eq.mpr h;simp only [List.lookup,hb,if_pos h]
  ·have hb:(g == f)=false:=beq_eq_false_iff_ne.mpr h;simp only [List.lookup,hb,if_neg h]
 | (k,x) :: r=>by
  have ih:=gi f g v r;rw [show cT f v ((k,x) :: r)=(if k=f then (k,v) :: r else (k,x) :: cT f v r) from rfl]
  by_cases hk:k=f
  ·rw [if_pos hk]
   by_cases h:g=k
   ·have hb:(g == k)=true:=beq_iff_eq.mpr h;simp only [List.lookup,hb,if_pos (h.trans hk)]
   ·have hb:(g == k)=false:=beq_eq_false_iff_ne.mpr h;simp only [List.lookup,hb,if_neg (fun e:g=f=>h (e.trans hk.symm))]
  ·rw [if_neg hk]
   by_cases h:g=k
   ·have hb:(g == k)=true:=beq_iff_eq.mpr h;simp only [List.lookup,hb,if_neg (fun e:g=f=>hk (h.symm.trans e))]
   ·have hb:(g == k)=false:=beq_eq_false_iff_ne.mpr h;simp only [List.lookup,hb];exact ih
theorem fK (f:Str) (v:V):∀ fs:List (Str×V),f∈(cT f v fs).map (·.1)∧∀ g,g∈fs.map (·.1)→g∈(cT f v fs).map (·.1)
 | []=>⟨by simp [cT],fun g h=>by simp at h⟩
 | (k,x) :: r=>by
  obtain ⟨i1,i2⟩:=fK f v r;rw [show cT f v ((k,x) :: r)=(if k=f then (k,v) :: r else (k,x) :: cT f v r) from rfl]
  by_cases hk:k=f
  ·rw [if_pos hk];subst hk;exact ⟨by simp,fun g h=>by simpa using h⟩
  ·rw [if_neg hk];refine ⟨?_,fun g h=>?_⟩
   ·rw [List.map_cons];exact List.mem_cons_of_mem _ i1
   ·rw [List.map_cons] at h ⊢;rcases List.mem_cons.mp h with e | e
    ·exact List.mem_cons.mpr (.inl e)
    ·exact List.mem_cons_of_mem _ (i2 g e)
theorem gj (f:Str) (v:V):∀ fs:List (Str×V),(cT f v fs).length≤fs.length+1
 | []=>by simp [cT]
 | (k,x) :: r=>by
  have ih:=gj f v r;rw [show cT f v ((k,x) :: r)=(if k=f then (k,v) :: r else (k,x) :: cT f v r) from rfl]
  by_cases hk:k=f
  ·rw [if_pos hk,List.length_cons,List.length_cons];lia
  ·rw [if_neg hk,List.length_cons,List.length_cons];lia
theorem RelO.some_of {v:V} {o:Option Value} (r:RelO (some v) o):∃ u,o=some u∧RelV v u:=by
 cases o with
 | none=>exact (show False from r).elim
 | some u=>exact ⟨u,rfl,r⟩
theorem RelO.none_of {o:Option Value} (r:RelO none o):o=none:=by
 cases o with
 | none=>rfl
 | some u=>exact (show False from r).elim
theorem ow {v:V} {u:Value} (r:RelV v u):PySem.W.handedIn u=true:=by
 cases v with
 | non=>cases (show u=Value.none from r);rfl
 | bl b=>cases (show u=Value.bool b from r);rfl
 | int i=>obtain ⟨t,e⟩:=(show ∃ t,u=Value.int i t from r);cases e;rfl
 | str x=>obtain ⟨t,e⟩:=(show ∃ t,u=Value.str x t from r);cases e;rfl
 | byt b=>obtain ⟨t,e⟩:=(show ∃ t,u=Value.bytes b t from r);cases e;rfl
 | flt b=>obtain ⟨t,e⟩:=(show ∃ t,u=Value.float b t from r);cases e;rfl
 | ref a=>cases (show u=Value.ref a from r);rfl
 | ty n=>cases (show u=Value.type n from r);rfl
section
variable {P:Program} {w:World} {H H':Hp} {h h':Heap} {a C dx:Addr} {fs fs':List (Str×V)}
theorem jQ (hok:HOk P w H h) (e:H a=some (.ins C dx fs)):∃ mA,ObjM h a dx C mA∧(∀ f,RelO (fs.lookup f) (mA f))∧PySem.Within mA (fs.map (·.1))∧fs.length≤1000∧H dx=some (.own a):=by
 obtain ⟨d,z,ne,ob,mA,n,r,q⟩:=(show ObjOk P w H h a (.ins C dx fs) from hok a _ e);exact ⟨mA,⟨ob,n,ne⟩,r,q,z,d⟩
end
structure Cls (K:PySem.W.Frag) (C:Addr):Prop where
 pg:PySem.W.plainGet K C Str.empty=true
 hd:PySem.W.hasDictIn K C=true
 po:PySem.W.plainOver K C=true
 sa:PySem.W.findIn K (.ref C) "__setattr__" = some (some (.builtin "object.__setattr__"))
theorem Cls.get {K:PySem.W.Frag} {C:Addr} (c:Cls K C) (f:Str):PySem.W.plainGet K C f=true:=c.pg
def NoAttr (K:PySem.W.Frag) (C:Addr) (f:Str):Prop:=PySem.W.findIn K (.ref C) f=some none
theorem NoAttr.taker {K:PySem.W.Frag} {C:Addr} {f:Str} (n:NoAttr K C f):PySem.W.takerIn K C f=some none:=by
 unfold PySem.W.takerIn;rw [show PySem.W.findIn K (.ref C) f=some none from n]
 rfl
structure Meth (K:PySem.W.Frag) (C:Addr) (m:Str) (f:Addr):Prop where
 at_:PySem.W.findIn K (.ref C) m=some (some (.ref f))
 fn:PySem.W.isFn K (.ref f)=true
 kp:PySem.W.keepIn K (.ref f)=true
section
variable {X:Cx} {pins:List (Addr×Obj)} {σ:St} {H:Hp} {s:Shared} {a C dx:Addr} {fs:List (Str×V)} {f:Str} {v:V} {A:Around} {E:Value→Shared→Prop}
theorem gW {b:Bool} {Q:Value→Shared→Prop} (I:Inv X pins σ H s) (e:H a=some (.ins C dx fs)) (c:Cls X.K C) (n:NoAttr X.K C f) (l:fs.lookup f=some v)
  (h:∀ u s',Inv X pins σ H s'→RelV v u→Q u s'):wpAny (model X.prog X.w) A (getAttr (.ref a) f b) Q E s:=by
 obtain ⟨mA,O,r,_,_,_⟩:=jQ I.hok e;obtain ⟨u,hu,ru⟩:=RelO.some_of (v:=v) (o:=mA f) (by rw [← l];exact r f);exact rh I.kIn O (c.get f) c.hd n hu (ow ru) (h u _ (I.tok _) ru)
theorem mn {m:Str} {g:Addr} {pl:Sem Bool} {Q:Value×List Value→Shared→Prop} (I:Inv X pins σ H s) (e:H a=some (.ins C dx fs)) (c:Cls X.K C) (k:Meth X.K C m g) (l:fs.lookup m=none)
  (h:Q (.ref g,[.ref a]) s):wpAny (model X.prog X.w) A (getMethod (.ref a) m pl) Q E s:=by
 obtain ⟨mA,O,r,_,_,_⟩:=jQ I.hok e;have hn:mA m=none:=RelO.none_of (by rw [← l];exact r m);exact pJ I.kIn O (c.get m) k.at_ k.fn hn h
theorem gX {y:V} {u:Value} {Q:Unit→Shared→Prop} (I:Inv X pins σ H s) (e:H a=some (.ins C dx fs)) (c:Cls X.K C) (n:NoAttr X.K C f) (hl:fs.length < 1000) (ry:RelV y u)
  (h:∀ s',Inv X pins σ (upd H a (.ins C dx (cT f y fs))) s'→Q () s'):wpAny (model X.prog X.w) A (setAttr (.ref a) f u) Q E s:=by
 obtain ⟨mA,O,r,wi,_,ho⟩:=jQ I.hok e;have hz:(fs.map (·.1)).length≤sizeLine:=by rw [List.length_map,sizeLine_eq];lia
 refine rj I.kIn O c.sa c.po n.taker c.hd wi hz fun h' O' sb=>h _ ?_;have hd:∃ o,h'.get? dx=some o:=let ⟨o,_,_,e',_⟩:=O'.ns;⟨o,e'⟩;refine I.write (x:=a) (e:=dx) (by rw [e];exact True.intro) (.inr ho) (fun b q hb z=>(sb.2 b hb).trans z) hd ?_;refine ⟨by rw [af O.ne];exact ho,?_,O.ne,O'.obj,_,O'.ns,fun g=>?_,fun g hg=>?_⟩
 ·have:=gj f y fs;lia
 ·show RelO ((cT f y fs).lookup g) (if g=f then some u else mA g);rw [gi]
  by_cases q:g=f
  ·rw [if_pos q,if_pos q];exact ry
  ·rw [if_neg q,if_neg q];exact r g
 ·by_cases q:g=f
  ·rw [q];exact (fK f y fs).1
  ·refine (fK f y fs).2 g (wi g fun z=>hg ?_);show (if g=f then some u else mA g)=none;rw [if_neg q];exact z
theorem Inv.made (I:Inv X pins σ H s):Inv X pins σ (upd (upd H s.heap.objs.size (.own (s.heap.objs.size+1))) (s.heap.objs.size+1) (.ins C s.heap.objs.size []))
  { s with heap:=(s.heap.push PySem.W.emptyDict).push (PySem.W.instObj C s.heap.objs.size) }:=by
 have e1:(s.heap.push PySem.W.emptyDict).get? s.heap.objs.size=some PySem.W.emptyDict:=Heap.get?_push_size s.heap rfl;have e2:((s.heap.push PySem.W.emptyDict).push (PySem.W.instObj C s.heap.objs.size)).get? (s.heap.objs.size+1)=some (PySem.W.instObj C s.heap.objs.size):=by
  have:=Heap.get?_push_size (s.heap.push PySem.W.emptyDict) (o:=PySem.W.instObj C s.heap.objs.size) rfl
  rwa [Heap.size_push] at this
 have e3:(s.heap.push PySem.W.emptyDict).Ns s.heap.objs.size (fun _=>none):=⟨PySem.W.emptyDict,#[],_,e1,rfl,(fun e he=>absurd he (by simp)),fun _=>rfl⟩;have I1:=I.laid (a:=s.heap.objs.size) (o:=.own (s.heap.objs.size+1)) (h':=s.heap.push PySem.W.emptyDict) (t':=s.toks) (fun b u q=>Heap.get?_push_of_some _ q) (Nat.le_refl _) ⟨_,e1⟩;refine I1.laid (a:=s.heap.objs.size+1) (o:=.ins C s.heap.objs.size []) (t':=s.toks) (fun b u q=>Heap.get?_push_of_some _ q) (Nat.le_of_eq (Heap.size_push _ _)) ?_;have ne:s.heap.objs.size≠s.heap.objs.size+1:=Nat.ne_of_lt (Nat.lt_succ_self _);refine ⟨by rw [af ne,ac],Nat.zero_le _,ne,e2,fun _=>none,(Heap.Ns1.of_empty e3).at fun o q=>Heap.get?_push_of_some _ q,fun _=>True.intro,fun y hy=>absurd rfl hy⟩
theorem rk {prog:Program} {w:World} {env:Env} {e:Expr} {f:Str} {pos:Pos} {s:Shared} {Q:Value→Shared→Prop} (hb:attributeBase e f env (eval e env)=eval e env)
  (h:wpAny (model prog w) A (eval e env) (fun o s₁=>wpAny (model prog w) A (getAttr o f true) Q E s₁) E s):wpAny (model prog w) A (eval (.Attribute e f pos) env) Q E s :=
 Attribute_any_ h (by rw [arm_eval_Attribute,hb])
end
def DE (K:PySem.W.Frag) (ta:TE) (f:Str):TE:=fun σ H Q=>ta σ H fun x H1=>∃ a C dx fs v,x=.ref a∧H1 a=some (.ins C dx fs)∧Cls K C∧NoAttr K C f∧fs.lookup f=some v∧Q v H1
def DF (K:PySem.W.Frag) (ta tv:TE) (f:Str):TS:=fun D σ H=>tv σ H fun y H1=>ta σ H1 fun x H2=>∃ a C dx fs,x=.ref a∧H2 a=some (.ins C dx fs)∧Cls K C∧NoAttr K C f∧fs.length < 1000 ∧
 D.nx σ (upd H2 a (.ins C dx (cT f y fs)))
def DG (X:Cx) (op:Operator) (rd:V→V→Hp→VK→Prop):Prop :=
 ∀ (pins:List (Addr×Obj)) (s:Shared) (σ:St) (H:Hp) (x y:V) (u v:Value) (Q:VK),Inv X pins σ H s→RelV x u→RelV y v→rd x y H Q→wpAny (model X.prog X.w) X.A (inplaceOp op u v) (EP X pins σ Q) X.xe s
def rm (K:PySem.W.Frag) (ta tv:TE) (rd:V→V→Hp→VK→Prop) (f:Str):TS:=fun D σ H=>ta σ H fun x H1=>∃ a C dx fs v,x=.ref a∧H1 a=some (.ins C dx fs)∧Cls K C∧NoAttr K C f∧fs.lookup f=some v ∧
 tv σ H1 fun y H2=>rd v y H2 fun z H3=>∃ dx' fs',H3 a=some (.ins C dx' fs')∧fs'.length < 1000∧D.nx σ (upd H3 a (.ins C dx' (cT f z fs')))
section
variable {X:Cx} {o e value:Expr} {f:Str} {pos pos' tpos:Pos} {ta tv:TE}
theorem mo (he:PE X e ta) (hb:attributeBase e f X.env (eval e X.env)=eval e X.env):PE X (.Attribute e f pos) (DE X.K ta f):=by
 intro pins s σ H Q I h;refine rk hb (thn (he pins s σ H _ I h) fun u s1 ⟨x,H1,I1,rx,a,C,dx,fs,v,ex,ea,c,n,l,q⟩=>?_);subst ex;obtain rfl:u=Value.ref a:=rx;exact gW I1 ea c n l fun u' s2 I2 ru=>⟨v,H1,I2,ru,q⟩
theorem pL (ha:PE X o ta) (hv:PE X value tv) (hs:swapsWith value (some (.Attribute o f pos')) pos.line X.env=pure false):PS X (.Assign [.Attribute o f pos'] value pos) (DF X.K ta tv f):=by
 intro pins s σ H D I h;refine plainObj_wpAny_Assign_Attribute (thn (hv pins s σ H _ I h) fun u s1 ⟨y,H1,I1,ry,q⟩=>thn (ha pins s1 σ H1 _ I1 q) fun ov s2 ⟨x,H2,I2,rx,a,C,dx,fs,ex,ea,c,n,l,q2⟩=>?_) hs;subst ex;obtain rfl:ov=Value.ref a:=rx;exact gX I2 ea c n l ry fun s3 I3=>⟨σ,_,I3,q2⟩
theorem ps_fldaug {op:Operator} {rd:V→V→Hp→VK→Prop} (ha:PE X o ta) (hv:PE X value tv) (hop:DG X op rd):PS X (.AugAssign (.Attribute o f tpos) op value pos) (rm X.K ta tv rd f):=by
 intro pins s σ H D I h;refine wpAny_AugAssign_AttributeAny (thn (ha pins s σ H _ I h) fun ov s1 ⟨x,H1,I1,rx,a,C,dx,fs,v,ex,ea,c,n,l,q⟩=>?_);subst ex;obtain rfl:ov=Value.ref a:=rx;refine gW I1 ea c n l fun u s2 I2 ru=>thn (hv pins s2 σ H1 _ I2 q) fun w3 s3 ⟨y,H2,I3,ry,q3⟩=>thn (hop pins s3 σ H2 v y u w3 _ I3 ru ry q3) fun w4 s4 ⟨z,H3,I4,rz,dx',fs',ea',l',q4⟩=>?_;exact gX I4 ea' c n l' rz fun s5 I5=>⟨σ,_,I5,q4⟩
end
section
variable {X:Cx} {pins:List (Addr×Obj)} {σ:St} {H:Hp} {s:Shared} {A:Around} {E:Value→Shared→Prop} {Q:Value→Shared→Prop} {c:Value} {b:Bool}
end
structure Room (k:Nat) (A:Around):Prop where
 hd:A.handled=none
 dp:A.depth+3*k+5 < recursionLimit
 un:A.units+16*k+200 < cLine
theorem Room.mono {j k:Nat} {A:Around} (r:Room k A) (h:j≤k):Room j A:=⟨r.hd,by have:=r.dp;lia,by have:=r.un;lia⟩
theorem Room.deeper {k:Nat} {A:Around} (r:Room (k+1) A) (env:Env):Room k (A.deeper env) :=
 ⟨r.hd,by have:=r.dp;show A.depth+1+3*k+5 < _;lia,by have:=r.un;show A.units+3+16*k+200 < _;lia⟩
theorem mq {A:Around} {C:Addr} {us:List Value} {kw:List (Str×Value)}:(A.under (.builtin "type.__call__" ⟨.ref C :: us,kw⟩)).depth=A.depth+1:=by
 first | rfl | simp [Around.under,Code.weight,Code.isCreation,Code.isGuard,Code.isCaller,Code.frames,Code.isFrame,guardIds]
theorem mr {A:Around} {C:Addr} {us:List Value} {kw:List (Str×Value)}:(A.under (.builtin "type.__call__" ⟨.ref C :: us,kw⟩)).units=A.units+1:=by
 first | rfl | simp [Around.under,Code.cUnits,Code.frames,Code.isFrame]
theorem Room.make {k:Nat} {A:Around} (r:Room (k+1) A) (C:Addr) (us:List Value) (kw:List (Str×Value)):Room k (A.under (.builtin "type.__call__" ⟨.ref C :: us,kw⟩)) :=
 ⟨r.hd,by have:=r.dp;rw [mq];lia,by have:=r.un;rw [mr];lia⟩
theorem Room.depth {k:Nat} {A:Around} (r:Room k A):A.depth < recursionLimit:=by have:=r.dp;lia
theorem Room.units {k:Nat} {A:Around} (r:Room k A):A.units+64 < cLine:=by have:=r.un;lia
def pM:TA:=fun _ H Q=>Q [] H
def gY (ta:TE) (tr:TA):TA:=fun σ H Q=>ta σ H fun x H1=>tr σ H1 fun xs H2=>Q (x :: xs) H2
section
variable {X:Cx} {e:Expr} {es:List Expr} {te:TE} {t:TA} {pos:Pos}
theorem fM:PA X [] pM:=fun _ _ _ _ H Q I h=>Calls.spliced_nil ⟨[],H,I,.nil,h⟩
theorem cw (ha:PE X e te) (hr:PA X es t) (hs:starEach (e :: es) X.env=(false,eval e X.env) :: starEach es X.env:=by rfl):PA X (e :: es) (gY te t):=by
 intro pos pins s σ H Q I h;rw [hs];show wpAny _ _ (spliced ((false,eval e X.env) :: backTo pos (starEach es X.env))) _ _ s;refine Calls.spliced_cons (thn (ha pins s σ H _ I h) fun u s1 ⟨x,H1,I1,r1,q1⟩=>?_);exact thn (hr pos pins s1 σ H1 _ I1 q1) fun us s2 ⟨xs,H2,I2,r2,q2⟩=>⟨x :: xs,H2,I2,.cons r1 r2,q2⟩
def DH (t:TA):TE:=fun σ H Q=>t σ H fun xs H1=>xs.length≤sizeLine∧∀ p,H1 p=none→Q (.ref p) (upd H1 p (.lst xs))
theorem bA (h:PA X es t):PE X (.List es pos) (DH t):=by
 intro pins s σ H Q I hq;refine wpAny_List_spliced (thn (h pos pins s σ H _ I hq) fun us s1 ⟨xs,H1,I1,r,z,q⟩=>⟨by rw [← r.length];exact z,?_⟩);have hf:H1 s1.heap.objs.size=none:=I1.hok.fresh (Nat.le_refl _);refine ⟨.ref s1.heap.objs.size,upd H1 s1.heap.objs.size (.lst xs),I1.laid (t':=s1.toks) (fun b u e=>Heap.get?_push_of_some _ e) (Nat.le_refl _) ?_,rfl,q _ hf⟩;exact ⟨z,us,0,r,Heap.get?_push_size _ rfl⟩
end
abbrev Sp:=List V→Hp→VK→XK→Prop
abbrev CXT:=List Env→Hp→Shared→XK→Value→Shared→Prop
structure Env0 (P:Program) (w:World) (K:PySem.W.Frag) (mg:Str→Option Value) (base:Heap) (A:Around) (outer:List Env) (s:Shared) (H:Hp):Prop where
 frames:A.frames=some outer
 mod:Mod K mg base
 bs:∀ b o,base.get? b=some o→s.heap.get? b=some o∧H b=none
 bsz:base.objs.size≤s.heap.objs.size
 funs:s.heap.FunFrames base outer
 frf:∀ b∈frs outer,H b=none
 hok:HOk P w H s.heap
 bare:AllBare s.gens
def CE (outer:List Env) (P:Program) (w:World) (H:Hp) (s:Shared) (Q:VK) (u:Value) (s':Shared):Prop :=
 ∃ v H',s'.os=s.os∧AllBare s'.gens∧Un (frs outer) [] H H' s.heap s'.heap∧HOk P w H' s'.heap∧RelV v u∧Q v H'
def CR (CX:CXT) (outer:List Env) (P:Program) (w:World) (H:Hp) (s:Shared) (Q:VK) (E:XK) (r:Result) (s':Shared):Prop :=
 match r with
 | .ok (.ret u)=>CE outer P w H s Q u s'
 | .ok _=>False
 | .error e=>CX outer H s E e s'
structure FnOk (P:Program) (w:World) (K:PySem.W.Frag) (mg:Str→Option Value) (base:Heap) (CX:CXT) (k:Nat) (f:Addr) (fd:FuncData) (ps:List Str) (sp:Sp):Prop where
 len:∀ vs H Q E,sp vs H Q E→vs.length=ps.length
 run:∀ (A:Around) (outer:List Env) (s:Shared) (H:Hp) (args:Args) (us:List Value) (vs:List V) (Q:VK) (E:XK),Room k A→Env0 P w K mg base A outer s H→BindsTo s fd args (ps.zip us)→Vals vs us→sp vs H Q E →
  codeAny (model P w) A (.call (.ref f) args) (CR CX outer P w H s Q E) s
theorem FnOk.imp {P:Program} {w:World} {K:PySem.W.Frag} {mg:Str→Option Value} {base:Heap} {CX:CXT} {k:Nat} {f:Addr} {fd:FuncData} {ps:List Str} {sp sp':Sp} (F:FnOk P w K mg base CX k f fd ps sp)
  (h:∀ vs H Q E,sp' vs H Q E→sp vs H Q E):FnOk P w K mg base CX k f fd ps sp' :=
 ⟨fun vs H Q E q=>F.len vs H Q E (h _ _ _ _ q),fun A outer s H args us vs Q E hr he hb hv hs=>F.run A outer s H args us vs Q E hr he hb hv (h _ _ _ _ hs)⟩
theorem Env0.make {P:Program} {w:World} {K:PySem.W.Frag} {mg:Str→Option Value} {base:Heap} {A:Around} {outer:List Env} {s:Shared} {H:Hp} (e:Env0 P w K mg base A outer s H) (C:Addr) (us:List Value) (kw:List (Str×Value)) :
  Env0 P w K mg base (A.under (.builtin "type.__call__" ⟨.ref C :: us,kw⟩)) outer s H:=⟨by first | exact e.frames | (simpa [Around.under,Code.envs,Code.isFrame,pushEnvs] using e.frames),e.mod,e.bs,e.bsz,e.funs,e.frf,e.hok,e.bare⟩
section
variable {X:Cx} {pins:List (Addr×Obj)} {σ:St} {H:Hp} {s s':Shared}
theorem Inv.env0 (I:Inv X pins σ H s):Env0 X.prog X.w X.K X.mg X.base X.A X.stack s H :=
 ⟨I.ok.frames,I.ok.mod,I.bs,Nat.le_trans I.ok.bsz I.sz,I.stack,I.stkFree,I.hok,I.bare⟩
theorem Inv.after {Q:VK} {u:Value} (I:Inv X pins σ H s) (h:CE X.stack X.prog X.w H s Q u s'):EP X pins σ Q u s':=by
 obtain ⟨v,H',os,bare,un,hok,r,q⟩:=h;obtain ⟨hh,g,d,t,os'⟩:=s';obtain rfl:os'=s.os:=os;exact ⟨v,H',I.call (h':=hh) (g':=g) (d':=d) (t':=t) (ch:=[]) un hok bare (fun b z=>absurd z (by simp)),r,q⟩
end
def sI (sp:Sp) (dvs:List V) (E:XK) (t:TA):TE:=fun σ H Q=>t σ H fun vs H1=>sp (vs++dvs) H1 Q E
def CO (C:Addr) (m:Str) (sp:Sp) (dvs:List V) (E:XK) (ta:TE) (t:TA):TE:=fun σ H Q=>ta σ H fun x H1=>∃ a dx fs,x=.ref a∧H1 a=some (.ins C dx fs)∧fs.lookup m=none ∧
 t σ H1 fun vs H2=>sp (x :: (vs++dvs)) H2 Q E
def CP (C:Addr) (sp:Sp) (dvs:List V) (E:XK) (t:TA):TE:=fun σ H Q=>t σ H fun vs H1=>∀ x dx,H1 x=none→H1 dx=none→dx≠x →
 sp (.ref x :: (vs++dvs)) (upd (upd H1 dx (.own x)) x (.ins C dx [])) (fun v H2=>v=.non∧Q (.ref x) H2) E
def Binds (K:PySem.W.Frag) (fd:FuncData) (ps:List Str) (ds:List Value):Prop :=
 ∀ (s:Shared) (us:List Value),K.In s.heap→(us++ds).length=ps.length→BindsTo s fd ⟨us,[]⟩ (ps.zip (us++ds))
theorem Binds.all {K:PySem.W.Frag} {fd:FuncData} {ps:List Str} (h:∀ us:List Value,us.length=ps.length→bindArgs fd ⟨us,[]⟩=pure (ps.zip us)):Binds K fd ps []:=fun s us _ hl=>by
 rw [List.append_nil] at hl ⊢;exact .of_eq (h us hl)
def eH (CX:CXT) (X:Cx) (E:XK):Prop:=∀ (pins:List (Addr×Obj)) (σ:St) (H:Hp) (s:Shared) (e:Value) (s':Shared),Inv X pins σ H s→CX X.stack H s E e s'→X.xe e s'
section
variable {X:Cx} {CX:CXT} {k:Nat} {f C:Addr} {fd:FuncData} {ps:List Str} {sp:Sp} {dvs:List V} {ds:List Value} {E:XK} {x m:Str} {p pos apos:Pos} {e o:Expr} {es:List Expr} {ta:TE} {t:TA}
theorem pN {pins:List (Addr×Obj)} {σ:St} {H:Hp} {s:Shared} {Q:VK} {us:List Value} {vs:List V} (F:FnOk X.prog X.w X.K X.mg X.base CX k f fd ps sp) (hr:Room k X.A) (hb:Binds X.K fd ps ds) (hd:Vals dvs ds) (hx:eH CX X E)
  (I:Inv X pins σ H s) (r:Vals vs us) (h:sp (vs++dvs) H Q E):wpAny (model X.prog X.w) X.A (call (.ref f) us) (EP X pins σ Q) X.xe s:=by
 have r2:Vals (vs++dvs) (us++ds):=r.append hd;have hl:(us++ds).length=ps.length:=by rw [← r2.length];exact F.len _ _ _ _ h
 refine wpAny_call (codeAny_mono (F.run X.A X.stack s H ⟨us,[]⟩ (us++ds) (vs++dvs) Q E hr I.env0 (hb s us I.kIn hl) r2 h) fun r s' hq=>?_)
 cases r with
 | error e=>exact hx pins σ H s e s' I hq
 | ok fl =>
  cases fl with
  | ret u=>exact I.after hq
  | next=>exact False.elim hq
  | brk=>exact False.elim hq
  | cont=>exact False.elim hq
theorem pe_call (F:FnOk X.prog X.w X.K X.mg X.base CX k f fd ps sp) (hr:Room k X.A) (hg:Gl X x) (hm:X.mg x=some (.ref f)) (hk:PySem.W.keepIn X.K (.ref f)=true) (hb:Binds X.K fd ps ds) (hd:Vals dvs ds) (hx:eH CX X E)
  (ha:PA X (e :: es) t) (hdb:(x == ("__debug__" : Str))=false:=by decide) (he:starEach (e :: es) X.env=(false,eval e X.env) :: starEach es X.env:=by rfl) (hpl:(backTo pos (starEach es X.env)).any (·.1)=false:=by rfl) :
  PE X (.Call (.Name x p) (e :: es) [] pos) (sI sp dvs E t):=by
 intro pins s σ H Q I h;refine wpAny_Call_Name_kw (cv I hg hm ?_ hdb);refine PySem.W.callWith_K (h₀:=X.base) I.ok.mod.kin hk (thn (ha pos pins s σ H _ I h) fun us s1 ⟨vs,H1,I1,r,q⟩=>⟨I1.kIn,?_⟩) he hpl;exact pN F hr hb hd hx I1 r q
theorem pe_meth {pl:Sem Bool} (he:PE X o ta) (c:Cls X.K C) (hm:Meth X.K C m f) (F:FnOk X.prog X.w X.K X.mg X.base CX k f fd ps sp) (hr:Room k X.A) (hb:Binds X.K fd ps ds) (hd:Vals dvs ds) (hx:eH CX X E) (ha:PA X (e :: es) t)
  (hst:starEach (e :: es) X.env=(false,eval e X.env) :: starEach es X.env:=by rfl) (hpl:(backTo pos (starEach es X.env)).any (·.1)=false:=by rfl)
  (ht:eval (.Call (.Attribute o m apos) (e :: es) [] pos) X.env=(do
   let ov ← eval o X.env
   standAt apos.atName
   let (f,first) ← holding [ov] (getMethod ov m pl)
   callWith pos f first (backTo pos (starEach (e :: es) X.env)) (backToKw pos (keywordEach [] X.env))):=by rfl) :
  PE X (.Call (.Attribute o m apos) (e :: es) [] pos) (CO C m sp dvs E ta t):=by
 intro pins s σ H Q I h;refine PySem.W.methodCall_KW (pl:=pl) (thn (he pins s σ H _ I h) fun u s1 ⟨x,H1,I1,rx,a,dx,fs,ex,ea,l,q⟩=>?_) ht;subst ex;obtain rfl:u=Value.ref a:=rx;refine mn I1 ea c hm l ?_;refine PySem.W.callWith_K (first:=[.ref a]) (h₀:=X.base) I.ok.mod.kin hm.kp (thn (ha pos pins s1 σ H1 _ I1 q) fun us s2 ⟨vs,H2,I2,r,q2⟩=>⟨I2.kIn,?_⟩) hst hpl;exact pN (us:=.ref a :: us) (vs:=.ref a :: vs) F hr hb hd hx I2 (.cons rfl r) q2
structure Mk (K:PySem.W.Frag) (C f:Addr):Prop where
 makes:PySem.W.makesIn K C=true
 init:PySem.W.findIn K (.ref C) "__init__" = some (some (.ref f))
 fn:PySem.W.isFn K (.ref f)=true
 kp:PySem.W.keepIn K (.ref C)=true
theorem pO {pins:List (Addr×Obj)} {σ:St} {H:Hp} {s:Shared} {Q:VK} {us:List Value} {vs:List V} (M:Mk X.K C f) (F:FnOk X.prog X.w X.K X.mg X.base CX k f fd ps sp) (hr:Room (k+1) X.A) (hb:Binds X.K fd ps ds) (hd:Vals dvs ds)
  (hx:eH CX X E) (I:Inv X pins σ H s) (r:Vals vs us)
  (h:∀ x dx,H x=none→H dx=none→dx≠x→sp (.ref x :: (vs++dvs)) (upd (upd H dx (.own x)) x (.ins C dx [])) (fun v H2=>v=.non∧Q (.ref x) H2) E) :
  wpAny (model X.prog X.w) X.A (call (.ref C) us) (EP X pins σ Q) X.xe s:=by
 have hq:=h (s.heap.objs.size+1) s.heap.objs.size (I.hok.fresh (Nat.le_succ _)) (I.hok.fresh (Nat.le_refl _)) (Nat.ne_of_lt (Nat.lt_succ_self _));have I2:=Inv.made (C:=C) I;have r2:Vals (V.ref (s.heap.objs.size+1) :: (vs++dvs)) (Value.ref (s.heap.objs.size+1) :: (us++ds)):=.cons rfl (r.append hd);have hl:(Value.ref (s.heap.objs.size+1) :: us++ds).length=ps.length:=by
  have e:=r2.length;rw [F.len _ _ _ _ hq] at e;exact e.symm
 refine wpAny_call (pK (f:=f) I.kIn M.makes M.init (beq_iff_eq.mp M.fn) (codeAny_mono (F.run _ X.stack _ _ ⟨Value.ref (s.heap.objs.size+1) :: us,[]⟩ (Value.ref (s.heap.objs.size+1) :: (us++ds)) _ _ E (hr.make C us [])
  (I2.env0.make C us []) (hb _ (Value.ref (s.heap.objs.size+1) :: us) I2.kIn hl) r2 hq) fun r s' hq'=>?_))
 cases r with
 | error e=>exact hx pins σ _ _ e s' I2 hq'
 | ok fl =>
  cases fl with
  | ret u =>
   obtain ⟨v,H',I3,rv,ev,q3⟩:=I2.after hq';subst ev;exact ⟨rv,⟨V.ref (s.heap.objs.size+1),H',I3,rfl,q3⟩⟩
  | next=>exact False.elim hq'
  | brk=>exact False.elim hq'
  | cont=>exact False.elim hq'
theorem rn (M:Mk X.K C f) (F:FnOk X.prog X.w X.K X.mg X.base CX k f fd ps sp) (hr:Room (k+1) X.A) (hg:Gl X x) (hm:X.mg x=some (.ref C)) (hb:Binds X.K fd ps ds) (hd:Vals dvs ds) (hx:eH CX X E)
  (ha:PA X (e :: es) t) (hdb:(x == ("__debug__" : Str))=false:=by decide) (he:starEach (e :: es) X.env=(false,eval e X.env) :: starEach es X.env:=by rfl) (hpl:(backTo pos (starEach es X.env)).any (·.1)=false:=by rfl) :
  PE X (.Call (.Name x p) (e :: es) [] pos) (CP C sp dvs E t):=by
 intro pins s σ H Q I h;refine wpAny_Call_Name_kw (cv I hg hm ?_ hdb);refine PySem.W.callWith_K (h₀:=X.base) I.ok.mod.kin M.kp (thn (ha pos pins s σ H _ I h) fun us s1 ⟨vs,H1,I1,r,q⟩=>⟨I1.kIn,?_⟩) he hpl;exact pO M F hr hb hd hx I1 r q
end
section
variable {X:Cx} {CX:CXT} {k:Nat} {f C:Addr} {fd:FuncData} {ps ks:List Str} {sp:Sp} {E:XK} {x m:Str} {p pos apos kpos:Pos} {e o:Expr} {es:List Expr} {kws:List Keyword} {te ta:TE} {t tk:TA} {nm:Option Str}
variable {g:List Value→List Value→List Value} {gV:List V→List V→List V}
end
structure FnScope (N P:List Str) (sc:Scope):Prop where
 kind:sc.kind=.function
 co:sc.isCoroutine=false
 gen:sc.isGenerator=false
 nd:N.Nodup
 pre:N.take P.length=P
 par:∀ x∈P,sc.names.lookup x=some .local∨sc.names.lookup x=some .cell
 nofree:∀ y∈sc.names,y.2≠.free
theorem jq {kindOf:Str→Option NameKind} {x:Str}:∀ {binds:List (Str×Value)} {m:Str→Option Value},(∀ v,(x,v)∉binds)→bindL kindOf binds m x=m x
 | [],_,_=>rfl
 | (n,v) :: r,m,h=>by
  unfold bindL;rw [jq fun w hw=>h w (List.mem_cons_of_mem _ hw)]
  split
  ·have:x≠n:=by rintro rfl;exact h v List.mem_cons_self
   simp [this]
  ·rfl
theorem jr {kindOf:Str→Option NameKind} {x:Str}:∀ {binds:List (Str×Value)} {m:Str→Option Value},(∀ v,(x,v)∉binds)→bindC kindOf binds m x=m x
 | [],_,_=>rfl
 | (n,v) :: r,m,h=>by
  unfold bindC;rw [jr fun w hw=>h w (List.mem_cons_of_mem _ hw)]
  split
  ·rfl
  ·have:x≠n:=by rintro rfl;exact h v List.mem_cons_self
   simp [this]
theorem jt {kindOf:Str→Option NameKind} {x:Str} {v:Value}:∀ {P:List Str} {vs:List Value} {i:Nat} {m:Str→Option Value},P.Nodup→P[i]?=some x→vs[i]?=some v→kindOf x=some .local →
  bindL kindOf (P.zip vs) m x=some v
 | [],_,_,_,_,h,_,_=>by simp at h
 | _ :: _,[],_,_,_,_,h,_=>by simp at h
 | p :: P,w :: vs,0,m,nd,h1,h2,hk=>by
  simp at h1 h2;subst h1;subst h2;show bindL kindOf ((p,w) :: P.zip vs) m p=_;unfold bindL;rw [jq fun v hv=>(List.nodup_cons.mp nd).1 (List.of_mem_zip hv).1,if_pos hk];simp
 | p :: P,w :: vs,i+1,m,nd,h1,h2,hk=>by
  show bindL kindOf ((p,w) :: P.zip vs) m x=_;unfold bindL;exact jt (i:=i) (List.nodup_cons.mp nd).2 (by simpa using h1) (by simpa using h2) hk
theorem ju {kindOf:Str→Option NameKind} {x:Str} {v:Value}:∀ {P:List Str} {vs:List Value} {i:Nat} {m:Str→Option Value},P.Nodup→P[i]?=some x→vs[i]?=some v→kindOf x≠some .local →
  bindC kindOf (P.zip vs) m x=some v
 | [],_,_,_,_,h,_,_=>by simp at h
 | _ :: _,[],_,_,_,_,h,_=>by simp at h
 | p :: P,w :: vs,0,m,nd,h1,h2,hk=>by
  simp at h1 h2;subst h1;subst h2;show bindC kindOf ((p,w) :: P.zip vs) m p=_;unfold bindC;rw [jr fun v hv=>(List.nodup_cons.mp nd).1 (List.of_mem_zip hv).1,if_neg hk];simp
 | p :: P,w :: vs,i+1,m,nd,h1,h2,hk=>by
  show bindC kindOf ((p,w) :: P.zip vs) m x=_;unfold bindC;exact ju (i:=i) (List.nodup_cons.mp nd).2 (by simpa using h1) (by simpa using h2) hk
def eY (N:List Str) (vs:List V):St:=vs.map some++List.replicate (N.length - vs.length) none
def kW (CX:CXT) (P:Program) (w:World) (K:PySem.W.Frag) (mg:Str→Option Value) (base:Heap) (N:List Str) (qual:Str) (scope:Scope) (f:Addr) (cd:Value) (A:Around) (outer:List Env) (s:Shared) (H:Hp) (E:XK):Cx where
 prog:=P
 w:=w
 K:=K
 mg:=mg
 base:=base
 A:=A.deeper (envOfC qual scope s.heap.objs.size f cd)
 N:=N
 s₀:=s
 H₀:=H
 env:=envOfC qual scope s.heap.objs.size f cd
 outer:=outer
 stack:=envOfC qual scope s.heap.objs.size f cd :: outer
 ex:=[]
 calm:=true
 fn:=fun _=>true
 pn:=[]
 xe:=fun e s'=>wpAny (model P w) (A.deeper (envOfC qual scope s.heap.objs.size f cd)) (leaving (envOfC qual scope s.heap.objs.size f cd) e) (fun _ s''=>CX outer H s E e s'') (fun e' s''=>CX outer H s E e' s'') s'
theorem kX {sc:Scope} {n:Nat} {x:Str} (h:sc.names.lookup x=some .cell):∃ c,(cellsFrom n sc.names []).lookup x=some c:=by
 have q:=PySem.W.cellsFrom_some sc.names n [] (.inl h);exact Option.isSome_iff_exists.mp q
theorem ox {CX:CXT} {P:Program} {w:World} {K:PySem.W.Frag} {mg:Str→Option Value} {base:Heap} {N ps:List Str} {qual:Str} {scope:Scope} {f:Addr} {cd:Value} {A:Around} {outer:List Env} {s s1:Shared} {H:Hp} {E:XK} {us:List Value} {vs:List V}
  (S:FnScope N ps scope) (hd:A.handled=none) (e0:Env0 P w K mg base A outer s H) (hl:vs.length=ps.length) (r:Vals vs us)
  (x:InCallC s s.heap.objs.size (bindL (envOfC qual scope s.heap.objs.size f cd).kindOf (ps.zip us) fun _=>none) (cellsFrom (s.heap.objs.size+1) scope.names []) (bindC (envOfC qual scope s.heap.objs.size f cd).kindOf (ps.zip us) fun _=>none) s1) :
  Inv (kW CX P w K mg base N qual scope f cd A outer s H E) [] (eY N vs) H s1:=by
 have hpl:ps.length≤N.length:=by have:=congrArg List.length S.pre;rw [List.length_take] at this;lia
 obtain ⟨h1,tk,rfl,hk⟩:=x.done;have noA:∀ b:Addr,b∉(kW CX P w K mg base N qual scope f cd A outer s H E).ex:=fun b z=>absurd (show b∈([]:List Addr) from z) (by simp);refine ⟨⟨e0.mod,S.kind,rfl,rfl,Nat.le_refl _,fun y z c h1 h2=>?_,fun y hy=>?_,fun y c _ h=>?_,fun _=>hd,Around.frames_deeper e0.frames,.inr ⟨rfl,rfl⟩,fun b z=>absurd z (noA b),e0.bs,e0.bsz,fun b _ _=>noA b,fun b z=>absurd z (noA b),e0.funs,e0.frf⟩,
  rfl,e0.bare,Un.kept hk,⟨_,x.toInCall.ns,fun i y v h1 h2 h3=>?_⟩,fun y c h=>⟨_,x.cell y c h⟩,e0.hok.fresh (Nat.le_refl _),fun y c h=>?_,fun p hp=>absurd (show p∈([]:List (Addr×Obj)) from hp) (by simp),e0.hok.kept hk,?_⟩
 ·exact name_of_addr x.apart (PySem.mem_of_lookup h1) (PySem.mem_of_lookup h2)
 ·have hy:scope.names.lookup y=some .cell∨scope.names.lookup y=some .free:=hy;rcases hy with hy | hy
  ·exact kX hy
  ·exact absurd rfl (S.nofree _ (PySem.mem_of_lookup hy))
 ·exact Nat.le_of_lt (x.above y c (PySem.mem_of_lookup h))
 ·have hi:i < vs.length:=by
   unfold eY at h2
   by_cases hi:i < vs.length
   ·exact hi
   ·rw [List.getElem?_append_right (by simpa using hi)] at h2;rw [List.getElem?_replicate] at h2
    split at h2 <;> cases h2
  have ha:vs[i]?=some v:=by
   unfold eY at h2;rw [List.getElem?_append_left (by simpa using hi),List.getElem?_map] at h2
   cases e:vs[i]? with
   | none=>rw [e] at h2;cases h2
   | some a=>rw [e] at h2;cases h2;rfl
  obtain ⟨u,hu,rv⟩:=r.get ha;have hp:ps[i]?=some y:=by
   rw [← S.pre,List.getElem?_take_of_lt (by lia)];exact h1
  have ndP:ps.Nodup:=by rw [← S.pre];exact S.nd.sublist (List.take_sublist _ _)
  refine ⟨u,rv,?_⟩;rcases S.par y (List.mem_of_getElem? hp) with k | k
  ·exact .inl ⟨k,jt ndP hp hu k⟩
  ·obtain ⟨c,e⟩:=kX (n:=s.heap.objs.size+1) k;refine .inr ⟨.inl k,c,e,?_⟩;have q:=x.cell y c e;rw [ju ndP hp hu (by show scope.names.lookup y≠_;rw [k];decide)] at q;exact q
 ·exact e0.hok.fresh (Nat.le_of_lt (x.above y c (PySem.mem_of_lookup h)))
 ·unfold eY;show _=N.length;rw [List.length_append,List.length_map,List.length_replicate];lia
theorem sJ {CX:CXT} {P:Program} {w:World} {K:PySem.W.Frag} {mg:Str→Option Value} {base:Heap} {k:Nat} {f:Addr} {name qual:Str} {params:Arguments} {body:List Stmt} {scope:Scope} {dV kV doc pm cdv ct oc:Value} {an od:Option Addr}
  {osl:Array (Option Value)} {N ps:List Str} {sp:Sp} (lk:K.lookup f=some ⟨oc,od,.func (PySem.W.fnOf name qual params body scope dV kV doc pm an cdv ct),osl⟩) (hcd:PySem.W.codeIn K cdv qual=true) (S:FnScope N ps scope)
  (len:∀ vs H Q E,sp vs H Q E→vs.length=ps.length)
  (hbody:∀ (A:Around) (outer:List Env) (s:Shared) (H:Hp) (vs:List V) (Q:VK) (E:XK),Room k (A.deeper (envOfC qual scope s.heap.objs.size f cdv))→sp vs H Q E →
   ∃ t,PSs (kW CX P w K mg base N qual scope f cdv A outer s H E) body t∧t { nx:=fun _ H'=>Q .non H',rt:=Q } (eY N vs) H) :
  FnOk P w K mg base CX (k+1) f (PySem.W.fnOf name qual params body scope dV kV doc pm an cdv ct) ps sp:=by
 refine ⟨len,fun A outer s H args us vs Q E hr e0 hb r hsp=>?_⟩;have hl:=len _ _ _ _ hsp;have KX:K.In s.heap:=e0.mod.kin.keeps fun b o e=>(e0.bs b o e).1;have lim:s.heap.NoLimit:=e0.mod.nolimit.keeps fun b o e=>(e0.bs b o e).1;have hkind:∀ y∈ps.zip us,scope.names.lookup y.1=some .local∨(scope.names.lookup y.1=some .cell∧((cellsFrom (s.heap.objs.size+1) scope.names []).lookup y.1).isSome=true):=fun ⟨n,v⟩ hy=>by
  rcases S.par n (List.of_mem_zip hy).1 with q | q
  ·exact .inl q
  ·exact .inr ⟨q,PySem.W.cellsFrom_some _ _ _ (.inl q)⟩
 refine codeAny_call_function hr.depth (KX _ _ lk) rfl S.co S.gen rfl (PySem.W.codeRec_of KX hcd) (hb _ _ _ _ ?_);refine wpAny_newFunctionEnv_cells S.kind hkind fun env he s1 x=>?_;subst he;refine ⟨lim.keeps x.toInCall.keep,codeAny_func ?_⟩;obtain ⟨t,ht,hq⟩:=hbody A outer s H vs Q E (hr.deeper _) hsp;have I:Inv (kW CX P w K mg base N qual scope f cdv A outer s H E) [] (eY N vs) H s1:=ox S hr.hd e0 hl r x;refine wpAny_mono (ht [] s1 (eY N vs) H _ I hq) (fun fl s' hs=>?_) fun e s' hs=>hs;have fin:∀ {σ':St} {H':Hp} {v:V} {u:Value},Inv (kW CX P w K mg base N qual scope f cdv A outer s H E) [] σ' H' s'→RelV v u→Q v H'→CE outer P w H s Q u s' :=
  fun {σ' H' v u} J rv q=>⟨v,H',J.os,J.bare,J.base,J.hok,rv,q⟩
 cases fl with
 | ret u =>
  obtain ⟨v,σ',H',J,rv,q⟩:=hs;exact fin J rv q
 | next =>
  obtain ⟨σ',H',J,q⟩:=hs;exact fin (v:=V.non) (u:=Value.none) J rfl q
 | brk =>
  obtain ⟨_,_,_,q⟩:=hs;exact False.elim q
 | cont =>
  obtain ⟨_,_,_,q⟩:=hs;exact False.elim q
section
variable {X:Cx} {x:Str} {p pos:Pos} {e:Expr} {es:List Expr} {t:TA} {id T:String} {r:List V→Hp→VK→Prop}
def tCB (r:List V→Hp→VK→Prop) (t:TA):TE:=fun σ H Q=>t σ H fun vs H1=>r vs H1 Q
theorem pe_callB (hc:bh X (.builtin id) r) (hg:Gl X x) (hm:X.mg x=none) (hv:bootBuiltins x=some (.builtin id)) (ha:PA X (e :: es) t) (hn:x≠ "__name__" :=by decide) (hdb:(x == ("__debug__" : Str))=false:=by decide)
  (he:starEach (e :: es) X.env=(false,eval e X.env) :: starEach es X.env:=by rfl) (hpl:(backTo pos (starEach es X.env)).any (·.1)=false:=by rfl):PE X (.Call (.Name x p) (e :: es) [] pos) (tCB r t):=by
 intro pins s σ H Q I h;refine wpAny_Call_Name_kw (gS I hg hm hv ?_ hn hdb);exact PyProof.Rows.callWith_builtin1 (thn (ha pos pins s σ H _ I h) fun us s1 ⟨vs,H1,I1,r1,q1⟩=>hc pins s1 σ H1 vs us Q I1 r1 q1) he hpl
theorem pe_callTy (hc:bh X (.type T) r) (hg:Gl X x) (hm:X.mg x=none) (hv:bootBuiltins x=some (.type T)) (ha:PA X (e :: es) t) (hn:x≠ "__name__" :=by decide) (hdb:(x == ("__debug__" : Str))=false:=by decide)
  (he:starEach (e :: es) X.env=(false,eval e X.env) :: starEach es X.env:=by rfl) (hpl:(backTo pos (starEach es X.env)).any (·.1)=false:=by rfl):PE X (.Call (.Name x p) (e :: es) [] pos) (tCB r t):=by
 intro pins s σ H Q I h;refine wpAny_Call_Name_kw (gS I hg hm hv ?_ hn hdb);exact PyProof.Rows.callWith_type1 (thn (ha pos pins s σ H _ I h) fun us s1 ⟨vs,H1,I1,r1,q1⟩=>hc pins s1 σ H1 vs us Q I1 r1 q1) he hpl
end
end L2
namespace HT
open PySem PyProof.Rows
section
open PySem.SeqAt
open PySem.AutoSeq1 (wpAny_loadPart')
open PySem.MeetsSeq PySem.MeetsSeq2 PySem.MeetsSeq3
end
section
variable {prog:Program} {w:World} {A:Around} {E:Value→Shared→Prop} {s:Shared}
def sIx (n d:Nat):Option Int→Nat
 | none=>d
 | some v=>if v < 0 then (v+(n:Int)).toNat else min v.toNat n
theorem wW (n d:Nat) (hd:d≤n) (o:Option Int):sIx n d o≤n:=by
 cases o with
 | none=>exact hd
 | some v =>
  show (if v < 0 then (v+(n:Int)).toNat else min v.toNat n)≤n
  by_cases hv:v < 0
  ·rw [if_pos hv];lia
  ·rw [if_neg hv];exact Nat.min_le_right _ _
theorem nG (v:Int) (n d:Nat):(if v < 0 then max (v+(n:Int)) 0 else min v (n:Int))=((sIx n d (some v):Nat):Int):=by
 show (if v < 0 then max (v+(n:Int)) 0 else min v (n:Int))=(((if v < 0 then (v+(n:Int)).toNat else min v.toNat n):Nat):Int)
 by_cases hv:v < 0
 ·simp only [if_pos hv];lia
 ·simp only [if_neg hv];lia
theorem ms (lo hi:Option Int) (n:Nat):Builtin.Slice.sliceAdjust lo hi 1 (n:Int)=(((sIx n 0 lo:Nat):Int),((sIx n n hi:Nat):Int)):=by
 have h1:¬ ((1:Int) < 0):=by lia
 unfold Builtin.Slice.sliceAdjust;simp only [h1,if_false];refine Prod.ext ?_ ?_
 ·cases lo with
  | none=>rfl
  | some v=>exact nG v n 0
 ·cases hi with
  | none=>rfl
  | some v=>exact nG v n n
theorem mv (i j:Nat):Builtin.Slice.slicePlaces (i:Int) (j:Int) 1=j - i:=by
 unfold Builtin.Slice.slicePlaces;have h1:(1:Int) > 0:=by lia
 simp only [h1,if_true,Int.ediv_one]
 split <;> lia
theorem gZ {v:Value} {o:Option Int} {Q:Option Int→Shared→Prop} (p:IsPart v o) (h:Q o s):wpAny (model prog w) A (Builtin.Slice.slicePartIndex v) Q E s:=by
 cases p with
 | none=>exact slicePart_none h
 | int i t=>exact slicePart_int h
theorem cL {sl:Addr} {vl vu:Value} {lo hi:Option Int} {n:Nat} {Q:Int×Int×Nat→Shared→Prop} (hs:s.heap.IsSliceOf sl vl vu .none) (pl:IsPart vl lo) (pu:IsPart vu hi)
  (h:Q (((sIx n 0 lo:Nat):Int),1,sIx n n hi - sIx n 0 lo) s):wpAny (model prog w) A (Builtin.Slice.sliceApplied (.ref sl) (pure (n:Int))) Q E s:=by
 obtain ⟨os,hos,hcs,hds⟩:=id hs;unfold Builtin.Slice.sliceApplied Builtin.Slice.sliceFields;refine wpAny_bind (wpAny_bind (wpAny_field hos hds (x:=vl) rfl (wpAny_bind (wpAny_field hos hds (x:=vu) rfl (wpAny_bind (wpAny_field hos hds (x:=.none) rfl (wpAny_pure ?_)))))));refine wpAny_bind (slicePart_none ?_);show wpAny _ _ (if ((1:Int) == 0)=true then _ else _) _ _ s;rw [if_neg (by decide)];refine wpAny_bind (gZ pl (wpAny_bind (gZ pu (wpAny_bind (wpAny_pure ?_)))));show wpAny _ _ (match Builtin.Slice.sliceAdjust lo hi 1 (n:Int) with | (lo,hi)=>pure (lo,(1:Int),Builtin.Slice.slicePlaces lo hi 1)) _ _ s;rw [ms lo hi n];show wpAny _ _ (pure (((sIx n 0 lo:Nat):Int),(1:Int),Builtin.Slice.slicePlaces ((sIx n 0 lo:Nat):Int) ((sIx n n hi:Nat):Int) 1)) _ _ s;rw [mv];exact wpAny_pure h
theorem pP (xs:Array Value) (i k:Nat):((List.range k).filterMap fun (m:Nat)=>xs[((i:Int)+(m:Int)*1).toNat]?).toArray=((xs.toList.drop i).take k).toArray:=by
 have e:(fun (m:Nat)=>xs[((i:Int)+(m:Int)*1).toNat]?)=fun m=>xs[i+m]?:=by
  funext m
  have:((i:Int)+(m:Int)*1).toNat=i+m:=by lia
  rw [this]
 rw [e];have:=pick_run xs i k;rw [List.filterMap_map] at this;have e2:((fun x=>xs[x]?) ∘ fun x=>i+x)=fun m=>xs[i+m]?:=rfl;rw [e2] at this;rw [this]
theorem getItem_tuple_cut {t sl:Addr} {items:Array Value} {vl vu:Value} {lo hi:Option Int} {Q:Value→Shared→Prop} (ht:IsTup s.heap t items) (hs:s.heap.IsSliceOf sl vl vu .none) (pl:IsPart vl lo) (pu:IsPart vu hi)
  (hw:¬ (sIx items.size 0 lo=0∧sIx items.size items.size hi=items.size))
  (h:Q (.ref s.heap.objs.size) { s with heap:=s.heap.push { cls:=.type "tuple",data:=.seq ((items.toList.drop (sIx items.size 0 lo)).take (sIx items.size items.size hi - sIx items.size 0 lo)).toArray } })
  (hsz:items.size≤sizeLine):wpAny (model prog w) A (getItem (.ref t) (.ref sl)) Q E s:=by
 have htake:sizeOk (.seq ((items.toList.drop (sIx items.size 0 lo)).take (sIx items.size items.size hi - sIx items.size 0 lo)).toArray):=by
  show ((items.toList.drop (sIx items.size 0 lo)).take (sIx items.size items.size hi - sIx items.size 0 lo)).toArray.size≤sizeLine;rw [List.size_toArray,List.length_take,List.length_drop,Array.length_toList];lia
 have hj:sIx items.size items.size hi≤items.size:=wW _ _ (Nat.le_refl _) hi;obtain ⟨os,hos,hcs,hds⟩:=id hs;have hTs:s.TypeIs (.ref sl) "slice" :=⟨os,hos,hcs⟩;unfold getItem
 try with_reducible refine wpAny_holding ?_
 first | refine wpAny_bind (wpAny_pure ?_) | skip
 refine wpAny_bind (wpAny_sequenceKey ht.typeIs (by decide) ?_);refine wpAny_bind (wpAny_callSpecial?_slot (name:=Str.ofString "__getitem__") ht.typeIs PyProof.Rows.slot_tuple_getitem
  (wpAny_call_entry PyProof.Rows.slot_tuple_getitem ht.typeIs entry_tuple_getitem ?_ (args_tuple_getitem _ _)))
 show wpAny _ _ (Builtin.Tuple.tupleItemsOf (.ref t) >>= _) _ _ s;refine wpAny_bind (tupleItemsOf_ ht ?_);refine wpAny_bind (wpAny_typeOf hTs ?_);rw [if_pos (by decide)];refine wpAny_bind (cL hs pl pu ?_);have hno:¬ ((((sIx items.size 0 lo:Nat):Int) == 0 && (1:Int) == 1 && (sIx items.size items.size hi - sIx items.size 0 lo) == items.size)=true):=by
  intro q;rw [Bool.and_eq_true,Bool.and_eq_true] at q;have q1:((sIx items.size 0 lo:Nat):Int)=0:=eq_of_beq q.1.1;have q2:sIx items.size items.size hi - sIx items.size 0 lo=items.size:=eq_of_beq q.2;exact hw ⟨by lia,by lia⟩
 show wpAny _ _ (if (((sIx items.size 0 lo:Nat):Int) == 0 && (1:Int) == 1 && (sIx items.size items.size hi - sIx items.size 0 lo) == items.size)=true then _ else _) _ _ s;rw [if_neg hno,pP]
 first
  | exact wpAny_bind (m:=Builtin.Tuple.tupleExact _) (wpAny_newObj_type (wpAny_pure ⟨_,rfl,wpAny_pure h⟩) htake)
  | exact wpAny_bind (m:=Builtin.Tuple.tupleExact _) (wpAny_newObj_type (wpAny_bind (wpAny_pure (wpAny_pure ⟨_,rfl,wpAny_pure h⟩))) htake)
  | exact wpAny_bind (wpAny_bind (m:=Builtin.Tuple.tupleExact _) (wpAny_newObj_type (wpAny_pure (wpAny_pure ⟨_,rfl,wpAny_pure h⟩)) htake))
  | exact wpAny_bind (wpAny_bind (m:=Builtin.Tuple.tupleExact _) (wpAny_newObj_type (wpAny_pure ⟨_,rfl,wpAny_pure h⟩) htake))
end
end HT
namespace L2
open PySem PySem.Spec PyProof.Rows
abbrev TO:=St→Hp→(Option Int→Hp→Prop)→Prop
def PO (X:Cx) (e:Option Expr) (t:TO):Prop :=
 ∀ (pins:List (Addr×Obj)) (s:Shared) (σ:St) (H:Hp) (Q:Option Int→Hp→Prop),Inv X pins σ H s→t σ H Q →
  wpAny (model X.prog X.w) X.A (evalPart e X.env) (fun u s'=>∃ o H',Inv X pins σ H' s'∧IsPart u o∧Q o H') X.xe s
def rp:TO:=fun _ H Q=>Q none H
inductive IPrt (x:V) (H1:Hp) (Q:Option Int→Hp→Prop):Prop
 | mk (i:Int):(x=.int i)→(Q (some i) H1)→IPrt x H1 Q
def CQ (t:TE):TO:=fun σ H Q=>t σ H fun x H1=>IPrt x H1 Q
section
variable {X:Cx} {e:Expr} {te:TE} {lo hi:Option Expr} {tl th:TO} {pos p2:Pos}
theorem gK:PO X none rp:=by
 intro pins s σ H Q I h;rw [evalPart_none];exact wpAny_pure ⟨none,H,I,.none,h⟩
theorem po_some (h:PE X e te):PO X (some e) (CQ te):=by
 intro pins s σ H Q I hw;rw [evalPart_some];refine thn (h pins s σ H _ I hw) fun u s1 ⟨x,H1,I1,r1,q1⟩=>?_;obtain ⟨i,rfl,q⟩:=q1;obtain ⟨t,rfl⟩:=r1;exact ⟨some i,H1,I1,.int i t,q⟩
def SlR (X:Cx) (r:V→Option Int→Option Int→Hp→VK→Prop):Prop :=
 ∀ (pins:List (Addr×Obj)) (s:Shared) (σ:St) (H:Hp) (x:V) (v vl vu:Value) (lo hi:Option Int) (sl:Addr) (Q:VK),Inv X pins σ H s→RelV x v→s.heap.IsSliceOf sl vl vu .none→IsPart vl lo→IsPart vu hi→r x lo hi H Q →
  ∃ T id,typeLookup (.type T) "__getitem__" = pure (some (.builtin id))∧s.TypeIs v T∧wpAny (model X.prog X.w) X.A (getItem v (.ref sl)) (EP X pins σ Q) X.xe s
def tSl (r:V→Option Int→Option Int→Hp→VK→Prop) (te:TE) (tl th:TO):TE:=fun σ H Q=>te σ H fun x H1=>tl σ H1 fun l H2=>th σ H2 fun u H3=>r x l u H3 Q
theorem pe_slice {r:V→Option Int→Option Int→Hp→VK→Prop} (hr:SlR X r) (he:PE X e te) (hl:PO X lo tl) (hu:PO X hi th):PE X (.Subscript e (.Slice lo hi none p2) pos) (tSl r te tl th):=by
 intro pins s σ H Q I h;refine Subscript_ (thn (he pins s σ H _ I h) fun v s1 ⟨x,H1,I1,r1,q1⟩=>?_);refine wpAny_Slice (thn (hl pins s1 σ H1 _ I1 q1) fun vl s2 ⟨l,H2,I2,pl,q2⟩=>thn (hu pins s2 σ H2 _ I2 q2) fun vu s3 ⟨u,H3,I3,pu,q3⟩=>?_);rw [evalPart_none];refine wpAny_pure ?_;have I4:Inv X pins σ H3 { s3 with heap:=s3.heap.push { cls:=.type "slice",data:=.fields #[vl,vu,.none] } }:=I3.kept (t':=s3.toks) fun b ob q=>Heap.get?_push_of_some _ q;obtain ⟨T,id,hT,ht,hg⟩:=hr pins { s3 with heap:=s3.heap.push { cls:=.type "slice",data:=.fields #[vl,vu,.none] } } σ H3 x v vl vu l u s3.heap.objs.size Q I4 r1 (Heap.IsSliceOf.new ..) pl pu q3;show wpAny (model X.prog X.w) X.A (subscriptTail e (.Slice lo hi none p2) v (.ref s3.heap.objs.size)) (EP X pins σ Q) X.xe { s3 with heap:=s3.heap.push { cls:=.type "slice",data:=.fields #[vl,vu,.none] } };exact tail_any (ops:=[.ref s3.heap.objs.size,v]) ht hT hg (by with_unfolding_all rfl)
def rq (xs:List V) (lo hi:Option Int):List V:=(xs.drop (HT.sIx xs.length 0 lo)).take (HT.sIx xs.length xs.length hi - HT.sIx xs.length 0 lo)
theorem kY (xs:List V) (lo hi:Option Int):(rq xs lo hi).length≤xs.length:=by
 unfold rq;rw [List.length_take,List.length_drop];lia
end
def ixN (n:Nat) (i:Int):Option Nat:=if 0≤i then (if i < n then some i.toNat else none) else if -(n:Int)≤i then some (i+n).toNat else none
def atI {α:Type} (xs:List α) (i:Int):Option α:=(ixN xs.length i).bind fun j=>xs[j]?
theorem gL {n:Nat} {i:Int} {j:Nat} (h:ixN n i=some j):seqIndex? i n=some j∧j < n∧-(n:Int)≤i∧i < n:=by
 unfold ixN at h
 by_cases h0:0≤i
 ·rw [if_pos h0] at h
  by_cases h1:i < n
  ·rw [if_pos h1] at h;have e:i.toNat=j:=Option.some.inj h;exact ⟨by rw [seqIndex_of h0 h1,e],by lia,by lia,h1⟩
  ·rw [if_neg h1] at h;cases h
 ·rw [if_neg h0] at h
  by_cases h1:-(n:Int)≤i
  ·rw [if_pos h1] at h;have e:(i+n).toNat=j:=Option.some.inj h;exact ⟨by rw [seqIndex_neg (by lia) h1,e],by lia,h1,by lia⟩
  ·rw [if_neg h1] at h;cases h
theorem eZ {α:Type} {xs:List α} {i:Int} {v:α} (h:atI xs i=some v):∃ j,seqIndex? i xs.length=some j∧xs[j]?=some v∧j < xs.length∧-(xs.length:Int)≤i∧i < xs.length:=by
 unfold atI at h
 cases e:ixN xs.length i with
 | none=>rw [e] at h;cases h
 | some j =>
  rw [e] at h;obtain ⟨h1,h2,h3,h4⟩:=gL e;exact ⟨j,h1,h,h2,h3,h4⟩
theorem gM {α:Type} {xs:List α} {j:Nat} {v:α} (h:xs[j]?=some v):atI xs (j:Int)=some v:=by
 have hj:j < xs.length:=(List.getElem?_eq_some_iff.mp h).1;have e:ixN xs.length (j:Int)=some j:=by
  unfold ixN;rw [if_pos (by lia),if_pos (by lia)];simp
 unfold atI;rw [e];exact h
def rs (b:Expr):Prop:=∀ o i,subscripted b false o i=operate [o,i] (getItem o i)
def IxR (X:Cx) (r:R2):Prop :=
 ∀ (value slice:Expr) (pins:List (Addr×Obj)) (s:Shared) (σ:St) (H:Hp) (x y:V) (v u:Value) (Q:VK),Inv X pins σ H s→RelV x v→RelV y u→r x y H Q →
  subscripted slice false v u=operate [v,u] (getItem v u)→wpAny (model X.prog X.w) X.A (subscriptTail value slice v u) (EP X pins σ Q) X.xe s
def MtR (X:Cx) (id:String) (r:V→List V→Hp→VK→Prop):Prop :=
 ∀ (pins:List (Addr×Obj)) (s:Shared) (σ:St) (H:Hp) (x:V) (xs:List V) (v:Value) (us:List Value) (Q:VK),Inv X pins σ H s→RelV x v→Vals xs us→r x xs H Q →
  wpAny (model X.prog X.w) X.A (call (.builtin id) (v :: us)) (EP X pins σ Q) X.xe s
section
variable {X:Cx} {a b:Expr} {ta tb:TE} {pos:Pos}
theorem pe_ix {r:R2} (hr:IxR X r) (ha:PE X a ta) (hb:PE X b tb) (hs:rs b):PE X (.Subscript a b pos) (tOp r ta tb):=by
 intro pins s σ H Q I h;exact Subscript_ (wU ha hb I h fun v u s2 x y H2 I2 rx ry q=>hr a b pins s2 σ H2 x y v u Q I2 rx ry q (hs _ _))
inductive IIxL (K:PySem.W.Frag) (x y:V) (H:Hp) (Q:VK):Prop
 | mk (p:Addr) (xs:List V) (i:Int) (v:V):(x=.ref p)→(y=.int i)→(SqL K H p xs)→(atI xs i=some v)→(Q v H)→IIxL K x y H Q
def CS (K:PySem.W.Frag):R2:=fun x y H Q=>IIxL K x y H Q
def DI (K:PySem.W.Frag):R2:=fun x y H Q=>∃ p xs i v,x=.ref p∧y=.int i∧SqT K H p xs∧atI xs i=some v∧Q v H
def DJ:R2:=fun x y H Q=>∃ z i c,x=.str z∧y=.int i∧z.length≤sizeLine∧atI z.cps.toList i=some c∧Q (.str ⟨#[c]⟩) H
theorem rA:IxR X (CS X.K):=by
 intro value slice pins s σ H x y v u Q I rx ry h hs;obtain ⟨p,xs,i,z,rfl,rfl,hq,he,q⟩:=h
 cases rx
 obtain ⟨t,rfl⟩:=ry;obtain ⟨its,r,pl,hz⟩:=I.list hq;obtain ⟨j,h1,h2,h3,h4,h5⟩:=eZ he;obtain ⟨w,ew,rw'⟩:=r.get h2;have hl:=r.length;have hn:=fJ;have fin:EP X pins σ Q w s:=⟨z,H,I,rw',q⟩
 by_cases h0:0≤i
 ·have hj:i.toNat=j:=by
   rw [seqIndex_of h0 h5] at h1;exact Option.some.inj h1
  exact item_listR pl.isList h0 (by lia) (by rw [hj];simpa using ew) fin hs
 ·have hj:(i+(its.toArray.size:Int)).toNat=j:=by
   rw [seqIndex_neg (by lia) h4] at h1;rw [List.size_toArray,← hl];exact Option.some.inj h1
  exact subscriptTail_builtinR (x:=w) pl.isList.typeIs slot_list_getitem.lookup
   (wpAny_getItem_list_neg (Q:=fun r s'=>r=w∧EP X pins σ Q r s') pl.isList (by lia) (by rw [List.size_toArray] <;> lia) (by lia) (by rw [hj];simpa using ew) ⟨rfl,fin⟩) hs
theorem pQ:IxR X (DI X.K):=by
 intro value slice pins s σ H x y v u Q I rx ry h hs;obtain ⟨p,xs,i,z,rfl,rfl,hq,he,q⟩:=h
 cases rx
 obtain ⟨t,rfl⟩:=ry;obtain ⟨its,r,pl,hz⟩:=I.tuple hq;obtain ⟨j,h1,h2,h3,h4,h5⟩:=eZ he;obtain ⟨w,ew,rw'⟩:=r.get h2;have hl:=r.length;have hn:=fJ;have fin:EP X pins σ Q w s:=⟨z,H,I,rw',q⟩;exact subscriptTail_builtinR (x:=w) pl.typeIs slot_tuple_getitem.lookup
  (getItem_tuple (j:=j) (Q:=fun r s'=>r=w∧EP X pins σ Q r s') pl (by lia) (by lia) (by rw [List.size_toArray,← hl];exact h1) (by simpa using ew) ⟨rfl,fin⟩) hs
theorem ix_str:IxR X DJ:=by
 intro value slice pins s σ H x y v u Q I rx ry h hs;obtain ⟨z,i,c,rfl,rfl,hz,he,q⟩:=h;obtain ⟨t,rfl⟩:=rx;obtain ⟨t',rfl⟩:=ry;obtain ⟨j,h1,h2,h3,h4,h5⟩:=eZ he;have hl:z.cps.toList.length=z.length:=by simp [Str.length]
 rw [hl] at h1 h4 h5;have hn:=fJ;exact tail_any (typeIs_str s z t) slot_str_getitem.lookup (getItem_str (c:=c) (by
  have e1:decide (i < -(2 ^ 63:Int))=false:=decide_eq_false (by lia);have e2:decide (i≥2 ^ 63)=false:=decide_eq_false (by lia);rw [e1,e2,Bool.or_false]) (by rw [h1];simpa using h2) ⟨.str ⟨#[c]⟩,H,I.tok _,⟨_,rfl⟩,q⟩) hs
theorem mw (its:List Value) (n j:Nat) (u:Value):Obj.mapSeq (·.setIfInBounds j u) { cls:=.type "list",data:=.seq its.toArray n }={ cls:=.type "list",data:=.seq (its.set j u).toArray n }:=by
 simp [Obj.mapSeq]
theorem Inv.lst {pins:List (Addr×Obj)} {σ:St} {H:Hp} {s:Shared} {p:Addr} {xs:List V} (I:Inv X pins σ H s) (h:H p=some (.lst xs)) :
  ∃ (its:List Value) (n:Nat),Vals xs its∧s.heap.get? p=some { cls:=.type "list",data:=.seq its.toArray n }∧xs.length≤sizeLine:=by
 obtain ⟨z,its,n,r,e⟩:=I.hok p _ h;exact ⟨its,n,r,e,z⟩
theorem Inv.lstUpd {pins:List (Addr×Obj)} {σ:St} {H:Hp} {s:Shared} {p:Addr} {xs ys:List V} {its its':List Value} {n n':Nat} {f:Obj→Obj} (I:Inv X pins σ H s) (h:H p=some (.lst xs))
  (ho:s.heap.get? p=some { cls:=.type "list",data:=.seq its.toArray n }) (hf:f { cls:=.type "list",data:=.seq its.toArray n }={ cls:=.type "list",data:=.seq its'.toArray n' }) (r:Vals ys its') (hz:ys.length≤sizeLine) (t:Nat) :
  Inv X pins σ (upd H p (.lst ys)) { s with heap:=s.heap.update p f,toks:=t }:=by
 have e:(s.heap.update p f).get? p=some { cls:=.type "list",data:=.seq its'.toArray n' }:=by
  rw [Heap.get?_update_self f ho (by rw [hf] <;> rfl),hf]
 refine I.write (x:=p) (e:=p) (by rw [h];trivial) (.inl rfl) (fun b u hb q=>(Heap.get?_update_other _ _ (Ne.symm hb)).trans q) ⟨_,e⟩ ?_;exact ⟨hz,its',n',r,e⟩
inductive ISetL (o i v:V) (H:Hp) (Q:Hp→Prop):Prop
 | mk (p:Addr) (xs:List V) (k:Int) (j:Nat):(o=.ref p)→(i=.int k)→(H p=some (.lst xs))→(ixN xs.length k=some j)→(Q (upd H p (.lst (xs.set j v))))→ISetL o i v H Q
def CT:V→V→V→Hp→(Hp→Prop)→Prop:=fun o i v H Q=>ISetL o i v H Q
theorem pR:CD X CT:=by
 intro pins s σ H o i v ov iv u Q I ro ri rv h;obtain ⟨p,xs,k,j,rfl,rfl,hp,hj,q⟩:=h
 cases ro
 obtain ⟨t,rfl⟩:=ri;obtain ⟨its,n,r,ho,hz⟩:=I.lst hp;obtain ⟨h1,h2,h3,h4⟩:=gL hj;have hl:=r.length;have hn:=fJ;have I':Inv X pins σ (upd H p (.lst (xs.set j v))) { s with heap:=s.heap.update p (Obj.mapSeq (·.setIfInBounds j u)) } :=
  I.lstUpd hp ho (mw its n j u) (r.set rv j) (by rw [List.length_set];exact hz) s.toks
 by_cases h0:0≤k
 ·have hk:k.toNat=j:=by
   rw [seqIndex_of h0 h4] at h1;exact Option.some.inj h1
  exact PySem.W.ki_setAt ho h0 (by lia) (by rw [List.size_toArray,← hl];exact h4) (by rw [hk];exact ⟨_,I',q⟩)
 ·have hk:(k+(its.toArray.size:Int)).toNat=j:=by
   rw [seqIndex_neg (by lia) h3] at h1;rw [List.size_toArray,← hl];exact Option.some.inj h1
  exact PySem.W.ki_setBack ho (by lia) (by rw [List.size_toArray,← hl];exact h3) (by lia) (by rw [hk];exact ⟨_,I',q⟩)
def gk:V→Bool
 | .non=>true
 | .bl _=>true
 | .int _=>true
 | .str _=>true
 | _=>false
def eqV:V→V→Bool
 | .non,.non=>true
 | .bl a,.bl b=>a == b
 | .bl a,.int b=>(if a then 1 else 0) == b
 | .int a,.bl b=>a == (if b then 1 else 0)
 | .int a,.int b=>a == b
 | .str a,.str b=>a == b
 | _,_=>false
theorem wX {A:Around} {s:Shared} {y x:V} {u v:Value} (ry:RelV y u) (rx:RelV x v) (fy:gk y=true) (fx:gk x=true):SeqAt.EqAt A s u v (eqV y x):=by
 cases y with
 | non =>
  cases ry
  cases x with
  | non=>cases rx;exact SeqAt.EqAt.same _
  | bl b=>cases rx;exact SeqAt.EqAt.none_bool b
  | int b=>obtain ⟨t,rfl⟩:=rx;exact SeqAt.EqAt.none_int b t
  | str b=>obtain ⟨t,rfl⟩:=rx;exact SeqAt.EqAt.none_str b t
  | _=>exact absurd (show false=true from fx) Bool.false_ne_true
 | bl a =>
  cases ry
  cases x with
  | non=>cases rx;exact SeqAt.EqAt.bool_none a
  | bl b=>cases rx;exact SeqAt.EqAt.bool_bool a b
  | int b=>obtain ⟨t,rfl⟩:=rx;exact SeqAt.EqAt.bool_int a b t
  | str b=>obtain ⟨t,rfl⟩:=rx;exact SeqAt.EqAt.bool_str a b t
  | _=>exact absurd (show false=true from fx) Bool.false_ne_true
 | int a =>
  obtain ⟨t',rfl⟩:=ry
  cases x with
  | non=>cases rx;exact SeqAt.EqAt.int_none a t'
  | bl b=>cases rx;exact SeqAt.EqAt.int_bool a t' b
  | int b=>obtain ⟨t,rfl⟩:=rx;exact SeqAt.EqAt.int_int a t' b t
  | str b=>obtain ⟨t,rfl⟩:=rx;exact SeqAt.EqAt.int_str a t' b t
  | _=>exact absurd (show false=true from fx) Bool.false_ne_true
 | str a =>
  obtain ⟨t',rfl⟩:=ry
  cases x with
  | non=>cases rx;exact SeqAt.EqAt.str_none a t'
  | bl b=>cases rx;exact SeqAt.EqAt.str_bool a t' b
  | int b=>obtain ⟨t,rfl⟩:=rx;exact SeqAt.EqAt.str_int a t' b t
  | str b=>obtain ⟨t,rfl⟩:=rx;exact SeqAt.EqAt.str_str a t' b t
  | _=>exact absurd (show false=true from fx) Bool.false_ne_true
 | _=>exact absurd (show false=true from fy) Bool.false_ne_true
def eqU (x:V) (u:Value):Bool:=match u with
 | .none=>eqV .non x
 | .bool b=>eqV (.bl b) x
 | .int i _=>eqV (.int i) x
 | .str z _=>eqV (.str z) x
 | _=>false
theorem pS {x y:V} {u:Value} (r:RelV y u) (f:gk y=true):eqU x u=eqV y x:=by
 cases y with
 | non=>cases r;rfl
 | bl b=>cases r;rfl
 | int i=>obtain ⟨t,rfl⟩:=r;rfl
 | str z=>obtain ⟨t,rfl⟩:=r;rfl
 | _=>exact absurd (show false=true from f) Bool.false_ne_true
theorem jR {x:V}:∀ {xs:List V} {us:List Value},Vals xs us→xs.all gk=true→us.any (eqU x)=xs.any fun y=>eqV y x
 | _,_,.nil,_=>rfl
 | y :: xs,u :: us,.cons r t,f=>by
  rw [List.all_cons,Bool.and_eq_true] at f;rw [List.any_cons,List.any_cons,pS r f.1,jR t f.2]
theorem g8 {A:Around} {s:Shared} {x:V} {v:Value} (rx:RelV x v) (fx:gk x=true):∀ {xs:List V} {us:List Value},Vals xs us→xs.all gk=true→∀ u∈us,SeqAt.EqAt A s u v (eqU x u)
 | _,_,.nil,_=>fun u hu=>by cases hu
 | y :: xs,u :: us,.cons r t,f=>fun u' hu=>by
  rw [List.all_cons,Bool.and_eq_true] at f;rcases List.mem_cons.mp hu with rfl | hu
  ·rw [pS r f.1];exact wX r rx f.1 fx
  ·exact g8 rx fx t f.2 u' hu
def inV (x:V) (xs:List V):Bool:=xs.any fun y=>eqV y x
def rIn (K:PySem.W.Frag) (neg:Bool):R2:=fun x y H Q=>∃ p xs,y=.ref p∧(SqL K H p xs∨SqT K H p xs)∧gk x=true∧xs.all gk=true∧Q (.bl (if neg then !inV x xs else inV x xs)) H
theorem oy:OpR X (compareOp .In) (rIn X.K false):=by
 intro pins s σ H x y v u Q I rx ry h;obtain ⟨p,xs,rfl,hq,fx,fs,q⟩:=h
 cases ry
 rcases hq with hq | hq
 ·obtain ⟨its,r,pl,hz⟩:=I.list hq;refine SeqAt.in_listAt (eqU x) pl.isList (fun w hw=>g8 rx fx r fs w (by simpa using hw)) ⟨.bl _,H,I,rfl,?_⟩;rw [show its.toArray.any (eqU x)=its.any (eqU x) by simp,jR r fs];exact q
 ·obtain ⟨its,r,pl,hz⟩:=I.tuple hq;refine SeqAt.in_tupleAt (eqU x) pl (fun w hw=>g8 rx fx r fs w (by simpa using hw)) ⟨.bl _,H,I,rfl,?_⟩;rw [show its.toArray.any (eqU x)=its.any (eqU x) by simp,jR r fs];exact q
theorem e6:bh X (.builtin "len") (fun xs H Q=>∃ p ys,xs=[.ref p]∧(SqL X.K H p ys∨SqT X.K H p ys)∧Q (.int ys.length) H):=by
 intro pins s σ H xs us Q I r h;obtain ⟨p,ys,rfl,hq,q⟩:=h;obtain ⟨u,rfl,rx⟩:=cK r
 cases rx
 have hn:=fJ;rcases hq with hq | hq
 ·obtain ⟨its,r',pl,hz⟩:=I.list hq;have hlen:=r'.length;exact Calls.call_len_list pl.isList (by simp only [List.size_toArray] <;> lia) ⟨.int ys.length,H,I.tok _,⟨s.toks+1,by rw [List.size_toArray,hlen]⟩,q⟩
 ·obtain ⟨its,r',pl,hz⟩:=I.tuple hq;have hlen:=r'.length;exact len_tuple pl (by simp only [List.size_toArray] <;> lia) ⟨.int ys.length,H,I.tok _,⟨s.toks+1,by rw [List.size_toArray,hlen]⟩,q⟩
theorem call_len_str:bh X (.builtin "len") (fun xs H Q=>∃ z,xs=[.str z]∧z.length≤sizeLine∧Q (.int z.length) H):=by
 intro pins s σ H xs us Q I r h;obtain ⟨z,rfl,hz,q⟩:=h;obtain ⟨u,rfl,t,rfl⟩:=cK r;have hn:=fJ;exact len_str (by lia) ⟨.int z.length,H,I.tok _,⟨_,rfl⟩,q⟩
theorem jS:bh X (.type "list") (fun xs H Q=>∃ p ys,xs=[.ref p]∧(SqL X.K H p ys∨SqT X.K H p ys)∧∀ l,H l=none→Q (.ref l) (upd H l (.lst ys))):=by
 intro pins s σ H xs us Q I r h;obtain ⟨p,ys,rfl,hq,q⟩:=h;obtain ⟨u,rfl,rx⟩:=cK r
 cases rx
 have fin:∀ (its:List Value),Vals ys its→ys.length≤sizeLine→∀ (h':Heap) (c':Nat),(∀ b o',s.heap.get? b=some o'→h'.get? b=some o') →
   h'.get? s.heap.objs.size=some { cls:=.type "list",dict:=none,data:=.seq its.toArray c',slots:=#[] }→EP X pins σ Q (.ref s.heap.objs.size) { s with heap:=h' }:=fun its r' hz h' c' kp e =>
  ⟨.ref s.heap.objs.size,_,I.laid (t':=s.toks) kp (Nat.le_refl _) (show ObjOk X.prog X.w _ h' _ (.lst ys) from ⟨hz,its,c',r',e⟩),rfl,q _ (I.hok.fresh (Nat.le_refl _))⟩
 rcases hq with hq | hq
 ·obtain ⟨its,r',pl,hz⟩:=I.list hq;have hlen:=r'.length;obtain ⟨o,ho,hc,n,hd⟩:=pl.isList;exact call_list_seq p (.inl rfl) ho hc hd (fun h' c' kp e=>fin its r' hz h' c' kp e) (by simp only [List.size_toArray] <;> lia)
 ·obtain ⟨its,r',pl,hz⟩:=I.tuple hq;have hlen:=r'.length;obtain ⟨o,ho,hc,n,hd⟩:=pl;exact call_list_seq p (.inr rfl) ho hc hd (fun h' c' kp e=>fin its r' hz h' c' kp e) (by simp only [List.size_toArray] <;> lia)
def tyV (K:PySem.W.Frag) (T:String) (x:V) (H:Hp):Prop:=match x with
 | .str _=>T= "str"
 | .int _=>T= "int"
 | .ref p=>(T= "list" ∧∃ xs,SqL K H p xs)∨(T= "tuple" ∧∃ o,K.lookup p=some o∧o.cls=.type "tuple" ∧o.dict=none) ∨
   (T= "dict" ∧((∃ kvs,H p=some (.dK kvs))∨∃ kvs,H p=some (.dT kvs)))∨(T= "set" ∧∃ S n,H p=some (.set S n))
 | _=>False
theorem wY {pins:List (Addr×Obj)} {σ:St} {H:Hp} {s:Shared} {T:String} {x:V} {v:Value} (I:Inv X pins σ H s) (r:RelV x v) (ty:tyV X.K T x H) :
  s.TypeIs v T∧∀ a,v=.ref a→∃ ob,s.heap.get? a=some ob∧ob.dict=none:=by
 cases x with
 | str z =>
  obtain ⟨t,rfl⟩:=r
  cases (show T= "str" from ty)
  exact ⟨typeIs_str s z t,fun _ e=>nomatch e⟩
 | int i =>
  obtain ⟨t,rfl⟩:=r
  cases (show T= "int" from ty)
  exact ⟨typeIs_int s i t,fun _ e=>nomatch e⟩
 | ref p =>
  cases r
  rcases ty with ⟨rfl,xs,hq⟩ | ⟨rfl,o,hk,hc,hd⟩ | ⟨rfl,hk⟩ | ⟨rfl,S,n,hk⟩
  ·obtain ⟨its,_,pl,_⟩:=I.list hq;refine ⟨pl.isList.typeIs,fun a e=>?_⟩
   cases e
   obtain ⟨o,n,e,c,hd,_⟩:=pl;exact ⟨o,e,hd⟩
  ·refine ⟨⟨o,I.kIn p o hk,hc⟩,fun a e=>?_⟩
   cases e
   exact ⟨o,I.kIn _ o hk,hd⟩
  ·have z:∃ o,s.heap.get? p=some o∧o.ExactDict:=by
    rcases hk with ⟨kvs,hk⟩ | ⟨kvs,hk⟩
    ·obtain ⟨_,_,_,_,o,_,_,e,ex,_⟩:=I.hok p _ hk;exact ⟨o,e,ex⟩
    ·obtain ⟨_,_,_,_,o,_,_,e,ex,_⟩:=I.hok p _ hk;exact ⟨o,e,ex⟩
   obtain ⟨o,e,ex⟩:=z;refine ⟨⟨o,e,ex.1⟩,fun a e2=>?_⟩
   cases e2
   exact ⟨o,e,ex.2.1⟩
  ·obtain ⟨o,_,_,_,e,ex,_⟩:=I.hok p _ hk;refine ⟨⟨o,e,ex.1⟩,fun a e2=>?_⟩
   cases e2
   exact ⟨o,e,ex.2.1⟩
 | _=>exact False.elim ty
def tBM (K:PySem.W.Frag) (T:String) (r:V→List V→Hp→VK→Prop) (to:TE) (t:TA):TE:=fun σ H Q=>to σ H fun x H1=>tyV K T x H1∧t σ H1 fun xs H2=>r x xs H2 Q
variable {o e:Expr} {es:List Expr} {to:TE} {t:TA} {name:Str} {apos cpos:Pos} {T id:String} {r:V→List V→Hp→VK→Prop}
theorem pe_bm (pa:PlainAttrs T) (slot:Slot T name id) (hty:typeOf (.builtin id)=pure (.type "method_descriptor")) (hm:MtR X id r) (ho:PE X o to) (ha:PA X (e :: es) t)
  (hbase:attributeBase o name X.env (eval o X.env)=eval o X.env:=by rfl)
  (hfew:((backTo cpos (starEach (e :: es) X.env)).all (fun x=>!x.1) && (backToKw cpos (keywordEach [] X.env)).all (fun x=>x.1.isSome)
   && decide ((e :: es).length+([]:List Keyword).length+(if ([]:List Keyword).isEmpty then 0 else 1) < 30))=true:=by rfl)
  (hline:(apos.endLine == cpos.line)=true:=by rfl) (hs:starEach (e :: es) X.env=(false,eval e X.env) :: starEach es X.env:=by rfl) (hplain:(backTo cpos (starEach es X.env)).any (·.1)=false:=by rfl) :
  PE X (.Call (.Attribute o name apos) (e :: es) [] cpos) (tBM X.K T r to t):=by
 intro pins s σ H Q I h;refine wpAny_Call_method_late hbase hfew hline rfl (thn (ho pins s σ H _ I h) fun v s1 ⟨x,H1,I1,r1,ty,q1⟩=>?_);obtain ⟨h1,h2⟩:=wY I1 r1 ty;refine ⟨T,id,pa,slot,hty,h1,h2,?_⟩;have hA:=ha cpos pins s1 σ H1 _ I1 q1;rw [hs] at hA ⊢;refine Calls.callWith_builtin (by show (false || (backTo cpos (starEach es X.env)).any (·.1))=false;rw [hplain] <;> rfl) (Calls.evalArgs_plain ?_);exact thn hA fun us s2 ⟨vs,H2,I2,r2,q2⟩=>hm pins s2 σ H2 x vs v us Q I2 r1 r2 q2
end
def MtM (X:Cx) (id:String) (r:V→List V→Hp→VK→Prop):Prop :=
 ∀ (pins:List (Addr×Obj)) (s:Shared) (σ:St) (H:Hp) (x:V) (xs:List V) (v:Value) (us:List Value) (Q:VK),Inv X pins σ H s→RelV x v→Vals xs us→r x xs H Q →
  wpAny (model X.prog X.w) X.A (call (.builtin id) (v :: us)) (EP X pins σ Q) X.xe s
theorem Vals.one:∀ {x:V} {us:List Value},Vals [x] us→∃ u,us=[u]∧RelV x u:=by
 intro x us h
 cases h with
 | cons r t =>
  cases t
  exact ⟨_,rfl,r⟩
theorem Vals.two:∀ {x y:V} {us:List Value},Vals [x,y] us→∃ u v,us=[u,v]∧RelV x u∧RelV y v:=by
 intro x y us h
 cases h with
 | cons r t =>
  cases t with
  | cons q t =>
   cases t
   exact ⟨_,_,rfl,r,q⟩
section
variable {X:Cx} {pins:List (Addr×Obj)} {σ:St} {H:Hp} {s:Shared} {l b:Addr} {xs ys zs:List V}
theorem Inv.lset {its its':List Value} {n:Nat} {f:Array Value→Array Value} {t':Nat} (I:Inv X pins σ H s) (hH:H l=some (.lst xs))
  (e:s.heap.get? l=some { cls:=.type "list",data:=.seq its.toArray n }) (hf:f its.toArray=its'.toArray) (hv:Vals ys its') (hz:ys.length≤sizeLine) :
  Inv X pins σ (upd H l (.lst ys)) { s with heap:=s.heap.update l (Obj.mapSeq f),toks:=t' }:=by
 have q:=PySem.IsL.update e f;rw [hf] at q;refine I.write (x:=l) (e:=l) (by rw [hH];exact trivial) (.inl rfl) (fun b' u hb hu=>(Heap.get?_update_other s.heap (Obj.mapSeq f) (Ne.symm hb)).trans hu) ⟨_,q⟩ ?_;exact ⟨hz,its',_,hv,q⟩
theorem Inv.lnew {its:List Value} {t':Nat} (I:Inv X pins σ H s) (hv:Vals ys its) (hz:ys.length≤sizeLine) :
  Inv X pins σ (upd H s.heap.objs.size (.lst ys)) { s with heap:=s.heap.push { cls:=.type "list",data:=.seq its.toArray },toks:=t' } :=
 I.laid (fun _ _ q=>Heap.get?_push_of_some _ q) (Nat.le_refl _) ⟨hz,its,0,hv,Heap.get?_push_size _ rfl⟩
theorem Inv.fresh (I:Inv X pins σ H s):H s.heap.objs.size=none:=I.hok.fresh (Nat.le_refl _)
theorem Inv.lstM (I:Inv X pins σ H s) (hH:H l=some (.lst xs)):xs.length≤sizeLine∧∃ (its:List Value) (n:Nat),Vals xs its∧xs.length=its.length∧s.heap.get? l=some { cls:=.type "list",data:=.seq its.toArray n }:=by
 obtain ⟨z,its,n,r,e⟩:=I.hok l _ hH;exact ⟨z,its,n,r,r.length,e⟩
end
section
variable {X:Cx}
inductive IApp (x:V) (vs:List V) (H:Hp) (Q:VK):Prop
 | mk (l:Addr) (xs:List V) (y:V):(x=.ref l)→(vs=[y])→(H l=some (.lst xs))→(xs.length < sizeLine)→(Q .non (upd H l (.lst (xs++[y]))))→IApp x vs H Q
def rB:V→List V→Hp→VK→Prop:=fun x vs H Q=>IApp x vs H Q
theorem cM:MtM X "list.append" rB:=by
 intro pins s σ H x vs v us Q I rx rv h;obtain ⟨l,xs,y,rfl,rfl,hH,hz,q⟩:=h
 cases rx
 obtain ⟨u,rfl,ru⟩:=rv.one;obtain ⟨z,its,n,r,hl,e⟩:=I.lstM hH;refine call_meets F.slot_list_append ⟨_,e,rfl⟩ F.entry_list_append (F.args_list_append_2 _ _) (PySem.list_append l its.toArray n u (by rw [List.size_toArray];lia)) ⟨e,?_⟩;refine ⟨.non,_,I.lset (its':=its++[u]) hH e (by simp) (r.append (.cons ru .nil)) ?_,rfl,q⟩;rw [List.length_append,List.length_singleton];lia
end
section
variable {prog:Program} {w:World} {A:Around} {E:Value→Shared→Prop} {s:Shared}
end
section
variable {X:Cx}
end
end L2
namespace Att
open PySem PySem.W PySem.Calls PyProof.Rows
theorem gx {P:Params} {h:Heap}:∀ (ns:List Int) (vs:List Value),WellAll P h vs (ns.map WData.int)→IntsAre vs ns:=by
 intro ns
 induction ns with
 | nil =>
  intro vs w;rw [List.map_nil] at w
  cases w
  exact .nil
 | cons n ns ih =>
  intro vs w;rw [List.map_cons] at w
  cases w with
  | cons a b =>
   cases a
   exact .cons _ _ (ih _ b)
theorem oz {l:OpenLaw} {n:Nat} (hn:l.most=some n) {P:Params} {h:Heap} {args:List WData} {vals:List Value}
  (hpre:l.row.toRowW.claim.pre args=true) (hwl:WellAll P h vals args) :
  ∃ a vs ns,vals=[Value.ref a]∧args=[WData.list (ns.map WData.int)]∧h.get? a=some { cls:=.type "list",data:=.seq vs.toArray }∧IntsAre vs ns∧ns.length≤n:=by
 have hsh:WShape.hasAll [] args [.list .int]=true:=(pre_splitW hpre).1;have hc:l.pre.holds [] { args:=args }=true:=(pre_splitW hpre).2;obtain ⟨d,r,rfl,h1,h2⟩:=hasAllW_cons hsh;obtain rfl:=hasAllW_nil h2;obtain ⟨xs,rfl,h3⟩:=hasW_list h1;obtain ⟨ns,rfl⟩:=items_int h3;have hlen:ns.length≤n:=by
  unfold OpenLaw.pre at hc;have h4:(WTm.not (.lt (.lit (.int (n:Int))) (.len (.arg 0)))).holds [] { args:=[.list (ns.map .int)] }=true:=by
   have h4:=(holds_andW hc).1;rw [hn] at h4;exact h4
  have h5:=condW_of h4 (w_not (w_lt w_lit (w_len_list (w_arg rfl))));rw [List.length_map] at h5;refine Nat.le_of_not_lt fun q=>?_;have q':(n:Int) < ((ns.length:Nat):Int):=by lia
  first
   | (rw [decide_eq_true q'] at h5;exact absurd h5 (by decide))
   | (simp at h5;lia)
 cases hwl with
 | cons w1 w2 =>
  cases w2
  cases w1 with
  | list ho hall=>exact ⟨_,_,ns,rfl,rfl,ho,gx ns _ hall,hlen⟩
theorem oA (l:OpenLaw) (args:List WData):l.row.toRowW.claim.post args (.bool true) args=true :=
 postW_of (r:=l.row.toRowW) (X:=(true == true))
  (show WShape.has [] (.bool true) .bool=true by first | rfl | decide | simp [WShape.has,WShape.arms,WShape.armsAll])
  (show (WTm.eq .res (.lit (.bool true))).value [] { args:=args,res:=some (.bool true),after:=args }=some (.bool (true == true)) from w_eq_bool (w_res rfl) w_lit) rfl
theorem attach_call {l:OpenLaw} {n:Nat} {q:Program} {loose:List Str} {XP:(Str→Option Value)→Heap→Prop} {YP:World→Heap→Prop} {d:DefRec}
  (hn:l.most=some n) (hdf:d.params.defaults=[])
  (call:∀ (w:World) (s₀ s₁:Shared) (mg mb:Str→Option Value) (fa:Addr) (o:Obj) (pm cd doc:Value) (a:Addr) (vs:List Value) (ns:List Int),
   Ground q loose [] XP w s₀ mg mb s₁.heap→YP w s₁.heap →
   s₁.heap.get? fa=some o→o.data=.func (docDef d.name d.params d.body d.scope pm cd doc)→s₁.heap.CodeRec cd d.name→mg d.name=some (.ref fa) →
   s₁.heap.get? a=some { cls:=.type "list",data:=.seq vs.toArray }→IntsAre vs ns→ns.length≤n→s₁.gens=#[] →
   codeAny (model l.prog w) callerA (.call (.ref fa) ⟨[.ref a],[]⟩) (fun r s'=>r=.ok (.ret (.bool true))∧OldK s₁.heap s'.heap∧s'.os=s₁.os∧AllBare s'.gens) s₁) :
  WalkO q loose XP YP l.row.toRowW d [] (fun f vs=>PySem.call f vs):=by
 intro w s₀ s₁ mg mb G Y fa o pm cd doc dV kV ho hd hcd hD hmg hg args vals as hpre hlay hrd hwl hlo;obtain rfl:dV=.none:=Dflts.none hD hdf;obtain rfl:kV=.none:=Dflts.noKw hD;obtain ⟨a,vs,ns,rfl,rfl,hobj,hints,hlen⟩:=oz hn hpre hwl;refine enter_call (codeAny_mono (call w s₀ s₁ mg mb fa o pm cd doc a vs ns G Y ho (fd_plain hd) hcd hmg hobj hints hlen hg) fun r s' hq=>?_);obtain ⟨rfl,h2,h3,h4⟩:=hq;exact ⟨.inl ⟨.bool true,.bool true,[],rfl,fun _=>rfl,.bool true,oA l _,fun _=>⟨List.Pairwise.nil,fun _ hm=>(nomatch hm)⟩⟩,h2,h3,h4⟩
section
variable {prog:Program} {w:World} {A:Around} {E:Value→Shared→Prop} {s:Shared} {K:Frag}
end
end Att
namespace L2
open PySem PySem.Spec PyProof.Rows
theorem jv:∀ {vs:List Value} {ns:List Int},IntsAre vs ns→Vals (ns.map V.int) vs
 | _,_,.nil=>.nil
 | _,_,.cons n t h=>.cons ⟨t,rfl⟩ (jv h)
def rC (H:Hp):Prop:=∀ b,H b=none∨∃ o xs,H b=some (.frz o (.lst xs))
theorem pT {P:Program} {w:World} {K:PySem.W.Frag} {mg mb:Str→Option Value} {CX:CXT} {k:Nat} {fa a:Addr} {fd:FuncData} {x:Str} {sp:Sp} {s₁:Shared} {vs:List Value} {ns:List Int}
  (KX:K.In s₁.heap) (hns:s₁.heap.Ns mainGlobals mg) (hb:s₁.heap.Ns builtinsNs mb) (hbb:∀ x:Str,x≠ "__name__" →mb x=bootBuiltins x) (hlim:s₁.heap.NoLimit) (hg:s₁.gens=#[])
  (ha:s₁.heap.get? a=some { cls:=.type "list",data:=.seq vs.toArray }) (hi:IntsAre vs ns) (hl:ns.length≤sizeLine) (hr:Room k callerA)
  (F:∀ base:Heap,K.In base→base.Ns mainGlobals mg→FnOk P w K mg base CX k fa fd [x] sp) (hbind:∀ (s:Shared) (u:Value),BindsTo s fd ⟨[u],[]⟩ [(x,u)])
  (hsp:∀ H:Hp,rC H→SqL K H a (ns.map V.int)→sp [.ref a] H (fun v _=>v=.bl true) fun _ _ _=>False)
  (hCX:∀ H e s',CX [] H s₁ (fun _ _ _=>False) e s'→False) :
  codeAny (model P w) callerA (.call (.ref fa) ⟨[.ref a],[]⟩) (fun r s'=>r=.ok (.ret (.bool true))∧OldK s₁.heap s'.heap∧s'.os=s₁.os∧AllBare s'.gens) s₁:=by
 have rv:=jv hi;have lenV:=hi.length;have core:∀ H:Hp,rC H→SqL K H a (ns.map V.int)→HOk P w H s₁.heap→(∀ b,H b≠none→b=a)→(H a≠none→K.lookup a=none) →
   codeAny (model P w) callerA (.call (.ref fa) ⟨[.ref a],[]⟩) (fun r s'=>r=.ok (.ret (.bool true))∧OldK s₁.heap s'.heap∧s'.os=s₁.os∧AllBare s'.gens) s₁:=by
  intro H hO hS hok hA hK;have base_of:∀ {b:Addr} {o:Obj},s₁.heap.get? b=some o→H b=none→(jM s₁.heap H).get? b=some o:=fun e n=>pB e n;have noA:∀ {b:Addr} {o:Obj} {es:Array DictEntry} {ep:Nat},s₁.heap.get? b=some o→o.data=.dict es ep→H b=none:=fun {b o es ep} e d=>by
   cases q:H b with
   | none=>rfl
   | some u =>
    have e':b=a:=hA b (by rw [q];simp);subst e';rw [ha] at e;cases e;have d':Data.seq vs.toArray _=Data.dict es ep:=d
    cases d'
  have nsK:∀ {b:Addr} {m:Str→Option Value},s₁.heap.Ns b m→(jM s₁.heap H).Ns b m:=fun {b m} ⟨o,es,ep,e,d,r⟩=>⟨o,es,ep,base_of e (noA e d),d,r⟩;have hKb:K.In (jM s₁.heap H):=fun b o e=>base_of (KX b o e) (by
   cases q:H b with
   | none=>rfl
   | some u =>
    have e':b=a:=hA b (by rw [q];simp);subst e';rw [hK (by rw [q];simp)] at e;cases e)
  have hM:Mod K mg (jM s₁.heap H):=⟨hKb,nsK hns,⟨mb,nsK hb,hbb⟩,let ⟨mc,h1,h2⟩:=hlim;⟨mc,nsK h1,h2⟩⟩;have e0:Env0 P w K mg (jM s₁.heap H) callerA [] s₁ H:=⟨rfl,hM,fun b o e=>qZ e,Nat.le_of_eq (oh _ _),trivial,fun b hb=>absurd (show b∈([]:List Addr) from hb) (by simp),hok,.of_eq hg⟩;refine codeAny_mono ((F _ hKb (nsK hns)).run callerA [] s₁ H ⟨[.ref a],[]⟩ [.ref a] [.ref a] _ _ hr e0 (hbind s₁ (.ref a)) (.cons rfl .nil) (hsp H hO hS)) fun r s' h=>?_
  cases r with
  | error e=>exact (hCX H e s' h).elim
  | ok fl =>
   cases fl with
   | next=>exact False.elim h
   | brk=>exact False.elim h
   | cont=>exact False.elim h
   | ret u =>
    obtain ⟨v,H',os,bare,un,hok',r',q⟩:=h;have q':v=.bl true:=q;subst q';obtain rfl:u=Value.bool true:=r';refine ⟨rfl,OldK.of_keep fun b o e=>?_,os,bare⟩
    cases q:H b with
    | none=>exact un.keep b o e q (by intro z;exact absurd (show b∈([]:List Addr) from z) (by simp)) (by simp)
    | some u =>
     rcases hO b with z | ⟨ob,xs,z⟩
     ·rw [q] at z;cases z
     ·have z2:=un.frzs b ob _ z;obtain ⟨e1,_⟩:=hok b _ z;obtain ⟨e2,_⟩:=hok' b _ z2;rw [e] at e1;cases e1;exact e2
 cases hk:K.lookup a with
 | some o =>
  have e:=KX a o hk;rw [ha] at e
  cases e
  refine core (fun _=>none) (fun _=>.inl rfl) (.inr ⟨_,vs.toArray,_,hk,rfl,rfl,rfl,by rw [List.size_toArray,lenV];exact hl,by simpa using rv⟩) (fun b u z=>by have z':(none:Option HO)=some u:=z;cases z') (fun b z=>absurd rfl z) fun z=>absurd rfl z
 | none =>
  refine core (fun b=>if b=a then some (.frz { cls:=.type "list",data:=.seq vs.toArray } (.lst (ns.map V.int))) else none) (fun b=>?_) (.inl (.inr ⟨{ cls:=.type "list",data:=.seq vs.toArray },if_pos rfl⟩)) (fun b u z=>?_) (fun b z=>?_) fun _=>hk
  ·by_cases hb:b=a
   ·exact .inr ⟨_,_,if_pos hb⟩
   ·exact .inl (if_neg hb)
  ·by_cases hb:b=a
   ·have z':=(if_pos hb).symm.trans z
    cases z'
    subst hb;exact ⟨ha,by rw [List.length_map];exact hl,vs,_,rv,ha⟩
   ·have z':=(if_neg hb).symm.trans z
    cases z'
  ·by_cases hb:b=a
   ·exact hb
   ·exact absurd (if_neg hb) z
abbrev KOf {K:PySem.W.Frag} {h:Heap} (_:K.In h):PySem.W.Frag:=K
theorem rD {l:PySem.W.OpenLaw} {n k:Nat} {q:Program} {loose:List Str} {XP:(Str→Option Value)→Heap→Prop} {YP:World→Heap→Prop} {d:DefRec} {K:Params→PySem.W.Frag} {CX:World→CXT} {sp:World→Sp} {x:Str}
  (hn:l.most=some n) (hn2:n≤sizeLine) (hdf:d.params.defaults=[]) (hr:Room k callerA)
  (hY:∀ (w:World) (h:Heap),YP w h→(K w.params).In h)
  (F:∀ (w:World) (mg:Str→Option Value) (fa:Addr) (h:Heap),(K w.params).In h→h.Ns mainGlobals mg→mg d.name=some (.ref fa) →
   ∃ fd:FuncData,(∀ (s:Shared) (u:Value),BindsTo s fd ⟨[u],[]⟩ [(x,u)]) ∧
    ∀ base:Heap,(K w.params).In base→base.Ns mainGlobals mg→FnOk l.prog w (K w.params) mg base (CX w) k fa fd [x] (sp w))
  (hsp:∀ (w:World) (H:Hp) (a:Addr) (ns:List Int),ns.length≤n→rC H→SqL (K w.params) H a (ns.map V.int)→sp w [.ref a] H (fun v _=>v=.bl true) fun _ _ _=>False)
  (hCX:∀ (w:World) (H:Hp) (s:Shared) (e:Value) (s':Shared),CX w [] H s (fun _ _ _=>False) e s'→False) :
  PySem.W.WalkO q loose XP YP l.row.toRowW d [] (fun f vs=>PySem.call f vs):=by
 refine Att.attach_call hn hdf fun w s₀ s₁ mg mb fa o pm cd doc a vs ns G Y ho hd hcd hmg hobj hints hlen hg=>?_;have KX:=hY w _ Y;obtain ⟨fd,hb,hF⟩:=F w mg fa _ KX G.T.g hmg;exact pT KX G.T.g G.T.b G.T.builtins G.T.nolimit hg hobj hints (Nat.le_trans hlen hn2) hr hF hb (fun H hO hS=>hsp w H a ns hlen hO hS) fun H e s'=>hCX w H s₁ e s'
theorem CU {l:PySem.W.OpenLaw} {n k:Nat} {q:Program} {loose:List Str} {XP:(Str→Option Value)→Heap→Prop} {YP:World→Heap→Prop} {d:DefRec} {K:Params→PySem.W.Frag} {CX:CXT} {sp:PySem.W.Frag→Sp} {x:Str}
  (hn:l.most=some n) (hn2:n≤sizeLine) (hdf:d.params.defaults=[]) (hr:Room k callerA)
  (hY:∀ (w:World) (h:Heap),YP w h→(K w.params).In h)
  (F:∀ (w:World) (mg:Str→Option Value) (fa:Addr) (h:Heap),(K w.params).In h→h.Ns mainGlobals mg→mg d.name=some (.ref fa) →
   ∃ fd:FuncData,(∀ (s:Shared) (u:Value),BindsTo s fd ⟨[u],[]⟩ [(x,u)]) ∧
    ∀ base:Heap,(K w.params).In base→base.Ns mainGlobals mg→FnOk l.prog w (K w.params) mg base CX k fa fd [x] (sp (K w.params)))
  (hsp:∀ (K:PySem.W.Frag) (H:Hp) (a:Addr) (ns:List Int),ns.length≤n→rC H→SqL K H a (ns.map V.int)→sp K [.ref a] H (fun v _=>v=.bl true) fun _ _ _=>False)
  (hCX:∀ (H:Hp) (s:Shared) (e:Value) (s':Shared),CX [] H s (fun _ _ _=>False) e s'→False) :
  PySem.W.WalkO q loose XP YP l.row.toRowW d [] (fun f vs=>PySem.call f vs) :=
 rD (K:=K) (CX:=fun _=>CX) (sp:=fun w=>sp (K w.params)) hn hn2 hdf hr hY F (fun w H a ns h1 h2 h3=>hsp (K w.params) H a ns h1 h2 h3) fun _ H s e s'=>hCX H s e s'
end L2
namespace L2
open PySem PySem.Spec PyProof.Rows
abbrev CX0:CXT:=fun _ _ _ _ _ _=>False
abbrev E0:XK:=fun _ _ _=>False
theorem dA {X:Cx}:eH CX0 X E0:=fun _ _ _ _ _ _ _ h=>h.elim
structure Fun (K:PySem.W.Frag) (x qual:Str) (st:Stmt) (f:Addr) (fd:FuncData):Prop where
 ex:∃ (oc:Value) (od:Option Addr) (kV doc pm:Value) (an:Option Addr) (cdv ct:Value) (osl:Array (Option Value)),
  fd=PySem.W.fnOf x qual (br st) (aX st) (aa st) .none kV doc pm an cdv ct∧K.lookup f=some ⟨oc,od,.func fd,osl⟩∧PySem.W.codeIn K cdv qual=true
 kp:PySem.W.keepIn K (.ref f)=true
section
variable {P:Program} {w:World} {K:PySem.W.Frag} {mg:Str→Option Value} {base:Heap}
theorem Fun.ok {x qual:Str} {st:Stmt} {f:Addr} {fd:FuncData} {N ps:List Str} {k:Nat} {sp:Sp} (F:Fun K x qual st f fd) (S:FnScope N ps (aa st)) (len:∀ vs H Q E,sp vs H Q E→vs.length=ps.length)
  (hbody:∀ (cdv:Value) (A:Around) (outer:List Env) (s:Shared) (H:Hp) (vs:List V) (Q:VK) (E:XK),Room k (A.deeper (envOfC qual (aa st) s.heap.objs.size f cdv))→sp vs H Q E →
   ∃ t,PSs (kW CX0 P w K mg base N qual (aa st) f cdv A outer s H E).nox (aX st) t∧t { nx:=fun _ H'=>Q .non H',rt:=Q } (eY N vs) H):FnOk P w K mg base CX0 (k+1) f fd ps sp:=by
 obtain ⟨oc,od,kV,doc,pm,an,cdv,ct,osl,rfl,lk,hcd⟩:=F.ex;refine sJ lk hcd S len fun A outer s H vs Q E hr hsp=>?_;obtain ⟨t,h,q⟩:=hbody cdv A outer s H vs Q E hr hsp;exact ⟨t,h.nox,q⟩
theorem Fun.binds {x qual:Str} {st:Stmt} {f:Addr} {fd:FuncData} {ps:List Str} (F:Fun K x qual st f fd)
  (h:∀ (kV doc pm:Value) (an:Option Addr) (cdv ct:Value) (us:List Value),us.length=ps.length→bindArgs (PySem.W.fnOf x qual (br st) (aX st) (aa st) .none kV doc pm an cdv ct) ⟨us,[]⟩=pure (ps.zip us)):Binds K fd ps []:=by
 obtain ⟨oc,od,kV,doc,pm,an,cdv,ct,osl,rfl,lk,hcd⟩:=F.ex;exact .all (h kV doc pm an cdv ct)
theorem fN {x qual:Str} {st:Stmt} {f:Addr} {oc:Value} {od an:Option Addr} {osl:Array (Option Value)} {kV doc pm cdv ct:Value} (l:K.lookup f=some ⟨oc,od,.func (PySem.W.fnOf x qual (br st) (aX st) (aa st) .none kV doc pm an cdv ct),osl⟩)
  (c:PySem.W.codeIn K cdv qual=true) (k:PySem.W.keepIn K (.ref f)=true):Fun K x qual st f (PySem.W.fnOf x qual (br st) (aX st) (aa st) .none kV doc pm an cdv ct):=⟨⟨oc,od,kV,doc,pm,an,cdv,ct,osl,rfl,l,c⟩,k⟩
end
theorem bc {n:Nat} (h:n≤1000):n < sizeLine:=Nat.lt_of_le_of_lt h (by decide)
section
variable {X:Cx}
theorem pv (i:Nat) {x:Str} {pos:Pos} (hN:X.N[i]?=some x:=by rfl) (hv:Vis X.env.scope x:=by first | exact Or.inl rfl | exact Or.inr (Or.inl rfl) | exact Or.inr (Or.inr rfl)) (hd:(x == ("__debug__" : Str))=false:=by decide)
  (hcd:(x == ("__classdict__" : Str))=false:=by decide):PE X (.Name x pos) (wL i):=wM hN hv hd hcd
end
theorem bx {A B:Prop} (h:B):if false=true then A else B:=by
 rw [if_neg Bool.false_ne_true];exact h
theorem bT {A B:Prop} (h:A):if true=true then A else B:=by
 rw [if_pos rfl];exact h
theorem bu {c A B:Prop} [Decidable c] (h1:c→A) (h2:¬ c→B):if c then A else B:=by
 by_cases h:c
 ·rw [if_pos h];exact h1 h
 ·rw [if_neg h];exact h2 h
def Same (H H':Hp):Prop:=∀ b o,H b=some o→H' b=some o
theorem Same.refl (H:Hp):Same H H:=fun _ _ h=>h
theorem Same.trans {H H1 H2:Hp} (a:Same H H1) (b:Same H1 H2):Same H H2:=fun c o h=>b c o (a c o h)
theorem Same.free {H H':Hp} (e:Same H H') {l:Addr} (h:H' l=Option.none):H l=Option.none:=by
 cases q:H l with
 | none=>rfl
 | some o =>
  rw [e l o q] at h
  cases h
theorem Same.seq {K:PySem.W.Frag} {H H':Hp} {a:Addr} {xs:List V} (e:Same H H') (h:SqL K H a xs):SqL K H' a xs:=by
 rcases h with (h | ⟨o,h⟩) | h
 ·exact .inl (.inl (e _ _ h))
 ·exact .inl (.inr ⟨o,e _ _ h⟩)
 ·exact .inr h
def dq (env:Env):List (Str×NameKind)→List (Str×Addr)→List (Str×Addr)
 | [],cs=>cs
 | (n,k) :: r,cs=>dq env r (if k == .free then (n,(env.cells.lookup n).getD 0) :: cs else cs)
theorem mx {env:Env} {scope:Scope} (h:∀ x∈scope.names,x.2=.free→∃ c,env.cells.lookup x.1=some c):closureFor scope env=pure (dq env scope.names []):=by
 simp only [closureFor];have go:∀ (l:List (Str×NameKind)) (cs:List (Str×Addr)),(∀ x∈l,x.2=.free→∃ c,env.cells.lookup x.1=some c) →
   (forIn l cs fun (x:Str×NameKind) (r:List (Str×Addr))=>(do
    let (name,kind):=x
    if kind == .free then
     let a ← cellOf env name
     pure (ForInStep.yield ((name,a) :: r))
    else pure (ForInStep.yield r):Sem (ForInStep (List (Str×Addr)))))=pure (dq env l cs):=by
  intro l
  induction l with
  | nil=>intro cs _;rfl
  | cons x r ih =>
   intro cs hx;obtain ⟨n,k⟩:=x;rw [List.forIn_cons]
   by_cases hk:k=.free
   ·obtain ⟨c,hc⟩:=hx (n,k) List.mem_cons_self hk;subst hk;have e:cellOf env n=pure c:=by unfold cellOf;rw [hc]
    simp only [beq_self_eq_true,if_true,e,pure_bind];rw [ih _ fun y hy=>hx y (List.mem_cons_of_mem _ hy)];simp only [dq,beq_self_eq_true,if_true,hc,Option.getD_some]
   ·have hb:(k == NameKind.free)=false:=by simpa using hk
    simp only [hb,Bool.false_eq_true,if_false,pure_bind];rw [ih _ fun y hy=>hx y (List.mem_cons_of_mem _ hy)];simp only [dq,hb,Bool.false_eq_true,if_false]
 have g:=go scope.names [] h
 first
  | exact (by rw [g]:_=_)
  | (rw [← bind_pure (pure (dq env scope.names []))];rw [← g];rfl)
  | (simp only [g,pure_bind])
theorem fP {env:Env}:∀ (l:List (Str×NameKind)) (cs:List (Str×Addr)),(∀ x∈l,x.2=.free→∃ c,env.cells.lookup x.1=some c)→(∀ x c,cs.lookup x=some c→env.cells.lookup x=some c) →
  ∀ x c,(dq env l cs).lookup x=some c→env.cells.lookup x=some c
 | [],_,_,h=>h
 | (n,k) :: r,cs,hx,h=>by
  refine fP r _ (fun y hy=>hx y (List.mem_cons_of_mem _ hy)) ?_;intro x c e
  by_cases hk:k=.free
  ·obtain ⟨c',hc⟩:=hx (n,k) List.mem_cons_self hk;subst hk;simp only [beq_self_eq_true,if_true,hc,Option.getD_some] at e;rw [List.lookup_cons] at e
   cases q:x == n with
   | true =>
    rw [q] at e;have q':x=n:=by simpa using q
    cases e
    rw [q'];exact hc
   | false=>rw [q] at e;exact h x c e
  ·have hb:(k == NameKind.free)=false:=by simpa using hk
   simp only [hb,Bool.false_eq_true,if_false] at e;exact h x c e
theorem gl {env:Env}:∀ (l:List (Str×NameKind)) (cs:List (Str×Addr)) (x:Str),(∃ c,cs.lookup x=some c)→∃ c,(dq env l cs).lookup x=some c
 | [],_,_,h=>h
 | (n,k) :: r,cs,x,h=>by
  refine gl r _ x ?_
  split
  ·rw [List.lookup_cons]
   cases q:x == n with
   | true=>exact ⟨_,rfl⟩
   | false=>exact h
  ·exact h
theorem ei {env:Env}:∀ (l:List (Str×NameKind)) (cs:List (Str×Addr)) (x:Str),l.lookup x=some .free→∃ c,(dq env l cs).lookup x=some c
 | [],_,_,h=>by simp at h
 | (n,k) :: r,cs,x,h=>by
  rw [List.lookup_cons] at h
  cases q:x == n with
  | true =>
   rw [q] at h
   cases h
   refine gl r _ x ?_;simp only [beq_self_eq_true,if_true];rw [List.lookup_cons,q];exact ⟨_,rfl⟩
  | false=>rw [q] at h;exact ei r _ x h
theorem cU {env:Env}:∀ {names:List (Str×NameKind)} {x:Str} {k':NameKind},
  (names.map fun (n,k)=>if (k == NameKind.free && env.scope.kind == .function && env.kindOf n == some .cell) then (n,NameKind.cell) else (n,k)).lookup x=some k' →
  ∃ k,names.lookup x=some k∧(k'=k∨(k=.free∧k'=.cell))
 | [],_,_,h=>by simp at h
 | (n,k) :: r,x,k',h=>by
  have ih:=@cU env r x k';rw [List.map_cons] at h
  by_cases hc:(k == NameKind.free && env.scope.kind == .function && env.kindOf n == some .cell)=true
  ·have h2:List.lookup x ((n,NameKind.cell) :: r.map fun (n,k)=>if (k == NameKind.free && env.scope.kind == .function && env.kindOf n == some .cell) then (n,NameKind.cell) else (n,k))=some k':=by
    simpa [hc] using h
   rw [List.lookup_cons] at h2;rw [List.lookup_cons]
   cases q:x == n with
   | true =>
    rw [q] at h2
    cases h2
    have hk:k=.free:=by
     simp only [Bool.and_eq_true] at hc
     simpa using hc.1.1
    exact ⟨k,rfl,.inr ⟨hk,rfl⟩⟩
   | false=>rw [q] at h2;exact ih h2
  ·have h2:List.lookup x ((n,k) :: r.map fun (n,k)=>if (k == NameKind.free && env.scope.kind == .function && env.kindOf n == some .cell) then (n,NameKind.cell) else (n,k))=some k':=by
    simpa [hc] using h
   rw [List.lookup_cons] at h2;rw [List.lookup_cons]
   cases q:x == n with
   | true=>rw [q] at h2;cases h2;exact ⟨_,rfl,.inl rfl⟩
   | false=>rw [q] at h2;exact ih h2
def ccx (X:Cx) (scope:Scope) (C:Addr) (N':List Str) (s₀:Shared) (H₀:Hp) (fp:List Addr):Cx :=
 { X with N:=N',s₀:=s₀,H₀:=H₀,env:=compEnvC scope (dq X.env scope.names []) C X.env,outer:=X.stack,stack:=X.stack,ex:=fp,fn:=fun _=>false,pn:=[],xe:=fun _ _=>False }
def cst (k:Nat) (ρ:List Nat) (σ:St):St:=List.replicate k none++ρ.map fun j=>(σ[j]?).join
structure CScope (X:Cx) (scope:Scope) (NL:List Str) (ρ:List Nat) (N':List Str):Prop where
 kind:scope.kind=.function
 nocell:∀ x∈scope.names,x.2≠.cell
 locs:∀ x∈scope.names,x.2=.local→scope.names.lookup x.1=some .local
 frees:∀ x∈scope.names,x.2=.free→X.env.kindOf x.1=some .cell∨X.env.kindOf x.1=some .free
 names:N'=NL++ρ.map fun j=>X.N.getD j ""
 outs:∀ j∈ρ,∃ x,X.N[j]?=some x∧scope.names.lookup x=some .free∧(X.env.scope.names.lookup x=some .cell∨X.env.scope.names.lookup x=some .free)
section
variable {X:Cx}
theorem rE {scope:Scope} {NL N':List Str} {ρ:List Nat} (S:CScope X scope NL ρ N') {pins:List (Addr×Obj)} {σ:St} {H:Hp} {s:Shared} {fp:List Addr} {C:Addr} (I:Inv X pins σ H s) (hf:∀ b∈fp,eW X pins H b)
  (hfo:∀ b∈fp,∃ o,s.heap.get? b=some o) (hC:s.heap.objs.size≤C):(ccx X scope C N' s H fp).Ok:=by
 have free_in:∀ x∈scope.names,x.2=.free→∃ c,X.env.cells.lookup x.1=some c:=fun x hx hk=>I.ok.has x.1 (S.frees x hx hk);have sub:=fP (env:=X.env) scope.names [] free_in (fun x c e=>by simp at e);refine ⟨I.ok.mod,S.kind,I.ok.glob,I.ok.blt,hC,?_,?_,?_,I.ok.hd,I.ok.frames,.inl rfl,?_,I.bs,?_,?_,?_,I.stack,I.stkFree⟩
 ·exact fun x y c e1 e2=>I.ok.inj x y c (sub x c e1) (sub y c e2)
 ·intro x hx;have hx':(relabel scope X.env).names.lookup x=some .cell∨(relabel scope X.env).names.lookup x=some .free:=hx;have look:∀ k',(relabel scope X.env).names.lookup x=some k'→(k'=.cell∨k'=.free)→scope.names.lookup x=some .free:=fun k' e hk=>by
   obtain ⟨k,e1,z⟩:=cU e;rcases z with z | ⟨z,_⟩
   ·subst z;rcases hk with z | z
    ·subst z;have hm:(x,NameKind.cell)∈scope.names:=mem_of_lookup e1;exact absurd rfl (S.nocell _ hm)
    ·subst z;exact e1
   ·subst z;exact e1
  rcases hx' with e | e
  ·exact ei scope.names [] x (look _ e (.inl rfl))
  ·exact ei scope.names [] x (look _ e (.inr rfl))
 ·intro x c e;exact absurd e (by show ¬ (false=true);decide)
 ·intro b hb;obtain ⟨f0,f1,f2,f3,f4,f5⟩:=hf b hb;refine ⟨?_,fun x c e=>f4 x c (sub x c e)⟩;obtain ⟨o,ho⟩:=hfo b hb;exact Nat.ne_of_lt (Nat.lt_of_lt_of_le (Heap.lt_size ho) hC)
 ·exact Nat.le_trans I.ok.bsz I.sz
 ·intro b o e hb;obtain ⟨f0,f1,f2,f3,f4,f5⟩:=hf b hb;rcases f3 with z | z
  ·exact I.ok.noex b o e z
  ·exact absurd (Nat.lt_of_lt_of_le (Heap.lt_size e) (Nat.le_trans I.ok.bsz z)) (Nat.lt_irrefl _)
 ·intro b hb z;obtain ⟨f0,f1,f2,f3,f4,f5⟩:=hf b hb;rcases List.mem_cons.mp (I.stkSub b z) with e | e
  ·exact f1 e
  ·exact f2 e
end
section
variable {X:Cx}
theorem Inv.comp {scope:Scope} {NL N':List Str} {ρ:List Nat} (S:CScope X scope NL ρ N') {pins:List (Addr×Obj)} {σ:St} {H:Hp} {s:Shared} {fp:List Addr} {C D:Addr} {h':Heap} {t':Nat} (I:Inv X pins σ H s) (hf:∀ b∈fp,eW X pins H b)
  (hfo:∀ b∈fp,∃ o,s.heap.get? b=some o) (hC:s.heap.objs.size≤C) (hD:s.heap.objs.size≤D) (hDC:D≠C) (k:∀ b u,s.heap.get? b=some u→h'.get? b=some u)
  (hd:h'.get? D=some { cls:=.type "list",data:=.seq #[] 0 }) (hn:h'.Ns C fun _=>none) :
  Inv (ccx X scope C N' s H fp) (X.pn++pins) (cst NL.length ρ σ) (upd H D (.lst [])) { s with heap:=h',toks:=t' }:=by
 have ok:=rE S I hf hfo hC;have free_in:∀ x∈scope.names,x.2=.free→∃ c,X.env.cells.lookup x.1=some c:=fun x hx hk=>I.ok.has x.1 (S.frees x hx hk);have sub:=fP (env:=X.env) scope.names [] free_in (fun x c e=>by simp at e);have fresh:∀ b,s.heap.objs.size≤b→H b=none:=fun b hb=>I.hok.fresh hb;have neD:∀ b o,s.heap.get? b=some o→b≠D:=fun b o e=>Nat.ne_of_lt (Nat.lt_of_lt_of_le (Heap.lt_size e) hD);have neH:∀ b u,H b=some u→b≠D:=fun b u e=>am e (fresh D hD);refine ⟨ok,rfl,I.bare,⟨fun b o e _ _ _=>k b o e,fun b o e _ _ _=>⟨o.slots,k b o e⟩,fun b o e n _=>?_,fun b o e _=>⟨o,k b o e⟩,fun b xs e=>?_,fun b o u e=>?_,fun b ps e=>⟨#[],?_⟩⟩,⟨_,hn,?_⟩,?_,?_,?_,?_,?_,?_⟩
 ·show upd H D _ b=none;rw [af (neD b o e)];exact n
 ·show upd H D _ b=_;rw [af (neH b _ e)];exact e
 ·show upd H D _ b=_;rw [af (neH b _ e)];exact e
 ·show upd H D _ b=_;rw [af (neH b _ e)];have e':H b=some (.tbl ps):=e;rw [e'];simp
 ·-- the names around
  intro i x v e1 e2 hv;obtain ⟨m,hm,hl⟩:=I.loc;have eN:(NL++ρ.map fun j=>X.N.getD j "")[i]?=some x:=by
   have e1':N'[i]?=some x:=e1;rw [S.names] at e1';exact e1'
  have eσ:(List.replicate NL.length (none:Option V)++ρ.map fun j=>(σ[j]?).join)[i]?=some (some v):=e2
  by_cases hi:i < NL.length
  ·rw [List.getElem?_append_left (by simpa using hi)] at eσ;rw [List.getElem?_replicate] at eσ
   split at eσ <;> cases eσ
  ·have hi':NL.length≤i:=Nat.le_of_not_lt hi;rw [List.getElem?_append_right (by simpa using hi'),List.length_replicate,List.getElem?_map] at eσ;rw [List.getElem?_append_right hi',List.getElem?_map] at eN
   cases q:ρ[i - NL.length]? with
   | none=>rw [q] at eN;cases eN
   | some j =>
    rw [q] at eN eσ;obtain ⟨y,ey,f1,f2⟩:=S.outs j (List.mem_of_getElem? q);have exy:X.N.getD j "" = y:=by rw [List.getD_eq_getElem?_getD,ey];rfl
    have exx:X.N.getD j "" = x:=Option.some.inj eN;have xy:x=y:=exx.symm.trans exy;subst xy;have eσ':(σ[j]?).join=some v:=Option.some.inj eσ;have eσ2:σ[j]?=some (some v):=by
     cases z:σ[j]? with
     | none=>rw [z] at eσ';cases eσ'
     | some w=>rw [z] at eσ';exact congrArg some eσ'
    have vis:Vis X.env.scope x:=by
     rcases f2 with z | z
     ·exact .inr (.inl z)
     ·exact .inr (.inr z)
    obtain ⟨u,r,l⟩:=hl j x v ey eσ2 vis;refine ⟨u,r,?_⟩;obtain ⟨c,hc⟩:=ei (env:=X.env) scope.names [] x f1;rcases l with ⟨kl,_⟩ | ⟨_,c',hc',z⟩
    ·have kl':X.env.scope.names.lookup x=some .local:=kl;rcases f2 with z | z
     ·rw [z] at kl';cases kl'
     ·rw [z] at kl';cases kl'
    ·have e3:=sub x c hc;rw [hc'] at e3;obtain rfl:=Option.some.inj e3;obtain ⟨oc,hoc,hcd⟩:=z;have hv':(relabel scope X.env).names.lookup x=some .local∨(relabel scope X.env).names.lookup x=some .cell∨(relabel scope X.env).names.lookup x=some .free:=hv;refine .inr ⟨?_,c',hc,oc,k _ _ hoc,hcd⟩;rcases hv' with z | z | z
     ·obtain ⟨k0,e4,z2⟩:=cU z;rw [f1] at e4
      cases e4
      rcases z2 with z2 | ⟨_,z2⟩ <;> cases z2
     ·exact .inl z
     ·exact .inr z
 ·intro x c e;obtain ⟨v,oc,hoc,hcd⟩:=I.cell x c (sub x c e);exact ⟨v,oc,k _ _ hoc,hcd⟩
 ·show upd H D _ C=none;rw [af (Ne.symm hDC)];exact fresh C hC
 ·intro x c e;obtain ⟨v,oc,hoc,hcd⟩:=I.cell x c (sub x c e);rw [af (neD c oc hoc)];exact I.freeC x c (sub x c e)
 ·intro p hp;have hp':p∈X.pn++pins:=hp;obtain ⟨e,n,ne,nf,d⟩:=I.pin p hp';refine ⟨k _ _ e,?_,?_,?_,d⟩
  ·rw [af (neD p.1 p.2 e)];exact n
  ·exact Nat.ne_of_lt (Nat.lt_of_lt_of_le (Heap.lt_size e) hC)
  ·intro z;rcases List.mem_cons.mp (I.stkSub p.1 z) with q | q
   ·exact ne q
   ·exact nf q
 ·exact I.hok.laid k hD ⟨Nat.zero_le _,[],0,.nil,hd⟩
 ·show (List.replicate NL.length (none:Option V)++ρ.map fun j=>(σ[j]?).join).length=N'.length;rw [S.names];simp
theorem Inv.compEnd {scope:Scope} {N':List Str} {pins:List (Addr×Obj)} {σ σ':St} {H H':Hp} {s s':Shared} {fp:List Addr} {C:Addr} {h':Heap} {pins':List (Addr×Obj)} (I:Inv X pins σ H s) (hf:∀ b∈fp,eW X pins H b) (hC:s.heap.objs.size≤C)
  (J:Inv (ccx X scope C N' s H fp) pins' σ' H' s') (hs:Heap.SameBut C s'.heap h'):Inv X pins σ H' { s' with heap:=h' }:=by
 have hn:H' C=none:=J.free;have nC:∀ b o,s.heap.get? b=some o→b≠C:=fun b o e=>Nat.ne_of_lt (Nat.lt_of_lt_of_le (Heap.lt_size e) hC);have B:Un (frs X.stack) fp H H' s.heap s'.heap:=J.base;have U:Un (frs X.stack) fp H H' s.heap h':=⟨fun b o e n hb hx=>(hs.2 b (nC b o e)).trans (B.keep b o e n hb hx),fun b o e n hb hx=>by
   obtain ⟨sl,q⟩:=B.slot b o e n hb hx;exact ⟨sl,(hs.2 b (nC b o e)).trans q⟩,B.free,fun b o e hx=>by
   obtain ⟨o',q⟩:=B.there b o e hx;exact ⟨o',(hs.2 b (nC b o e)).trans q⟩,B.tups,B.frzs,B.tbls⟩
 have hok:HOk X.prog X.w H' h':=fun b u e=>by
  refine (J.hok b u e).stay (fun c v hc q=>(hs.2 c ?_).trans q) (fun _ q=>q) fun _ _ q=>q;rintro rfl;rcases hc with rfl | hc
  ·rw [hn] at e;cases e
  ·rw [hn] at hc;cases hc
 refine Inv.call' (s':={ s' with heap:=h' }) I J.os U hok J.bare fun b hb=>?_;obtain ⟨f0,f1,f2,f3,f4,f5⟩:=hf b hb;exact ⟨f3,f1,f4,f5⟩
def sK (k:Nat) (ρ:List Nat) (wi:TI) (g:TG) (tb:List V→Addr→St→Hp→(List V→St→Hp→Prop)→Prop):TE:=fun σ H Q =>
 wi σ H fun J H1=>∀ l,H1 l=none→∃ W:Nat→Nat→List V→St→Hp→Prop,(∃ m,W 0 m [] (cst k ρ σ) (upd H1 l (.lst []))) ∧
  ∀ i m ys σ' H',W i m ys σ' H'→(J.stop i H'∧Q (.ref l) H')∨(J.go i H'∧∀ x H'',J.yld i H' x H''→g x σ' H'' fun σ2 H2=>tb ys l σ2 H2 fun ys' σ3 H3=>∃ m',m' < m∧W (i+1) m' ys' σ3 H3)
def cEl (te:TE):List V→Addr→St→Hp→(List V→St→Hp→Prop)→Prop:=fun ys l σ H N=>te σ H fun y H1=>H1 l=some (.lst ys)∧ys.length < sizeLine∧N (ys++[y]) σ (upd H1 l (.lst (ys++[y])))
def PB (X:Cx) (body:Value→Sem Unit) (tb:List V→Addr→St→Hp→(List V→St→Hp→Prop)→Prop):Prop :=
 ∀ (pins:List (Addr×Obj)) (s:Shared) (σ:St) (H:Hp) (l:Addr) (ys:List V) (N:List V→St→Hp→Prop),Inv X pins σ H s→tb ys l σ H N →
  wpAny (model X.prog X.w) X.A (body (.ref l)) (fun _ s'=>∃ ys' σ' H',Inv X pins σ' H' s'∧N ys' σ' H') X.xe s
theorem CV {elt:Expr} {te:TE} (he:PE X elt te):PB X (fun acc=>do let x ← eval elt X.env;let _ ← call (.builtin "list.append") [acc,x];pure ()) (cEl te):=by
 intro pins s σ H l ys N I h;refine wpAny_bind (thn (he pins s σ H _ I h) fun u s1 ⟨y,H1,I1,r1,q0,q1,q2⟩=>wpAny_bind ?_);refine thn (cM pins s1 σ H1 (.ref l) [y] (.ref l) [u] (fun v H'=>v=.non∧N (ys++[y]) σ H') I1 rfl (.cons r1 .nil) ⟨l,ys,y,rfl,rfl,q0,q1,rfl,q2⟩) fun _ s2 ⟨v,H2,I2,_,_,n2⟩=>wpAny_pure ⟨_,σ,H2,I2,n2⟩
theorem pU (elt target iter:Expr) (scope:Scope) (pos:Pos) (it acc:Value) (env:Env) :
  compTurn (.ListComp elt [⟨target,iter,[],0⟩] scope pos) 0 it acc env=(standAt iter.pos >>= fun _=>pyNext it >>= fun r=>match r with
   | none=>pure (.done .next)
   | some v=>letOwnedTupleGo target it v >>= fun _=>assign target env v >>= fun _ =>
    (do let x ← eval elt env;let _ ← call (.builtin "list.append") [acc,x];pure ():Sem Unit) >>= fun _=>again (.compLoop (.ListComp elt [⟨target,iter,[],0⟩] scope pos) 0 it acc env)):=by rfl
end
section
variable {X:Cx}
theorem pV {elt tgt iter:Expr} {ifs:List Expr} {scope:Scope} {pos:Pos} {NL N':List Str} {ρ:List Nat} {wi:TI} {g:TG} {tb:List V→Addr→St→Hp→(List V→St→Hp→Prop)→Prop} {body:Value→Env→Sem Unit}
  (hc:X.calm=true) (S:CScope X scope NL ρ N') (hi:PI X tgt iter wi)
  (hg:∀ C s₀ H₀ fp,PG (ccx X scope C N' s₀ H₀ fp) tgt g) (hb:∀ C s₀ H₀ fp,PB (ccx X scope C N' s₀ H₀ fp) (fun acc=>body acc (ccx X scope C N' s₀ H₀ fp).env) tb)
  (he:∀ (it acc:Value) (env:Env),compTurn (.ListComp elt [⟨tgt,iter,ifs,0⟩] scope pos) 0 it acc env=(standAt iter.pos >>= fun _=>pyNext it >>= fun r=>match r with
   | none=>pure (.done .next)
   | some v=>letOwnedTupleGo tgt it v >>= fun _=>assign tgt env v >>= fun _=>body acc env >>= fun _=>again (.compLoop (.ListComp elt [⟨tgt,iter,ifs,0⟩] scope pos) 0 it acc env)))
  (hs:∀ x,foldedSetIterable iter X.env x=pure x:=by intro _;rfl):PE X (.ListComp elt [⟨tgt,iter,ifs,0⟩] scope pos) (sK NL.length ρ wi g tb):=by
 intro pins s σ H Q I h;have free_in:∀ x∈scope.names,x.2=.free→∃ c,X.env.cells.lookup x.1=some c:=fun x hx hk=>I.ok.has x.1 (S.frees x hx hk);rw [eval_ListComp];refine wpAny_comprehension_free (use:=none) rfl hs (mx free_in) S.kind S.locs ?_;refine thn (hi pins s σ H _ I h) fun v s1 h1=>thn h1 fun itv s2 h2=>?_;obtain ⟨it,fp,tn,J,H2,e,I2,T,st2,f2,w⟩:=h2;subst e;refine wpAny_newObj_type (wpAny_newFunctionEnv S.nocell (by intro y hy;simp at hy) (fun h₁ hns₁ hsb₁=>?_) S.kind);dsimp only at hns₁ hsb₁ ⊢
 generalize hH2:s2.heap.push { cls:=.type "list",dict:=none,data:=.seq ([]:List Value).toArray }=h2' at hns₁ hsb₁ ⊢
 have hCs:h2'.objs.size=s2.heap.objs.size+1:=by rw [← hH2,Heap.size_push]
 have hDC:s2.heap.objs.size≠h2'.objs.size:=by rw [hCs];exact Nat.ne_of_lt (Nat.lt_succ_self _)
 have hC:s2.heap.objs.size≤h2'.objs.size:=by rw [hCs];exact Nat.le_succ _
 have old:∀ b o,s2.heap.get? b=some o→h₁.get? b=some o:=fun b o e=>hsb₁.extBut b o (Nat.ne_of_lt (Nat.lt_of_lt_of_le (Heap.lt_size e) hC)) (Heap.get?_push_of_some _ (hH2 ▸ Heap.get?_push_of_some _ e));have hd:h₁.get? s2.heap.objs.size=some { cls:=.type "list",data:=.seq #[] 0 }:=hsb₁.extBut _ _ hDC (Heap.get?_push_of_some _ (hH2 ▸ Heap.get?_push_size _ rfl));have hfo:∀ b∈fp,∃ o,s2.heap.get? b=some o:=fun b hb=>let ⟨o,e,_⟩:=T.obj _ _ st2 b hb;⟨o,e⟩;have I4:Inv (ccx X scope h2'.objs.size N' s2 H2 fp) (X.pn++pins) (cst NL.length ρ σ) (upd H2 s2.heap.objs.size (.lst [])) { s2 with heap:=h₁,toks:=s2.toks+([]:List (Str×Value)).length } :=
  Inv.comp S I2 f2 hfo hC (Nat.le_refl _) hDC old hd (by simpa using hns₁)
 have hD0:H2 s2.heap.objs.size=none:=I2.hok.fresh (Nat.le_refl _);have nfp:s2.heap.objs.size∉fp:=fun z=>by
  obtain ⟨o,e⟩:=hfo _ z;exact absurd (Heap.lt_size e) (Nat.lt_irrefl _)
 obtain ⟨W,⟨m0,w0⟩,turn⟩:=w s2.heap.objs.size hD0;have stat:∀ {H':Hp},(∀ b∈fp,H' b=none)→∀ b∈fp,eW (ccx X scope h2'.objs.size N' s2 H2 fp) (X.pn++pins) H' b:=fun {H'} hn b hb=>by
  obtain ⟨f0,f1,f2',f3,f4,f5⟩:=f2 b hb;have ok:=I4.ok;refine ⟨hn b hb,(ok.exf b hb).1,ok.exfs b hb,.inl hb,(ok.exf b hb).2,fun p hp=>f5 p hp⟩
 have loop:∀ s₃:Shared,s₃={ s2 with heap:=h₁,toks:=s2.toks+([]:List (Str×Value)).length } →
   codeAny (model X.prog X.w) X.A (.compLoop (.ListComp elt [⟨tgt,iter,ifs,0⟩] scope pos) 0 (.ref it) (.ref s2.heap.objs.size) (compEnvC scope (dq X.env scope.names []) h2'.objs.size X.env))
    (compPost (model X.prog X.w) X.A X.xe none (EP X pins σ Q) (.ref s2.heap.objs.size) h2'.objs.size) s₃:=by
  rintro s₃ rfl;refine codeAny_loop rfl (fun n s'=>∃ i ys σ' H',Inv (ccx X scope h2'.objs.size N' s2 H2 fp) (X.pn++pins) σ' H' s'∧tn i s'.heap∧(∀ b∈fp,H' b=none)∧W i n ys σ' H') (fun n s3 hI=>?_) m0
   ⟨0,[],_,_,I4,T.keep _ _ _ st2 (fun b _ o e=>old b o e),fun b hb=>?_,w0⟩
  ·obtain ⟨i,ys,σ3,H3,I3,st3,fr3,w3⟩:=hI;show wpAny _ _ ((compTurn (.ListComp elt [⟨tgt,iter,ifs,0⟩] scope pos) 0 (.ref it) (.ref s2.heap.objs.size) (compEnvC scope (dq X.env scope.names []) h2'.objs.size X.env)).onRaise (fun x=>do noteFrame x _;theTreesLotGoes x)) _ _ s3;refine wpAny_noted ?_;rw [he];refine wpAny_bind (wpAny_standAt (wpAny_bind ?_));rcases turn i n ys σ3 H3 w3 with ⟨stop,qn⟩ | ⟨go,step⟩
   ·refine thn (T.done (ccx X scope h2'.objs.size N' s2 H2 fp) rfl rfl rfl hc i _ s3 σ3 H3 _ I3 (stat fr3) st3 stop) fun r s4 ⟨hr,I5⟩=>?_;subst hr;refine wpAny_pure ?_;obtain ⟨m,hm,_⟩:=id I5.loc;exact ⟨m,hm,fun h' hs'=>⟨.ref s2.heap.objs.size,H3,Inv.compEnd I2 f2 hC I5 hs',rfl,qn⟩⟩
   ·refine thn (T.item (ccx X scope h2'.objs.size N' s2 H2 fp) rfl rfl rfl hc i _ s3 σ3 H3 _ I3 (stat fr3) st3 go) fun r s4 ⟨u,hr,h4⟩=>?_;subst hr;refine wpAny_bind (thn h4 fun _ s5 ⟨x,H5,I5,r5,y5,st5,fr5⟩=>?_);have I5':=I5.pinned (stat fr5) (T.obj _ _ st5);refine wpAny_bind (wpAny_mono (hg h2'.objs.size s2 H2 fp _ s5 σ3 H5 x u _ I5' r5 (step x H5 y5)) (fun _ s6 ⟨σ6,H6,I6,q6⟩=>?_) fun _ _ z=>z.elim);refine wpAny_bind (wpAny_mono (hb h2'.objs.size s2 H2 fp _ s6 σ6 H6 s2.heap.objs.size ys _ I6 q6) (fun _ s7 ⟨ys7,σ7,H7,I7,m',hm,w7⟩=>?_) fun _ _ z=>z.elim);refine wpAny_pure ⟨rfl,m',hm,i+1,ys7,σ7,H7,I7.unpinned,T.keep _ _ _ st5 fun b hb o e=>(I7.pin (b,o) (List.mem_append_right _ (List.mem_append_right _ (cS hb e)))).1,fun b hb=>?_,w7⟩;obtain ⟨o,e,d⟩:=T.obj _ _ st5 b hb;exact (I7.pin (b,o) (List.mem_append_right _ (List.mem_append_right _ (cS hb e)))).2.1
  ·rw [af (show b≠s2.heap.objs.size from fun z=>nfp (by rw [← z];exact hb))];exact (f2 b hb).1
 refine codeAny_compStart_list (loop _ rfl) (T.self _ 0 _ _ _ ?_ (loop _ rfl));exact T.keep _ _ _ st2 fun b _ o e=>old b o e
theorem pe_comp {elt tgt iter:Expr} {scope:Scope} {pos:Pos} {NL N':List Str} {ρ:List Nat} {wi:TI} {g:TG} {te:TE} (hc:X.calm=true) (S:CScope X scope NL ρ N') (hi:PI X tgt iter wi)
  (hg:∀ C s₀ H₀ fp,PG (ccx X scope C N' s₀ H₀ fp) tgt g) (he:∀ C s₀ H₀ fp,PE (ccx X scope C N' s₀ H₀ fp) elt te)
  (hs:∀ x,foldedSetIterable iter X.env x=pure x:=by intro _;rfl):PE X (.ListComp elt [⟨tgt,iter,[],0⟩] scope pos) (sK NL.length ρ wi g (cEl te)) :=
 pV (body:=fun acc env=>do let x ← eval elt env;let _ ← call (.builtin "list.append") [acc,x];pure ()) hc S hi hg (fun C s₀ H₀ fp=>CV (he C s₀ H₀ fp)) (fun it acc env=>pU elt tgt iter scope pos it acc env) hs
end
section
variable {X:Cx}
inductive IsiB (K:PySem.W.Frag) (H:Hp):V→String→Bool→Prop
 | int_int {i}:IsiB K H (.int i) "int" true
 | int_str {i}:IsiB K H (.int i) "str" false
 | int_bool {i}:IsiB K H (.int i) "bool" false
 | int_tuple {i}:IsiB K H (.int i) "tuple" false
 | int_list {i}:IsiB K H (.int i) "list" false
 | str_int {x}:IsiB K H (.str x) "int" false
 | str_str {x}:IsiB K H (.str x) "str" true
 | str_bool {x}:IsiB K H (.str x) "bool" false
 | str_tuple {x}:IsiB K H (.str x) "tuple" false
 | str_list {x}:IsiB K H (.str x) "list" false
 | bl_int {b}:IsiB K H (.bl b) "int" true
 | bl_bool {b}:IsiB K H (.bl b) "bool" true
 | bl_str {b}:IsiB K H (.bl b) "str" false
 | bl_tuple {b}:IsiB K H (.bl b) "tuple" false
 | tup_int {a xs}:SqT K H a xs→IsiB K H (.ref a) "int" false
 | tup_str {a xs}:SqT K H a xs→IsiB K H (.ref a) "str" false
 | tup_bool {a xs}:SqT K H a xs→IsiB K H (.ref a) "bool" false
 | tup_tuple {a xs}:SqT K H a xs→IsiB K H (.ref a) "tuple" true
 | tup_list {a xs}:SqT K H a xs→IsiB K H (.ref a) "list" false
 | lst_int {a xs}:SqL K H a xs→IsiB K H (.ref a) "int" false
 | lst_str {a xs}:SqL K H a xs→IsiB K H (.ref a) "str" false
 | lst_tuple {a xs}:SqL K H a xs→IsiB K H (.ref a) "tuple" false
 | lst_list {a xs}:SqL K H a xs→IsiB K H (.ref a) "list" true
theorem dB (a b:String) (h:isSubtype (.type a) (.type b)=pure false:=by rw [isSubtype_type];kernel_rfl):isSubtype (.type a) (.type b)=pure false:=h
theorem oB (a b:String) (h:isSubtype (.type a) (.type b)=pure true:=by rw [isSubtype_type];kernel_rfl):isSubtype (.type a) (.type b)=pure true:=h
theorem oC:isSubtype (.type "int") (.type "str")=pure false:=dB _ _
theorem my:isSubtype (.type "int") (.type "bool")=pure false:=dB _ _
theorem kZ:isSubtype (.type "int") (.type "tuple")=pure false:=dB _ _
theorem mz:isSubtype (.type "int") (.type "list")=pure false:=dB _ _
theorem oE:isSubtype (.type "str") (.type "int")=pure false:=dB _ _
theorem mB:isSubtype (.type "str") (.type "bool")=pure false:=dB _ _
theorem k6:isSubtype (.type "str") (.type "tuple")=pure false:=dB _ _
theorem mC:isSubtype (.type "str") (.type "list")=pure false:=dB _ _
theorem mD:isSubtype (.type "bool") (.type "str")=pure false:=dB _ _
theorem jT:isSubtype (.type "bool") (.type "tuple")=pure false:=dB _ _
theorem k7:isSubtype (.type "tuple") (.type "int")=pure false:=dB _ _
theorem k8:isSubtype (.type "tuple") (.type "str")=pure false:=dB _ _
theorem jU:isSubtype (.type "tuple") (.type "bool")=pure false:=dB _ _
theorem jV:isSubtype (.type "tuple") (.type "list")=pure false:=dB _ _
theorem mE:isSubtype (.type "list") (.type "int")=pure false:=dB _ _
theorem mF:isSubtype (.type "list") (.type "str")=pure false:=dB _ _
theorem jW:isSubtype (.type "list") (.type "tuple")=pure false:=dB _ _
theorem CW:isSubtype (.type "int") (.type "int")=pure true:=oB _ _
theorem CY:isSubtype (.type "str") (.type "str")=pure true:=oB _ _
theorem wZ:isSubtype (.type "bool") (.type "bool")=pure true:=oB _ _
theorem mG:isSubtype (.type "bool") (.type "int")=pure true:=oB _ _
theorem rF:isSubtype (.type "tuple") (.type "tuple")=pure true:=oB _ _
theorem w5:isSubtype (.type "list") (.type "list")=pure true:=oB _ _
theorem k9:typeOf (.type "int")=pure (.type "type"):=by kernel_rfl
theorem la:typeOf (.type "str")=pure (.type "type"):=by kernel_rfl
theorem jX:typeOf (.type "bool")=pure (.type "type"):=by kernel_rfl
theorem e7:typeOf (.type "tuple")=pure (.type "type"):=by kernel_rfl
theorem jY:typeOf (.type "list")=pure (.type "type"):=by kernel_rfl
theorem pW:bh X (.builtin "isinstance") (fun xs H Q=>∃ x T b,xs=[x,.ty T]∧IsiB X.K H x T b∧Q (.bl b) H):=by
 intro pins s σ H xs us Q I r h;obtain ⟨x,T,b,rfl,hb,q⟩:=h;obtain ⟨u,w',rfl,rx,rT⟩:=nF r
 cases rT
 have fin:∀ t,EP X pins σ Q (.bool b) { s with toks:=t }:=fun t=>⟨.bl b,H,I.tok t,rfl,q⟩;have fin0:EP X pins σ Q (.bool b) s:=⟨.bl b,H,I,rfl,q⟩;have tup:∀ {a xs},SqT X.K H a xs→∃ o,s.heap.get? a=some o∧o.cls=.type "tuple" :=fun hq=>by
  obtain ⟨its,_,p,_⟩:=I.tuple hq;obtain ⟨o,e,c,_⟩:=p;exact ⟨o,e,c⟩
 have lst:∀ {a xs},SqL X.K H a xs→∃ o,s.heap.get? a=some o∧o.cls=.type "list" :=fun hq=>by
  obtain ⟨its,_,p,_⟩:=I.list hq;obtain ⟨o,e,c,_⟩:=p.isList;exact ⟨o,e,c⟩
 cases hb with
 | int_int=>obtain ⟨t,rfl⟩:=rx;exact call_isinstance (isinstance_true (Tx:= "int") k9 CW) ⟨rfl,fin0⟩
 | int_str=>obtain ⟨t,rfl⟩:=rx;exact call_isinstance (isinstance_false_int (by decide) la oC) (fin _)
 | int_bool=>obtain ⟨t,rfl⟩:=rx;exact call_isinstance (isinstance_false_int (by decide) jX my) (fin _)
 | int_tuple=>obtain ⟨t,rfl⟩:=rx;exact call_isinstance (isinstance_false_int (by decide) e7 kZ) (fin _)
 | int_list=>obtain ⟨t,rfl⟩:=rx;exact call_isinstance (isinstance_false_int (by decide) jY mz) (fin _)
 | str_int=>obtain ⟨t,rfl⟩:=rx;exact call_isinstance (isinstance_false_str (by decide) k9 oE) (fin _)
 | str_str=>obtain ⟨t,rfl⟩:=rx;exact call_isinstance (isinstance_true (Tx:= "str") la CY) ⟨rfl,fin0⟩
 | str_bool=>obtain ⟨t,rfl⟩:=rx;exact call_isinstance (isinstance_false_str (by decide) jX mB) (fin _)
 | str_tuple=>obtain ⟨t,rfl⟩:=rx;exact call_isinstance (isinstance_false_str (by decide) e7 k6) (fin _)
 | str_list=>obtain ⟨t,rfl⟩:=rx;exact call_isinstance (isinstance_false_str (by decide) jY mC) (fin _)
 | bl_int=>cases rx;exact call_isinstance (isinstance_true (Tx:= "bool") k9 mG) ⟨rfl,fin0⟩
 | bl_bool=>cases rx;exact call_isinstance (isinstance_true (Tx:= "bool") jX wZ) ⟨rfl,fin0⟩
 | bl_str=>cases rx;exact call_isinstance (isinstance_false_bool (by decide) la mD) (fin _)
 | bl_tuple=>cases rx;exact call_isinstance (isinstance_false_bool (by decide) e7 jT) (fin _)
 | tup_int hq=>cases rx;exact call_isinstance (isinstance_false_tuple (by decide) k9 k7) ⟨tup hq,fin _⟩
 | tup_str hq=>cases rx;exact call_isinstance (isinstance_false_tuple (by decide) la k8) ⟨tup hq,fin _⟩
 | tup_bool hq=>cases rx;exact call_isinstance (isinstance_false_tuple (by decide) jX jU) ⟨tup hq,fin _⟩
 | tup_tuple hq=>cases rx;exact call_isinstance (isinstance_true (Tx:= "tuple") e7 rF) ⟨tup hq,fin0⟩
 | tup_list hq=>cases rx;exact call_isinstance (isinstance_false_tuple (by decide) jY jV) ⟨tup hq,fin _⟩
 | lst_int hq=>cases rx;exact call_isinstance (isinstance_false_list (by decide) k9 mE) ⟨lst hq,fin _⟩
 | lst_str hq=>cases rx;exact call_isinstance (isinstance_false_list (by decide) la mF) ⟨lst hq,fin _⟩
 | lst_tuple hq=>cases rx;exact call_isinstance (isinstance_false_list (by decide) e7 jW) ⟨lst hq,fin _⟩
 | lst_list hq=>cases rx;exact call_isinstance (isinstance_true (Tx:= "list") jY w5) ⟨lst hq,fin0⟩
def Its (z:Str):It:=⟨fun i _=>i < z.cps.size,fun i H x H'=>H'=H∧∃ c,z.cps[i]?=some c∧x=.str ⟨#[c]⟩,fun i _=>i=z.cps.size⟩
def DK (te:TE):TI:=fun σ H R=>te σ H fun x H1=>∃ z,x=.str z∧R (Its z) H1
theorem lg {P:Program} {w:World} {K:PySem.W.Frag} {tg:Expr} (T:String) (it:Addr) (z:Str) (t:Tok)
  (W:∀ A:Around,A.handled=none→Walks P w A it [it] [it] z.cps.size (SignAt z) (fun i h=>h.IsStrIter it T z t i))
  (hT:["enumerate","zip","dict_itemiterator","dict_reverseitemiterator","odict_iterator","itertools.zip_longest","itertools.pairwise"].contains T=false)
  (hs:∀ (A:Around) (i:Nat) (s:Shared) (Q:Value→Shared→Prop) (E:Value→Shared→Prop),s.heap.IsStrIter it T z t i→Q (.ref it) s→wpAny (model P w) A (pyIter (.ref it)) Q E s) :
  Turn P w K tg (Its z) [it] it (fun i h=>h.IsStrIter it T z t i) where
 mem:=by simp
 obj:=fun i h st b hb=>by
  have e:b=it:=by simpa using hb
  subst e;obtain ⟨o,e,c,d⟩:=st;exact ⟨o,e,fun v z=>by rw [d] at z;cases z⟩
 keep:=fun i h h' st k=>by
  obtain ⟨o,e,c,d⟩:=st;exact ⟨o,k it (by simp) o e,c,d⟩
 item:=by
  intro X hP hw hK hc i pins s σ H E I hf st hg;subst hP hw hK;obtain ⟨f0,f1,f2,f3,f4,f5⟩:=hf it (by simp);refine (W X.A (I.ok.hd hc)).item i s _ _ hg st fun v h' tk hv st' kk=>?_;obtain ⟨c,u,hcz,rfl⟩:=hv;have I1:Inv X pins σ H { s with heap:=h',toks:=tk }:=I.turned (fun b o hb e=>kk b o (by simpa using hb) e) f0 f1 f3 f4 f5;obtain ⟨o,e,cl,d⟩:=id st';exact ⟨_,rfl,nz (s:={ s with heap:=h',toks:=tk }) e cl d hT ⟨.str ⟨#[c]⟩,H,I1,⟨u,rfl⟩,⟨rfl,c,hcz,rfl⟩,st',fun b hb=>(hf b hb).1⟩⟩
 done:=by
  intro X hP hw hK hc i pins s σ H E I hf st hg;subst hP hw hK;obtain ⟨f0,f1,f2,f3,f4,f5⟩:=hf it (by simp);have hi:i=z.cps.size:=hg;subst hi;exact (W X.A (I.ok.hd hc)).done s _ _ st fun h' tk kk=>⟨rfl,I.turned (fun b o hb e=>kk b o (by simpa using hb) e) f0 f1 f3 f4 f5⟩
 self:=hs
theorem mH {tg l:Expr} {tl:TE} (hl:PE X l tl):PI X tg l (DK tl):=by
 intro pins s σ H R I h;refine thn (hl pins s σ H _ I h) fun v s1 ⟨x,H1,I1,r1,q1⟩=>?_;obtain ⟨z,rfl,q⟩:=q1;obtain ⟨t,rfl⟩:=r1;have fp:∀ (o:Obj),∀ b∈[s1.heap.objs.size],eW X pins H1 b:=fun o b hb=>by
  have e:b=s1.heap.objs.size:=by simpa using hb
  subst e;exact I1.fpOk (Nat.le_refl _) (I1.hok.fresh (Nat.le_refl _))
 cases ha:z.cps.all (· < 128)
 ·refine wpAny_pyIter_wide ha ?_;exact ⟨s1.heap.objs.size,[s1.heap.objs.size],_,_,H1,rfl,I1.kept (t':=s1.toks) fun b o e=>Heap.get?_push_of_some _ e,
   lg "str_iterator" _ z t (fun A hA=>Walks.strWide hA _ z t) (by decide) (fun _ _ _ _ _ st h=>wpAny_pyIter_striter_wide st h),⟨_,Heap.get?_push_size _ rfl,rfl,rfl⟩,fp default,q⟩
 ·refine wpAny_pyIter_ascii ha ?_;exact ⟨s1.heap.objs.size,[s1.heap.objs.size],_,_,H1,rfl,I1.kept (t':=s1.toks) fun b o e=>Heap.get?_push_of_some _ e,
   lg "str_ascii_iterator" _ z t (fun A hA=>Walks.strAscii hA _ z t) (by decide) (fun _ _ _ _ _ st h=>wpAny_pyIter_striter_ascii st h),⟨_,Heap.get?_push_size _ rfl,rfl,rfl⟩,fp default,q⟩
def bls:List Bool→List V:=List.map V.bl
theorem pX:bh X (.builtin "all") (fun xs H Q=>∃ p ys,xs=[.ref p]∧X.calm=true∧SqL X.K H p (bls ys)∧Q (.bl (ys.all id)) H):=by
 intro pins s σ H xs us Q I r h;obtain ⟨p,ys,rfl,hcm,hq,q⟩:=h;obtain ⟨u,rfl,rx⟩:=cK r
 cases rx
 obtain ⟨its,r',pl,hz⟩:=I.list hq;have hh:X.A.in1.handled=none:=I.ok.hd hcm;have hne:p≠s.heap.objs.size:=by
  obtain ⟨o,e,_⟩:=pl.isList;exact Nat.ne_of_lt (Heap.lt_size e)
 have hlen:its.length=ys.length:=by rw [← r'.length];simp [bls]
 refine call_all_walk (wpAny_pyIter_list pl.isList ⟨s.heap.objs.size,_,_,_,_,_,fun i=>ys.getD i true,rfl,Walks.list hh _ p hne its.toArray,⟨⟨_,Heap.get?_push_size _ rfl,rfl,rfl⟩,pl.isList.at fun o e=>Heap.get?_push_of_some _ e⟩,?_,?_⟩)
 ·intro i v s' Q' E' hv hQ;have hv':its[i]?=some v:=by simpa using hv
  have hi:i < ys.length:=by
   rw [← hlen];exact (List.getElem?_eq_some_iff.mp hv').1
  have e1:(bls ys)[i]?=some (V.bl ys[i]):=by simp [bls,hi]
  obtain ⟨u,hu,ru⟩:=r'.get e1;rw [hv'] at hu;obtain rfl:=Option.some.inj hu
  cases ru
  refine wpAny_truthy_bool ?_;have e2:ys.getD i true=ys[i]:=by simp [List.getD_eq_getElem?_getD,hi]
  have hQ':Q' (ys.getD i true) s':=hQ;rw [e2] at hQ';exact hQ'
 ·intro h' tk kk;have e3:(List.range its.toArray.size).all (fun i=>ys.getD i true)=ys.all id:=by
   rw [List.size_toArray,hlen];rw [Bool.eq_iff_iff,List.all_eq_true,List.all_eq_true]
   constructor
   ·intro g x hx;obtain ⟨i,hi,rfl⟩:=List.mem_iff_getElem.mp hx;have:=g i (List.mem_range.mpr hi)
    simpa [List.getD_eq_getElem?_getD,hi] using this
   ·intro g i hi;have hi':=List.mem_range.mp hi;have:=g ys[i] (List.getElem_mem hi')
    simpa [List.getD_eq_getElem?_getD,hi'] using this
  rw [e3];refine ⟨.bl _,H,?_,rfl,q⟩;have I1:Inv X pins σ H { s with heap:=s.heap.push { cls:=.type "list_iterator",data:=.fields #[.ref p,.int 0 0] } }:=I.kept (t':=s.toks) fun b o e=>Heap.get?_push_of_some _ e;exact I.kept (t':=tk) fun b o e=>kk b o (by
   intro z;have z':b=s.heap.objs.size:=by simpa using z
   exact absurd (Heap.lt_size e) (by rw [z'];exact Nat.lt_irrefl _)) (Heap.get?_push_of_some _ e)
end
section
variable {X:Cx}
theorem gm (ns:List Int):∀ n,n≤ns.length→preSum (fun i=>ns.getD i 0) n=(ns.take n).sum
 | 0,_=>by simp [preSum]
 | n+1,h=>by
  have hn:n < ns.length:=h;rw [preSum,gm ns n (Nat.le_of_lt hn),List.take_add_one,List.sum_append];simp [List.getD_eq_getElem?_getD,hn]
theorem pY:bh X (.builtin "sum") (fun xs H Q=>∃ (p:Addr) (ns:List Int),xs=[.ref p]∧X.calm=true∧SqL X.K H p (ns.map V.int)∧Q (.int ns.sum) H):=by
 intro pins s σ H xs us Q I r h;obtain ⟨p,ns,rfl,hcm,hq,q⟩:=h;obtain ⟨u,rfl,rx⟩:=cK r
 cases rx
 obtain ⟨its,r',pl,hz⟩:=I.list hq;have hh:X.A.in1.handled=none:=I.ok.hd hcm;have hlt:p < s.heap.objs.size:=by
  obtain ⟨o,e,_⟩:=pl.isList;exact Heap.lt_size e
 have hne:p≠s.heap.objs.size:=Nat.ne_of_lt hlt;have hlen:its.length=ns.length:=by rw [← r'.length];simp
 refine call_sum_walkG (wpAny_pyIter_list pl.isList ⟨s.heap.objs.size,_,_,_,_,_,fun i=>ns.getD i 0,rfl,Walks.list hh _ p hne its.toArray,⟨⟨_,Heap.get?_push_size _ rfl,rfl,rfl⟩,pl.isList.at fun o e=>Heap.get?_push_of_some _ e⟩,?_,?_,?_⟩)
 ·intro b hb;have hb':b=s.heap.objs.size∨b=p:=by simpa using hb
  show b < (s.heap.push _).objs.size;rw [Heap.size_push];rcases hb' with e | e
  ·exact e ▸ Nat.lt_succ_self _
  ·exact Nat.lt_succ_of_lt (e ▸ hlt)
 ·intro i v hv;have hv':its[i]?=some v:=by simpa using hv
  have hi:i < ns.length:=by
   rw [← hlen];exact (List.getElem?_eq_some_iff.mp hv').1
  have e1:(ns.map V.int)[i]?=some (V.int ns[i]):=by simp [hi]
  obtain ⟨u,hu,ru⟩:=r'.get e1;rw [hv'] at hu;obtain rfl:=Option.some.inj hu;obtain ⟨t,rfl⟩:=ru;exact ⟨t,by simp [List.getD_eq_getElem?_getD,hi]⟩
 ·intro h' tk t' kk;have e3:preSum (fun i=>ns.getD i 0) its.toArray.size=ns.sum:=by
   rw [List.size_toArray,hlen,gm ns _ (Nat.le_refl _),List.take_length]
  rw [e3];refine ⟨.int _,H,?_,⟨_,rfl⟩,q⟩;exact I.kept (t':=tk) fun b o e=>kk b o (by
   intro z;have z':b=s.heap.objs.size:=by simpa using z
   exact absurd (Heap.lt_size e) (by rw [z'];exact Nat.lt_irrefl _)) (Heap.get?_push_of_some _ e)
def DL:V→Option Int→Option Int→Hp→VK→Prop:=fun x lo hi H Q=>∃ z,x=.str z∧z.length≤sizeLine∧Q (.str (Txt.slice z lo hi)) H
theorem sl_str:SlR X DL:=by
 intro pins s σ H x v vl vu lo hi sl Q I rx hs pl pu h;obtain ⟨z,rfl,hz,q⟩:=h;obtain ⟨t,rfl⟩:=rx;refine ⟨"str",_,F.slot_str_getitem.lookup,typeIs_str _ _ _,?_⟩;have fin:∀ t' k,EP X pins σ Q (.str (Txt.slice z lo hi) t') { s with toks:=k }:=fun t' k=>⟨.str _,H,I.tok k,⟨t',rfl⟩,q⟩
 cases pl with
 | none =>
  cases pu with
  | none=>exact wpAny_getItem_str_slice (l:=none) (u:=none) (st:=none) hs rfl (post_val_or_str ⟨Nat.le_trans (Txt.slice_le z _ _) hz,fun t' k=>fin t' k⟩)
  | int j uj=>exact wpAny_getItem_str_slice (l:=none) (u:=some (j,uj)) (st:=none) hs rfl (post_val_or_str ⟨Nat.le_trans (Txt.slice_le z _ _) hz,fun t' k=>fin t' k⟩)
 | int i ui =>
  cases pu with
  | none=>exact wpAny_getItem_str_slice (l:=some (i,ui)) (u:=none) (st:=none) hs rfl (post_val_or_str ⟨Nat.le_trans (Txt.slice_le z _ _) hz,fun t' k=>fin t' k⟩)
  | int j uj=>exact wpAny_getItem_str_slice (l:=some (i,ui)) (u:=some (j,uj)) (st:=none) hs rfl (post_val_or_str ⟨Nat.le_trans (Txt.slice_le z _ _) hz,fun t' k=>fin t' k⟩)
end
theorem ax {H:Hp} {p:Addr} (h:H p=none) (o:HO):Same H (upd H p o):=fun b u q=>by rw [af (am q h)];exact q
def But (r:Addr) (H H':Hp):Prop:=∀ b o,b≠r→H b=some o→H' b=some o
theorem But.refl (r:Addr) (H:Hp):But r H H:=fun _ _ _ h=>h
theorem But.trans {r:Addr} {H H1 H2:Hp} (a:But r H H1) (b:But r H1 H2):But r H H2:=fun c o n h=>b c o n (a c o n h)
theorem But.same {r:Addr} {H H1:Hp} (a:Same H H1):But r H H1:=fun c o _ h=>a c o h
theorem But.put {r:Addr} {H:Hp} {o:HO}:But r H (upd H r o):=fun c u n h=>by rw [af n];exact h
theorem But.seq {K:PySem.W.Frag} {r:Addr} {H H':Hp} {a:Addr} {xs:List V} (e:But r H H') (n:a≠r) (h:SqL K H a xs):SqL K H' a xs:=by
 rcases h with (h | ⟨o,h⟩) | h
 ·exact .inl (.inl (e _ _ n h))
 ·exact .inl (.inr ⟨o,e _ _ n h⟩)
 ·exact .inr h
theorem But.tup {K:PySem.W.Frag} {r:Addr} {H H':Hp} {a:Addr} {xs:List V} (e:But r H H') (n:a≠r) (h:SqT K H a xs):SqT K H' a xs:=by
 rcases h with (h | ⟨o,h⟩) | h
 ·exact .inl (.inl (e _ _ n h))
 ·exact .inl (.inr ⟨o,e _ _ n h⟩)
 ·exact .inr h
theorem Same.tup {K:PySem.W.Frag} {H H':Hp} {a:Addr} {xs:List V} (e:Same H H') (h:SqT K H a xs):SqT K H' a xs:=by
 rcases h with (h | ⟨o,h⟩) | h
 ·exact .inl (.inl (e _ _ h))
 ·exact .inl (.inr ⟨o,e _ _ h⟩)
 ·exact .inr h
theorem cs0 {X:Cx} {scope:Scope} {NL:List Str} (h1:scope.kind=.function) (h2:(scope.names.all fun x=>x.2 != .cell && x.2 != .free)=true)
  (h3:∀ x∈scope.names,x.2=.local→scope.names.lookup x.1=some .local):CScope X scope NL [] NL:=by
 rw [List.all_eq_true] at h2;refine ⟨h1,fun x hx e=>?_,h3,fun x hx e=>?_,by simp,fun j hj=>by simp at hj⟩
 ·have:=h2 x hx;rw [e] at this;exact absurd this (by decide)
 ·have:=h2 x hx;rw [e] at this;exact absurd this (by decide)
theorem lh {z:Str} {l:Addr} {g:TG} {tb:List V→Addr→St→Hp→(List V→St→Hp→Prop)→Prop} {Q:VK} {σ0:St} {H0:Hp} (Pv:Nat→List V→St→Hp→Prop) (h0:Pv 0 [] σ0 H0)
  (hs:∀ i c ys σ H (N:List V→St→Hp→Prop),z.cps[i]?=some c→Pv i ys σ H→(∀ ys' σ' H',Pv (i+1) ys' σ' H'→N ys' σ' H')→g (.str ⟨#[c]⟩) σ H fun σ2 H2=>tb ys l σ2 H2 N)
  (hd:∀ ys σ H,Pv z.cps.size ys σ H→Q (.ref l) H) :
  ∃ W:Nat→Nat→List V→St→Hp→Prop,(∃ m,W 0 m [] σ0 H0)∧∀ i m ys σ' H',W i m ys σ' H'→((Its z).stop i H'∧Q (.ref l) H') ∨
   ((Its z).go i H'∧∀ x H'',(Its z).yld i H' x H''→g x σ' H'' fun σ2 H2=>tb ys l σ2 H2 fun ys' σ3 H3=>∃ m',m' < m∧W (i+1) m' ys' σ3 H3):=by
 refine ⟨fun i m ys σ H=>m=z.cps.size - i∧i≤z.cps.size∧Pv i ys σ H,⟨z.cps.size,by simp,Nat.zero_le _,h0⟩,?_⟩;rintro i m ys σ H ⟨rfl,hi,p⟩
 by_cases hlt:i < z.cps.size
 ·refine .inr ⟨hlt,fun x H' y=>?_⟩;obtain ⟨e,c,hc,rfl⟩:=y;subst e;exact hs i c ys σ _ _ hc p fun ys' σ' H' q=>⟨_,by lia,rfl,hlt,q⟩
 ·have e:i=z.cps.size:=by lia
  subst e;exact .inl ⟨rfl,hd ys σ H p⟩
theorem pZ {K:PySem.W.Frag} {a:Addr} {xs:List V} {l:Addr} {g:TG} {tb:List V→Addr→St→Hp→(List V→St→Hp→Prop)→Prop} {Q:VK} {σ0:St} {H0:Hp} (Pv:Nat→List V→St→Hp→Prop) (h0:Pv 0 [] σ0 H0) (hl:∀ i ys σ H,i≤xs.length→Pv i ys σ H→SqT K H a xs)
  (hs:∀ i x ys σ H (N:List V→St→Hp→Prop),xs[i]?=some x→Pv i ys σ H→(∀ ys' σ' H',Pv (i+1) ys' σ' H'→N ys' σ' H')→g x σ H fun σ2 H2=>tb ys l σ2 H2 N)
  (hd:∀ ys σ H,Pv xs.length ys σ H→Q (.ref l) H) :
  ∃ W:Nat→Nat→List V→St→Hp→Prop,(∃ m,W 0 m [] σ0 H0)∧∀ i m ys σ' H',W i m ys σ' H'→((Itt K a).stop i H'∧Q (.ref l) H') ∨
   ((Itt K a).go i H'∧∀ x H'',(Itt K a).yld i H' x H''→g x σ' H'' fun σ2 H2=>tb ys l σ2 H2 fun ys' σ3 H3=>∃ m',m' < m∧W (i+1) m' ys' σ3 H3):=by
 refine ⟨fun i m ys σ H=>m=xs.length - i∧i≤xs.length∧Pv i ys σ H,⟨xs.length,by simp,Nat.zero_le _,h0⟩,?_⟩;rintro i m ys σ H ⟨rfl,hi,p⟩;have q:=hl i ys σ H hi p
 by_cases hlt:i < xs.length
 ·refine .inr ⟨⟨xs,xs[i],q,by simp [hlt]⟩,fun x H' y=>?_⟩;obtain ⟨e,y⟩:=y;subst e;exact hs i x ys σ _ _ (y xs q) p fun ys' σ' H' q=>⟨_,by lia,rfl,hlt,q⟩
 ·have e:i=xs.length:=by lia
  subst e;exact .inl ⟨⟨xs,q,Nat.le_refl _⟩,hd ys σ H p⟩
theorem gN {X:Cx} {x:Str} {i:Int} {t:Tok} {pos:Pos} (hg:Gl X x) (hm:X.mg x=some (.int i t)) (hd:(x == ("__debug__" : Str))=false:=by decide):PE X (.Name x pos) (tC (.int i)):=jN hg hm ⟨_,rfl⟩ hd
theorem aS {X:Cx} {x z:Str} {t:Tok} {pos:Pos} (hg:Gl X x) (hm:X.mg x=some (.str z t)) (hd:(x == ("__debug__" : Str))=false:=by decide):PE X (.Name x pos) (tC (.str z)):=jN hg hm ⟨_,rfl⟩ hd
theorem e8 {X:Cx} {x:Str} {a:Addr} {pos:Pos} (hg:Gl X x) (hm:X.mg x=some (.ref a)) (hd:(x == ("__debug__" : Str))=false:=by decide):PE X (.Name x pos) (tC (.ref a)):=jN hg hm rfl hd
theorem jZ {X:Cx} {x:Str} {n:String} {pos:Pos} (hg:Gl X x) (hm:X.mg x=none) (hv:bootBuiltins x=some (.type n)) (hn:x≠ "__name__" :=by decide) (hd:(x == ("__debug__" : Str))=false:=by decide):PE X (.Name x pos) (tC (.ty n)):=re hg hm hv rfl hn hd
structure Gn (K:PySem.W.Frag) (mg:Str→Option Value) (x:Str) (st:Stmt) (ps:List Str) (f:Addr) (fd:FuncData):Prop where
 F:Fun K x x st f fd
 b:Binds K fd ps []
 m:mg x=some (.ref f)
inductive Dt where
 | non | bl (b:Bool) | int (i:Int) | str (z:Str) | tup (l:List Dt)
mutual
inductive IsD (K:PySem.W.Frag) (H:Hp):Dt→V→Prop
 | non:IsD K H .non .non
 | bl {b}:IsD K H (.bl b) (.bl b)
 | int {i}:IsD K H (.int i) (.int i)
 | str {z}:IsD K H (.str z) (.str z)
 | tup {l:List Dt} {a:Addr} {xs:List V}:SqT K H a xs→IsDs K H l xs→IsD K H (.tup l) (.ref a)
inductive IsDs (K:PySem.W.Frag) (H:Hp):List Dt→List V→Prop
 | nil:IsDs K H [] []
 | cons {d:Dt} {l:List Dt} {x:V} {xs:List V}:IsD K H d x→IsDs K H l xs→IsDs K H (d :: l) (x :: xs)
end
mutual
def Dt.dep:Dt→Nat
 | .tup l=>mI l+1
 | _=>0
def mI:List Dt→Nat
 | []=>0
 | d :: l=>max d.dep (mI l)
end
mutual
def eqD:Dt→Dt→Bool
 | .non,.non=>true
 | .bl a,.bl b=>a == b
 | .bl a,.int i=>(if a then 1 else 0) == i
 | .int i,.bl a=>i == (if a then 1 else 0)
 | .int i,.int j=>i == j
 | .str x,.str y=>x == y
 | .tup l,.tup m=>fQ l m
 | _,_=>false
def fQ:List Dt→List Dt→Bool
 | [],[]=>true
 | d :: l,e :: m=>eqD d e && fQ l m
 | _,_=>false
end
mutual
def Dt.plain:Dt→Bool
 | .bl _=>false
 | .tup l=>hG l
 | _=>true
def hG:List Dt→Bool
 | []=>true
 | d :: l=>d.plain && hG l
end
mutual
theorem lm:∀ d:Dt,eqD d d=true
 | .non=>rfl
 | .bl a=>by simp [eqD]
 | .int i=>by simp [eqD]
 | .str z=>by simp [eqD]
 | .tup l=>by simp only [eqD];exact jw l
theorem jw:∀ l:List Dt,fQ l l=true
 | []=>rfl
 | d :: l=>by simp only [fQ,lm d,jw l,Bool.and_self]
end
mutual
theorem w6:∀ d e:Dt,d.plain=true→e.plain=true→eqD d e=true→d=e
 | .non,e,_,_,h=>by cases e <;> simp_all [eqD]
 | .bl _,_,h,_,_=>by simp [Dt.plain] at h
 | .int i,e,_,he,h=>by cases e <;> simp_all [eqD,Dt.plain]
 | .str z,e,_,_,h=>by cases e <;> simp_all [eqD]
 | .tup l,e,hd,he,h=>by
  cases e with
  | tup m=>rw [nI l m (by simpa [Dt.plain] using hd) (by simpa [Dt.plain] using he) (by simpa [eqD] using h)]
  | _=>simp [eqD] at h
theorem nI:∀ l m:List Dt,hG l=true→hG m=true→fQ l m=true→l=m
 | [],[],_,_,_=>rfl
 | [],_ :: _,_,_,h=>by simp [fQ] at h
 | _ :: _,[],_,_,h=>by simp [fQ] at h
 | d :: l,e :: m,hl,hm,h=>by
  simp only [hG,Bool.and_eq_true] at hl hm;simp only [fQ,Bool.and_eq_true] at h;rw [w6 d e hl.1 hm.1 h.1,nI l m hl.2 hm.2 h.2]
end
section
variable {K:PySem.W.Frag} {H H':Hp}
mutual
theorem IsD.same (g:Same H H'):∀ {d:Dt} {v:V},IsD K H d v→IsD K H' d v
 | _,_,.non=>.non
 | _,_,.bl=>.bl
 | _,_,.int=>.int
 | _,_,.str=>.str
 | _,_,.tup h r=>.tup (g.tup h) (IsDs.same g r)
theorem IsDs.same (g:Same H H'):∀ {l:List Dt} {xs:List V},IsDs K H l xs→IsDs K H' l xs
 | _,_,.nil=>.nil
 | _,_,.cons h r=>.cons (IsD.same g h) (IsDs.same g r)
end
theorem p6 {a r:Addr} {xs ys:List V} (hr:H r=some (.lst ys)) (h:SqT K H a xs):a≠r∨∀ H'',SqT K H'' a xs:=by
 rcases h with (h | ⟨o,h⟩) | h
 ·exact .inl (jo h hr (by intro z;cases z))
 ·exact .inl (jo h hr (by intro z;cases z))
 ·exact .inr fun _=>.inr h
mutual
theorem IsD.but {r:Addr} {ys:List V} (hr:H r=some (.lst ys)) (g:But r H H'):∀ {d:Dt} {v:V},IsD K H d v→IsD K H' d v
 | _,_,.non=>.non
 | _,_,.bl=>.bl
 | _,_,.int=>.int
 | _,_,.str=>.str
 | _,_,.tup h q=>.tup (by
   rcases p6 hr h with n | n
   ·exact g.tup n h
   ·exact n _) (IsDs.but hr g q)
theorem IsDs.but {r:Addr} {ys:List V} (hr:H r=some (.lst ys)) (g:But r H H'):∀ {l:List Dt} {xs:List V},IsDs K H l xs→IsDs K H' l xs
 | _,_,.nil=>.nil
 | _,_,.cons h q=>.cons (IsD.but hr g h) (IsDs.but hr g q)
end
theorem IsDs.length {l:List Dt} {xs:List V} (h:IsDs K H l xs):l.length=xs.length:=by
 induction l generalizing xs with
 | nil=>cases h;rfl
 | cons d l ih=>cases h with | cons _ r=>simp [ih r]
theorem IsDs.get {l:List Dt} {xs:List V} (h:IsDs K H l xs) {i:Nat} {d:Dt} (e:l[i]?=some d):∃ x,xs[i]?=some x∧IsD K H d x:=by
 induction l generalizing xs i with
 | nil=>simp at e
 | cons c l ih =>
  cases h with
  | cons h r =>
   cases i with
   | zero=>simp at e;subst e;exact ⟨_,rfl,h⟩
   | succ i=>exact ih r (by simpa using e)
end
section
variable {X:Cx} {pins:List (Addr×Obj)} {σ:St} {H:Hp} {s:Shared}
mutual
theorem IsD.inj (I:Inv X pins σ H s):∀ {d e:Dt} {v:V},IsD X.K H d v→IsD X.K H e v→d=e
 | _,_,_,.non,.non=>rfl
 | _,_,_,.bl,.bl=>rfl
 | _,_,_,.int,.int=>rfl
 | _,_,_,.str,.str=>rfl
 | _,_,_,.tup h r,.tup h' r'=>by
  have e:=I.tuple_inj h h';subst e;rw [IsDs.inj I r r']
theorem IsDs.inj (I:Inv X pins σ H s):∀ {l m:List Dt} {xs:List V},IsDs X.K H l xs→IsDs X.K H m xs→l=m
 | _,_,_,.nil,.nil=>rfl
 | _,_,_,.cons h r,.cons h' r'=>by rw [IsD.inj I h h',IsDs.inj I r r']
end
theorem hV:∀ (l m:List Dt),fQ l m=((List.range (min l.length m.length)).all (fun j=>eqD (l.getD j .non) (m.getD j .non)) && l.length == m.length)
 | [],[]=>rfl
 | [],_ :: _=>by simp [fQ]
 | _ :: _,[]=>by simp [fQ]
 | d :: l,e :: m=>by
  simp only [fQ,List.length_cons];rw [hV l m,Nat.succ_min_succ,List.range_succ_eq_map,List.all_cons,List.all_map];have e1:(l.length+1 == m.length+1)=(l.length == m.length):=by
   rw [Bool.eq_iff_iff];simp
  rw [e1,Bool.and_assoc]
  rfl
theorem lp:∀ {l:List Dt} {j:Nat},j < l.length→(l.getD j .non).dep≤mI l
 | [],_,h=>by simp at h
 | d :: l,0,_=>by simp only [List.getD_cons_zero,mI];lia
 | d :: l,j+1,h=>by
  have q:=@lp l j (by simpa using h);simp only [List.getD_cons_succ,mI];lia
theorem Inv.tup' (I:Inv X pins σ H s) {a:Addr} {xs:List V} (h:SqT X.K H a xs):∃ its:List Value,Vals xs its∧s.heap.IsTuple a its.toArray:=by
 obtain ⟨its,r,p,_⟩:=I.tuple h;exact ⟨its,r,p⟩
theorem oF (A:Around):A.in1.units=A.units+1:=by
 first | rfl | simp [Around.in1]
theorem CZ (I:Inv X pins σ H s):∀ (n:Nat) (d e:Dt) (x y:V) (u v:Value) (A:Around),d.dep≤n→IsD X.K H d x→IsD X.K H e y→RelV x u→RelV y v→A.units+n < cLine →
  SeqAt.EqAt A s u v (eqD d e)∧SeqAt.RcAt A s u v (eqD d e)∧SeqAt.RcNeAt A s u v (!eqD d e):=by
 intro n
 induction n with
 | zero =>
  intro d e x y u v A hd hx hy rx ry hu;have hu0:A.units < cLine:=by lia
  cases hx with
  | tup h r=>simp [Dt.dep] at hd
  | non =>
   cases rx
   cases hy with
   | non=>cases ry;exact ⟨.same _,.none_none,.none_none⟩
   | bl=>cases ry;exact ⟨.none_bool _,.none_bool _,.none_bool _⟩
   | int=>obtain ⟨t,rfl⟩:=ry;exact ⟨.none_int _ _,.none_int _ _,.none_int _ _⟩
   | str=>obtain ⟨t,rfl⟩:=ry;exact ⟨.none_str _ _,.none_str _ _,.none_str _ _⟩
   | tup h r=>cases ry;obtain ⟨its,_,p⟩:=I.tup' h;exact ⟨.none_tuple p hu0,.none_tuple p hu0,.none_tuple p hu0⟩
  | bl =>
   cases rx
   cases hy with
   | non=>cases ry;exact ⟨.bool_none _,.bool_none _,.bool_none _⟩
   | bl=>cases ry;exact ⟨.bool_bool _ _,.bool_bool _ _,.bool_bool _ _⟩
   | int=>obtain ⟨t,rfl⟩:=ry;exact ⟨.bool_int _ _ _,.bool_int _ _ _,.bool_int _ _ _⟩
   | str=>obtain ⟨t,rfl⟩:=ry;exact ⟨.bool_str _ _ _,.bool_str _ _ _,.bool_str _ _ _⟩
   | tup h r=>cases ry;obtain ⟨its,_,p⟩:=I.tup' h;exact ⟨.bool_tuple _ p hu0,.bool_tuple _ p hu0,.bool_tuple _ p hu0⟩
  | int =>
   obtain ⟨t0,rfl⟩:=rx
   cases hy with
   | non=>cases ry;exact ⟨.int_none _ _,.int_none _ _,.int_none _ _⟩
   | bl=>cases ry;exact ⟨.int_bool _ _ _,.int_bool _ _ _,.int_bool _ _ _⟩
   | int=>obtain ⟨t,rfl⟩:=ry;exact ⟨.int_int _ _ _ _,.int_int _ _ _ _,.int_int _ _ _ _⟩
   | str=>obtain ⟨t,rfl⟩:=ry;exact ⟨.int_str _ _ _ _,.int_str _ _ _ _,.int_str _ _ _ _⟩
   | tup h r=>cases ry;obtain ⟨its,_,p⟩:=I.tup' h;exact ⟨.int_tuple _ _ p hu0,.int_tuple _ _ p hu0,.int_tuple _ _ p hu0⟩
  | str =>
   obtain ⟨t0,rfl⟩:=rx
   cases hy with
   | non=>cases ry;exact ⟨.str_none _ _,.str_none _ _,.str_none _ _⟩
   | bl=>cases ry;exact ⟨.str_bool _ _ _,.str_bool _ _ _,.str_bool _ _ _⟩
   | int=>obtain ⟨t,rfl⟩:=ry;exact ⟨.str_int _ _ _ _,.str_int _ _ _ _,.str_int _ _ _ _⟩
   | str=>obtain ⟨t,rfl⟩:=ry;exact ⟨.str_str _ _ _ _,.str_str _ _ _ _,.str_str _ _ _ _⟩
   | tup h r=>cases ry;obtain ⟨its,_,p⟩:=I.tup' h;exact ⟨.str_tuple _ _ p hu0,.str_tuple _ _ p hu0,.str_tuple _ _ p hu0⟩
 | succ n ih =>
  intro d e x y u v A hd hx hy rx ry hu;have hu0:A.units < cLine:=by lia
  cases hx with
  | tup h r =>
   rename_i l a xs
   cases rx
   cases hy with
   | non=>cases ry;obtain ⟨its,_,p⟩:=I.tup' h;exact ⟨.tuple_none p hu0,.tuple_none p hu0,.tuple_none p hu0⟩
   | bl=>cases ry;obtain ⟨its,_,p⟩:=I.tup' h;exact ⟨.tuple_bool _ p hu0,.tuple_bool _ p hu0,.tuple_bool _ p hu0⟩
   | int=>obtain ⟨t,rfl⟩:=ry;obtain ⟨its,_,p⟩:=I.tup' h;exact ⟨.tuple_int _ _ p hu0,.tuple_int _ _ p hu0,.tuple_int _ _ p hu0⟩
   | str=>obtain ⟨t,rfl⟩:=ry;obtain ⟨its,_,p⟩:=I.tup' h;exact ⟨.tuple_str _ _ p hu0,.tuple_str _ _ p hu0,.tuple_str _ _ p hu0⟩
   | tup h' r' =>
    rename_i m b ys
    cases ry
    obtain ⟨its,q,p⟩:=I.tup' h;obtain ⟨its',q',p'⟩:=I.tup' h';have l1:its.length=l.length:=by rw [← q.length,← r.length]
    have l2:its'.length=m.length:=by rw [← q'.length,← r'.length]
    have he:∀ j (h1:j < its.toArray.size) (h2:j < its'.toArray.size),SeqAt.EqAt A.in1 s its.toArray[j] its'.toArray[j] (eqD (l.getD j .non) (m.getD j .non)):=by
     intro j h1 h2;have j1:j < l.length:=by simpa [l1] using h1
     have j2:j < m.length:=by simpa [l2] using h2
     obtain ⟨x1,ex,dx⟩:=r.get (i:=j) (d:=l.getD j .non) (by simp [List.getD_eq_getElem?_getD,j1]);obtain ⟨y1,ey,dy⟩:=r'.get (i:=j) (d:=m.getD j .non) (by simp [List.getD_eq_getElem?_getD,j2]);obtain ⟨u1,eu,ru⟩:=q.get ex;obtain ⟨v1,ev,rv⟩:=q'.get ey;have e1:its.toArray[j]=u1:=by
      have:its[j]?=some its[j]:=by simp [l1,j1]
      rw [this] at eu
      simpa using Option.some.inj eu
     have e2:its'.toArray[j]=v1:=by
      have:its'[j]?=some its'[j]:=by simp [l2,j2]
      rw [this] at ev
      simpa using Option.some.inj ev
     rw [e1,e2];have hdl:mI l≤n:=by simp only [Dt.dep] at hd;lia
     exact (ih _ _ _ _ _ _ A.in1 (Nat.le_trans (lp j1) hdl) dx dy ru rv (by rw [oF];lia)).1
    have ev:eqD (.tup l) (.tup m)=((List.range (min its.toArray.size its'.toArray.size)).all (fun j=>eqD (l.getD j .non) (m.getD j .non)) && its.toArray.size == its'.toArray.size):=by
     simp only [eqD,List.size_toArray,l1,l2];exact hV l m
    rw [ev];refine ⟨?_,SeqAt.RcAt.tuples p p' hu0 he,SeqAt.RcNeAt.tuples p p' hu0 he⟩
    by_cases hab:a=b
    ·subst hab;have e3:=I.tuple_inj h h';subst e3;have e4:=IsDs.inj I r r';subst e4;rw [← ev,lm];exact .same _
    ·exact .of_refs hab (SeqAt.RcAt.tuples p p' hu0 he)
  | non=>exact ih _ _ _ _ _ _ A (by simp [Dt.dep]) .non hy rx ry (by lia)
  | bl=>exact ih _ _ _ _ _ _ A (by simp [Dt.dep]) .bl hy rx ry (by lia)
  | int=>exact ih _ _ _ _ _ _ A (by simp [Dt.dep]) .int hy rx ry (by lia)
  | str=>exact ih _ _ _ _ _ _ A (by simp [Dt.dep]) .str hy rx ry (by lia)
def C0 (K:PySem.W.Frag):R2:=fun x y H Q=>∃ d e,IsD K H d x∧IsD K H e y∧d.dep≤60∧Q (.bl (eqD d e)) H
def C1 (K:PySem.W.Frag):R2:=fun x y H Q=>∃ d e,IsD K H d x∧IsD K H e y∧d.dep≤60∧Q (.bl (!eqD d e)) H
theorem w8 (hu:X.A.units+64 < cLine):OpR X (compareOp .Eq) (C0 X.K):=by
 intro pins s σ H x y v u Q I rx ry h;obtain ⟨d,e,hd,he,hn,q⟩:=h;exact (CZ I 60 d e x y v u X.A hn hd he rx ry (by lia)).2.1 _ _ _ _ ⟨.bl _,H,I,rfl,q⟩
theorem w9 (hu:X.A.units+64 < cLine):OpR X (compareOp .NotEq) (C1 X.K):=by
 intro pins s σ H x y v u Q I rx ry h;obtain ⟨d,e,hd,he,hn,q⟩:=h;exact (CZ I 60 d e x y v u X.A hn hd he rx ry (by lia)).2.2 _ _ _ _ ⟨.bl _,H,I,rfl,q⟩
end
end L2
namespace PySem.W
open PySem PySem.Spec PyProof.Rows PySem.Calls
structure ExcK (K:Frag) (C:Addr):Prop where
 ga:findIn K (.ref C) "__getattribute__" = some (some (.builtin "BaseException.__getattribute__"))
 gt:findIn K (.ref C) "__getattr__" = some none
 cl:findIn K (.ref C) "__class__" = some (some (.builtin "object.__class__"))
 sb:mroIn K C (.type "BaseException")=some true
 so:mroIn K C (.type "object")=some true
 cd:∃ c,clsIn K C=some c
section
variable {prog:Program} {w:World} {A:Around} {E:Value→Shared→Prop} {h:Heap} {g:Array GenState} {d:Drawn} {t:Nat} {os:OsState} {a C:Addr} {o:Obj} {K:Frag}
end
end PySem.W
namespace L2
open PySem PySem.Spec PyProof.Rows
abbrev bmV:List Value:=[.type "ValueError",.type "Exception",.type "BaseException",.type "object"]
structure ExC (K:PySem.W.Frag) (mg:Str→Option Value) (x:Str) (C:Addr):Prop where
 m:mg x=some (.ref C)
 q:PySem.W.excIn K C bmV "ValueError.__new__" = true
 k:PySem.W.ExcK K C
 kp:PySem.W.keepIn K (.ref C)=true
theorem rG {K:PySem.W.Frag} {h:Heap} {C:Addr} {bmB:List Value} {newId:String} (X:K.In h) (q:PySem.W.excIn K C bmB newId=true) :
  ∃ bm N nm qn bs hd sn sub ab col dd k0 k1 k2 k3 k5 mN,h.get? C=some (excClassObj nm qn C N bs bm hd sn sub ab col dd k0 k1 k2 k3 k5 newId)∧h.Ns N mN∧mN "__init__" = none∧OwnTail h bmB bm:=by
 unfold PySem.W.excIn at q
 split at q
 case h_2=>cases q
 case h_1 dd cd sl ho =>
  split at q
  case h_2=>cases q
  case h_1 C' bm k0 k1 k2 k3 n k5 hm hs =>
   simp only [Bool.and_eq_true,beq_iff_eq,Bool.not_eq_true'] at q;obtain ⟨⟨⟨⟨⟨q1,q2⟩,q3⟩,q4⟩,q5⟩,q6⟩:=q;subst q1 q2;obtain ⟨nm,bs,mro,ns,qn,hd,sn,sub,ab,col,del⟩:=cd;dsimp only at hm q3 q5 q6;subst hm q3;obtain ⟨l⟩:=sl;dsimp only at hs;subst hs;exact ⟨bm,ns,nm,qn,bs,hd,sn,sub,ab,col,dd,k0,k1,k2,k3,k5,_,X _ _ ho,.of_isNs (PySem.W.isNs_of_in X q5),PySem.W.nsMap_none_of_in X q5 q6,PySem.W.tail_of_in X q4⟩
section
variable {X:Cx} {pins:List (Addr×Obj)} {σ:St} {H:Hp} {s:Shared}
end
def CXE (P:Program) (w:World):CXT:=fun outer H s E e s'=>∃ (ea C:Addr) (a0:Value) (B:Heap) (H':Hp),e=.ref ea∧Heap.FlyingW B outer ea (.ref C) a0 s'.heap∧s'.os=s.os∧AllBare s'.gens∧Un (frs outer) [] H H' s.heap s'.heap∧HOk P w H' B ∧
 (∀ b o,s.heap.get? b=some o→H b=none→b∉frs outer→B.get? b=some o)∧(∀ b o,s.heap.get? b=some o→b∉frs outer→∃ o',B.get? b=some o')∧E (.ref C) none H'
theorem j0 {fs:List Addr} {H H1:Hp} {h h1 h' B:Heap} (u:Un fs [] H H1 h h1) (c1:∀ b o,h.get? b=some o→H b=none→b∉fs→B.get? b=some o) (c2:∀ b o,h.get? b=some o→b∉fs→∃ o',B.get? b=some o')
  (st:B.StaysIn h') (c3:∀ b o,h.get? b=some o→b∈fs→∃ sl,h'.get? b=some { o with slots:=sl }):Un fs [] H H1 h h' where
 keep:=fun b o q n hb _=>st b o (c1 b o q n hb)
 slot:=fun b o q n hb _=>c3 b o q hb
 free:=u.free
 there:=fun b o q hx=>by
  by_cases hb:b∈fs
  ·obtain ⟨sl,e⟩:=c3 b o q hb;exact ⟨_,e⟩
  ·obtain ⟨o',e⟩:=c2 b o q hb;exact ⟨o',st b o' e⟩
 tups:=u.tups
 frzs:=u.frzs
 tbls:=u.tbls
section
variable {X:Cx} {pins:List (Addr×Obj)} {σ:St} {H:Hp} {s:Shared}
theorem lq {base h:Heap} {l:List Env} {b:Addr} (f:h.FunFrames base l) (hb:b∈frs l):∃ o,h.get? b=some o∧∀ vs,o.data≠.fields vs:=by
 obtain ⟨_,o,ho,hn⟩:=f.mem hb;exact ⟨o,ho,hn⟩
def xf (C:Addr) (E:XK) (t:TA):TS:=fun _ σ H=>t σ H fun xs H1=>xs.length≤sizeLine∧E (.ref C) none H1
end
def hcx (X:Cx) (ea:Addr):Cx:={ X with A:=X.A.mark (some (.ref ea)),calm:=false,xe:=fun _ _=>False }
section
variable {X:Cx} {pins:List (Addr×Obj)} {σ:St} {H:Hp} {s:Shared}
theorem Cx.Ok.hcx (ok:X.Ok) (ea:Addr):(hcx X ea).Ok :=
 ⟨ok.mod,ok.kind,ok.glob,ok.blt,ok.above,ok.inj,ok.has,ok.cab,fun z=>absurd z (by show ¬ (false=true);decide),ok.frames,ok.stk,ok.exf,ok.bs,ok.bsz,ok.noex,ok.exfs,ok.funs,ok.frf⟩
theorem Inv.hcx (I:Inv X pins σ H s) (ea:Addr):Inv (hcx X ea) pins σ H s:=⟨I.ok.hcx ea,I.os,I.bare,I.base,I.loc,I.cell,I.free,I.freeC,I.pin,I.hok,I.len⟩
theorem Inv.unhcx {ea:Addr} (I:Inv (L2.hcx X ea) pins σ H s) (ok:X.Ok):Inv X pins σ H s:=⟨ok,I.os,I.bare,I.base,I.loc,I.cell,I.free,I.freeC,I.pin,I.hok,I.len⟩
abbrev TX:=St→Hp→VK→XK→Prop
def PX (X:Cx) (e:Expr) (t:TX):Prop :=
 ∀ (pins:List (Addr×Obj)) (s:Shared) (σ:St) (H:Hp) (Q:VK) (E:XK),Inv X pins σ H s→t σ H Q E →
  wpAny (model X.prog X.w) X.A (eval e X.env) (EP X pins σ Q) (fun ex s'=>∃ H1 s1,Inv X pins σ H1 s1∧CXE X.prog X.w X.stack H1 s1 E ex s') s
theorem gO {k:Nat} {f:Addr} {fd:FuncData} {ps:List Str} {sp:Sp} {x:Str} {p pos:Pos} {e:Expr} {es:List Expr} {t:TA} (F:FnOk X.prog X.w X.K X.mg X.base (CXE X.prog X.w) k f fd ps sp) (hr:Room k X.A) (hg:Gl X x) (hm:X.mg x=some (.ref f))
  (hk:PySem.W.keepIn X.K (.ref f)=true) (hb:Binds X.K fd ps []) (ha:PA X.nox (e :: es) t) (hdb:(x == ("__debug__" : Str))=false:=by decide) (he:starEach (e :: es) X.env=(false,eval e X.env) :: starEach es X.env:=by rfl)
  (hpl:(backTo pos (starEach es X.env)).any (·.1)=false:=by rfl):PX X (.Call (.Name x p) (e :: es) [] pos) (fun σ H Q E=>t σ H fun vs H1=>sp vs H1 Q E):=by
 intro pins s σ H Q E I h;refine wpAny_Call_Name_kw (cv I hg hm ?_ hdb);refine PySem.W.callWith_K (h₀:=X.base) I.ok.mod.kin hk (wpAny_mono (ha pos pins s σ H _ (I.wish _) h) (fun us s1 ⟨vs,H1,I1',r,q⟩=>?_) fun _ _ z=>z.elim) he hpl;have I1:Inv X pins σ H1 s1:=Inv.unwish I1';refine ⟨I1.kIn,?_⟩;have hl:us.length=ps.length:=by rw [← r.length];exact F.len _ _ _ _ q
 have hb':BindsTo s1 fd ⟨us,[]⟩ (ps.zip us):=by
  have z:=hb s1 us I1.kIn (by rw [List.append_nil];exact hl)
  rwa [List.append_nil] at z
 refine wpAny_call (codeAny_mono (F.run X.A X.stack s1 H1 ⟨us,[]⟩ us vs Q E hr I1.env0 hb' r q) fun rr s' hq=>?_)
 cases rr with
 | error ex=>exact ⟨H1,s1,I1,hq⟩
 | ok fl =>
  cases fl with
  | ret u=>exact I1.after hq
  | next=>exact False.elim hq
  | brk=>exact False.elim hq
  | cont=>exact False.elim hq
end
section
variable {X:Cx} {a b c d:Expr} {ta tb tc td:TE} {pos:Pos}
end
section
variable {X:Cx}
end
structure RoomH (k:Nat) (A:Around):Prop where
 dp:A.depth+3*k+5 < recursionLimit
 un:A.units+16*k+200 < cLine
structure FnOkH (P:Program) (w:World) (K:PySem.W.Frag) (mg:Str→Option Value) (base:Heap) (k:Nat) (f:Addr) (fd:FuncData) (ps:List Str) (sp:Sp):Prop where
 len:∀ vs H Q E,sp vs H Q E→vs.length=ps.length
 run:∀ (A:Around) (outer:List Env) (s:Shared) (H:Hp) (args:Args) (us:List Value) (vs:List V) (Q:VK) (E:XK),RoomH k A→Env0 P w K mg base A outer s H→BindsTo s fd args (ps.zip us)→Vals vs us→sp vs H Q E →
  codeAny (model P w) A (.call (.ref f) args) (CR CX0 outer P w H s Q E) s
section
variable {X:Cx}
end
end L2
namespace HT
open PySem PySem.Spec PyProof.Rows
section
variable {prog:Program} {w:World} {A:Around} {E:Value→Shared→Prop} {s:Shared}
theorem getItem_tuple_all {t sl:Addr} {items:Array Value} {vl vu:Value} {lo hi:Option Int} {Q:Value→Shared→Prop} (ht:IsTup s.heap t items) (hs:s.heap.IsSliceOf sl vl vu .none) (pl:IsPart vl lo) (pu:IsPart vu hi)
  (h1:sIx items.size 0 lo=0) (h2:sIx items.size items.size hi=items.size) (h:Q (.ref t) s):wpAny (model prog w) A (getItem (.ref t) (.ref sl)) Q E s:=by
 obtain ⟨os,hos,hcs,hds⟩:=id hs;have hTs:s.TypeIs (.ref sl) "slice" :=⟨os,hos,hcs⟩;unfold getItem
 try with_reducible refine wpAny_holding ?_
 first | refine wpAny_bind (wpAny_pure ?_) | skip
 refine wpAny_bind (wpAny_sequenceKey ht.typeIs (by decide) ?_);refine wpAny_bind (wpAny_callSpecial?_slot (name:=Str.ofString "__getitem__") ht.typeIs PyProof.Rows.slot_tuple_getitem (wpAny_call_entry PyProof.Rows.slot_tuple_getitem ht.typeIs entry_tuple_getitem ?_ (args_tuple_getitem _ _)));show wpAny _ _ (Builtin.Tuple.tupleItemsOf (.ref t) >>= _) _ _ s;refine wpAny_bind (tupleItemsOf_ ht ?_);refine wpAny_bind (wpAny_typeOf hTs ?_);rw [if_pos (by decide)];refine wpAny_bind (cL hs pl pu ?_);have hyes:(((sIx items.size 0 lo:Nat):Int) == 0 && (1:Int) == 1 && (sIx items.size items.size hi - sIx items.size 0 lo) == items.size)=true:=by
  rw [h1,h2];simp
 show wpAny _ _ (if (((sIx items.size 0 lo:Nat):Int) == 0 && (1:Int) == 1 && (sIx items.size items.size hi - sIx items.size 0 lo) == items.size)=true then _ else _) _ _ s;rw [if_pos hyes];refine wpAny_bind (m:=Builtin.Tuple.tupleIsExact _) (wpAny_bind (wpAny_typeOf ht.typeIs ?_));refine wpAny_pure ?_;rw [if_pos (by decide)];exact wpAny_bind (wpAny_rule (wpAny_pure ⟨_,rfl,wpAny_pure h⟩))
end
end HT
namespace L2
open PySem PySem.Spec PyProof.Rows
section
variable {X:Cx}
theorem IsD.unref {K:PySem.W.Frag} {H:Hp} {l:List Dt} {v:V} (h:IsD K H (.tup l) v):∃ a xs,v=.ref a∧SqT K H a xs∧IsDs K H l xs:=by
 cases h with
 | tup h r=>exact ⟨_,_,rfl,h,r⟩
def oG (l:List Dt) (lo hi:Option Int):List Dt:=(l.drop (HT.sIx l.length 0 lo)).take (HT.sIx l.length l.length hi - HT.sIx l.length 0 lo)
theorem rH:IxR X (fun x y H Q=>∃ l i d,IsD X.K H (.tup l) x∧y=.int i∧atI l i=some d∧∀ v,IsD X.K H d v→Q v H):=by
 intro value slice pins s σ H x y v u Q I rx ry h hs;obtain ⟨l,i,d,dx,rfl,ha,q⟩:=h;obtain ⟨a,xs,rfl,hx,ra⟩:=id dx.unref;obtain ⟨j,hj,hd,_⟩:=eZ ha;have e1:=ra.length;obtain ⟨w',hw,dw⟩:=ra.get hd;have hat:atI xs i=some w':=by
  unfold atI at ha ⊢;rw [← e1]
  cases z:ixN l.length i with
  | none=>rw [z] at ha;cases ha
  | some j' =>
   rw [z] at ha;have ha':l[j']?=some d:=ha;obtain ⟨w2,hw2,dw2⟩:=ra.get ha';have z2:=gL z;rw [hj] at z2;have:j=j':=Option.some.inj z2.1;subst this;exact hw
 exact pQ value slice pins s σ H (.ref a) (.int i) v u Q I rx ry ⟨a,xs,i,w',rfl,rfl,hx,hat,q w' dw⟩ hs
theorem oH:bh X (.builtin "len") (fun xs H Q=>∃ x l,xs=[x]∧IsD X.K H (.tup l) x∧Q (.int l.length) H):=by
 intro pins s σ H xs us Q I r h;obtain ⟨x,l,rfl,dx,q⟩:=h;obtain ⟨a,ys,rfl,hx,ra⟩:=dx.unref;exact e6 pins s σ H [.ref a] us Q I r ⟨a,ys,rfl,.inr hx,by rw [← ra.length];exact q⟩
end
end L2
namespace PySem
open Sem (wp)
section
variable {M:Model} {A:Around} {E:Value→Shared→Prop} {s:Shared}
def Heap.MadeB (base:Heap) (l:List Env) (e:Addr) (cls a0:Value) (h:Heap):Prop :=
 base.StaysIn h∧base.get? e=none∧h.FunFrames base l∧∃ oe vs,h.get? e=some oe∧oe.cls=cls∧oe.data=.fields vs∧vs[0]?=some a0∧vs[1]?=some .none
theorem oI {base:Heap} {env:Env} {outer:List Env} {L e:Addr} {cls a0:Value} {Q:Unit→Shared→Prop} (hfr:A.frames=some (env :: outer)) (hf:env.frame=some L) (hm:Heap.MadeB base (env :: outer) e cls a0 s.heap)
  (h:∀ h',Heap.HeldW base (env :: outer) e cls a0 L h'→s.heap.UpToSlots h'→Q () { s with heap:=h' }):wpAny M A (noteFrame (.ref e) env) Q E s:=by
 obtain ⟨hkb,hen,hl,oe,vs,he,hc,hd,h0,h1⟩:=hm;subst hc;unfold noteFrame;simp only [hf];refine wpAny_bind (wpAny_field he hd h1 ?_);rw [if_neg (by decide)];refine wpAny_entryW hfr hl hf he hkb hen hd (Array.getElem?_eq_some_iff.mp h1).1 h0 fun h' hN=>?_;obtain ⟨k1,k2,k3,k4⟩:=hN;exact h h' ⟨k1,hen,k2,k3⟩ k4
theorem mJ {base:Heap} {env:Env} {outer:List Env} {L e:Addr} {cls a0:Value} {Q:Unit→Shared→Prop} (hfr:A.frames=some (env :: outer)) (hf:env.frame=some L) (hm:Heap.MadeB base (env :: outer) e cls a0 s.heap)
  (h:∀ h',Heap.FlyingW base outer e cls a0 h'→s.heap.UpToSlots h'→Q () { s with heap:=h' }):wpAny M A (leaving env (.ref e)) Q E s:=by
 obtain ⟨hkb,hen,hl,oe,vs,he,hc,hd,h0,h1⟩:=hm;subst hc;refine wpAny_leaving_firstW hfr hl hf he hkb hen hd h1 h0 fun h' hL=>?_;obtain ⟨k1,⟨_,_,k2⟩,k3,k4⟩:=hL;exact h h' ⟨k1,hen,k2,k3⟩ k4
theorem oJ {base:Heap} {l:List Env} {e L:Addr} {cls a0:Value} {env:Env} {E2:Value→Shared→Prop} (hf:env.frame=some L) (R:Heap.HeldW base l e cls a0 L s.heap) (h:∀ h',Heap.HeldW base l e cls a0 L h'→s.heap.UpToSlots h'→E2 (.ref e) { s with heap:=h' }) :
  cameBackBy M A env E2 (.ref e) s:=by
 obtain ⟨hkb,hen,hl,oe,vs,T,oT,ts,he,hcls,hd,h1,hnT,hTe,hT,hdT,h3⟩:=R;have hsz3:3 < ts.size:=(Array.getElem?_eq_some_iff.mp h3).1;have other:∀ b,b≠T→∀ f:Obj→Obj,(s.heap.update T f).get? b=s.heap.get? b:=fun b hb f=>Heap.get?_update_other _ _ (Ne.symm hb);have noRec:∀ b o,s.heap.get? b=some o→(∀ vs,o.data≠.fields vs)→b≠T:=fun b o hb hnf q=>by
  rw [q,hT] at hb
  cases hb
  exact hnf ts hdT
 unfold cameBackBy;refine wpAny_bind (wpAny_field he hd h1 ?_);rw [if_neg (show ¬ ((Value.ref T == Value.none)=true) from by simp)];unfold setFlight;refine wpAny_bind (wpAny_field he hd h1 ?_);rw [if_pos (show (Value.ref T != Value.none)=true from by simp)];refine wpAny_setField hT hdT hsz3 (h _ ⟨fun b o hbo=>(other b (fun q=>by rw [q,hnT] at hbo;cases hbo) _).trans (hkb b o hbo),hen,
  hl.of_keeps fun b o hb hnf=>⟨o,(other b (noRec b o hb hnf) _).trans hb,rfl⟩,?_⟩ fun b o hb hnf=>⟨o.slots,(other b (noRec b o hb hnf) _).trans hb⟩)
 exact ⟨oe,vs,T,_,_,(other e (Ne.symm hTe) _).trans he,hcls,hd,h1,hnT,hTe,Heap.get?_update_self _ hT (Obj.isFreed_of_fields (Obj.data_mapFields hdT _)),Obj.data_mapFields hdT _,by simp [hsz3,hf]⟩
end
end PySem
namespace L2
open PySem PySem.Spec PyProof.Rows
def fR (X:Cx) (E:XK):Value→Shared→Prop:=fun e s'=>∃ (ea C:Addr) (a0:Value) (B:Heap) (H':Hp),e=.ref ea ∧
 (Heap.FlyingW B (X.env :: X.outer) ea (.ref C) a0 s'.heap∨Heap.HeldW B (X.env :: X.outer) ea (.ref C) a0 X.env.locals s'.heap∨Heap.MadeB B (X.env :: X.outer) ea (.ref C) a0 s'.heap)∧s'.os=X.s₀.os∧AllBare s'.gens ∧
 Un (frs X.outer) [] X.H₀ H' X.s₀.heap s'.heap∧HOk X.prog X.w H' B∧(∀ b o,X.s₀.heap.get? b=some o→X.H₀ b=none→b∉frs X.outer→B.get? b=some o) ∧
 (∀ b o,X.s₀.heap.get? b=some o→b∉frs X.outer→∃ o',B.get? b=some o')∧E (.ref C) none H'
section
variable {X:Cx} {E:XK}
theorem gP {H':Hp} {B h h2:Heap} (frf:∀ b∈frs X.outer,X.H₀ b=none) (u:Un (frs X.outer) [] X.H₀ H' X.s₀.heap h) (F:h.FunFrames B (X.env :: X.outer)) (up:h.UpToSlots h2) (st:B.StaysIn h2)
  (c1:∀ b o,X.s₀.heap.get? b=some o→X.H₀ b=none→b∉frs X.outer→B.get? b=some o) (c2:∀ b o,X.s₀.heap.get? b=some o→b∉frs X.outer→∃ o',B.get? b=some o'):Un (frs X.outer) [] X.H₀ H' X.s₀.heap h2:=by
 refine j0 u c1 c2 st fun b o e hb=>?_;obtain ⟨sl,e1⟩:=u.slot b o e (frf b hb) hb (by simp);have mem:b∈frs (X.env :: X.outer):=by
  obtain ⟨env,he,hf⟩:=List.mem_filterMap.mp hb;exact List.mem_filterMap.mpr ⟨env,List.mem_cons_of_mem _ he,hf⟩
 obtain ⟨o2,e2,nf⟩:=lq F mem;rw [e1] at e2;obtain rfl:=Option.some.inj e2;obtain ⟨sl2,e3⟩:=up b _ e1 nf;exact ⟨sl2,e3⟩
theorem dC {A:Around} (hA:A.frames=some (X.env :: X.outer)) (hfr:X.env.frame=some X.env.locals) (frf:∀ b∈frs X.outer,X.H₀ b=none):PassesOwn (model X.prog X.w) A X.env (fR X E):=by
 intro e s' h;obtain ⟨ea,C,a0,B,H',rfl,st,os,bare,un,hok,c1,c2,q⟩:=h;have fin:∀ {s2:Shared},s2.os=X.s₀.os→AllBare s2.gens→Un (frs X.outer) [] X.H₀ H' X.s₀.heap s2.heap→Heap.HeldW B (X.env :: X.outer) ea (.ref C) a0 X.env.locals s2.heap→cameBackBy (model X.prog X.w) A X.env (fR X E) (.ref ea) s2:=fun {s2} o2 b2 u2 hh =>
  oJ hfr hh fun h' hh' up=>⟨ea,C,a0,B,H',rfl,.inr (.inl hh'),o2,b2,gP frf u2 hh.2.2.1 up hh'.1 c1 c2,hok,c1,c2,q⟩
 rcases st with fl | hh | hm
 ·exact wpAny_looks_onW hA hfr fl fun h' hh up=>fin (s2:={ s' with heap:=h' }) os bare (gP frf un fl.2.2.1 up hh.1 c1 c2) hh
 ·exact wpAny_noteFrame_againW hfr hh.2.2.2 (fin os bare un hh)
 ·exact oI hA hfr hm fun h' hh up=>fin (s2:={ s' with heap:=h' }) os bare (gP frf un hm.2.2.1 up hh.1 c1 c2) hh
theorem lr {A:Around} (hA:A.frames=some (X.env :: X.outer)) (hfr:X.env.frame=some X.env.locals) (frf:∀ b∈frs X.outer,X.H₀ b=none) {e:Value} {s':Shared} (h:fR X E e s') :
  wpAny (model X.prog X.w) A (leaving X.env e) (fun _ s''=>CXE X.prog X.w X.outer X.H₀ X.s₀ E e s'') (fun e' s''=>CXE X.prog X.w X.outer X.H₀ X.s₀ E e' s'') s':=by
 obtain ⟨ea,C,a0,B,H',rfl,st,os,bare,un,hok,c1,c2,q⟩:=h;have fin:∀ {h':Heap},s'.heap.FunFrames B (X.env :: X.outer)→Heap.FlyingW B X.outer ea (.ref C) a0 h'→s'.heap.UpToSlots h'→CXE X.prog X.w X.outer X.H₀ X.s₀ E (.ref ea) { s' with heap:=h' }:=fun {h'} F fl up =>
  ⟨ea,C,a0,B,H',rfl,fl,os,bare,gP frf un F up fl.1 c1 c2,hok,c1,c2,q⟩
 rcases st with fl | hh | hm
 ·exact wpAny_leaves_onW hA hfr fl fun h' fl' up=>fin fl.2.2.1 fl' up
 ·unfold leaving;refine wpAny_bind (wpAny_noteFrame_againW hfr hh.2.2.2 ?_);refine wpAny_landsW hh fun h' hfl up=>?_;obtain ⟨k1,k2,⟨_,_,k3⟩,k4⟩:=hfl;exact fin hh.2.2.1 ⟨k1,k2,k3,k4⟩ up
 ·exact mJ hA hfr hm fun h' fl' up=>fin hm.2.2.1 fl' up
variable {pins:List (Addr×Obj)} {σ:St} {H:Hp} {s:Shared}
theorem oK {C:Addr} {ea:Addr} {vs:List Value} {h':Heap} {tk:Nat} (hstk:X.stack=X.env :: X.outer) (hfr:X.env.frame=some X.env.locals) (hex:X.ex=[]) (I:Inv X pins σ H s) (hm:Heap.MadeExcOf s.heap h' ea (.ref C) vs)
  (q:E (.ref C) none H):fR X E (.ref ea) { s with heap:=h',toks:=tk }:=by
 have F0:s.heap.FunFrames X.base (X.env :: X.outer):=by rw [← hstk];exact I.stack
 have mem:∀ b∈frs X.outer,b∈frs (X.env :: X.outer):=fun b hb=>by
  obtain ⟨env,he,hf⟩:=List.mem_filterMap.mp hb;exact List.mem_filterMap.mpr ⟨env,List.mem_cons_of_mem _ he,hf⟩
 have inv:∀ b,b∈frs (X.env :: X.outer)→b=X.env.locals∨b∈frs X.outer:=fun b hb=>by
  obtain ⟨env,he,hf⟩:=List.mem_filterMap.mp hb;rcases List.mem_cons.mp he with rfl | he
  ·rw [hfr] at hf;exact .inl (Option.some.inj hf).symm
  ·exact .inr (List.mem_filterMap.mpr ⟨env,he,hf⟩)
 have hin:∀ env∈(X.env :: X.outer),∀ b,env.frame=some b→b∈frs (X.env :: X.outer):=fun env he b hb=>List.mem_filterMap.mpr ⟨env,he,hb⟩;have stayB:∀ b o,s.heap.get? b=some o→b∉frs (X.env :: X.outer)→(PySem.W.hideAll s.heap (frs (X.env :: X.outer))).get? b=some o:=fun b o e n=>PySem.W.hideAll_get _ e n;have old:∀ b o,X.s₀.heap.get? b=some o→b∉frs X.outer→b∉frs (X.env :: X.outer):=fun b o e n z=>by
  rcases inv b z with rfl | z
  ·exact absurd (Nat.lt_of_lt_of_le (Heap.lt_size e) I.ok.above) (Nat.lt_irrefl _)
  ·exact n z
 have B0:Un X.fs [] X.H₀ H X.s₀.heap s.heap:=by have z:=I.base;rw [hex] at z;exact z
 have c1:∀ b o,X.s₀.heap.get? b=some o→X.H₀ b=none→b∉frs X.outer→(PySem.W.hideAll s.heap (frs (X.env :: X.outer))).get? b=some o:=fun b o e n hb=>stayB b o (B0.keep b o e n hb (by simp)) (old b o e hb);have c2:∀ b o,X.s₀.heap.get? b=some o→b∉frs X.outer→∃ o',(PySem.W.hideAll s.heap (frs (X.env :: X.outer))).get? b=some o':=fun b o e hb=>by
  obtain ⟨o',e'⟩:=B0.there b o e (by simp);exact ⟨o',stayB b o' e' (old b o e hb)⟩
 have FB:s.heap.FunFrames (PySem.W.hideAll s.heap (frs (X.env :: X.outer))) (X.env :: X.outer):=PySem.W.funFrames_hide F0 hin;obtain ⟨t,he,htn,ht⟩:=hm.there;have stays:(PySem.W.hideAll s.heap (frs (X.env :: X.outer))).StaysIn h':=fun b o e=>hm.keeps b o (PySem.W.of_hideAll _ e);have hen:(PySem.W.hideAll s.heap (frs (X.env :: X.outer))).get? ea=none:=by
  cases z:(PySem.W.hideAll s.heap (frs (X.env :: X.outer))).get? ea with
  | none=>rfl
  | some o =>
   have z2:=PySem.W.of_hideAll _ z;rw [hm.new] at z2
   cases z2
 refine ⟨ea,C,.ref t,_,H,rfl,.inr (.inr ⟨stays,hen,FB.of_keeps fun b o hb _=>⟨o,hm.keeps b o hb,rfl⟩,_,_,he,rfl,rfl,rfl,rfl⟩),I.os,I.bare,j0 B0 c1 c2 stays fun b o e hb=>?_,fun b u e=>?_,c1,c2,q⟩
 ·obtain ⟨sl,e1⟩:=B0.slot b o e (I.ok.frf b hb) hb (by simp);exact ⟨sl,hm.keeps b _ e1⟩
 ·refine (I.hok b u e).stay (fun c v hc z=>stayB c v z fun hf=>?_) (fun _ z=>z) fun _ _ z=>z;have n0:H c=none:=by rw [← hstk] at hf;exact I.stkFree c hf
  rcases hc with rfl | hc
  ·rw [e] at n0;cases n0
  ·rw [hc] at n0;cases n0
theorem ps_raiseW {x:Str} {C:Addr} {e:Expr} {es:List Expr} {t:TA} {np cpos pos:Pos} (hstk:X.stack=X.env :: X.outer) (hfr:X.env.frame=some X.env.locals) (hex:X.ex=[]) (hc:X.calm=true) (G:ExC X.K X.mg x C) (hg:Gl X x) (ha:PA (X.wish (fR X E)) (e :: es) t)
  (hdb:(x == ("__debug__" : Str))=false:=by decide) (he:starEach (e :: es) X.env=(false,eval e X.env) :: starEach es X.env:=by rfl) (hpl:(backTo cpos (starEach es X.env)).any (·.1)=false:=by rfl) :
  PS (X.wish (fR X E)) (.Raise (some (.Call (.Name x np) (e :: es) [] cpos)) none pos) (xf C E t):=by
 intro pins s σ H D I h;obtain ⟨bm,N,nm,qn,bs,hd,sn,sub,ab,col,dd,k0,k1,k2,k3,k5,mN,hC,hN,hni,T⟩:=rG (show X.K.In X.base from I.ok.mod.kin) G.q;refine wpAny_Raise_call_subT (C:=C) (nm:=nm) (q:=qn) (N:=N) (bs:=bs) (bm:=bm) (hdct:=hd) (sn:=sn) (sub:=sub) (ab:=ab) (col:=col) (dd:=dd) (k0:=k0) (k1:=k1) (k2:=k2) (k3:=k3) (k5:=k5) F.excBase_ValueError (mN:=mN) (T.hasType F.excBase_ValueError.hasBase) (I.ok.hd hc)
  (by show (backTo cpos (starEach (e :: es) X.env)).any (·.1)=false;rw [he];show (false || (backTo cpos (starEach es X.env)).any (·.1))=false;rw [hpl];rfl) hni (cv I hg G.m ⟨rfl,?_⟩ hdb)
 have z:=ha cpos pins s σ H _ I h;have he':starEach (e :: es) (X.wish (fR X E)).env=(false,eval e (X.wish (fR X E)).env) :: starEach es (X.wish (fR X E)).env:=he;rw [he'] at z ⊢;refine Calls.evalArgs_plain (wpAny_mono z (fun us s2 ⟨vs,H2,I2,r,hz,q⟩=>?_) fun _ _ y=>y);refine ⟨rfl,by show us.length≤sizeLine;rw [← r.length];exact hz,I2.bk _ _ hC,hN.keeps I2.bk,T.keeps I2.bk,fun h' ea hm=>?_⟩;exact oK (tk:=s2.toks) hstk hfr hex (Inv.unwish I2) hm q
theorem wing_on (hstk:X.stack=X.env :: X.outer) (hfr:X.env.frame=some X.env.locals) (hex:X.ex=[]):eH (CXE X.prog X.w) (X.wish (fR X E)) E:=by
 intro pins σ H s e s' I' h;have I:Inv X pins σ H s:=Inv.unwish I';obtain ⟨ea,C,a0,B,H',rfl,fl,os,bare,un,hok,c1,c2,q⟩:=h;have hstk':(X.wish (fR X E)).stack=X.env :: X.outer:=hstk;rw [hstk'] at fl un c1 c2;have inv:∀ b,b∈frs (X.env :: X.outer)→b=X.env.locals∨b∈frs X.outer:=fun b hb=>by
  obtain ⟨env,he,hf⟩:=List.mem_filterMap.mp hb;rcases List.mem_cons.mp he with rfl | he
  ·rw [hfr] at hf;exact .inl (Option.some.inj hf).symm
  ·exact .inr (List.mem_filterMap.mpr ⟨env,he,hf⟩)
 have mem:∀ b∈frs X.outer,b∈frs (X.env :: X.outer):=fun b hb=>by
  obtain ⟨env,he,hf⟩:=List.mem_filterMap.mp hb;exact List.mem_filterMap.mpr ⟨env,List.mem_cons_of_mem _ he,hf⟩
 have old:∀ b o,X.s₀.heap.get? b=some o→b∉frs X.outer→b∉frs (X.env :: X.outer):=fun b o e n z=>by
  rcases inv b z with rfl | z
  ·exact absurd (Nat.lt_of_lt_of_le (Heap.lt_size e) I.ok.above) (Nat.lt_irrefl _)
  ·exact n z
 have B0:Un X.fs [] X.H₀ H X.s₀.heap s.heap:=by have z:=I.base;rw [hex] at z;exact z
 have d1:∀ b o,X.s₀.heap.get? b=some o→X.H₀ b=none→b∉frs X.outer→B.get? b=some o:=fun b o e n hb=>c1 b o (B0.keep b o e n hb (by simp)) (B0.free b o e n (by simp)) (old b o e hb);have d2:∀ b o,X.s₀.heap.get? b=some o→b∉frs X.outer→∃ o',B.get? b=some o':=fun b o e hb=>by
  obtain ⟨o',e'⟩:=B0.there b o e (by simp);exact c2 b o' e' (old b o e hb)
 refine ⟨ea,C,a0,B,H',rfl,.inl fl,os.trans I.os,bare,?_,hok,d1,d2,q⟩;refine ⟨fun b o e n hb _=>?_,fun b o e n hb _=>?_,fun b o e n _=>?_,fun b o e _=>?_,fun b xs e=>un.tups b xs (B0.tups b xs e),fun b o u e=>un.frzs b o u (B0.frzs b o u e),fun b ps e=>?_⟩
 ·exact un.keep b o (B0.keep b o e n hb (by simp)) (B0.free b o e n (by simp)) (old b o e hb) (by simp)
 ·obtain ⟨sl,e1⟩:=B0.slot b o e n hb (by simp);obtain ⟨sl2,e2⟩:=un.slot b _ e1 (B0.free b o e n (by simp)) (mem b hb) (by simp);exact ⟨sl2,e2⟩
 ·obtain ⟨o',e'⟩:=B0.there b o e (by simp);exact un.free b o' e' (B0.free b o e n (by simp)) (by simp)
 ·obtain ⟨o',e'⟩:=B0.there b o e (by simp);exact un.there b o' e' (by simp)
 ·obtain ⟨m1,e1⟩:=B0.tbls b ps e;obtain ⟨m2,e2⟩:=un.tbls b _ e1;exact ⟨m1++m2,by rw [e2,Array.append_assoc]⟩
end
theorem PSs.wing {X:Cx} {E:XK} {st:List Stmt} {t:TS} (hstk:X.stack=X.env :: X.outer) (hfr:X.env.frame=some X.env.locals) (hxe:X.xe=fun e s'=>wpAny (model X.prog X.w) X.A (leaving X.env e) (fun _ s''=>CXE X.prog X.w X.outer X.H₀ X.s₀ E e s'') (fun e' s''=>CXE X.prog X.w X.outer X.H₀ X.s₀ E e' s'') s')
  (h:PSs (X.wish (fR X E)) st t):PSs X st t:=fun pins s σ H D I hw =>
 wpAny_mono (h pins s σ H D (I.wish _) hw) (fun _ _ q=>q.unwish) fun e s' z=>by
  rw [hxe];exact lr (by rw [I.ok.frames,hstk]) hfr I.ok.frf z
theorem Fun.okW {P:Program} {w:World} {K:PySem.W.Frag} {mg:Str→Option Value} {base:Heap} {x qual:Str} {st:Stmt} {f:Addr} {fd:FuncData} {N ps:List Str} {k:Nat} {sp:Sp} (F:Fun K x qual st f fd) (S:FnScope N ps (aa st)) (len:∀ vs H Q E,sp vs H Q E→vs.length=ps.length)
  (hbody:∀ (cdv:Value) (A:Around) (outer:List Env) (s:Shared) (H:Hp) (vs:List V) (Q:VK) (E:XK),Room k (A.deeper (envOfC qual (aa st) s.heap.objs.size f cdv))→sp vs H Q E →
   ∃ t,PSs ((kW (CXE P w) P w K mg base N qual (aa st) f cdv A outer s H E).wish (fR (kW (CXE P w) P w K mg base N qual (aa st) f cdv A outer s H E) E)) (aX st) t∧t { nx:=fun _ H'=>Q .non H',rt:=Q } (eY N vs) H):FnOk P w K mg base (CXE P w) (k+1) f fd ps sp:=by
 obtain ⟨oc,od,kV,doc,pm,an,cdv,ct,osl,rfl,lk,hcd⟩:=F.ex;refine sJ lk hcd S len fun A outer s H vs Q E hr hsp=>?_;obtain ⟨t,h,q⟩:=hbody cdv A outer s H vs Q E hr hsp;exact ⟨t,PSs.wing rfl rfl rfl h,q⟩
section
variable {κ:Type} [DecidableEq κ]
def lu (kvs:List (κ×V)) (k:κ):Option V:=(kvs.find? fun kv=>decide (kv.1=k)).map (·.2)
def rJ (kvs:List (κ×V)) (k:κ) (v:V):List (κ×V) :=
 if (kvs.any fun kv=>decide (kv.1=k))=true then kvs.map (fun kv=>if kv.1=k then (kv.1,v) else kv) else kvs++[(k,v)]
theorem KV.any {kvs:List (κ×V)} {vs:List (κ×Value)} (r:KV kvs vs) (k:κ):(kvs.any fun kv=>decide (kv.1=k))=vs.any fun kv=>decide (kv.1=k):=by
 unfold KV at r
 induction r with
 | nil=>rfl
 | cons h t ih=>rw [List.any_cons,List.any_cons,ih,h.1]
theorem KV.length {kvs:List (κ×V)} {vs:List (κ×Value)} (r:KV kvs vs):kvs.length=vs.length:=Paired.length r
end
theorem sL {P:Program} {w:World} {k:Key} {u:Value} (r:RelV (kV k) u):(bt P w).is k u=true:=by
 cases k with
 | inl i=>obtain ⟨t,e⟩:=(show ∃ t,u=Value.int i t from r);subst e;exact kQ P w i t
 | inr x=>obtain ⟨t,e⟩:=(show ∃ t,u=Value.str x t from r);subst e;exact kR P w x t
theorem jx {P:Program} {w:World}:∀ {ks:List Key} {us:List Value},Vals (ks.map kV) us→ItemsAre (bt P w) ks us
 | [],_,r=>by rw [List.map_nil] at r;cases r;exact .nil
 | k :: ks,_,r=>by
  rw [List.map_cons] at r
  cases r with
  | cons h t=>exact .cons (sL h) (jx t)
abbrev KT (H:Hp):List (List Key×V)→List (List Key×Addr×Value)→Prop:=Paired fun p q=>p.1=q.1∧H q.2.1=some (.tup (p.1.map kV))∧RelV p.2 q.2.2
theorem KT.keeps {H H':Hp} {kvs:List (List Key×V)} {xs:List (List Key×Addr×Value)} (r:KT H kvs xs) (ht:∀ b ys,H b=some (.tup ys)→H' b=some (.tup ys)):KT H' kvs xs :=
 Paired.mapP r fun _ _ z=>⟨z.1,ht _ _ z.2.1,z.2.2⟩
section
variable {P:Program} {w:World} {H:Hp} {h:Heap} {a:Addr}
end
def DGet (H:Hp) (a:Addr) (y:V) (r:Option V):Prop :=
 (∃ kvs k,Rd H a (.dK kvs)∧y=kV k∧r=lu kvs k)∨∃ kvs k b,Rd H a (.dT kvs)∧y=.ref b∧H b=some (.tup (k.map kV))∧r=lu kvs k
def DPut (H:Hp) (a:Addr) (y v:V) (H':Hp):Prop :=
 (∃ kvs k,H a=some (.dK kvs)∧y=kV k∧kvs.length < sizeLine∧H'=upd H a (.dK (rJ kvs k v))) ∨
 ∃ kvs k b,H a=some (.dT kvs)∧y=.ref b∧H b=some (.tup (k.map kV))∧kvs.length < sizeLine∧H'=upd H a (.dT (rJ kvs k v))
theorem DGet.k {H:Hp} {a:Addr} {kvs:List (Key×V)} {k:Key} (e:H a=some (.dK kvs)):DGet H a (kV k) (lu kvs k):=.inl ⟨kvs,k,.inl e,rfl,rfl⟩
theorem DGet.t {H:Hp} {a b:Addr} {kvs:List (List Key×V)} {k:List Key} (e:H a=some (.dT kvs)) (eb:H b=some (.tup (k.map kV))):DGet H a (.ref b) (lu kvs k):=.inr ⟨kvs,k,b,.inl e,rfl,eb,rfl⟩
theorem DPut.k {H:Hp} {a:Addr} {kvs:List (Key×V)} {k:Key} {v:V} (e:H a=some (.dK kvs)) (hl:kvs.length < sizeLine):DPut H a (kV k) v (upd H a (.dK (rJ kvs k v))):=.inl ⟨kvs,k,e,rfl,hl,rfl⟩
theorem DPut.t {H:Hp} {a b:Addr} {kvs:List (List Key×V)} {k:List Key} {v:V} (e:H a=some (.dT kvs)) (eb:H b=some (.tup (k.map kV))) (hl:kvs.length < sizeLine) :
  DPut H a (.ref b) v (upd H a (.dT (rJ kvs k v))):=.inr ⟨kvs,k,b,e,rfl,eb,hl,rfl⟩
section
variable {X:Cx} {pins:List (Addr×Obj)} {σ:St} {H:Hp} {s:Shared} {a:Addr} {y v:V} {u r:Value} {o:Option V} {A:Around} {E:Value→Shared→Prop}
end
section
variable {X:Cx} {pins:List (Addr×Obj)} {σ:St} {H:Hp} {s:Shared} {a:Addr} {kvs:List (Key×V)} {k:Key} {u:Value} {A:Around} {E:Value→Shared→Prop}
end
def C2 (i:Expr):Prop:=∀ ov iv,subscripted i false ov iv=operate [ov,iv] (getItem ov iv)
theorem rK {prog:Program} {w:World} {A:Around} {E:Value→Shared→Prop} {s:Shared} {env:Env} {value slice:Expr} {pos:Pos} {T id:String} {Q:Value→Shared→Prop}
  (hl:typeLookup (.type T) "__getitem__" = pure (some (.builtin id))) (hs:C2 slice)
  (h:wpAny (model prog w) A (eval value env) (fun o s₁=>wpAny (model prog w) A (eval slice env) (fun i s₂=>s₂.TypeIs o T∧wpAny (model prog w) A (getItem o i) Q E s₂) E s₁) E s) :
  wpAny (model prog w) A (eval (.Subscript value slice pos) env) Q E s:=by
 refine Subscript_ (wpAny_mono h (fun o s₁ h₁=>wpAny_mono h₁ (fun i s₂ h₂=>?_) fun _ _ x=>x) fun _ _ x=>x);obtain ⟨hT,h₂⟩:=h₂;unfold subscriptTail;refine wpAny_bind ?_;rw [getitemInPython_of_ne hT.not_modules];refine wpAny_bind (wpAny_specialOf hT hl ?_);have fin:wpAny (model prog w) A (subscripted slice false o i) (fun r s₃=>wpAny (model prog w) A (letTemporaryGo value o r >>= fun _=>pure r) Q E s₃) E s₂:=by
  rw [hs o i];exact wpAny_operating (wpAny_mono h₂ (fun r s₃ h₃=>wpAny_bind (wpAny_letTemporaryGo (wpAny_pure h₃))) fun _ _ x=>x)
 first
  | exact wpAny_pure (wpAny_bind fin)
  | exact wpAny_bind (wpAny_pure (wpAny_bind fin))
  | exact wpAny_bind fin
section
variable {X:Cx} {o i e value:Expr} {pos pos' tpos:Pos} {td ty tv:TE}
end
section
variable {X:Cx} {pos:Pos}
end
section
variable {X:Cx} {pins:List (Addr×Obj)} {σ:St} {H:Hp} {s:Shared} {a:Addr} {y d:V} {u r:Value} {o:Option V} {A:Around} {E:Value→Shared→Prop}
end
section
variable {X:Cx} {o e f:Expr} {apos cpos:Pos} {td ty tx:TE}
end
section
variable {X:Cx} {pins:List (Addr×Obj)} {σ:St} {H:Hp} {s:Shared} {a:Addr} {kvs:List (Key×V)} {A:Around} {E:Value→Shared→Prop}
end
section
variable {X:Cx} {pins:List (Addr×Obj)} {σ:St} {H:Hp} {s:Shared} {a:Addr} {y:V} {u:Value} {A:Around} {E:Value→Shared→Prop}
end
end L2
namespace PySem
open Sem (wp)
namespace F
end F
end PySem
namespace PySem
open Sem (wp)
section
variable {prog:Program} {w:World} {K:Type} [DecidableEq K] {knd:KeyKind prog w K} {A:Around} {E:Value→Shared→Prop}
def Heap.PairItems (h:Heap) (knd:KeyKind prog w K) (items:Array Value) (kvs:List (K×Value)):Prop :=
 items.size=kvs.length∧∀ (i:Nat) (kv:K×Value),kvs[i]?=some kv→∃ (a:Addr) (key:Value),items[i]?=some (.ref a)∧h.IsTuple a #[key,kv.2]∧knd.is kv.1 key=true
theorem Heap.PairItems.stay {h h':Heap} {items:Array Value} {kvs:List (K×Value)} (x:h.PairItems knd items kvs) (k:∀ (i:Nat) (a:Addr) (o:Obj),items[i]?=some (.ref a)→h.get? a=some o→h'.get? a=some o):h'.PairItems knd items kvs :=
 ⟨x.1,fun i kv e=>by
  obtain ⟨a,key,e1,⟨o,e2,r⟩,e3⟩:=x.2 i kv e;exact ⟨a,key,e1,⟨o,k i a o e1 e2,r⟩,e3⟩⟩
end
end PySem
namespace L2
open PySem PySem.Spec PyProof.Rows
def Pl (H:Hp) (a:Addr):Prop:=∃ o u,H a=some (.frz o u)∧o.dict=none
mutual
inductive IsP (K:PySem.W.Frag) (H:Hp):Dt→V→Prop
 | non:IsP K H .non .non
 | bl {b}:IsP K H (.bl b) (.bl b)
 | int {i}:IsP K H (.int i) (.int i)
 | str {z}:IsP K H (.str z) (.str z)
 | tup {l:List Dt} {a:Addr} {xs:List V}:SqT K H a xs→Pl H a→IsPs K H l xs→IsP K H (.tup l) (.ref a)
inductive IsPs (K:PySem.W.Frag) (H:Hp):List Dt→List V→Prop
 | nil:IsPs K H [] []
 | cons {d:Dt} {l:List Dt} {x:V} {xs:List V}:IsP K H d x→IsPs K H l xs→IsPs K H (d :: l) (x :: xs)
end
section
variable {K:PySem.W.Frag} {H H':Hp}
mutual
theorem IsP.d:∀ {d:Dt} {v:V},IsP K H d v→IsD K H d v
 | _,_,.non=>.non
 | _,_,.bl=>.bl
 | _,_,.int=>.int
 | _,_,.str=>.str
 | _,_,.tup h _ r=>.tup h (IsPs.d r)
theorem IsPs.d:∀ {l:List Dt} {xs:List V},IsPs K H l xs→IsDs K H l xs
 | _,_,.nil=>.nil
 | _,_,.cons h r=>.cons (IsP.d h) (IsPs.d r)
end
theorem Pl.same {a:Addr} (g:Same H H') (h:Pl H a):Pl H' a:=by
 obtain ⟨o,u,e,d⟩:=h;exact ⟨o,u,g _ _ e,d⟩
theorem Pl.but {a r:Addr} {ys:List V} (hr:H r=some (.lst ys)) (g:But r H H') (h:Pl H a):Pl H' a:=by
 obtain ⟨o,u,e,d⟩:=h;exact ⟨o,u,g _ _ (jo e hr (by intro z;cases z)) e,d⟩
mutual
theorem IsP.same (g:Same H H'):∀ {d:Dt} {v:V},IsP K H d v→IsP K H' d v
 | _,_,.non=>.non
 | _,_,.bl=>.bl
 | _,_,.int=>.int
 | _,_,.str=>.str
 | _,_,.tup h p r=>.tup (g.tup h) (p.same g) (IsPs.same g r)
theorem IsPs.same (g:Same H H'):∀ {l:List Dt} {xs:List V},IsPs K H l xs→IsPs K H' l xs
 | _,_,.nil=>.nil
 | _,_,.cons h r=>.cons (IsP.same g h) (IsPs.same g r)
end
mutual
theorem IsP.but {r:Addr} {ys:List V} (hr:H r=some (.lst ys)) (g:But r H H'):∀ {d:Dt} {v:V},IsP K H d v→IsP K H' d v
 | _,_,.non=>.non
 | _,_,.bl=>.bl
 | _,_,.int=>.int
 | _,_,.str=>.str
 | _,_,.tup h p q=>.tup (by
   rcases p6 hr h with n | n
   ·exact g.tup n h
   ·exact n _) (p.but hr g) (IsPs.but hr g q)
theorem IsPs.but {r:Addr} {ys:List V} (hr:H r=some (.lst ys)) (g:But r H H'):∀ {l:List Dt} {xs:List V},IsPs K H l xs→IsPs K H' l xs
 | _,_,.nil=>.nil
 | _,_,.cons h q=>.cons (IsP.but hr g h) (IsPs.but hr g q)
end
theorem IsPs.length {l:List Dt} {xs:List V} (h:IsPs K H l xs):l.length=xs.length:=h.d.length
theorem IsPs.get {l:List Dt} {xs:List V} (h:IsPs K H l xs) {i:Nat} {d:Dt} (e:l[i]?=some d):∃ x,xs[i]?=some x∧IsP K H d x:=by
 induction l generalizing xs i with
 | nil=>simp at e
 | cons c l ih =>
  cases h with
  | cons h r =>
   cases i with
   | zero=>simp at e;subst e;exact ⟨_,rfl,h⟩
   | succ i=>exact ih r (by simpa using e)
theorem IsPs.get' {l:List Dt} {xs:List V} (h:IsPs K H l xs) {i:Nat} {x:V} (e:xs[i]?=some x):∃ d,l[i]?=some d∧IsP K H d x:=by
 induction l generalizing xs i with
 | nil=>cases h;simp at e
 | cons c l ih =>
  cases h with
  | cons h r =>
   cases i with
   | zero=>simp at e;subst e;exact ⟨_,rfl,h⟩
   | succ i=>exact ih r (by simpa using e)
theorem IsPs.append {l m:List Dt} {xs ys:List V} (h:IsPs K H l xs) (h':IsPs K H m ys):IsPs K H (l++m) (xs++ys):=by
 induction l generalizing xs with
 | nil=>cases h;exact h'
 | cons d l ih=>cases h with | cons h r=>exact .cons h (ih r)
theorem IsPs.drop:∀ {l:List Dt} {xs:List V} (n:Nat),IsPs K H l xs→IsPs K H (l.drop n) (xs.drop n)
 | _,_,0,h=>h
 | _,_,_+1,.nil=>.nil
 | _,_,n+1,.cons _ r=>IsPs.drop n r
theorem IsPs.take:∀ {l:List Dt} {xs:List V} (n:Nat),IsPs K H l xs→IsPs K H (l.take n) (xs.take n)
 | _,_,0,_=>.nil
 | _,_,_+1,.nil=>.nil
 | _,_,n+1,.cons h r=>.cons h (IsPs.take n r)
theorem IsP.unref {l:List Dt} {v:V} (h:IsP K H (.tup l) v):∃ a xs,v=.ref a∧SqT K H a xs∧Pl H a∧IsPs K H l xs:=by
 cases h with
 | tup h p r=>exact ⟨_,_,rfl,h,p,r⟩
end
def plO (xs:List V) (us:List Value):HO:=.frz { cls:=.type "tuple",data:=.seq us.toArray } (.tup xs)
section
variable {X:Cx} {pins:List (Addr×Obj)} {σ:St} {H:Hp} {s:Shared}
theorem Inv.plain {xs:List V} {us:List Value} {t':Nat} (I:Inv X pins σ H s) (r:Vals xs us) (z:xs.length≤sizeLine) :
  Inv X pins σ (upd H s.heap.objs.size (plO xs us)) { s with heap:=s.heap.push { cls:=.type "tuple",data:=.seq us.toArray },toks:=t' }∧H s.heap.objs.size=none :=
 ⟨I.laid (t':=t') (fun b ob q=>Heap.get?_push_of_some _ q) (Nat.le_refl _) ⟨Heap.get?_push_size _ rfl,z,us,r,IsTup.new _ _⟩,I.hok.fresh (Nat.le_refl _)⟩
theorem hZ {p:Addr} {l:List Dt} {xs:List V} {us:List Value} (hf:H p=none) (d:IsPs X.K H l xs):Same H (upd H p (plO xs us))∧IsP X.K (upd H p (plO xs us)) (.tup l) (.ref p) :=
 ⟨ax hf _,.tup (.inl (.inr ⟨_,ac⟩)) ⟨_,_,ac,rfl⟩ (d.same (ax hf _))⟩
variable {e:Expr} {es:List Expr} {t:TA} {pos:Pos}
inductive ITup (K:PySem.W.Frag) (xs:List V) (H1:Hp) (Q:VK):Prop
 | mk (l:List Dt):(IsPs K H1 l xs)→(xs.length≤sizeLine)→(∀ v H',Same H1 H'→IsP K H' (.tup l) v→Q v H')→ITup K xs H1 Q
def sM (K:PySem.W.Frag) (t:TA):TE:=fun σ H Q=>t σ H fun xs H1=>ITup K xs H1 Q
theorem rL {x1} (h:PA X es t):PE X (.Tuple es x1 pos) (sM X.K t):=by
 intro pins s σ H Q I hq;refine wpAny_Tuple_spliced (thn (h pos pins s σ H _ I hq) fun us s1 ⟨xs,H1,I1,r,l,d,z,q⟩=>⟨by rw [← r.length];exact z,?_⟩);obtain ⟨I2,hf⟩:=I1.plain (t':=s1.toks) r z;obtain ⟨g,dp⟩:=hZ (X:=X) (us:=us) hf d;exact ⟨.ref s1.heap.objs.size,_,I2,rfl,q _ _ g dp⟩
theorem lv:bh X (.type "tuple") (fun xs H Q=>∃ p ys l,xs=[.ref p]∧SqL X.K H p ys∧IsPs X.K H l ys∧∀ v H',Same H H'→IsP X.K H' (.tup l) v→Q v H'):=by
 intro pins s σ H xs us Q I r h;obtain ⟨p,ys,l,rfl,hq,d,q⟩:=h;obtain ⟨u,rfl,rx⟩:=cK r
 cases rx
 obtain ⟨its,r',pl,hz⟩:=I.list hq;have hlen:=r'.length;refine call_tuple_list pl.isList (fun h' kp=>?_) (by simp only [List.size_toArray] <;> lia);have I1:Inv X pins σ H { s with heap:=h' }:=I.kept (t':=s.toks) kp;obtain ⟨I2,hf⟩:=I1.plain (t':=s.toks) r' hz;obtain ⟨g,dp⟩:=hZ (X:=X) (us:=its) hf d;exact ⟨.ref h'.objs.size,_,I2,rfl,q _ _ g dp⟩
theorem rM:SlR X (fun x lo hi H Q=>∃ l,IsP X.K H (.tup l) x∧∀ v H',Same H H'→IsP X.K H' (.tup (oG l lo hi)) v→Q v H'):=by
 intro pins s σ H x v vl vu lo hi sl Q I rx hs pl pu h;obtain ⟨l,dx,q⟩:=h;obtain ⟨a,xs,rfl,hx,pa,ra⟩:=id dx.unref
 cases rx
 have e1:=ra.length;obtain ⟨its,r,ht,hz⟩:=I.tuple hx;have hlen:its.toArray.size=xs.length:=by rw [List.size_toArray];exact r.length.symm
 refine ⟨"tuple",_,PyProof.Rows.slot_tuple_getitem.lookup,ht.typeIs,?_⟩
 by_cases hw:HT.sIx xs.length 0 lo=0∧HT.sIx xs.length xs.length hi=xs.length
 ·refine HT.getItem_tuple_all ht hs pl pu (by rw [hlen];exact hw.1) (by rw [hlen];exact hw.2) ⟨.ref a,H,I,rfl,q _ H (Same.refl H) ?_⟩;have e:oG l lo hi=l:=by
   unfold oG;rw [e1,hw.1,hw.2,List.drop_zero,Nat.sub_zero,← e1,List.take_length]
  rw [e];exact dx
 ·refine HT.getItem_tuple_cut ht hs pl pu (by rw [hlen];exact hw) ?_ (by rw [hlen];exact hz);rw [hlen];obtain ⟨I2,hf⟩:=I.plain (t':=s.toks) ((r.drop (HT.sIx xs.length 0 lo)).take (HT.sIx xs.length xs.length hi - HT.sIx xs.length 0 lo)) (Nat.le_trans (kY xs lo hi) hz);have d2:IsPs X.K H (oG l lo hi) (rq xs lo hi):=by
   unfold oG rq;rw [e1];exact (ra.drop _).take _
  obtain ⟨g,dp⟩:=hZ (X:=X) (us:=(its.drop (HT.sIx xs.length 0 lo)).take (HT.sIx xs.length xs.length hi - HT.sIx xs.length 0 lo)) hf d2;exact ⟨.ref s.heap.objs.size,_,I2,rfl,q _ _ g dp⟩
theorem rN:IxR X (fun x y H Q=>∃ l i d,IsP X.K H (.tup l) x∧y=.int i∧atI l i=some d∧∀ v,IsP X.K H d v→Q v H):=by
 intro value slice pins s σ H x y v u Q I rx ry h hs;obtain ⟨l,i,d,dx,rfl,ha,q⟩:=h;obtain ⟨a,xs,rfl,hx,pa,ra⟩:=id dx.unref;obtain ⟨j,hj,hd,_⟩:=eZ ha;have e1:=ra.length;obtain ⟨w',hw,dw⟩:=ra.get hd;have hat:atI xs i=some w':=by
  unfold atI at ha ⊢;rw [← e1]
  cases z:ixN l.length i with
  | none=>rw [z] at ha;cases ha
  | some j' =>
   rw [z] at ha;have ha':l[j']?=some d:=ha;obtain ⟨w2,hw2,dw2⟩:=ra.get ha';have z2:=gL z;rw [hj] at z2;have:j=j':=Option.some.inj z2.1;subst this;exact hw
 exact pQ value slice pins s σ H (.ref a) (.int i) v u Q I rx ry ⟨a,xs,i,w',rfl,rfl,hx,hat,q w' dw⟩ hs
theorem rO:OpR X (binaryOp .Mult) (rI IntMulOk fun i j=>.int (i*j)):=opI fun _ _ _ _ _ _ _ hc q=>mul_int q hc
end
def nJ (fs:List (Str×Dt)) (z:Str):Option Dt:=(fs.find? fun p=>decide (p.1=z)).map (·.2)
def DM (K:PySem.W.Frag) (H:Hp) (p:Addr) (fs:List (Str×Dt)):Prop :=
 ∃ kvs,H p=some (.dK kvs)∧∀ z,(nJ fs z=none→lu kvs (Sum.inr z:Key)=none)∧∀ d,nJ fs z=some d→∃ v,lu kvs (Sum.inr z:Key)=some v∧IsP K H d v
section
variable {X:Cx} {pins:List (Addr×Obj)} {σ:St} {H:Hp} {s:Shared}
end
end L2
namespace PySem
open Sem (wp)
open Builtin
section
variable {prog:Program} {w:World} {A:Around} {E:Value→Shared→Prop} {s:Shared}
end
end PySem
namespace L2
open PySem PySem.Spec PyProof.Rows
section
variable {X:Cx}
theorem oM (u:Value):∀ (k:Nat) (acc:Array Value),((List.replicate k #[u]).foldl (·++·) acc)=acc++(List.replicate k u).toArray:=by
 intro k
 induction k with
 | zero=>intro acc;simp
 | succ k ih =>
  intro acc;rw [List.replicate_succ,List.foldl_cons,ih,List.replicate_succ];apply Array.ext';simp
theorem sN {x:V} {u:Value} (h:RelV x u):∀ k:Nat,Vals (List.replicate k x) (List.replicate k u)
 | 0=>.nil
 | k+1=>.cons h (sN h k)
variable {tg:Expr}
end
theorem lA {X:Cx} {st:Stmt} {t:TS} (h:X.Ok→PS X st t):PS X st t:=fun pins s σ H D I hw=>h I.ok pins s σ H D I hw
theorem u1 {A:Around} (h:A.units+64 < cLine):A.units+1 < cLine:=by lia
theorem bB {P:Program} {w:World} {K:PySem.W.Frag} {mg:Str→Option Value} {base:Heap} {CX:CXT} {k:Nat} {f:Addr} {fd:FuncData} {ps:List Str} {sp:Sp} (h:∀ vs H Q E,¬ sp vs H Q E):FnOk P w K mg base CX k f fd ps sp :=
 ⟨fun vs H Q E z=>(h vs H Q E z).elim,fun A outer s H args us vs Q E hr e0 hb r z=>(h vs H Q E z).elim⟩
section
variable {X:Cx}
theorem h7:OpR X (binaryOp .FloorDiv) (rI (fun _ j=>0 < j∧j < 10000000000000000000000000000000000000000000000000000000000000) fun i j=>.int (i / j)):=opI fun i j _ _ _ _ _ hc q=>by
 have h1:(0:Int) < j:=hc.1;have h2:j < 10000000000000000000000000000000000000000000000000000000000000:=hc.2;refine floordiv_int (by lia) (by rw [Int.fdiv_eq_ediv_of_nonneg i (by lia)];exact q) (.inl (PyProof.noPylong_of_log2 ?_));have h3:j.natAbs < 2 ^ 9000:=Nat.lt_of_lt_of_le (show j.natAbs < 10000000000000000000000000000000000000000000000000000000000000 by lia) (by decide +kernel);exact (Nat.log2_lt (by lia)).mpr h3
theorem mt_starts:MtM X "str.startswith" (fun x vs H Q=>∃ y z,x=.str y∧vs=[.str z]∧Q (.bl (Txt.startswith y z)) H):=by
 intro pins s σ H x vs v us Q I rx rv h;obtain ⟨y,z,rfl,rfl,q⟩:=h;obtain ⟨t,rfl⟩:=rx;obtain ⟨u,rfl,t',rfl⟩:=rv.one;exact SC.startswith ⟨.bl _,H,I,rfl,q⟩
theorem call_int_text:bh X (.type "int") (fun xs H Q=>∃ z n,xs=[.str z]∧PySem.intText? z=some n∧z.length≤640∧Q (.int n) H):=by
 intro pins s σ H xs us Q I r h;obtain ⟨z,n,rfl,hn,hl,q⟩:=h;obtain ⟨u,rfl,t,rfl⟩:=cK r;exact PySem.W.KIN.call_text hn hl ⟨.int n,H,I.tok _,⟨_,rfl⟩,q⟩
inductive ICatS (K:PySem.W.Frag) (x y:V) (H:Hp) (Q:VK):Prop
 | mk (l b:Addr) (xs zs:List V):(x=.ref l)→(y=.ref b)→(SqL K H l xs)→(SqL K H b zs)→(xs.length+zs.length≤sizeLine)→(∀ p,H p=none→Q (.ref p) (upd H p (.lst (xs++zs))))→ICatS K x y H Q
def sO (K:PySem.W.Frag):R2:=fun x y H Q=>ICatS K x y H Q
theorem rP:OpR X (binaryOp .Add) (sO X.K):=by
 intro pins s σ H x y v u Q I rx ry h;obtain ⟨l,b,xs,zs,rfl,rfl,hH,hB,hz,q⟩:=h
 cases rx
 cases ry
 obtain ⟨its,r,pl,z⟩:=I.list hH;obtain ⟨its2,r2,pl2,z2⟩:=I.list hB;obtain ⟨⟨cls,dd,data,sl⟩,ho,hc,n,hd⟩:=pl.isList;obtain ⟨⟨cls2,dd2,data2,sl2⟩,ho2,hc2,n2,hd2⟩:=pl2.isList;simp only at hc hd hc2 hd2;subst hc hd hc2 hd2;have l1:=r.length;have l2:=r2.length;have ea:its.toArray++its2.toArray=(its++its2).toArray:=by simp
 refine concat_meets ⟨_,ho,rfl⟩ ⟨_,ho2,rfl⟩ noFill_list_add seq_list_add PySem.F.slot_list_add PySem.F.entry_list_add (PySem.F.args_list_add_2 _ _) (list_addW l b its.toArray its2.toArray n n2 dd dd2 sl sl2 (by simp only [List.size_toArray];lia)) ⟨ho,ho2,?_⟩;rw [ea];exact ⟨.ref _,_,I.lnew (t':=s.toks) (r.append r2) (by rw [List.length_append];lia),rfl,q _ I.fresh⟩
end
open PySem.NumText
def dg (m:Nat):List Nat:=(Nat.toDigits 10 m).map Char.toNat
theorem p7:∀ d:Nat,d < 10→(Nat.digitChar d).toNat=48+d:=by decide
theorem h9 {m:Nat} (h:m < 10):dg m=[48+m]:=by
 unfold dg;rw [Nat.toDigits_of_lt_base h];show [(Nat.digitChar m).toNat]=_;rw [p7 m h]
theorem rQ {m:Nat} (h:10≤m):dg m=dg (m / 10)++[48+m % 10]:=by
 have hm:m % 10 < 10:=Nat.mod_lt m (by decide);have t:Nat.toDigits 10 (m / 10)++Nat.toDigits 10 (m % 10)=Nat.toDigits 10 (10*(m / 10)+m % 10):=Nat.toDigits_append_toDigits (by decide) (by lia) hm;rw [Nat.div_add_mod] at t;unfold dg;rw [← t,List.map_append]
 congr 1
 exact h9 hm
theorem oN (m:Nat):AllDigits (dg m):=by
 intro c hc;obtain ⟨ch,hch,e⟩:=List.mem_map.mp hc;rw [← e];exact digit_range (Nat.isDigit_of_mem_toDigits (by decide) (by decide) hch)
theorem p8:∀ (k m:Nat),m < 10 ^ (k+1)→(dg m).length≤k+1
 | 0,m,h=>by rw [h9 (by simpa using h)];exact Nat.le_refl 1
 | k+1,m,h=>by
  by_cases h1:m < 10
  ·rw [h9 h1];exact Nat.succ_le_succ (Nat.zero_le _)
  ·rw [rQ (by lia),List.length_append,List.length_singleton];have:m / 10 < 10 ^ (k+1):=by
    rw [Nat.pow_succ] at h;exact Nat.div_lt_of_lt_mul (by rw [Nat.mul_comm];exact h)
   have:=p8 k (m / 10) this;lia
def mK (n:Int):List Nat:=if n < 0 then 45 :: dg n.natAbs else dg n.natAbs
theorem str_int (n:Int):(Str.ofString (toString n)).cps.toList=mK n:=by
 rw [signs_ofString]
 cases n with
 | ofNat m =>
  have:¬ (Int.ofNat m < 0):=by simp
  unfold mK;rw [if_neg this];show (Nat.repr m).toList.map Char.toNat=_;rw [Nat.toList_repr]
  rfl
 | negSucc m =>
  have:Int.negSucc m < 0:=Int.negSucc_lt_zero m;unfold mK;rw [if_pos this];show ("-" ++Nat.repr (m+1)).toList.map Char.toNat=_;rw [String.toList_append,List.map_append,Nat.toList_repr]
  rfl
theorem gQ {x y:Str} (h:x.cps.toList=y.cps.toList):x=y:=by
 obtain ⟨a⟩:=x;obtain ⟨b⟩:=y
 congr 1
 exact Array.toList_inj.mp h
theorem ia (z:Str) (c:Nat):Txt.startswith z ⟨#[c]⟩=decide (z.cps.toList.head?=some c):=by
 obtain ⟨⟨l⟩⟩:=z
 cases l with
 | nil=>rfl
 | cons d r =>
  rw [Bool.eq_iff_iff,decide_eq_true_iff];simp [Txt.startswith,Builtin.Str.subAt,Str.length]
theorem mL {z:Str} (h:1≤z.length):Txt.slice z (some 1) none=⟨(z.cps.toList.drop 1).toArray⟩:=by
 have e:=slice_from_eq (x:=z) (i:=1) (b:=z.length) (by decide) (by lia) rfl;rw [e];apply gQ;show ((z.cps.toList.drop 1).take ((z.length:Int) - 1).toNat)=z.cps.toList.drop 1;apply List.take_of_length_le;have:z.cps.toList.length=z.length:=Array.length_toList;rw [List.length_drop];lia
end L2
namespace L2
open PySem PySem.Spec PyProof.Rows
section
variable {X:Cx} {pins:List (Addr×Obj)} {σ:St} {H:Hp} {s:Shared} {h':Heap}
theorem Inv.turnedT {t':Nat} {wr:List Addr} {T:Addr} {o:HO} (I:Inv X pins σ H s) (k:∀ b u,b∉wr→s.heap.get? b=some u→h'.get? b=some u) (f:∀ b∈wr,eW X pins H b)
  (hT:s.heap.objs.size≤T) (new:ObjOk X.prog X.w (upd H T o) h' T o):Inv X pins σ (upd H T o) { s with heap:=h',toks:=t' }:=by
 have nT:∀ b u,s.heap.get? b=some u→b≠T:=fun b u e z=>absurd (Nat.lt_of_lt_of_le (Heap.lt_size e) (z ▸ hT)) (Nat.lt_irrefl _);have nH:∀ b u,H b=some u→b≠T:=fun b u e z=>absurd (Nat.lt_of_lt_of_le (I.hok.lt e) (z ▸ hT)) (Nat.lt_irrefl _);have nw:∀ b u,H b=some u→b∉wr:=fun b u e z=>by rw [(f b z).1] at e;cases e
 refine I.step (g':=s.gens) (d':=s.drawn) (ch:=wr) (fun b hb=>?_) (fun b u _ _ hc e _=>k b u hc e) (fun b u _ _ hc e _=>⟨u.slots,k b u hc e⟩) (fun b u _ e n=>by rw [af (nT b u e)];exact n)
  (fun b u hc e=>⟨u,k b u hc e⟩) (fun b xs e=>by rw [af (nH b _ e)];exact e) (fun b u v e=>by rw [af (nH b _ e)];exact e) (fun b ps e=>⟨#[],by rw [af (nH b _ e),e];simp⟩) (fun m hm=>?_) (fun b u e=>?_) I.bare
 ·obtain ⟨f0,f1,f2,f3,f4,f5⟩:=f b hb;exact ⟨f3,f1,f4,f5⟩
 ·obtain ⟨u,es,ep,ho,r⟩:=hm;exact ⟨u,es,ep,k _ u (fun z=>(f _ z).2.1 rfl) ho,r⟩
 ·by_cases hb:b=T
  ·subst hb;rw [ac] at e
   cases e
   exact new
  ·rw [af hb] at e;refine (I.hok b u e).stay (fun c v hc q=>k c v ?_ q) (fun c q=>?_) fun c xs q=>by rw [af (nH c _ q)];exact q
   ·rcases hc with z | z
    ·rw [z];exact nw b u e
    ·exact nw c _ z
   ·rw [af (nH c _ q)];exact q
theorem Inv.turnedL {t':Nat} {wr:List Addr} (I:Inv X pins σ H s) (k:∀ b u,b∉wr→s.heap.get? b=some u→h'.get? b=some u) (f:∀ b∈wr,eW X pins H b):Inv X pins σ H { s with heap:=h',toks:=t' }:=by
 have nw:∀ b u,H b=some u→b∉wr:=fun b u e z=>by rw [(f b z).1] at e;cases e
 refine I.step (g':=s.gens) (d':=s.drawn) (ch:=wr) (fun b hb=>?_) (fun b u _ _ hc e _=>k b u hc e) (fun b u _ _ hc e _=>⟨u.slots,k b u hc e⟩) (fun _ _ _ _ n=>n)
  (fun b u hc e=>⟨u,k b u hc e⟩) (fun _ _ e=>e) (fun _ _ _ e=>e) (fun b ps e=>⟨#[],by rw [e];simp⟩) (fun m hm=>?_) (fun b u e=>?_) I.bare
 ·obtain ⟨f0,f1,f2,f3,f4,f5⟩:=f b hb;exact ⟨f3,f1,f4,f5⟩
 ·obtain ⟨u,es,ep,ho,r⟩:=hm;exact ⟨u,es,ep,k _ u (fun z=>(f _ z).2.1 rfl) ho,r⟩
 ·refine (I.hok b u e).stay (fun c v hc q=>k c v ?_ q) (fun _ q=>q) fun _ _ q=>q;rcases hc with z | z
  ·rw [z];exact nw b u e
  ·exact nw c _ z
end
section
variable {X:Cx} {elts:List Expr} {k:Nat} {tpos:Pos}
end
def met:List Key→List Key
 | []=>[]
 | k :: r=>if r.any (fun j=>decide (j=k)) then met r else k :: met r
section
variable {P:Program} {w:World} {A:Around} {R:Result→Shared→Prop} {it:Addr} {fp wr:List Addr} {G:Array GenState→Array GenState→Prop} {n:Nat} {Pt:Nat→Value→Prop} {St:Nat→Shared→Prop}
end
section
variable {P:Program} {w:World} {A:Around} {E:Value→Shared→Prop} {s:Shared}
end
section
variable {X:Cx}
end
section
variable {K:PySem.W.Frag} {a b l:Addr} {xs ys:List V} {g:TG} {tb:List V→Addr→St→Hp→(List V→St→Hp→Prop)→Prop} {R:Hp→Prop} {σ0:St} {H0:Hp}
theorem fS (Pv:Nat→List V→St→Hp→Prop) (h0:Pv 0 [] σ0 H0) (hl:∀ i ys σ H,i≤xs.length→Pv i ys σ H→SqT K H a xs)
  (hs:∀ i x ys σ H (N:List V→St→Hp→Prop),xs[i]?=some x→Pv i ys σ H→(∀ ys' σ' H',Pv (i+1) ys' σ' H'→N ys' σ' H')→g x σ H fun σ2 H2=>tb ys l σ2 H2 N)
  (hd:∀ ys σ H,Pv xs.length ys σ H→R H) :
  ∃ W:Nat→Nat→List V→St→Hp→Prop,(∃ m,W 0 m [] σ0 H0)∧∀ i m ys σ' H',W i m ys σ' H'→((Itt K a).stop i H'∧R H') ∨
   ((Itt K a).go i H'∧∀ x H'',(Itt K a).yld i H' x H''→g x σ' H'' fun σ2 H2=>tb ys l σ2 H2 fun ys' σ3 H3=>∃ m',m' < m∧W (i+1) m' ys' σ3 H3):=pZ (Q:=fun _ H=>R H) Pv h0 hl hs hd
end
theorem j3 {X:Cx} {K:PySem.W.Frag} {es:List Expr} {k:Nat} {pos:Pos} {t:TGs} {n:Nat} (hK:X.K=K) (hc:X.calm=true) (h:PGs X es t)
  (hn:(assignEach es X.env).length=n:=by rfl) (hst:(assignEach es X.env).findIdx? (·.1)=none:=by rfl):PG X (.Tuple es k pos) (CG K n t):=by
 subst hK;exact mf hc h hn hst
theorem cN {H H1:Hp} {l:Addr} {o:HO} (hl:H l=none) (g:Same H H1):Same H (upd H1 l o):=fun b u e=>by rw [af (am e hl)];exact g b u e
section
variable {X:Cx}
end
section
variable {X:Cx}
variable {K:PySem.W.Frag}
theorem pe_tupPK {es:List Expr} {x1:Nat} {pos:Pos} {t:TA} (hK:X.K=K) (h:PA X es t):PE X (.Tuple es x1 pos) (sM K t):=by subst hK;exact rL h
theorem bn (hK:X.K=K):IxR X (CS K):=by subst hK;exact rA
theorem nK (hK:X.K=K) (hu:X.A.units+64 < cLine):OpR X (compareOp .Eq) (C0 K):=by subst hK;exact w8 hu
theorem mM (hK:X.K=K):OpR X (compareOp .In) (rIn K false):=by subst hK;exact oy
end
section
variable {X:Cx}
end
section
variable {X:Cx}
theorem jy:∀ {ss:List Str} {us:List Value},StrsAre us ss→Vals (ss.map V.str) us
 | _,_,.nil=>.nil
 | _,_,.cons z t r=>.cons ⟨t,rfl⟩ (jy r)
end
abbrev two (v:Value) (c:Nat):Obj:={ cls:=.type "list",dict:=none,data:=.seq #[v,v] c,slots:=#[] }
section
variable {prog:Program} {w:World} {A:Around} {R:Result→Shared→Prop} {it:Addr} {fp wr:List Addr} {n:Nat} {P:Nat→Value→Prop} {St:Nat→Heap→Prop}
end
section
variable {prog:Program} {w:World} {A:Around} {E:Value→Shared→Prop} {s:Shared} {l:Addr} {zs:Array (Int×Tok)} {d:Value} {Q:Value→Shared→Prop}
end
section
variable {X:Cx}
end
section
variable {X:Cx} {K:PySem.W.Frag}
end
section
variable {l:Addr} {g:TG} {tb:List V→Addr→St→Hp→(List V→St→Hp→Prop)→Prop} {R:Hp→Prop} {σ0:St} {H0:Hp} {lo:Int} {n:Nat} {z:Str}
theorem jz (Pv:Nat→List V→St→Hp→Prop) (h0:Pv 0 [] σ0 H0) (hs:∀ i c ys σ H (N:List V→St→Hp→Prop),z.cps[i]?=some c→Pv i ys σ H→(∀ ys' σ' H',Pv (i+1) ys' σ' H'→N ys' σ' H')→g (.str ⟨#[c]⟩) σ H fun σ2 H2=>tb ys l σ2 H2 N) (hd:∀ ys σ H,Pv z.cps.size ys σ H→R H) :
  ∃ W:Nat→Nat→List V→St→Hp→Prop,(∃ m,W 0 m [] σ0 H0)∧∀ i m ys σ' H',W i m ys σ' H'→((Its z).stop i H'∧R H')∨((Its z).go i H'∧∀ x H'',(Its z).yld i H' x H''→g x σ' H'' fun σ2 H2=>tb ys l σ2 H2 fun ys' σ3 H3=>∃ m',m' < m∧W (i+1) m' ys' σ3 H3):=lh (Q:=fun _ H=>R H) Pv h0 hs hd
end
section
variable {X:Cx} {K:PySem.W.Frag}
inductive JIxP (K:PySem.W.Frag) (x y:V) (H:Hp) (Q:VK):Prop
 | mk (l:List Dt) (i:Int) (d:Dt):(IsP K H (.tup l) x)→(y=.int i)→(atI l i=some d)→(∀ v,IsP K H d v→Q v H)→JIxP K x y H Q
def C3 (K:PySem.W.Frag):R2:=fun x y H Q=>JIxP K x y H Q
def DN (K:PySem.W.Frag):R2:=fun x y H Q=>∃ l i d,IsD K H (.tup l) x∧y=.int i∧atI l i=some d∧∀ v,IsD K H d v→Q v H
inductive JLenD (K:PySem.W.Frag) (xs:List V) (H:Hp) (Q:VK):Prop
 | mk (x:V) (l:List Dt):(xs=[x])→(IsD K H (.tup l) x)→(Q (.int l.length) H)→JLenD K xs H Q
def C4 (K:PySem.W.Frag):List V→Hp→VK→Prop:=fun xs H Q=>JLenD K xs H Q
inductive JIsi (K:PySem.W.Frag) (xs:List V) (H:Hp) (Q:VK):Prop
 | mk (x:V) (T:String) (b:Bool):(xs=[x,.ty T])→(IsiB K H x T b)→(Q (.bl b) H)→JIsi K xs H Q
def DO (K:PySem.W.Frag):List V→Hp→VK→Prop:=fun xs H Q=>JIsi K xs H Q
inductive JTupP (K:PySem.W.Frag) (xs:List V) (H:Hp) (Q:VK):Prop
 | mk (p:Addr) (ys:List V) (l:List Dt):(xs=[.ref p])→(SqL K H p ys)→(IsPs K H l ys)→(∀ v H',Same H H'→IsP K H' (.tup l) v→Q v H')→JTupP K xs H Q
def C5 (K:PySem.W.Frag):List V→Hp→VK→Prop:=fun xs H Q=>JTupP K xs H Q
theorem p9 (hK:X.K=K):IxR X (C3 K):=by
 subst hK;intro e1 e2 pins s σ H x y v u Q I rx ry h hs;obtain ⟨l,i,d,a,b,c,q⟩:=h;exact rN _ _ _ _ _ _ _ _ _ _ _ I rx ry ⟨l,i,d,a,b,c,q⟩ hs
theorem ix_tupDN (hK:X.K=K):IxR X (DN K):=by subst hK;exact rH
theorem rR (hK:X.K=K) (hu:X.A.units+64 < cLine):OpR X (compareOp .NotEq) (C1 K):=by subst hK;exact w9 hu
theorem mO (hK:X.K=K):bh X (.builtin "len") (C4 K):=by
 subst hK;intro pins s σ H xs us Q I r h;obtain ⟨x,l,a,b,q⟩:=h;exact oH _ _ _ _ _ _ _ I r ⟨x,l,a,b,q⟩
theorem call_isiN' (hK:X.K=K):bh X (.builtin "isinstance") (DO K):=by
 subst hK;intro pins s σ H xs us Q I r h;obtain ⟨x,l,m,a,b,q⟩:=h;exact pW _ _ _ _ _ _ _ I r ⟨x,l,m,a,b,q⟩
theorem cV (hK:X.K=K):bh X (.type "tuple") (C5 K):=by
 subst hK;intro pins s σ H xs us Q I r h;obtain ⟨x,l,m,a,b,c,q⟩:=h;exact lv _ _ _ _ _ _ _ I r ⟨x,l,m,a,b,c,q⟩
theorem e9 {tg l:Expr} {tl:TE} (hK:X.K=K) (hl:PE X l tl):PI X tg l (CI K tl):=by subst hK;exact wT hl
theorem qa {tg l:Expr} {tl:TE} (hK:X.K=K) (hl:PE X l tl):PI X tg l (sH K tl):=by subst hK;exact rf hl
end
section
variable {prog:Program} {w:World} {A:Around} {E:Value→Shared→Prop} {s:Shared}
theorem eI {b t:Addr} {k:Nat} {its:Array Value} {v:Value} {Q:Value→Shared→Prop} (hb:IsTupIter s.heap b t k) (ht:IsTup s.heap t its) (hv:its[k]?=some v)
  (q:∀ h',IsTupIter h' b t (k+1)→Heap.SameBut b s.heap h'→Q v { s with heap:=h' }):wpAny (model prog w) A (Builtin.SmallTypes.nextOf (.ref b)) Q E s:=by
 obtain ⟨ob,gb,cb,db⟩:=id hb;obtain ⟨ot,gt,_,nt,dt⟩:=ht;unfold Builtin.SmallTypes.nextOf;refine wpAny_bind (wpAny_callSpecial?_slot (name:=Str.ofString "__next__") hb.typeIs slot_tupleiter_next (wpAny_call_entry slot_tupleiter_next hb.typeIs entry_tupleiter_next ?_ (args_tupleiter_next _)));refine show wpAny _ _ (field (.ref b) 0 >>= _) _ _ s from wpAny_bind (wpAny_field gb db (x:=.ref t) rfl ?_);refine show wpAny _ _ (if (Value.ref t == Value.none)=true then _ else _) _ _ s from ?_;rw [if_neg (by exact Bool.false_ne_true)];refine show wpAny _ _ (field (.ref b) 1 >>= _) _ _ s from wpAny_bind (wpAny_field gb db (x:=.int k 0) rfl ?_);refine show wpAny _ _ (seqItems? (.ref t) >>= _) _ _ s from wpAny_bind (wpAny_seqItems gt dt ?_);simp only [hv,Int.toNat_natCast];refine wpAny_bind (wpAny_setField gb db (by simp) (wpAny_pure ⟨v,rfl,wpAny_pure (q _ ⟨_,Heap.get?_update_self _ gb (Obj.isFreed_of_fields (Obj.data_mapFields db _)),(Obj.cls_mapFields ..).trans cb,?_⟩ (Heap.SameBut.update ..))⟩));rw [Obj.data_mapFields db];simp [rawInt]
theorem jA {b t:Addr} {k:Nat} {its:Array Value} {Q:Value→Shared→Prop} (hh:A.handled=none) (hb:IsTupIter s.heap b t k) (ht:IsTup s.heap t its) (hv:its[k]?=none)
  (q:∀ h' e,Heap.ExtBut b s.heap h'→(∃ o,h'.get? e=some o∧o.cls=.type "StopIteration")→E (.ref e) { s with heap:=h' }):wpAny (model prog w) A (Builtin.SmallTypes.nextOf (.ref b)) Q E s:=by
 obtain ⟨ob,gb,cb,db⟩:=id hb;obtain ⟨ot,gt,_,nt,dt⟩:=ht;unfold Builtin.SmallTypes.nextOf;refine wpAny_bind (wpAny_callSpecial?_slot (name:=Str.ofString "__next__") hb.typeIs slot_tupleiter_next (wpAny_call_entry slot_tupleiter_next hb.typeIs entry_tupleiter_next ?_ (args_tupleiter_next _)));refine show wpAny _ _ (field (.ref b) 0 >>= _) _ _ s from wpAny_bind (wpAny_field gb db (x:=.ref t) rfl ?_);refine show wpAny _ _ (if (Value.ref t == Value.none)=true then _ else _) _ _ s from ?_;rw [if_neg (by exact Bool.false_ne_true)];refine show wpAny _ _ (field (.ref b) 1 >>= _) _ _ s from wpAny_bind (wpAny_field gb db (x:=.int k 0) rfl ?_);refine show wpAny _ _ (seqItems? (.ref t) >>= _) _ _ s from wpAny_bind (wpAny_seqItems gt dt ?_);simp only [hv,Int.toNat_natCast];refine wpAny_bind (wpAny_rule (wpAny_bind (wpAny_setField gb db (by simp) ?_)));refine show wpAny _ _ (newExc (.type "StopIteration") [] >>= _) _ _ _ from wpAny_bind ?_;simp only [newTuple,newExc];refine wpAny_bind (wpAny_newObj_type (wpAny_bind (m:=firstArgMember _ _) (wpAny_of_eq (a:=Value.none) (by first | rfl | (simp only [firstArgMember];rfl)) (wpAny_newObj_type ?_ (by size_fits)))) (by size_fits));simp only [raiseNew];refine wpAny_bind (wpAny_handled ?_);rw [show A.in1.handled=none from hh];exact wpAny_bind (wpAny_pure (wpAny_throw (q _ _ (((Heap.SameBut.update ..).extBut.push _).push _) ⟨_,Heap.get?_push_size _ rfl,rfl⟩)))
theorem oO {z P0 P1 u v l m:Addr} {k:Nat} {xs ys:Array Value} {x y a b:Value} {Q:Option Value→Shared→Prop} (D:ZipApart z P0 P1 u v l m) (Z:IsZip s.heap z P0 P1 .none) (I0:IsPair s.heap P0 (.ref u) (.ref v)) (I1:IsPair s.heap P1 a b)
  (wu:IsTupIter s.heap u l k) (wv:IsTupIter s.heap v m k) (tl:IsTup s.heap l xs) (tm:IsTup s.heap m ys) (ex:xs[k]?=some x) (ey:ys[k]?=some y)
  (q:∀ h',IsZip h' z P0 P1 (rawInt s.heap.objs.size)→IsPair h' P1 x y→IsTupIter h' u l (k+1)→IsTupIter h' v m (k+1)→IsPair h' s.heap.objs.size x y→h'.objs.size=s.heap.objs.size+1 →
   (∀ c o,c≠z→c≠P1→c≠u→c≠v→s.heap.get? c=some o→h'.get? c=some o)→Q (some (.ref s.heap.objs.size)) { s with heap:=h' }):wpAny (model prog w) A (pyNext (.ref z)) Q E s:=by
 have hT:s.TypeIs (.ref z) "zip" :=⟨_,Z,rfl⟩;unfold pyNext;refine wpAny_bind (wpAny_attempt (wpAny_callSpecial?_slot (name:=Str.ofString "__next__") hT F.slot_zip_next (wpAny_call_entry F.slot_zip_next hT F.entry_zip_next ?_ (F.args_zip_next_1 _))));refine show wpAny _ _ (field (.ref z) 2 >>= _) _ _ _ from wpAny_bind (wpAny_field Z rfl (x:=.bool false) rfl ?_);refine show wpAny _ _ (field (.ref z) 3 >>= _) _ _ _ from wpAny_bind (wpAny_field Z rfl (x:=.ref P0) rfl (wpAny_bind (wpAny_seqItems I0 rfl ?_)));refine show wpAny _ _ (Builtin.SmallTypes.ownedTupleIsFree (.ref z) >>= _) _ _ _ from wpAny_bind ?_;unfold Builtin.SmallTypes.ownedTupleIsFree;refine wpAny_bind (wpAny_field Z rfl (x:=.none) rfl (wpAny_pure ?_));rw [if_pos rfl];refine wpAny_bind (wpAny_rule (wpAny_bind (wpAny_field Z rfl (x:=.ref P1) rfl (wpAny_bind (wpAny_setField_rec Z (by simp) fun ha Za sa=>?_)))));replace Za:IsZip ha z P0 P1 .ellipsis:=Za;refine wpAny_bind ?_;simp only [List.zipIdx_cons,List.forIn_cons,List.zipIdx_nil,List.forIn_nil];refine wpAny_bind (wpAny_bind (wpAny_onRaise ?_));refine show wpAny _ _ (Builtin.SmallTypes.nextOf (.ref u) >>= _) _ _ _ from wpAny_bind (eI (wu.extBut sa.extBut D.i1z) (tl.extBut sa.extBut D.l1z) ex fun hb wb sb=>wpAny_pure ?_);have Ib:IsPair hb P1 a b:=sb.extBut _ _ D.TOi1 (sa.extBut _ _ D.TOz I1);refine wpAny_bind (wpAny_seqItems Ib rfl (wpAny_bind (wpAny_updateSeq_pair Ib fun hc Ic sc=>wpAny_bind (wpAny_letGo (wpAny_pure ?_)))));replace Ic:IsPair hc P1 x b:=Ic;refine wpAny_bind (wpAny_bind (wpAny_onRaise ?_));refine show wpAny _ _ (Builtin.SmallTypes.nextOf (.ref v) >>= _) _ _ _ from wpAny_bind (eI (((wv.extBut sa.extBut D.i2z).extBut sb.extBut D.i12.symm).extBut sc.extBut D.TOi2.symm) (((tm.extBut sa.extBut D.l2z).extBut sb.extBut D.l2i1).extBut sc.extBut D.l2TO) ey fun hd wd sd=>wpAny_pure ?_);have Id:IsPair hd P1 x b:=sd.extBut _ _ D.TOi2 Ic;refine wpAny_bind (wpAny_seqItems Id rfl (wpAny_bind (wpAny_updateSeq_pair Id fun he Ie se=>wpAny_bind (wpAny_letGo (wpAny_pure (wpAny_pure ?_))))));replace Ie:IsPair he P1 x y:=Ie;refine wpAny_bind (wpAny_seqItems Ie rfl (wpAny_bind (wpAny_newTuple ?_)));have size:he.objs.size=s.heap.objs.size:=by rw [se.1,sd.1,sc.1,sb.1,sa.1]
 have Ze:IsZip he z P0 P1 .ellipsis:=se.extBut _ _ D.TOz.symm (sd.extBut _ _ D.i2z.symm (sc.extBut _ _ D.TOz.symm (sb.extBut _ _ D.i1z.symm Za)));have keep:∀ c o,c≠z→c≠P1→c≠u→c≠v→s.heap.get? c=some o→he.get? c=some o:=fun c o n1 n2 n3 n4 e=>se.extBut _ _ n2 (sd.extBut _ _ n4 (sc.extBut _ _ n2 (sb.extBut _ _ n3 (sa.extBut _ _ n1 e))));have we:IsTupIter he u l (k+1):=((wb.extBut sc.extBut D.TOi1.symm).extBut sd.extBut D.i12).extBut se.extBut D.TOi1.symm;have we':IsTupIter he v m (k+1):=wd.extBut se.extBut D.TOi2.symm;have ltz:z < he.objs.size:=Heap.lt_size Ze;refine show wpAny _ _ (Builtin.SmallTypes.ownedTupleHandOut (.ref z) (.ref he.objs.size) >>= _) _ _ _ from wpAny_bind ?_;unfold Builtin.SmallTypes.ownedTupleHandOut;have Zf:IsZip (he.push { cls:=.type "tuple",data:=.seq #[x,y] }) z P0 P1 .ellipsis:=Heap.get?_push_of_some _ Ze;refine wpAny_bind (wpAny_setField_rec Zf (by simp) fun hg Zg sg=>?_);replace Zg:IsZip hg z P0 P1 (rawInt he.objs.size):=Zg;refine wpAny_setField_rec Zg (by simp) fun hi Zi si=>?_;replace Zi:IsZip hi z P0 P1 (rawInt he.objs.size):=Zi;have up:∀ c o,c≠z→he.get? c=some o→hi.get? c=some o:=fun c o n e=>si.extBut _ _ n (sg.extBut _ _ n (Heap.get?_push_of_some _ e));have Ti:IsPair hi he.objs.size x y:=si.extBut _ _ (Nat.ne_of_gt ltz) (sg.extBut _ _ (Nat.ne_of_gt ltz) (Heap.get?_push_size _ rfl));have size':hi.objs.size=he.objs.size+1:=by rw [si.1,sg.1,Heap.size_push]
 refine wpAny_pure ⟨_,rfl,wpAny_pure ?_⟩;rw [size] at Zi Ti size';have go:=q hi Zi (up _ _ D.TOz Ie) (by obtain ⟨o,e,r⟩:=we;exact ⟨o,up _ o D.i1z e,r⟩) (by obtain ⟨o,e,r⟩:=we';exact ⟨o,up _ o D.i2z e,r⟩) Ti size' fun c o n1 n2 n3 n4 e=>up c o n1 (keep c o n1 n2 n3 n4 e);rw [← size] at go;exact go
theorem qb {z P0 P1 u v l m:Addr} {k:Nat} {xs ys:Array Value} {a b:Value} {Q:Option Value→Shared→Prop} (hh:A.handled=none) (D:ZipApart z P0 P1 u v l m) (Z:IsZip s.heap z P0 P1 .none) (I0:IsPair s.heap P0 (.ref u) (.ref v)) (I1:IsPair s.heap P1 a b)
  (wu:IsTupIter s.heap u l k) (wv:IsTupIter s.heap v m k) (tl:IsTup s.heap l xs) (tm:IsTup s.heap m ys) (no:xs[k]?=none∨ys[k]?=none)
  (q:∀ h',(∀ c o,c≠z→c≠P1→c≠u→c≠v→s.heap.get? c=some o→h'.get? c=some o)→Q none { s with heap:=h' }):wpAny (model prog w) A (pyNext (.ref z)) Q E s:=by
 have hT:s.TypeIs (.ref z) "zip" :=⟨_,Z,rfl⟩;unfold pyNext;refine wpAny_bind (wpAny_attempt (wpAny_callSpecial?_slot (name:=Str.ofString "__next__") hT F.slot_zip_next (wpAny_call_entry F.slot_zip_next hT F.entry_zip_next ?_ (F.args_zip_next_1 _))));refine show wpAny _ _ (field (.ref z) 2 >>= _) _ _ _ from wpAny_bind (wpAny_field Z rfl (x:=.bool false) rfl ?_);refine show wpAny _ _ (field (.ref z) 3 >>= _) _ _ _ from wpAny_bind (wpAny_field Z rfl (x:=.ref P0) rfl (wpAny_bind (wpAny_seqItems I0 rfl ?_)));refine show wpAny _ _ (Builtin.SmallTypes.ownedTupleIsFree (.ref z) >>= _) _ _ _ from wpAny_bind ?_;unfold Builtin.SmallTypes.ownedTupleIsFree;refine wpAny_bind (wpAny_field Z rfl (x:=.none) rfl (wpAny_pure ?_));rw [if_pos rfl];refine wpAny_bind (wpAny_rule (wpAny_bind (wpAny_field Z rfl (x:=.ref P1) rfl (wpAny_bind (wpAny_setField_rec Z (by simp) fun ha Za sa=>?_)))));replace Za:IsZip ha z P0 P1 .ellipsis:=Za;refine wpAny_bind ?_;simp only [List.zipIdx_cons,List.forIn_cons,List.zipIdx_nil,List.forIn_nil];refine wpAny_bind (wpAny_bind (wpAny_onRaise ?_));have stop:∀ {h':Heap} {e:Addr},(∃ o,h'.get? e=some o∧o.cls=.type "StopIteration")→IsZip h' z P0 P1 .ellipsis→e≠z:=fun he hz c=>by
  obtain ⟨o,ho,hc⟩:=he;subst c;rw [hz] at ho
  cases ho
  simp at hc
 have fin:∀ {h':Heap} {e:Addr},(∃ o,h'.get? e=some o∧o.cls=.type "StopIteration")→(∀ c o,c≠z→c≠P1→c≠u→c≠v→s.heap.get? c=some o→h'.get? c=some o) →
   wpAny (model prog w) A (do if (← isInstance (.ref e) (.type "StopIteration")) then pure none else throw (.ref e)) Q E { s with heap:=h' }:=fun {h' e} he hk=>by
  obtain ⟨o,ho,hc⟩:=he;exact wpAny_bind (wpAny_isInstance (T:= "StopIteration") (b:=true) ⟨o,ho,hc⟩ isSubtype_stop (wpAny_pure (q _ hk)))
 cases ex:xs[k]? with
 | none =>
  refine show wpAny _ _ (Builtin.SmallTypes.nextOf (.ref u) >>= _) _ _ _ from wpAny_bind (jA hh (wu.extBut sa.extBut D.i1z) (tl.extBut sa.extBut D.l1z) ex fun hb e sb he=>?_);have Zb:IsZip hb z P0 P1 .ellipsis:=sb _ _ D.i1z.symm Za;have ne:=stop he Zb;obtain ⟨o,ho,hc⟩:=he;exact wpAny_setField_rec Zb (by simp) fun hd _ sd=>fin ⟨o,sd.extBut _ _ ne ho,hc⟩ fun c o n1 _ n3 _ e=>sd.extBut _ _ n1 (sb _ _ n3 (sa.extBut _ _ n1 e))
 | some x =>
  have ey:ys[k]?=none:=no.resolve_left (by rw [ex];simp);refine show wpAny _ _ (Builtin.SmallTypes.nextOf (.ref u) >>= _) _ _ _ from wpAny_bind (eI (wu.extBut sa.extBut D.i1z) (tl.extBut sa.extBut D.l1z) ex fun hb wb sb=>wpAny_pure ?_);have Ib:IsPair hb P1 a b:=sb.extBut _ _ D.TOi1 (sa.extBut _ _ D.TOz I1);refine wpAny_bind (wpAny_seqItems Ib rfl (wpAny_bind (wpAny_updateSeq_pair Ib fun hc Ic sc=>wpAny_bind (wpAny_letGo (wpAny_pure (wpAny_bind (wpAny_bind (wpAny_onRaise ?_))))))));refine show wpAny _ _ (Builtin.SmallTypes.nextOf (.ref v) >>= _) _ _ _ from wpAny_bind (jA hh (((wv.extBut sa.extBut D.i2z).extBut sb.extBut D.i12.symm).extBut sc.extBut D.TOi2.symm) (((tm.extBut sa.extBut D.l2z).extBut sb.extBut D.l2i1).extBut sc.extBut D.l2TO) ey fun hd e sd he=>?_);have Zd:IsZip hd z P0 P1 .ellipsis:=sd _ _ D.i2z.symm (sc.extBut _ _ D.TOz.symm (sb.extBut _ _ D.i1z.symm Za));have ne:=stop he Zd;obtain ⟨o,ho,hcl⟩:=he;exact wpAny_setField_rec Zd (by simp) fun hf _ sf=>fin ⟨o,sf.extBut _ _ ne ho,hcl⟩ fun c o n1 n2 n3 n4 e=>sf.extBut _ _ n1 (sd _ _ n4 (sc.extBut _ _ n2 (sb.extBut _ _ n3 (sa.extBut _ _ n1 e))))
theorem sP (hh:A.handled=none) (z P0 P1 u v l m:Addr) (D:ZipApart z P0 P1 u v l m) (xs ys:Array Value) :
  WalksT prog w A z [z,P0,P1,u,v,l,m] [z,P1,u,v] (min xs.size ys.size) (fun i vals=>∃ x y,xs[i]?=some x∧ys[i]?=some y∧vals=#[x,y])
   (fun i h=>IsZip h z P0 P1 .none∧IsPair h P0 (.ref u) (.ref v)∧(∃ a b,IsPair h P1 a b)∧IsTupIter h u l i∧IsTupIter h v m i∧IsTup h l xs∧IsTup h m ys)
   (fun i T h=>IsZip h z P0 P1 (rawInt T)∧IsPair h P0 (.ref u) (.ref v)∧(∃ a b,IsPair h P1 a b)∧IsTupIter h u l (i+1)∧IsTupIter h v m (i+1)∧IsTup h l xs∧IsTup h m ys∧T≠z∧T≠P1∧T≠u∧T≠v) where
 sub:=fun c hc=>by
  simp only [List.mem_cons,List.not_mem_nil,or_false] at hc ⊢;rcases hc with h | h | h | h <;> simp [h]
 frame:=fun i h h' st kk=>by
  obtain ⟨Z,I0,⟨a,b,I1⟩,⟨o1,e1,r1⟩,⟨o2,e2,r2⟩,⟨o3,e3,r3⟩,⟨o4,e4,r4⟩⟩:=st;exact ⟨kk z (by simp) _ Z,kk P0 (by simp) _ I0,⟨a,b,kk P1 (by simp) _ I1⟩,⟨o1,kk u (by simp) _ e1,r1⟩,⟨o2,kk v (by simp) _ e2,r2⟩,⟨o3,kk l (by simp) _ e3,r3⟩,⟨o4,kk m (by simp) _ e4,r4⟩⟩
 item:=fun i s Q E hi st q=>by
  obtain ⟨Z,I0,⟨a,b,I1⟩,wu,wv,tl,tm⟩:=st;have h1:i < xs.size:=by lia
  have h2:i < ys.size:=by lia
  refine oO D Z I0 I1 wu wv tl tm (Array.getElem?_eq_getElem h1) (Array.getElem?_eq_getElem h2) fun h' a1 a2 a3 a4 a5 a6 kk=>?_;have far:∀ {c o},s.heap.get? c=some o→s.heap.objs.size≠c:=fun e=>Nat.ne_of_gt (Heap.lt_size e);obtain ⟨o1,e1,_⟩:=wu;obtain ⟨o2,e2,_⟩:=wv;obtain ⟨o3,e3,r3⟩:=tl;obtain ⟨o4,e4,r4⟩:=tm;refine q s.heap.objs.size #[xs[i],ys[i]] h' s.toks ⟨_,_,Array.getElem?_eq_getElem h1,Array.getElem?_eq_getElem h2,rfl⟩ (Nat.le_refl _) ⟨_,a5,rfl,_,rfl⟩ ⟨a1,kk _ _ D.TIz D.TITO D.TIi1 D.TIi2 I0,⟨_,_,a2⟩,a3,a4,⟨o3,kk _ _ D.l1z D.l1TO D.l1i1 D.l1i2 e3,r3⟩,⟨o4,kk _ _ D.l2z D.l2TO D.l2i1 D.l2i2 e4,r4⟩,far Z,far I1,far e1,far e2⟩ fun c o hc e=>?_;simp only [List.mem_cons,List.not_mem_nil,or_false,not_or] at hc;exact kk c o hc.1 hc.2.1 hc.2.2.1 hc.2.2.2 e
 go:=fun elts k pos i T s Q E st q=>by
  obtain ⟨Z,I0,⟨a,b,I1⟩,wu,wv,tl,tm,_⟩:=st;refine wpAny_letOwnedTupleGo_zip Z fun h' Z' s'=>q h' ⟨Z',s'.extBut _ _ D.TIz I0,⟨a,b,s'.extBut _ _ D.TOz I1⟩,wu.extBut s'.extBut D.i1z,wv.extBut s'.extBut D.i2z,tl.extBut s'.extBut D.l1z,tm.extBut s'.extBut D.l2z⟩ fun c o hc e=>?_;simp only [List.mem_cons,List.not_mem_nil,or_false,not_or] at hc;exact s'.extBut _ _ hc.1 e
 apart:=fun i T h st hT=>by
  obtain ⟨_,_,_,_,_,_,_,n1,n2,n3,n4⟩:=st;simp only [List.mem_cons,List.not_mem_nil,or_false] at hT;rcases hT with h | h | h | h
  ·exact n1 h
  ·exact n2 h
  ·exact n3 h
  ·exact n4 h
 done:=fun s Q E st q=>by
  obtain ⟨Z,I0,⟨a,b,I1⟩,wu,wv,tl,tm⟩:=st;have no:xs[min xs.size ys.size]?=none∨ys[min xs.size ys.size]?=none:=by
   rcases Nat.le_total xs.size ys.size with h | h
   ·exact .inl (Array.getElem?_eq_none (by lia))
   ·exact .inr (Array.getElem?_eq_none (by lia))
  refine qb hh D Z I0 I1 wu wv tl tm no fun h' kk=>q h' s.toks fun c o hc e=>?_;simp only [List.mem_cons,List.not_mem_nil,or_false,not_or] at hc;exact kk c o hc.1 hc.2.1 hc.2.2.1 hc.2.2.2 e
 self:=fun i s Q E st q=>wpAny_pyIter_zip st.1 q
abbrev zT1 (h:Heap) (l:Addr):Heap:=h.push { cls:=.type "tuple_iterator",data:=.fields #[.ref l,.int 0 0] }
abbrev zT2 (h:Heap) (l m:Addr):Heap:=(zT1 h l).push { cls:=.type "tuple_iterator",data:=.fields #[.ref m,.int 0 0] }
abbrev zT3 (h:Heap) (l m:Addr):Heap:=(zT2 h l m).push { cls:=.type "tuple",data:=.seq #[.ref h.objs.size,.ref (zT1 h l).objs.size] }
abbrev zT4 (h:Heap) (l m:Addr):Heap:=(zT3 h l m).push { cls:=.type "tuple",data:=.seq #[.none,.none] }
abbrev zT5 (h:Heap) (l m:Addr):Heap:=(zT4 h l m).push { cls:=.type "zip",data:=.fields #[.none,.bool false,.bool false,.ref (zT2 h l m).objs.size,.ref (zT3 h l m).objs.size] }
theorem mP (l m:Addr) (xs ys:Array Value) :
  Meets (Builtin.«zip.__new__» ⟨[.type "zip",.ref l,.ref m],[]⟩) (fun _ R s=>IsTup s.heap l xs∧IsTup s.heap m ys∧R (.ok (.ret (.ref (zT4 s.heap l m).objs.size))) { s with heap:=zT5 s.heap l m }) :=
 .of_wp fun prog w A R s h=>by
  obtain ⟨hp,g,d,tk,os⟩:=s;obtain ⟨tl,tm,h⟩:=h;have sub:=sub_zip;have T1:IsTup (Shared.heap ⟨hp,g,d,tk,os⟩) l xs:=tl;have T2:IsTup (Shared.heap ⟨hp.push { cls:=.type "tuple_iterator",data:=.fields #[.ref l,.int 0 0] },g,d,tk,os⟩) m ys:=IsTup.push tm _
  wp_walk using iter_tuple T1,iter_tuple T2
  exact ⟨_,rfl,h⟩
theorem oP {l m:Addr} {xs ys:Array Value} {Q:Value→Shared→Prop} (tl:IsTup s.heap l xs) (tm:IsTup s.heap m ys)
  (q:∀ h',IsZip h' (s.heap.objs.size+4) (s.heap.objs.size+2) (s.heap.objs.size+3) .none→IsPair h' (s.heap.objs.size+2) (.ref s.heap.objs.size) (.ref (s.heap.objs.size+1))→IsPair h' (s.heap.objs.size+3) .none .none →
   IsTupIter h' s.heap.objs.size l 0→IsTupIter h' (s.heap.objs.size+1) m 0→h'.objs.size=s.heap.objs.size+5→(∀ c o,s.heap.get? c=some o→h'.get? c=some o)→Q (.ref (s.heap.objs.size+4)) { s with heap:=h' }) :
  wpAny (model prog w) A (call (.type "zip") [.ref l,.ref m]) Q E s:=by
 refine callType_new F.called_zip (by decide) (F.typeCall_zip_2 _ _) (F.newCall_zip_2 _ _) (fun obj=>F.args_object_init_3 obj _ _) F.entry_zip_new (mP l m xs ys) ⟨tl,tm,?_⟩;have n1:(zT1 s.heap l).objs.size=s.heap.objs.size+1:=Heap.size_push ..;have n2:(zT2 s.heap l m).objs.size=s.heap.objs.size+2:=by rw [Heap.size_push,n1]
 have n3:(zT3 s.heap l m).objs.size=s.heap.objs.size+3:=by rw [Heap.size_push,n2]
 have n4:(zT4 s.heap l m).objs.size=s.heap.objs.size+4:=by rw [Heap.size_push,n3]
 have n5:(zT5 s.heap l m).objs.size=s.heap.objs.size+5:=by rw [Heap.size_push,n4]
 have e5:(zT5 s.heap l m).get? (zT4 s.heap l m).objs.size=some _:=Heap.get?_push_size _ rfl;have e4:(zT5 s.heap l m).get? (zT3 s.heap l m).objs.size=some _:=Heap.get?_push_of_some _ (Heap.get?_push_size _ rfl);have e3:(zT5 s.heap l m).get? (zT2 s.heap l m).objs.size=some _:=Heap.get?_push_of_some _ (Heap.get?_push_of_some _ (Heap.get?_push_size _ rfl));have e2:(zT5 s.heap l m).get? (zT1 s.heap l).objs.size=some _:=Heap.get?_push_of_some _ (Heap.get?_push_of_some _ (Heap.get?_push_of_some _ (Heap.get?_push_size _ rfl)));have e1:(zT5 s.heap l m).get? s.heap.objs.size=some _:=Heap.get?_push_of_some _ (Heap.get?_push_of_some _ (Heap.get?_push_of_some _ (Heap.get?_push_of_some _ (Heap.get?_push_size _ rfl))));refine show _∧_ from ?_;rw [n2,n3,n4] at e5;rw [n1,n2] at e3;rw [n3] at e4;rw [n1] at e2;rw [n4];exact ⟨⟨_,e5,rfl⟩,q _ e5 e3 e4 ⟨_,e1,rfl,rfl⟩ ⟨_,e2,rfl,rfl⟩ n5 fun c o x=>Heap.get?_push_of_some _ (Heap.get?_push_of_some _ (Heap.get?_push_of_some _ (Heap.get?_push_of_some _ (Heap.get?_push_of_some _ x))))⟩
end
def lB (K:PySem.W.Frag) (a b:Addr):It :=
 ⟨fun i H=>∃ xs ys x y,SqT K H a xs∧SqT K H b ys∧xs[i]?=some x∧ys[i]?=some y,
  fun i H v H'=>∃ T x y,v=.ref T∧H T=none∧H'=upd H T (.tup [x,y])∧(∀ xs,SqT K H a xs→xs[i]?=some x)∧(∀ ys,SqT K H b ys→ys[i]?=some y),
  fun i H=>∃ xs ys,SqT K H a xs∧SqT K H b ys∧min xs.length ys.length=i⟩
def xh (z TI TO i1 i2 l1 l2:Addr) (i:Nat) (h:Heap):Prop:=IsZip h z TI TO .none∧IsPair h TI (.ref i1) (.ref i2)∧(∃ a b,IsPair h TO a b)∧IsTupIter h i1 l1 i∧IsTupIter h i2 l2 i
theorem oQ {P:Program} {w:World} {K:PySem.W.Frag} {elts:List Expr} {k:Nat} {pos:Pos} (z TI TO i1 i2 l1 l2:Addr) (D:ZipApart z TI TO i1 i2 l1 l2) :
  Turn P w K (.Tuple elts k pos) (lB K l1 l2) [z,TI,TO,i1,i2] z (xh z TI TO i1 i2 l1 l2) where
 mem:=by simp
 obj:=fun i h st b hb=>by
  obtain ⟨hz,hTI,⟨a,c,hTO⟩,⟨o1,e1,c1,d1⟩,⟨o2,e2,c2,d2⟩⟩:=st;simp only [List.mem_cons,List.not_mem_nil,or_false] at hb;rcases hb with rfl | rfl | rfl | rfl | rfl
  ·exact ⟨_,hz,fun v q=>by cases q⟩
  ·exact ⟨_,hTI,fun v q=>by cases q⟩
  ·exact ⟨_,hTO,fun v q=>by cases q⟩
  ·exact ⟨o1,e1,fun v q=>by rw [d1] at q;cases q⟩
  ·exact ⟨o2,e2,fun v q=>by rw [d2] at q;cases q⟩
 keep:=fun i h h' st kk=>by
  obtain ⟨hz,hTI,⟨a,c,hTO⟩,⟨o1,e1,r1⟩,⟨o2,e2,r2⟩⟩:=st;exact ⟨kk z (by simp) _ hz,kk TI (by simp) _ hTI,⟨a,c,kk TO (by simp) _ hTO⟩,⟨o1,kk i1 (by simp) _ e1,r1⟩,⟨o2,kk i2 (by simp) _ e2,r2⟩⟩
 item:=by
  intro X hP hw hK hc i pins s σ H E I hf st hg;subst hP hw hK;obtain ⟨xs,ys,x,y,hx,hy,ex,ey⟩:=hg;obtain ⟨its,rv,p,hz⟩:=I.tuple hx;obtain ⟨its2,rv2,p2,hz2⟩:=I.tuple hy;obtain ⟨s1,s2,s3,s4,s5⟩:=st;have W:=sP (prog:=X.prog) (w:=X.w) (I.ok.hd hc) z TI TO i1 i2 l1 l2 D its.toArray its2.toArray;have li:i < xs.length:=(List.getElem?_eq_some_iff.mp ex).1;have li2:i < ys.length:=(List.getElem?_eq_some_iff.mp ey).1;have el:=rv.length;have el2:=rv2.length;have wsub:∀ b∈[z,TO,i1,i2],b∈[z,TI,TO,i1,i2]:=fun b hb=>by
   simp only [List.mem_cons,List.not_mem_nil,or_false] at hb ⊢;rcases hb with rfl | rfl | rfl | rfl <;> simp
  refine W.item i s _ _ (by simp only [List.size_toArray];lia) ⟨s1,s2,s3,s4,s5,p,p2⟩ fun T vals h' tk hv hT hTup hm hk=>?_;obtain ⟨u,v,eu,ev,rfl⟩:=hv;obtain ⟨u',eu',ru⟩:=rv.get ex;obtain ⟨v',ev',rv'⟩:=rv2.get ey;have e1:u=u':=by
   have:its[i]?=some u:=by simpa using eu
   rw [eu'] at this;exact (Option.some.inj this).symm
  have e2:v=v':=by
   have:its2[i]?=some v:=by simpa using ev
   rw [ev'] at this;exact (Option.some.inj this).symm
  subst e1 e2;have hTn:H T=none:=I.hok.fresh hT;have I1:Inv X pins σ (upd H T (.tup [x,y])) { s with heap:=h',toks:=tk }:=I.turnedT hk (fun b hb=>hf b (wsub b hb)) hT ⟨by show 2≤sizeLine;decide,[u,v],.cons ru (.cons rv' .nil),hTup⟩;have ap:=W.apart i T h' hm;have f1:∀ b∈[z,TO,i1,i2],eW X pins (upd H T (.tup [x,y])) b:=fun b hb=>by
   obtain ⟨f0,f1⟩:=hf b (wsub b hb);exact ⟨by rw [af (fun e:b=T=>ap (by rw [← e];exact hb))];exact f0,f1⟩
  refine ⟨_,rfl,W.go elts k pos i T _ _ _ hm fun h'' st2 hk2=>?_⟩;obtain ⟨t1,t2,t3,t4,t5,_,_⟩:=st2;refine ⟨.ref T,_,Inv.turnedL (s:={ s with heap:=h',toks:=tk }) (t':=tk) I1 hk2 f1,rfl,⟨T,x,y,rfl,hTn,rfl,fun zs q=>by rw [I.tuple_inj q hx];exact ex,fun zs q=>by rw [I.tuple_inj q hy];exact ey⟩,⟨t1,t2,t3,t4,t5⟩,fun b hb=>?_⟩;have fb:=(hf b hb).1
  by_cases e:b=T
  ·subst e;have lti:s.heap.objs.size > TI:=Heap.lt_size s2;simp only [List.mem_cons,List.not_mem_nil,or_false] at hb;rcases hb with rfl | rfl | rfl | rfl | rfl
   ·exact absurd (by simp) ap
   ·exact absurd lti (Nat.not_lt.mpr hT)
   ·exact absurd (by simp) ap
   ·exact absurd (by simp) ap
   ·exact absurd (by simp) ap
  ·rw [af e];exact fb
 done:=by
  intro X hP hw hK hc i pins s σ H E I hf st hg;subst hP hw hK;obtain ⟨xs,ys,hx,hy,hi⟩:=hg;obtain ⟨its,rv,p,hz⟩:=I.tuple hx;obtain ⟨its2,rv2,p2,hz2⟩:=I.tuple hy;obtain ⟨s1,s2,s3,s4,s5⟩:=st;have W:=sP (prog:=X.prog) (w:=X.w) (I.ok.hd hc) z TI TO i1 i2 l1 l2 D its.toArray its2.toArray;have el:=rv.length;have el2:=rv2.length;have en:min its.toArray.size its2.toArray.size=i:=by simp only [List.size_toArray];lia
  have wsub:∀ b∈[z,TO,i1,i2],b∈[z,TI,TO,i1,i2]:=fun b hb=>by
   simp only [List.mem_cons,List.not_mem_nil,or_false] at hb ⊢;rcases hb with rfl | rfl | rfl | rfl <;> simp
  refine W.done s _ _ ?_ fun h' tk hk=>⟨rfl,I.turnedL hk fun b hb=>hf b (wsub b hb)⟩;rw [en];exact ⟨s1,s2,s3,s4,s5,p,p2⟩
 self:=fun _ _ _ _ _ st h=>wpAny_pyIter_zip st.1 h
section
variable {X:Cx} {elts:List Expr} {k:Nat} {tpos:Pos}
def C6 (K:PySem.W.Frag) (ta:TA):TI:=fun σ H R=>ta σ H fun vs H1=>∃ a b,vs=[.ref a,.ref b]∧(∃ xs,SqT K H1 a xs)∧(∃ ys,SqT K H1 b ys)∧R (lB K a b) H1
theorem rS {a b:Expr} {ta:TA} {p pos:Pos} (hg:Gl X "zip") (hm:X.mg "zip" = none) (ha:PA X [a,b] ta) (hs:starEach [a,b] X.env=[(false,eval a X.env),(false,eval b X.env)]:=by rfl) (hs2:starEach [b] X.env=[(false,eval b X.env)]:=by rfl) :
  PI X (.Tuple elts k tpos) (.Call (.Name "zip" p) [a,b] [] pos) (C6 X.K ta):=by
 intro pins s σ H R I h;refine Call_ (gS I hg hm boot_zip (PyProof.Rows.callWith_type1 (thn (ha pos pins s σ H _ I h) fun us s1 ⟨vs,H1,I1,r1,q1⟩=>?_) (by rw [hs,hs2]) (by rw [hs2];rfl)));obtain ⟨l1,l2,e,⟨xs,hx⟩,⟨ys,hy⟩,q⟩:=q1;subst e;obtain ⟨u,v,rfl,ru,rv⟩:=r1.two
 cases ru
 cases rv
 obtain ⟨its,rr,pl,hz⟩:=I1.tuple hx;obtain ⟨its2,rr2,pl2,hz2⟩:=I1.tuple hy;have lt1:l1 < s1.heap.objs.size:=by obtain ⟨o,e,_⟩:=pl;exact Heap.lt_size e
 have lt2:l2 < s1.heap.objs.size:=by obtain ⟨o,e,_⟩:=pl2;exact Heap.lt_size e
 refine oP pl pl2 fun h' z1 z2 z3 z4 z5 zs kk=>?_;have I2:Inv X pins σ H1 { s1 with heap:=h' }:=I1.kept (t':=s1.toks) kk;refine wpAny_pyIter_zip z1 ?_;refine ⟨_,_,_,_,H1,rfl,I2,oQ _ _ _ _ _ l1 l2 ?_,⟨z1,z2,⟨_,_,z3⟩,z4,z5⟩,fun b hb=>?_,q⟩
 ·have lt1':s1.heap.objs.size > l1:=lt1;have lt2':s1.heap.objs.size > l2:=lt2
  constructor <;> (show ¬ (@Eq Nat _ _)) <;> lia
 ·have:s1.heap.objs.size≤b:=by
   simp only [List.mem_cons,List.not_mem_nil,or_false] at hb;rcases hb with rfl | rfl | rfl | rfl | rfl <;> lia
  exact I1.fpOk this (I1.hok.fresh this)
end
theorem oR {K:PySem.W.Frag} {a b l:Addr} {xs ys:List V} {g:TG} {tb:List V→Addr→St→Hp→(List V→St→Hp→Prop)→Prop} {Q:VK} {σ0:St} {H0:Hp} (Pv:Nat→List V→St→Hp→Prop) (h0:Pv 0 [] σ0 H0)
  (hla:∀ i us σ H,Pv i us σ H→SqT K H a xs∧SqT K H b ys)
  (hs:∀ i x y T us σ H (N:List V→St→Hp→Prop),xs[i]?=some x→ys[i]?=some y→H T=none→Pv i us σ H→(∀ us' σ' H',Pv (i+1) us' σ' H'→N us' σ' H')→g (.ref T) σ (upd H T (.tup [x,y])) fun σ2 H2=>tb us l σ2 H2 N)
  (hd:∀ us σ H,Pv (min xs.length ys.length) us σ H→Q (.ref l) H) :
  ∃ W:Nat→Nat→List V→St→Hp→Prop,(∃ m,W 0 m [] σ0 H0)∧∀ i m us σ' H',W i m us σ' H'→((lB K a b).stop i H'∧Q (.ref l) H') ∨
   ((lB K a b).go i H'∧∀ x H'',(lB K a b).yld i H' x H''→g x σ' H'' fun σ2 H2=>tb us l σ2 H2 fun us' σ3 H3=>∃ m',m' < m∧W (i+1) m' us' σ3 H3):=by
 refine ⟨fun i m us σ H=>m=min xs.length ys.length - i∧i≤min xs.length ys.length∧Pv i us σ H,⟨_,rfl,Nat.zero_le _,h0⟩,?_⟩;rintro i m us σ H ⟨rfl,hi,p⟩;obtain ⟨sa,sb⟩:=hla i us σ H p
 by_cases hlt:i < min xs.length ys.length
 ·obtain ⟨x,ex⟩:∃ x,xs[i]?=some x:=⟨_,List.getElem?_eq_getElem (by lia)⟩;obtain ⟨y,ey⟩:∃ y,ys[i]?=some y:=⟨_,List.getElem?_eq_getElem (by lia)⟩;refine .inr ⟨⟨xs,ys,x,y,sa,sb,ex,ey⟩,fun v H' q=>?_⟩;obtain ⟨T,x',y',rfl,hT,rfl,q1,q2⟩:=q;have e1:=q1 xs sa;have e2:=q2 ys sb;exact hs i x' y' T us σ H _ e1 e2 hT p fun us' σ' H' w=>⟨_,by lia,rfl,hlt,w⟩
 ·have e:i=min xs.length ys.length:=by lia
  subst e;exact .inl ⟨⟨xs,ys,sa,sb,rfl⟩,hd us σ H p⟩
section
variable {X:Cx} {K:PySem.W.Frag}
theorem jB:OpR X (compareOp .LtE) (fun x y H Q=>∃ i j,x=.str i∧y=.str j∧Q (.bl (!decide (j.cps.toList < i.cps.toList))) H):=by
 intro pins s σ H x y v u Q I rx ry h;obtain ⟨i,j,rfl,rfl,q⟩:=h;obtain ⟨t,rfl⟩:=rx;obtain ⟨t',rfl⟩:=ry;exact PySem.P.le_str (av I q rfl)
end
section
variable {prog:Program} {w:World} {A:Around} {E:Value→Shared→Prop} {s:Shared}
end
section
variable {X:Cx}
def DicQ (K:PySem.W.Frag) (H:Hp) (p:Addr) (fs:List (Str×Dt)):Prop :=
 ∃ kvs,H p=some (.dK kvs)∧kvs.map (·.1)=fs.map (fun p=>(Sum.inr p.1:Key))∧∀ z,(nJ fs z=none→lu kvs (Sum.inr z:Key)=none)∧∀ d,nJ fs z=some d→∃ v,lu kvs (Sum.inr z:Key)=some v∧IsP K H d v
theorem DicQ.p {K:PySem.W.Frag} {H:Hp} {p:Addr} {fs:List (Str×Dt)} (h:DicQ K H p fs):DM K H p fs:=by
 obtain ⟨kvs,e,_,k⟩:=h;exact ⟨kvs,e,k⟩
end
section
variable {prog:Program} {w:World} {A:Around} {E:Value→Shared→Prop} {s:Shared}
end
section
variable {prog:Program} {w:World} {A:Around} {E:Value→Shared→Prop} {s:Shared}
end
section
variable {X:Cx} {pins:List (Addr×Obj)} {σ:St} {H H':Hp} {s:Shared} {h':Heap}
end
abbrev C7 (j tk:Nat) (x:Value):Obj:={ cls:=.type "tuple",data:=.seq #[.int j tk,x] }
inductive Rws (h:Heap) (lo:Nat):Nat→List V→List (Addr×HO)→Prop
 | nil {j:Nat}:Rws h lo j [] []
 | cons {j T tk:Nat} {x:Value} {v:V} {vs:List V} {r:List (Addr×HO)}:lo < T→RelV v x→h.get? T=some (C7 j tk x)→Rws h lo (j+1) vs r→Rws h lo j (v :: vs) ((T,plO [.int j,v] [.int j tk,x]) :: r)
theorem Rws.length {h:Heap} {lo:Nat}:∀ {j:Nat} {vs:List V} {r:List (Addr×HO)},Rws h lo j vs r→r.length=vs.length
 | _,_,_,.nil=>rfl
 | _,_,_,.cons _ _ _ r=>by rw [List.length_cons,List.length_cons,r.length]
section
variable {X:Cx}
end
section
variable {prog:Program} {w:World} {A:Around} {E:Value→Shared→Prop} {s:Shared}
end
section
variable {X:Cx}
end
section
variable {X:Cx} {tg:Expr} {pins:List (Addr×Obj)} {σ:St} {H:Hp} {s:Shared}
end
section
variable {X:Cx}
end
section
variable {a:Addr} {ob:Obj} {kvs:List (Key×V)} {g:TG} {l:Addr} {σ0:St} {H0:Hp} {R:Hp→Prop} {tb:List V→Addr→St→Hp→(List V→St→Hp→Prop)→Prop}
end
section
variable {X:Cx}
end
section
variable {prog:Program} {w:World} {A:Around} {E:Value→Shared→Prop} {s:Shared}
end
section
variable {X:Cx}
end
section
variable {X:Cx} {K:PySem.W.Frag}
end
section
variable {X:Cx} {K:PySem.W.Frag}
inductive JSlP (K:PySem.W.Frag) (x:V) (lo hi:Option Int) (H:Hp) (Q:VK):Prop
 | mk (l:List Dt):(IsP K H (.tup l) x)→(∀ v H',Same H H'→IsP K H' (.tup (oG l lo hi)) v→Q v H')→JSlP K x lo hi H Q
def DP (K:PySem.W.Frag):V→Option Int→Option Int→Hp→VK→Prop:=fun x lo hi H Q=>JSlP K x lo hi H Q
inductive JLenS (K:PySem.W.Frag) (xs:List V) (H:Hp) (Q:VK):Prop
 | mk (p:Addr) (ys:List V):(xs=[.ref p])→((SqL K H p ys∨SqT K H p ys))→(Q (.int ys.length) H)→JLenS K xs H Q
def C8 (K:PySem.W.Frag):List V→Hp→VK→Prop:=fun xs H Q=>JLenS K xs H Q
def rV (K:PySem.W.Frag):List V→Hp→VK→Prop:=fun xs H Q=>∃ p ys,xs=[.ref p]∧(SqL K H p ys∨SqT K H p ys)∧∀ l,H l=none→Q (.ref l) (upd H l (.lst ys))
def DQ (K:PySem.W.Frag):List V→Hp→VK→Prop:=fun xs H Q=>∃ p ys,xs=[.ref p]∧true=true∧SqL K H p (bls ys)∧Q (.bl (ys.all id)) H
theorem qc (hK:X.K=K):SlR X (DP K):=by
 subst hK;intro pins s σ H x v vl vu lo hi sl Q I rx hs pl pu h;obtain ⟨l,a,q⟩:=h;exact rM _ _ _ _ _ _ _ _ _ _ _ _ I rx hs pl pu ⟨l,a,q⟩
theorem qe (hK:X.K=K):OpR X (binaryOp .Add) (sO K):=by subst hK;exact rP
theorem bo (hK:X.K=K):bh X (.builtin "len") (C8 K):=by
 subst hK;intro pins s σ H xs us Q I r h;obtain ⟨x,l,a,b,q⟩:=h;exact e6 _ _ _ _ _ _ _ I r ⟨x,l,a,b,q⟩
theorem iX (hK:X.K=K):bh X (.type "list") (rV K):=by subst hK;exact jS
theorem call_allN (hK:X.K=K) (hc:X.calm=true):bh X (.builtin "all") (DQ K):=by
 subst hK;intro pins s σ H xs us Q I r h;obtain ⟨p,ys,rfl,_,hs,q⟩:=h;exact pX _ _ _ _ _ _ _ I r ⟨p,ys,rfl,hc,hs,q⟩
end
section
variable {K:PySem.W.Frag} {a b l:Addr} {xs ys:List V} {g:TG} {tb:List V→Addr→St→Hp→(List V→St→Hp→Prop)→Prop} {R:Hp→Prop} {σ0:St} {H0:Hp}
theorem mQ (Pv:Nat→List V→St→Hp→Prop) (h0:Pv 0 [] σ0 H0) (hla:∀ i us σ H,Pv i us σ H→SqT K H a xs∧SqT K H b ys)
  (hs:∀ i x y T us σ H (N:List V→St→Hp→Prop),xs[i]?=some x→ys[i]?=some y→H T=none→Pv i us σ H→(∀ us' σ' H',Pv (i+1) us' σ' H'→N us' σ' H')→g (.ref T) σ (upd H T (.tup [x,y])) fun σ2 H2=>tb us l σ2 H2 N)
  (hd:∀ us σ H,Pv (min xs.length ys.length) us σ H→R H) :
  ∃ W:Nat→Nat→List V→St→Hp→Prop,(∃ m,W 0 m [] σ0 H0)∧∀ i m us σ' H',W i m us σ' H'→((lB K a b).stop i H'∧R H') ∨
   ((lB K a b).go i H'∧∀ x H'',(lB K a b).yld i H' x H''→g x σ' H'' fun σ2 H2=>tb us l σ2 H2 fun us' σ3 H3=>∃ m',m' < m∧W (i+1) m' us' σ3 H3):=oR (Q:=fun _ H=>R H) Pv h0 hla hs hd
end
section
variable {X:Cx} {K:PySem.W.Frag}
end
end L2
namespace PySem
open Sem (wp)
namespace F
end F
section
variable {prog:Program} {w:World} {K:Type} [DecidableEq K] {kd:KeyKind prog w K} {A:Around} {E:Value→Shared→Prop}
end
end PySem
namespace L2
open PySem PySem.Spec PyProof.Rows
def kDt:Key→Dt
 | .inl i=>.int i
 | .inr z=>.str z
theorem rW {K:PySem.W.Frag} {H:Hp} {k:Key} {v:V} (h:IsP K H (kDt k) v):v=kV k:=by
 cases k <;> (cases h;rfl)
theorem jC {K:PySem.W.Frag} {H:Hp}:∀ {ks:List Key} {xs:List V},IsPs K H (ks.map kDt) xs→xs=ks.map kV
 | [],_,h=>by cases h;rfl
 | k :: ks,_,h=>by
  cases h with
  | cons h r=>rw [rW h,jC r];rfl
def sQ (P:Program) (w:World) (p:Addr) (xs:List (List Key×Addr×Value)) (h:Heap):Prop :=
 ∃ o es ep,h.get? p=some o∧o.ExactDict∧o.data=.dict es ep∧es.toList=xs.map (entryOfKey (tupleKind (bt P w)))∧(xs.map (·.1)).Nodup
def DicT (P:Program) (w:World) (K:PySem.W.Frag) (H:Hp) (p:Addr) (kvs:List (List Key×Dt)):Prop :=
 (p == sysModules)=false∧∃ xs:List (List Key×Addr×Value),H p=some (.ext (sQ P w p xs)) ∧
  Paired (fun (a:List Key×Dt) (b:List Key×Addr×Value)=>a.1=b.1∧IsP K H (.tup (a.1.map kDt)) (.ref b.2.1)∧∃ v,RelV v b.2.2∧IsP K H a.2 v) kvs xs
section
variable {X:Cx} {pins:List (Addr×Obj)} {σ:St} {H:Hp} {s:Shared}
theorem nL (I:Inv X pins σ H s) {ks:List Key} {a:Addr} (h:IsP X.K H (.tup (ks.map kDt)) (.ref a)):IsTupleKey (bt X.prog X.w) s.heap ks a:=by
 obtain ⟨b,ys,e,ha,_,ra⟩:=h.unref
 cases e
 obtain ⟨its,r,⟨o,h1,h2,n,h3⟩,_⟩:=I.tuple ha;rw [jC ra] at r;exact ⟨o,its.toArray,n,h1,h2,h3,by simpa using jx r⟩
theorem DicT.dict {p:Addr} {kvs:List (List Key×Dt)} (I:Inv X pins σ H s) (h:DicT X.prog X.w X.K H p kvs):(p == sysModules)=false∧∃ xs:List (List Key×Addr×Value),s.heap.DictOfH (tupleKind (bt X.prog X.w)) p xs ∧
  Paired (fun (a:List Key×Dt) (b:List Key×Addr×Value)=>a.1=b.1∧IsP X.K H (.tup (a.1.map kDt)) (.ref b.2.1)∧∃ v,RelV v b.2.2∧IsP X.K H a.2 v) kvs xs:=by
 obtain ⟨e0,xs,e,r⟩:=h;obtain ⟨⟨o,es,ep,h1,h2,h3,h4,h5⟩,_⟩:=(show ObjOk X.prog X.w H s.heap p (.ext (sQ X.prog X.w p xs)) from I.hok p _ e);refine ⟨e0,xs,⟨o,es,ep,h1,h2,h3,h4,fun y hy=>?_,h5⟩,r⟩;have all:∀ {l:List (List Key×Dt)} {m:List (List Key×Addr×Value)},Paired (fun (a:List Key×Dt) (b:List Key×Addr×Value)=>a.1=b.1∧IsP X.K H (.tup (a.1.map kDt)) (.ref b.2.1)∧∃ v,RelV v b.2.2∧IsP X.K H a.2 v) l m→∀ y∈m,IsTupleKey (bt X.prog X.w) s.heap y.1 y.2.1:=by
  intro l m q
  induction q with
  | nil=>intro y hy;exact nomatch hy
  | @cons p q ps qs hq t ih =>
   intro y hy;rcases List.mem_cons.mp hy with rfl | hy
   ·rw [← hq.1];exact nL I hq.2.1
   ·exact ih y hy
 exact all r y hy
end
end L2
namespace PySem
open Sem (wp)
section
variable {prog:Program} {w:World} {K:Type} [DecidableEq K] {knd:HeapKind prog w K} {A:Around} {E:Value→Shared→Prop} {s:Shared}
end
end PySem
namespace L2
open PySem PySem.Spec PyProof.Rows
section
variable {X:Cx} {pins:List (Addr×Obj)} {σ:St} {H:Hp} {s:Shared}
end
theorem u2 {A:Around} (h:A.units+64 < cLine):A.units+2 < cLine:=by lia
section
variable {X:Cx} {o e f:Expr} {apos cpos:Pos} {td ty tx:TE}
end
end L2
namespace PySem
open Sem (wp)
open PyProof.Rows
section
variable {prog:Program} {w:World} {A:Around} {E:Value→Shared→Prop} {s:Shared} {δ:Type} {R:δ→Value→Prop} {h₀:Heap} {a:Addr} {D:List (Str×δ)} {k:Str} {tk:Tok}
theorem dD {Q:Option Value→Shared→Prop} (T:KTD.TabOf R h₀ a D) (kp:∀ b o,h₀.get? b=some o→s.heap.get? b=some o) (q1:∀ d v,KTD.datumAt k D=some d→R d v→Q (some v) { s with toks:=s.toks+1 })
  (q2:KTD.datumAt k D=none→Q none { s with toks:=s.toks+1 }):wpAny (model prog w) A (dictGet a (.str k tk)) Q E s:=by
 obtain ⟨_,o,es,ep,ho0,hc,hd,hr⟩:=T;have ho:=kp _ _ ho0;obtain ⟨l⟩:=es;unfold dictGet
 try with_reducible refine wpAny_holding ?_
 refine wpAny_bind (wpAny_pyHash_str (wpAny_bind (KTD.kt_dictFind_strs (s:={ s with toks:=s.toks+1 }) ho hd (by simpa using hr.exact) ?_)));have hq:Q (findBy (fun k v=>v.isStr k) (Array.mk l) k) { s with toks:=s.toks+1 }:=by
  rw [show findBy (fun k v=>v.isStr k) (Array.mk l) k=(l.find? fun e=>e.key.isStr k).map (·.val) by simp [findBy]]
  cases hat:KTD.datumAt k D with
  | none=>rw [show (l.find? fun e=>e.key.isStr k).map (·.val)=none by have:=hr.find_none hat;simpa using this];exact q2 hat
  | some d =>
   obtain ⟨v,hv,rv⟩:=hr.find_some hat;rw [show (l.find? fun e=>e.key.isStr k).map (·.val)=some v from hv];exact q1 d v hat rv
 rw [findBy_of_findIdx?] at hq
 cases hi:(Array.mk l).findIdx? fun e=>e.key.isStr k with
 | some i=>rw [hi] at hq;exact wpAny_bind (wpAny_dictEntries (s:={ s with toks:=s.toks+1 }) ho hd (wpAny_pure hq))
 | none=>rw [hi] at hq;exact wpAny_pure hq
end
end PySem
namespace L2
open PySem PySem.Spec PyProof.Rows
def ib (K:PySem.W.Frag) (a:Addr) (D:List (Str×Addr)):Prop:=∀ h,K.In h→KTD.TabOf (fun b v=>v=Value.ref b) h a D
theorem xG {K:PySem.W.Frag} {a:Addr} {D:List (Str×Addr)} (e:KTD.tabLook (fun b v=>v == Value.ref b) (fun b=>K.lookup b) a D=true):ib K a D :=
 fun _ X=>KTD.tab_of_look (L:=fun b v=>v == Value.ref b) (R:=fun b v=>v=Value.ref b) (fun _ _ z=>eq_of_beq z) (fun b o q=>X b o q) e
def j4 (K:PySem.W.Frag) (b:Addr) (ws:List Str):Bool:=match K.lookup b with
 | some o=>o.cls == .type "tuple" && (match o.data with | .seq vs _=>KTD.strsLook vs.toList ws && decide (vs.size≤1000) | _=>false)
 | none=>false
def qf (K:PySem.W.Frag) (D:List (Addr×List Str)):Bool:=D.all fun p=>j4 K p.1 p.2
def ic (K:PySem.W.Frag) (D:List (Addr×List Str)):Prop:=∀ p∈D,∀ H:Hp,SqT K H p.1 (p.2.map V.str)
theorem C9 {K:PySem.W.Frag} {D:List (Addr×List Str)} (e:qf K D=true):ic K D:=by
 intro p hp H;have e1:j4 K p.1 p.2=true:=List.all_eq_true.mp e p hp;unfold j4 at e1
 split at e1
 ·rename_i o ho
  simp only [Bool.and_eq_true] at e1;obtain ⟨e2,e3⟩:=e1
  split at e3
  ·rename_i vs n hd
   simp only [Bool.and_eq_true] at e3;exact .inr ⟨o,vs,n,ho,eq_of_beq e2,hd,Nat.le_of_lt (bc (of_decide_eq_true e3.2)),jy (KTD.strs_of_look e3.1)⟩
  ·cases e3
 ·cases e1
def dE (k:Str):List (Str×Addr)→Option Addr
 | []=>none
 | (x,b) :: D=>if k=x then some b else dE k D
theorem ie {k:Str}:∀ D:List (Str×Addr),KTD.datumAt k D=dE k D
 | []=>rfl
 | (x,b) :: D=>by
  show (if decide (k=x)=true then some b else KTD.datumAt k D)=_
  by_cases h:k=x
  ·simp [dE,h]
  ·simp [dE,h,ie D]
section
variable {X:Cx}
end
section
variable {prog:Program} {w:World} {A:Around} {E:Value→Shared→Prop} {s:Shared}
end
section
variable {prog:Program} {w:World} {A:Around} {E:Value→Shared→Prop} {s:Shared}
end
section
variable {prog:Program} {w:World} {K:Type} [DecidableEq K] {knd:KeyKind prog w K} {A:Around} {E:Value→Shared→Prop}
end
section
variable {prog:Program} {w:World} {K:Type} [DecidableEq K] {knd:KeyKind prog w K} {A:Around} {E:Value→Shared→Prop}
end
section
variable {X:Cx}
end
section
variable {X:Cx}
end
open AutoSeq1 (wpAny_loadPart')
structure ZOut (lo:Nat) (xs ys acc:Array Value) (h:Heap):Prop where
 pr:∀ (j:Nat) (e:Value),acc[j]?=some e→∃ (T:Addr) (x y:Value),e=.ref T∧lo≤T∧xs[j]?=some x∧ys[j]?=some y∧IsPair h T x y
 ij:∀ (j k:Nat) (e:Value),acc[j]?=some e→acc[k]?=some e→j=k
theorem ZOut.keep {lo:Nat} {xs ys acc:Array Value} {h h':Heap} (Z:ZOut lo xs ys acc h) (k:∀ T x y,lo≤T→IsPair h T x y→IsPair h' T x y):ZOut lo xs ys acc h' :=
 ⟨fun j e hj=>by obtain ⟨T,x,y,a,b,c,d,f⟩:=Z.pr j e hj;exact ⟨T,x,y,a,b,c,d,k T x y b f⟩,Z.ij⟩
section
variable {prog:Program} {w:World} {A:Around} {E:Value→Shared→Prop} {s:Shared}
end
section
variable {prog:Program} {w:World} {A:Around} {E:Value→Shared→Prop} {s:Shared}
end
abbrev Da (x y:Value):Obj:={ cls:=.type "tuple",data:=.seq #[x,y] }
inductive RwZ (h:Heap) (lo:Nat):List V→List V→List (Addr×HO)→Prop
 | nil:RwZ h lo [] [] []
 | cons {T:Nat} {x y:Value} {v u:V} {vs us:List V} {r:List (Addr×HO)}:lo≤T→RelV v x→RelV u y→h.get? T=some (Da x y)→RwZ h lo vs us r→RwZ h lo (v :: vs) (u :: us) ((T,plO [v,u] [x,y]) :: r)
theorem RwZ.length {h:Heap} {lo:Nat} {vs us:List V} {r:List (Addr×HO)} (R:RwZ h lo vs us r):r.length=vs.length:=by
 induction R with
 | nil=>rfl
 | cons _ _ _ _ _ ih=>rw [List.length_cons,List.length_cons,ih]
section
variable {X:Cx}
end
end L2
namespace L2
open PySem PySem.Spec PyProof.Rows
open AutoSeq1 (wpAny_loadPart')
section
variable {prog:Program} {w:World} {A:Around} {E:Value→Shared→Prop} {s:Shared}
end
section
variable {X:Cx}
end
end L2
namespace L2
open PySem PySem.Spec PyProof.Rows
section
variable {X:Cx} {o e:Expr} {es:List Expr} {to:TE} {t:TA} {name:Str} {apos cpos:Pos} {T id:String} {r:V→List V→Hp→VK→Prop}
end
section
variable {P:Program} {w:World} {A:Around} {E:Value→Shared→Prop} {s:Shared}
end
section
variable {P:Program} {w:World} {A:Around} {R:Result→Shared→Prop} {it:Addr} {fp wr:List Addr} {G:Array GenState→Array GenState→Prop} {n:Nat} {Pt:Nat→Value→Prop} {St:Nat→Shared→Prop}
end
section
variable {P:Program} {w:World} {A:Around} {E:Value→Shared→Prop} {s:Shared}
end
section
variable {P:Program} {w:World} {A:Around} {E:Value→Shared→Prop} {s:Shared}
def SIt (h:Heap) (I a:Addr) (first:Value) (i n ep:Nat):Prop:=∃ o,h.get? I=some o∧o.cls=.type "set_iterator" ∧o.data=.fields #[first,.int i 0,.ref a,.int n 0,.int ep 0]
theorem SIt.type {I a:Addr} {first:Value} {i n ep:Nat} (x:SIt s.heap I a first i n ep):s.TypeIs (.ref I) "set_iterator" :=let ⟨o,ho,hc,_⟩:=x;⟨o,ho,hc⟩
theorem SIt.at {h h':Heap} {I a:Addr} {first:Value} {i n ep:Nat} (x:SIt h I a first i n ep) (e:∀ o,h.get? I=some o→h'.get? I=some o):SIt h' I a first i n ep:=let ⟨o,ho,r⟩:=x;⟨o,e _ ho,r⟩
end
section
variable {P:Program} {w:World} {A:Around} {E:Value→Shared→Prop} {s:Shared}
end
section
variable {P:Program} {w:World} {A:Around} {E:Value→Shared→Prop} {s:Shared}
end
section
variable {P:Program} {w:World} {A:Around} {E:Value→Shared→Prop} {s:Shared}
end
section
variable {P:Program} {w:World} {A:Around} {E:Value→Shared→Prop} {s:Shared}
end
section
variable {P:Program} {w:World} {A:Around} {E:Value→Shared→Prop} {s:Shared}
end
section
variable {X:Cx}
end
section
variable {X:Cx} {elts:List Expr} {k:Nat} {tpos:Pos}
end
section
variable {X:Cx} {o e f:Expr} {apos cpos:Pos} {td ty tx:TE}
end
section
variable {X:Cx} {e st:Expr} {te tst:TE} {p2 pos:Pos}
end
end L2
namespace PySem
open Sem (wp)
section
variable {M:Model} {A:Around} {E:Value→Shared→Prop} {s:Shared}
end
end PySem
namespace PySem
open Sem (wp)
section
variable {prog:Program} {w:World} {A:Around} {E:Value→Shared→Prop} {s:Shared} {env:Env}
variable {nm q:Str} {C N:Addr} {bs bm bmB:List Value} {hdct:Bool} {sn:List Str} {sub:List Value} {ab:Bool} {col:Option Bool} {dd:Option Addr} {k0 k1 k2 k3 k5:Option Value} {B newId initId:String}
end
end PySem
namespace L2
open PySem PySem.Spec PyProof.Rows
section
variable {X:Cx} {pins:List (Addr×Obj)} {σ:St} {H:Hp} {s:Shared}
end
end L2
namespace PySem
open Sem (wp)
section
variable {prog:Program} {w:World} {A:Around} {E:Value→Shared→Prop} {s:Shared} {env:Env}
variable {nm q:Str} {C N:Addr} {bs bm bmB:List Value} {hdct:Bool} {sn:List Str} {sub:List Value} {ab:Bool} {col:Option Bool} {dd:Option Addr} {k0 k1 k2 k3 k5:Option Value} {B newId initId:String}
end
end PySem
namespace L2
open PySem PySem.Spec PyProof.Rows
section
variable {X:Cx} {pins:List (Addr×Obj)} {σ:St} {H:Hp} {s:Shared}
end
end L2
namespace PySem
open Sem (wp)
section
variable {prog:Program} {w:World} {K:Type} [DecidableEq K] {kd:KeyKind prog w K} {k0:K} {A:Around} {E:Value→Shared→Prop} {s:Shared}
def IsBoxKey (kd:KeyKind prog w K) (k0:K) (h:Heap) (k:K) (a:Addr):Prop :=
 ∃ o u b n,h.get? a=some o∧o.cls=.type "tuple" ∧o.data=.seq #[u,.ref b] n∧kd.is k0 u=true∧IsTupleKey kd h [k] b
theorem IsBoxKey.tuple {k:K} {a:Addr} (x:IsBoxKey kd k0 s.heap k a):s.TypeIs (.ref a) "tuple" :=let ⟨o,_,_,_,q,c,_⟩:=x;⟨o,q,c⟩
theorem IsBoxKey.one {h:Heap} {a:Addr} {x y:K} (p:IsBoxKey kd k0 h x a) (q:IsBoxKey kd k0 h y a):x=y:=by
 obtain ⟨o,u,b,n,p1,p2,p3,p4,p5⟩:=p;obtain ⟨o',u',b',n',q1,q2,q3,q4,q5⟩:=q;obtain rfl:o=o':=Option.some.inj (p1.symm.trans q1);rw [p3] at q3;injection q3 with e _
 have e2:u=u'∧b=b':=by simpa using e
 obtain ⟨rfl,rfl⟩:=e2;exact List.cons.inj (p5.inj q5) |>.1
theorem IsBoxKey.stay {h h':Heap} {k:K} {a d:Addr} {o:Obj} {es ep} (x:IsBoxKey kd k0 h k a) (q:h.get? d=some o) (qd:o.data=.dict es ep) (sb:Heap.SameBut d h h'):IsBoxKey kd k0 h' k a:=by
 obtain ⟨o',u,b,n,p1,p2,p3,p4,p5⟩:=x;have ne:a≠d:=by
  rintro rfl;obtain rfl:o'=o:=Option.some.inj (p1.symm.trans q);rw [qd] at p3;exact nomatch p3
 exact ⟨o',u,b,n,(sb.2 a ne).trans p1,p2,p3,p4,p5.keeps q qd sb⟩
def j5 (kd:KeyKind prog w K) (k0 k:K):Int:=reduceHash (Builtin.Tuple.tupleHashOf [kd.hash k0,tupleKeyHash kd [k]])
theorem qg {k:K} {a:Addr} {Q:Int→Shared→Prop} (hu:A.units+1 < cLine) (x:IsBoxKey kd k0 s.heap k a) (z:Q (j5 kd k0 k) { s with toks:=s.toks+4 }) :
  wpAny (model prog w) A (pyHash (.ref a)) Q E s:=by
 have ty:=x.tuple;obtain ⟨o,u,b,n,p1,_,p3,p4,p5⟩:=x;unfold pyHash
 first | unfold pyHashByItsType | skip
 first | refine wpAny_bind (wpAny_cRoomFor_or (.inr (Nat.lt_trans (Nat.lt_succ_self _) hu)) ?_) | skip
 refine wpAny_bind (wpAny_specialOf ty F.slot_tuple_hash.lookup ?_);show wpAny _ _ (if (some (Value.builtin "tuple.__hash__") == some Value.none)=true then _ else _) Q E s;rw [if_neg (by rw [beq_builtin_none];exact Bool.false_ne_true)];refine wpAny_bind (wpAny_specialOf ty F.slot_tuple_hash.lookup ?_);show wpAny _ _ (callSpecialIfBoundUnlessNone? (.ref a) "__hash__" _ >>= _) Q E s;refine wpAny_bind (wpAny_callSpecialIfBoundUnlessNone?_slot ty F.slot_tuple_hash (wpAny_call_entry F.slot_tuple_hash ty F.entry_tuple_hash ?_ (F.args_tuple_hash_1 _)));show wpAny _ _ (Builtin.Tuple.tupleItemsOf (.ref a) >>= _) _ _ s;refine wpAny_bind (wpAny_tupleItemsOf p1 p3 ?_);refine wpAny_bind ?_;rw [← Array.forIn_toList];show wpAny _ _ (forIn [u,Value.ref b] _ _) _ _ _;rw [List.forIn_cons];refine wpAny_bind (wpAny_bind (kd.pyHash p4 ?_))
 first | refine wpAny_pure ?_ | refine wpAny_bind (wpAny_pure (wpAny_pure ?_))
 show wpAny _ _ (forIn [Value.ref b] _ _) _ _ _;rw [List.forIn_cons];refine wpAny_bind (wpAny_bind (wpAny_pyHash_tuple (knd:=kd) (ks:=[k]) (by exact hu) (by exact p5) ?_))
 first | refine wpAny_pure ?_ | refine wpAny_bind (wpAny_pure (wpAny_pure ?_))
 show wpAny _ _ (forIn ([]:List Value) _ _) _ _ _;rw [List.forIn_nil];refine wpAny_pure ?_;show wpAny _ _ (retInt (Builtin.Tuple.tupleHashOf [kd.hash k0,tupleKeyHash kd [k]])) _ _ _;refine wpAny_ret_mkInt ?_;show wpAny _ _ (if (decide (-(2:Int) ^ 63≤Builtin.Tuple.tupleHashOf [kd.hash k0,tupleKeyHash kd [k]]) && decide (Builtin.Tuple.tupleHashOf [kd.hash k0,tupleKeyHash kd [k]] < 2 ^ 63))=true then _ else _) Q E _;unfold j5 reduceHash at z
 split
 ·rename_i q
  rw [if_pos q] at z;exact wpAny_pure z
 ·rename_i q
  rw [if_neg q] at z;exact wpAny_bind (wpAny_rule (wpAny_pure z))
theorem qh {x y:K} {a b:Addr} {P:Fin→Shared→Prop} (hu:A.units+1 < cLine) (p:IsBoxKey kd k0 s.heap x a) (q:IsBoxKey kd k0 s.heap y b) (z:P (.done (.ret (.bool (decide (x=y))))) s) :
  wpAny (model prog w) A (Builtin.«tuple.__eq__» ⟨[.ref a,.ref b],[]⟩) P E s:=by
 have ty:=q.tuple;obtain ⟨oa,ua,ba,na,a1,_,a3,a4,a5⟩:=p;obtain ⟨ob,ub,bb,nb,b1,_,b3,b4,b5⟩:=q;show wpAny _ _ (isInstance (.ref b) (.type "tuple") >>= _) _ _ s;refine wpAny_bind (wpAny_isInstance ty isSubtype_tuple_tuple ?_);simp only [Bool.not_true,Bool.false_eq_true,if_false];refine wpAny_bind (wpAny_tupleItemsOf a1 a3 ?_);refine wpAny_bind (wpAny_tupleItemsOf b1 b3 ?_);refine wpAny_bind ?_;show wpAny _ _ (forIn [(ua,ub),(Value.ref ba,Value.ref bb)] _ _) _ _ _;rw [List.forIn_cons];refine wpAny_bind (wpAny_bind (kd.eqBool (a:=k0) (b:=k0) a4 b4 ?_));rw [decide_eq_true rfl];simp only [Bool.not_true,Bool.false_eq_true,if_false];refine wpAny_pure ?_;show wpAny _ _ (forIn [(Value.ref ba,Value.ref bb)] _ _) _ _ _;rw [List.forIn_cons];refine wpAny_bind (wpAny_bind (wpAny_eqBool_tuple (knd:=kd) (x:=[x]) (y:=[y]) (by lia) a5 b5 ?_))
 by_cases e:x=y
 ·subst e;rw [decide_eq_true rfl];rw [decide_eq_true rfl] at z;simp only [Bool.not_true,Bool.false_eq_true,if_false];refine wpAny_pure ?_;show wpAny _ _ (forIn ([]:List (Value×Value)) _ _) _ _ _;rw [List.forIn_nil];exact wpAny_pure (wpAny_pure z)
 ·have e':¬ [x]=[y]:=fun c=>e (List.cons.inj c).1;rw [decide_eq_false e'];rw [decide_eq_false e] at z;simp only [Bool.not_false,if_true];exact wpAny_bind (wpAny_pure (wpAny_pure (wpAny_pure (wpAny_pure z))))
theorem xi {x y:K} {a b:Addr} {Q:Bool→Shared→Prop} (hu:A.units+2 < cLine) (p:IsBoxKey kd k0 s.heap x a) (q:IsBoxKey kd k0 s.heap y b) (z:Q (decide (x=y)) s) :
  wpAny (model prog w) A (eqBool (.ref a) (.ref b)) Q E s:=by
 unfold eqBool
 try with_reducible refine wpAny_holding ?_
 show wpAny _ _ (if (Value.ref a == Value.ref b)=true then _ else _) Q E s
 by_cases ab:(Value.ref a == Value.ref b)=true
 ·rw [if_pos ab];have e:a=b:=by have:=eq_of_beq ab;injection this
  subst e;obtain rfl:=p.one q;exact wpAny_bind (wpAny_rule (wpAny_pure (by simpa using z)))
 ·rw [if_neg ab];exact wpAny_bind (wpAny_richCompare_same_room (op:=.Eq) p.tuple q.tuple F.slot_tuple_eq
   (wpAny_call_entry F.slot_tuple_eq p.tuple F.entry_tuple_eq (qh (by exact hu) p q ⟨_,rfl,(fun e=>nomatch e),wpAny_truthy_bool z⟩) (F.args_tuple_eq_2 _ _)) (by lia))
theorem lC (m:Nat) {ks:List K} {a:Addr} {Q:Bool→Shared→Prop} (x:IsTupleKey kd s.heap ks a) (z:Q true s):wpAny (model prog w) A (eqIsQuiet (m+1) (.ref a)) Q E s:=by
 have ty:=x.typeIs;obtain ⟨o,its,n,p1,_,p3,p4⟩:=x;unfold eqIsQuiet;refine wpAny_bind (wpAny_specialOf ty F.slot_tuple_eq.lookup ?_);show wpAny _ _ (isInstance (.ref a) (.type "tuple") >>= _) _ _ s;refine wpAny_bind (wpAny_isInstance ty isSubtype_tuple_tuple ?_);simp only [Bool.not_true,Bool.false_eq_true,if_false];refine wpAny_bind (wpAny_seqItems p1 p3 ?_);refine wpAny_bind ?_;show wpAny _ _ (forIn its _ _) _ _ s;rw [← Array.forIn_toList];refine wpAny_forIn_list _ (fun rest r s'=>r.1=none∧s'=s∧∀ v∈rest,carriedByValue v=true) _ ?_ ?_ _ _ ⟨rfl,rfl,p4.byValue⟩
 ·rintro v rest r s' ⟨hr,rfl,al⟩;rw [eqIsQuiet_byValue _ (al v List.mem_cons_self)];refine wpAny_bind (wpAny_pure ?_);simp only [Bool.not_true,Bool.false_eq_true,if_false];exact wpAny_pure ⟨rfl,rfl,fun u hu'=>al u (List.mem_cons_of_mem _ hu')⟩
 ·rintro ⟨r1,r2⟩ s' ⟨hr,rfl,_⟩;simp only at hr;subst hr;exact wpAny_pure z
theorem oS {k:K} {a:Addr} {Q:Bool→Shared→Prop} (x:IsBoxKey kd k0 s.heap k a) (z:Q true s):wpAny (model prog w) A (eqIsQuiet 8 (.ref a)) Q E s:=by
 have ty:=x.tuple;obtain ⟨o,u,b,n,p1,_,p3,p4,p5⟩:=x;unfold eqIsQuiet;refine wpAny_bind (wpAny_specialOf ty F.slot_tuple_eq.lookup ?_);show wpAny _ _ (isInstance (.ref a) (.type "tuple") >>= _) _ _ s;refine wpAny_bind (wpAny_isInstance ty isSubtype_tuple_tuple ?_);simp only [Bool.not_true,Bool.false_eq_true,if_false];refine wpAny_bind (wpAny_seqItems p1 p3 ?_);refine wpAny_bind ?_;show wpAny _ _ (forIn #[u,Value.ref b] _ _) _ _ s;rw [← Array.forIn_toList];show wpAny _ _ (forIn [u,Value.ref b] _ _) _ _ s;rw [List.forIn_cons,eqIsQuiet_byValue _ (kd.byValue _ _ p4)];refine wpAny_bind (wpAny_bind (wpAny_pure ?_));simp only [Bool.not_true,Bool.false_eq_true,if_false];refine wpAny_pure ?_;show wpAny _ _ (forIn [Value.ref b] _ _) _ _ s;rw [List.forIn_cons];refine wpAny_bind (wpAny_bind (lC _ p5 ?_));simp only [Bool.not_true,Bool.false_eq_true,if_false];refine wpAny_pure ?_;show wpAny _ _ (forIn ([]:List Value) _ _) _ _ s;rw [List.forIn_nil];exact wpAny_pure (wpAny_pure z)
end
def rX {prog:Program} {w:World} {K:Type} [DecidableEq K] (kd:KeyKind prog w K) (k0:K):HeapKind prog w K where
 is:=IsBoxKey kd k0
 hash:=j5 kd k0
 draws:=fun _=>4
 room:=fun A=>A.units+2 < cLine
 inj:=fun p q=>p.one q
 keeps:=fun x q qd sb=>x.stay q qd sb
 pyHash:=fun hu x z=>qg (Nat.lt_trans (Nat.lt_succ_self _) hu) x z
 eqBool:=fun hu p q z=>xi hu p q z
 quiet:=fun x z=>oS x z
section
variable {prog:Program} {w:World} {K:Type} [DecidableEq K] {knd:HeapKind prog w K} {A:Around} {E:Value→Shared→Prop} {s:Shared}
end
end PySem
namespace L2
open PySem PySem.Spec PyProof.Rows
theorem jD {α β:Type} {F:α→β→Prop}:∀ {l:List α} {m:List β},Paired F l m→∀ {i:Nat} {p:α} {q:β},l[i]?=some p→m[i]?=some q→F p q
 | _,_,.nil,i,p,q,h,_=>by simp at h
 | _,_,.cons r t,0,p,q,h,g=>by
  obtain rfl:_=p:=by simpa using h
  obtain rfl:_=q:=by simpa using g
  exact r
 | _,_,.cons r t,i+1,p,q,h,g=>jD t (by simpa using h) (by simpa using g)
theorem qi {H:Hp} {a p:Addr} {o:Obj} {u:HO} (mu:Mut (H p)) (e:H a=some (.frz o u)):a≠p:=by
 intro c;subst c;rw [e] at mu;exact mu
mutual
theorem rY {K:PySem.W.Frag} {H H':Hp} {p:Addr} (mu:Mut (H p)) (g:But p H H'):∀ {d:Dt} {v:V},IsP K H d v→IsP K H' d v
 | _,_,.non=>.non
 | _,_,.bl=>.bl
 | _,_,.int=>.int
 | _,_,.str=>.str
 | _,_,.tup h pl q=>.tup (g.tup (by obtain ⟨o,u,e,dn⟩:=pl;exact qi mu e) h) (by
   obtain ⟨o,u,e,dn⟩:=pl;exact ⟨o,u,g _ _ (qi mu e) e,dn⟩) (aL mu g q)
theorem aL {K:PySem.W.Frag} {H H':Hp} {p:Addr} (mu:Mut (H p)) (g:But p H H'):∀ {l:List Dt} {xs:List V},IsPs K H l xs→IsPs K H' l xs
 | _,_,.nil=>.nil
 | _,_,.cons h q=>.cons (rY mu g h) (aL mu g q)
end
def xj (k:Key):Dt:=.tup [.str "list",.tup [kDt k]]
abbrev nM (P:Program) (w:World):HeapKind P w Key:=rX (bt P w) (Sum.inr ("list" : Str))
def j6 (P:Program) (w:World) (p:Addr) (ob:Obj) (xs:List (Key×Addr×Value)) (h:Heap):Prop :=
 h.get? p=some ob∧ob.ExactDict∧∃ es ep,ob.data=.dict es ep∧es.toList=xs.map (entryOfKey (nM P w))∧(xs.map (·.1)).Nodup
def DicO (P:Program) (w:World) (K:PySem.W.Frag) (H:Hp) (a:Addr) (ob:Obj) (kvs:List (Key×V)):Prop:=(a == sysModules)=false∧kvs.length≤sizeLine∧∃ xs,H a=some (.ext (j6 P w a ob xs)) ∧
 Paired (fun (p:Key×V) (q:Key×Addr×Value)=>p.1=q.1∧IsP K H (xj p.1) (.ref q.2.1)∧RelV p.2 q.2.2) kvs xs
def DicE (P:Program) (w:World) (m:Bool) (K:PySem.W.Frag) (H:Hp) (a:Addr) (kvs:List (Key×V)):Prop:=match m with
 | false=>H a=some (.dK kvs)
 | true=>(∃ ob,DicO P w K H a ob kvs)∨(kvs=[]∧H a=some (.dK []))
section
variable {P:Program} {w:World} {K:PySem.W.Frag} {m:Bool} {H H':Hp} {a:Addr} {ob:Obj} {kvs:List (Key×V)}
theorem DicE.ne {r:Addr} {ys:List V} (h:DicE P w m K H a kvs) (hr:H r=some (.lst ys)):r≠a:=by
 intro c;subst c
 cases m with
 | false=>rw [show H r=some (.dK kvs) from h] at hr;cases hr
 | true =>
  rcases h with ⟨ob,_,_,_,e,_⟩ | ⟨_,e⟩
  ·rw [e] at hr;cases hr
  ·rw [e] at hr;cases hr
end
section
variable {X:Cx} {pins:List (Addr×Obj)} {σ:St} {H:Hp} {s:Shared}
theorem xl (I:Inv X pins σ H s) {k:Key} {a:Addr} (h:IsP X.K H (xj k) (.ref a)):IsBoxKey (bt X.prog X.w) (Sum.inr ("list" : Str)) s.heap k a:=by
 obtain ⟨b,ys,e,ha,_,ra⟩:=IsP.unref h
 cases e
 obtain ⟨its,r,⟨o,h1,h2,n,h3⟩,_⟩:=I.tuple ha
 cases ra with
 | cons d1 ra =>
  cases ra with
  | cons d2 ra =>
   cases ra
   cases d1
   obtain ⟨c,zs,rfl,hc,pc,rc⟩:=IsP.unref d2
   cases r with
   | cons q1 r =>
    cases r with
    | cons q2 r =>
     cases r
     cases q2
     exact ⟨o,_,c,n,h1,h2,h3,sL (k:=Sum.inr ("list" : Str)) q1,nL I (ks:=[k]) (show IsP X.K H (.tup ([k].map kDt)) (.ref c) from d2)⟩
theorem DicO.dict {a:Addr} {ob:Obj} {kvs:List (Key×V)} (I:Inv X pins σ H s) (h:DicO X.prog X.w X.K H a ob kvs):(a == sysModules)=false∧kvs.length≤sizeLine∧∃ xs,s.heap.DictOfH (nM X.prog X.w) a xs∧j6 X.prog X.w a ob xs s.heap∧H a=some (.ext (j6 X.prog X.w a ob xs)) ∧
  Paired (fun (p:Key×V) (q:Key×Addr×Value)=>p.1=q.1∧IsP X.K H (xj p.1) (.ref q.2.1)∧RelV p.2 q.2.2) kvs xs:=by
 obtain ⟨e0,e1,xs,e,r⟩:=h;obtain ⟨oo,_⟩:=(show ObjOk X.prog X.w H s.heap a (.ext (j6 X.prog X.w a ob xs)) from I.hok a _ e);obtain ⟨h1,h2,es,ep,h3,h4,h5⟩:=id oo;refine ⟨e0,e1,xs,⟨ob,es,ep,h1,h2,h3,h4,fun y hy=>?_,h5⟩,oo,e,r⟩;obtain ⟨i,hi⟩:=List.getElem?_of_mem hy;have hl:i < kvs.length:=by rw [Paired.length r];exact (List.getElem?_eq_some_iff.mp hi).1
 have q:=jD r (List.getElem?_eq_getElem hl) hi;rw [← q.1];exact xl I q.2.1
end
section
variable {X:Cx} {P:Program} {w:World} {K:PySem.W.Frag} {o e f:Expr} {apos cpos pos:Pos} {td ty tx:TE}
end
section
variable {X:Cx} {tg:Expr} {P:Program} {w:World} {K:PySem.W.Frag}
end
section
variable {prog:Program} {w:World} {A:Around} {E:Value→Shared→Prop} {s:Shared}
theorem rZ {l:Addr} {items:Array Value} {k:Nat} {x:Int} {u:Tok} {Q:Value→Shared→Prop} (ho:s.heap.get? l=some { cls:=.type "list",dict:=none,data:=.seq items k,slots:=#[] }) (h1:0≤x) (h2:x≤1000) (hz:items.size=1)
  (h:Q (.ref s.heap.objs.size) { s with heap:=s.heap.push { cls:=.type "list",data:=.seq ((List.replicate x.toNat items).foldl (·++·) #[]) } }):wpAny (model prog w) A (binaryOp .Mult (.ref l) (.int x u)) Q E s:=by
 have hT:s.TypeIs (.ref l) "list" :=⟨_,ho,rfl⟩;refine wpAny_binaryOp_repeat_ref (T:= "list") (U:= "int") (by decide) hT (fun s'=>typeIs_int s' x u) noFill_list_mul F.fills_int_mul F.slot_int_rmul repeat_list F.slot_int_index.lookup ?_;refine call_meets F.slot_int_rmul (typeIs_int s x u) F.entry_int_rmul (F.args_int_rmul_2 _ _) (int___rmul___int_list x u l items k) ⟨ho,rfl,hT,?_⟩;have ne:items.isEmpty=false:=by
  simp;intro c;rw [c] at hz;simp at hz
 refine call_meets F.slot_list_mul hT F.entry_list_mul (F.args_list_mul_2 _ _) (AutoListH.list___mul___list_int_3 l items k x u (by simp [Builtin.List.listFitsIndex];lia) (by rw [hz];lia) (by rw [hz];simp [Builtin.List.listTooLong,sizeLine];lia)) ⟨ho,?_⟩;rw [ne];exact h
end
section
variable {X:Cx} {K:PySem.W.Frag}
theorem qj:OpR X (binaryOp .Mult) (fun x y H Q=>∃ a z n,x=.ref a∧H a=some (.lst [z])∧y=.int n∧0≤n∧n≤1000∧∀ p,H p=none→Q (.ref p) (upd H p (.lst (List.replicate n.toNat z)))):=by
 intro pins s σ H x y v u Q I rx ry h;obtain ⟨a,z,n,rfl,ha,rfl,h1,h2,q⟩:=h
 cases rx
 obtain ⟨t,rfl⟩:=ry;obtain ⟨_,its,k,r,e0⟩:=(show ObjOk X.prog X.w H s.heap a (.lst [z]) from I.hok a _ ha);obtain ⟨u,rfl,ru⟩:=cK r;refine rZ e0 h1 h2 rfl ?_;have e:(List.replicate n.toNat [u].toArray).foldl (·++·) #[]=(List.replicate n.toNat u).toArray:=by
  rw [show [u].toArray=#[u] from rfl,oM];simp
 rw [e];refine ⟨.ref _,_,I.laid (t':=s.toks) (o:=.lst (List.replicate n.toNat z)) (fun b ob q=>Heap.get?_push_of_some _ q) (Nat.le_refl _) ?_,rfl,q _ (I.hok.fresh (Nat.le_refl _))⟩;exact ⟨by rw [List.length_replicate];exact Nat.le_trans (show n.toNat≤1000 by lia) (by decide),_,0,sN ru n.toNat,Heap.get?_push_size _ rfl⟩
end
end L2
namespace PySem
open PyProof.Rows PySem.Spec
section
variable {prog:Program} {w:World} {h₀:Heap} {k:Str} {tk:Tok} {a:Addr} {α:Type} {R:α→Value→Prop} {D:List (Str×α)}
theorem lD:MeetsIn prog w (Builtin.«dict.get» ⟨[.ref a,.str k tk],[]⟩) (fun _ Rr s=>KTD.TabOf R h₀ a D∧(∀ b o,h₀.get? b=some o→s.heap.get? b=some o)∧(∀ d v,KTD.datumAt k D=some d→R d v→Rr (.ok (.ret v)) { s with toks:=s.toks+1 }) ∧
  (KTD.datumAt k D=none→Rr (.ok (.ret .none)) { s with toks:=s.toks+1 })) :=
 .of_wp fun A Rr s ⟨T,kp,h1,h2⟩=>by
  show wpAny _ _ (dictGet a (.str k tk) >>= _) _ _ s;refine wpAny_bind (dD T kp (fun d v ha hv=>wpAny_pure ⟨v,rfl,h1 d v ha hv⟩) fun hn=>wpAny_bind (m:=Builtin.Dict.missed a (.str k tk)) (wpAny_missed_other T.1 (wpAny_pure ⟨.none,rfl,h2 hn⟩)))
end
end PySem
namespace L2
open PySem PySem.Spec PyProof.Rows
structure Mn (K:PySem.W.Frag) (C:Addr) (m q:Str) (st:Stmt) (ps:List Str) (f:Addr) (fd:FuncData):Prop where
 meth:Meth K C m f
 F:Fun K m q st f fd
 b:Binds K fd ps []
structure Mi (K:PySem.W.Frag) (C:Addr) (m q:Str) (st:Stmt) (ps:List Str) (f:Addr) (fd:FuncData):Prop where
 makes:Mk K C f
 F:Fun K m q st f fd
 b:Binds K fd ps []
def qk (y z:Str) (i:Int):Int:=match Builtin.Str.occurrences y z (PySem.fromIndex y.length i) y.length 1 with
 | k :: _=>(k:Int)
 | []=>-1
theorem ig:∀ {zs:List Str} {us:List Value},Vals (zs.map V.str) us→StrsAre us zs
 | [],us,h=>by cases h;exact .nil
 | z :: zs,us,h=>by
  cases h with
  | cons r h =>
   obtain ⟨t,rfl⟩:=r;exact .cons z t (ig h)
section
variable {X:Cx}
theorem ql:MtM X "str.find" (fun x vs H Q=>∃ y z i,x=.str y∧vs=[.str z,.int i]∧Q (.int (qk y z i)) H):=by
 intro pins s σ H x vs v us Q I rx rv h;obtain ⟨y,z,i,rfl,rfl,q⟩:=h;obtain ⟨t,rfl⟩:=rx;obtain ⟨u1,u2,rfl,⟨t1,rfl⟩,⟨t2,rfl⟩⟩:=nF rv;exact call_gives PySem.F.slot_str_find (typeIs_str _ _ _) PySem.F.entry_str_find (PySem.F.args_str_find_3 _ _ _) (gives_str_find_from y z i t t1 t2) ⟨.int _,H,I.tok _,⟨_,rfl⟩,q⟩
theorem mR:MtM X "str.lstrip" (fun x vs H Q=>∃ y z,x=.str y∧vs=[.str z]∧y.length≤sizeLine∧Q (.str (Txt.lstripChars y z)) H):=by
 intro pins s σ H x vs v us Q I rx rv h;obtain ⟨y,z,rfl,rfl,hl,q⟩:=h;obtain ⟨t,rfl⟩:=rx;obtain ⟨u,rfl,t1,rfl⟩:=rv.one;exact SC.lstripChars (fun t' k=>⟨.str _,H,I.kept (t':=k) (fun _ _ e=>e),⟨t',rfl⟩,q⟩) hl
theorem ii:MtM X "str.join" (fun x vs H Q=>∃ (sp:Str) (p:Addr) (zs:List Str),x=.str sp∧vs=[.ref p]∧(SqL X.K H p (zs.map V.str)∨SqT X.K H p (zs.map V.str))∧(zs.map (·.length)).sum+zs.length*sp.length≤16777216∧Q (.str (Txt.join sp zs)) H):=by
 intro pins s σ H x vs v us Q I rx rv h;obtain ⟨sp,p,zs,rfl,rfl,hp,hz,q⟩:=h;obtain ⟨t,rfl⟩:=rx;obtain ⟨u,rfl,e⟩:=rv.one
 cases e
 rcases hp with hp | hp
 ·obtain ⟨its,rr,pl,_⟩:=I.list hp;exact join_list pl.isList (by simpa using ig rr) hz fun t' k=>⟨.str _,H,I.kept (t':=k) (fun _ _ e=>e),⟨t',rfl⟩,q⟩
 ·obtain ⟨its,rr,pl,_⟩:=I.tuple hp;exact join_tuple pl (by simpa using ig rr) hz fun t' k=>⟨.str _,H,I.kept (t':=k) (fun _ _ e=>e),⟨t',rfl⟩,q⟩
abbrev TJ:=St→Hp→Str→(Str→Hp→Prop)→Prop
def PJ (X:Cx) (es:List Expr) (t:TJ):Prop:=∀ (pins:List (Addr×Obj)) (s:Shared) (σ:St) (H:Hp) (out:Str) (Q:Str→Hp→Prop),Inv X pins σ H s→t σ H out Q→wpAny (model X.prog X.w) X.A (joinParts out (evalEach es X.env)) (EP X pins σ fun x H'=>∃ z,x=.str z∧Q z H') X.xe s
def tJn:TJ:=fun _ H out Q=>out.length≤sizeLine∧Q out H
def tJe (te:TE) (t:TJ):TJ:=fun σ H out Q=>te σ H fun x H1=>∃ y,x=.str y∧y.length≤sizeLine∧(out++y).length≤sizeLine∧t σ H1 (out++y) Q
def tJ (t:TJ):TE:=fun σ H Q=>t σ H Str.empty fun z H'=>Q (.str z) H'
theorem mS:PJ X [] tJn:=fun pins s σ H out Q I h=>joinParts_nil ⟨.str out,H,I.tok _,⟨_,rfl⟩,out,rfl,h.2⟩ h.1
theorem fU {e:Expr} {es:List Expr} {te:TE} {t:TJ} (he:PE X e te) (hr:PJ X es t):PJ X (e :: es) (tJe te t):=fun pins s σ H out Q I h =>
 joinParts_cons (thn (he pins s σ H _ I h) fun v s1 ⟨x,H1,I1,rx,y,ex,_,hl,q⟩=>by
  subst ex;obtain ⟨t0,rfl⟩:=rx;exact ⟨hl,hr pins s1 σ H1 _ Q I1 q⟩)
theorem eJ {e:Expr} {es:List Expr} {te:TE} {t:TJ} {pos:Pos} (he:PE X e te) (hr:PJ X es t):PJ X (.FormattedValue e (-1) none pos :: es) (tJe te t):=fun pins s σ H out Q I h =>
 joinParts_cons (PyProof.Rows.FormattedValue_plain (thn (he pins s σ H _ I h) fun v s1 ⟨x,H1,I1,rx,y,ex,hy,hl,q⟩=>by
  subst ex;obtain ⟨t0,rfl⟩:=rx;exact formatField_str (fun t' tk=>⟨hl,hr pins _ σ H1 _ Q (I1.kept (t':=tk) fun _ _ e=>e) q⟩) hy))
theorem j7 {e1 e2:Expr} {es:List Expr} {t:TJ} {pos:Pos} (h:PJ X (e1 :: e2 :: es) t):PE X (.JoinedStr (e1 :: e2 :: es) pos) (tJ t):=fun pins s σ H Q I q =>
 JoinedStr_many (thn (h pins s σ H Str.empty _ I q) fun v s1 ⟨x,H1,I1,rx,z,ex,q1⟩=>by
  subst ex;exact ⟨.str z,H1,I1,rx,q1⟩)
def xm (D:List (Str×Addr)) (t:TA):TE:=fun σ H Q=>t σ H fun vs H1=>∃ k,vs=[.str k]∧Q (match dE k D with | some b=>.ref b | none=>.non) H1
theorem ik {x:Str} {ad:Addr} {D:List (Str×Addr)} {e:Expr} {t:TA} {p apos cpos:Pos} (hD:ib X.K ad D) (hg:Gl X x) (hm:X.mg x=some (.ref ad)) (ha:PA X [e] t) (hdb:(x == ("__debug__" : Str))=false:=by decide)
  (hbase:attributeBase (.Name x p) "get" X.env (eval (.Name x p) X.env)=eval (.Name x p) X.env:=by rfl)
  (hfew:((backTo cpos (starEach [e] X.env)).all (fun x=>!x.1) && (backToKw cpos (keywordEach [] X.env)).all (fun x=>x.1.isSome)
   && decide (([e]:List Expr).length+([]:List Keyword).length+(if ([]:List Keyword).isEmpty then 0 else 1) < 30))=true:=by rfl)
  (hline:(apos.endLine == cpos.line)=true:=by rfl) (hs:starEach [e] X.env=(false,eval e X.env) :: starEach [] X.env:=by rfl) :
  PE X (.Call (.Attribute (.Name x p) "get" apos) [e] [] cpos) (xm D t):=by
 intro pins s σ H Q I h;have T:∀ {s':Shared} {σ':St} {H':Hp} {pins':List (Addr×Obj)},Inv X pins' σ' H' s'→KTD.TabOf (fun b v=>v=Value.ref b) X.base ad D:=fun J=>hD _ J.ok.mod.kin;have ty0:∀ {s':Shared} {σ':St} {H':Hp} {pins':List (Addr×Obj)},Inv X pins' σ' H' s'→s'.TypeIs (.ref ad) "dict" ∧(∀ b,Value.ref ad=.ref b→∃ ob,s'.heap.get? b=some ob∧ob.dict=none):=fun {s' σ' H' pins'} J=>by
  obtain ⟨_,o,_,_,ho,hc,_⟩:=T J;refine ⟨⟨o,J.bk _ _ ho,hc.1⟩,fun b q=>?_⟩;injection q with q
  subst q;exact ⟨o,J.bk _ _ ho,hc.2.1⟩
 refine wpAny_Call_method_late hbase hfew hline rfl (cv I hg hm ?_ hdb);refine ⟨"dict","dict.get",PySem.F.plainAttrs_dict,PySem.F.slot_dict_get,PySem.F.type_dict_get,(ty0 I).1,(ty0 I).2,?_⟩;have hA:=ha cpos pins s σ H _ I h;rw [hs] at hA ⊢;refine Calls.callWith_builtin (by rfl) (Calls.evalArgs_plain ?_);refine thn hA fun us s2 ⟨vs,H2,I2,r2,k,e2,q2⟩=>?_;subst e2;obtain ⟨u,rfl,ru⟩:=cK r2;obtain ⟨tk,rfl⟩:=ru;refine call_meetsIn PySem.F.slot_dict_get (ty0 I2).1 PySem.F.entry_dict_get (PySem.F.args_dict_get_2 _ _) (lD (h₀:=X.base) (D:=D) (R:=fun b v=>v=Value.ref b)) ⟨T I2,fun b o z=>I2.bk b o z,fun b v hb hv=>?_,fun hn=>?_⟩
 ·subst hv;rw [← ie,hb] at q2;exact ⟨.ref b,H2,I2.tok _,rfl,q2⟩
 ·rw [← ie,hn] at q2;exact ⟨.non,H2,I2.tok _,rfl,q2⟩
end
def j8 (K:PySem.W.Frag) (a:Addr) (D:List (Str×Str)):Prop:=∀ h,K.In h→KTD.TabOf (fun z v=>∃ t,v=Value.str z t) h a D
theorem xH {K:PySem.W.Frag} {a:Addr} {D:List (Str×Str)} (e:KTD.tabLook (fun z v=>v.isStr z) (fun b=>K.lookup b) a D=true):j8 K a D :=
 fun _ X=>KTD.tab_of_look (L:=fun z v=>v.isStr z) (R:=fun z v=>∃ t,v=Value.str z t) (fun z v h=>by
  cases v with
  | str y t=>exact ⟨t,by have:(y == z)=true:=h;rw [eq_of_beq this]⟩
  | _=>cases h) (fun b o q=>X b o q) e
def ci (k:Str):List (Str×Str)→Option Str
 | []=>none
 | (x,b) :: D=>if k=x then some b else ci k D
theorem cO {k:Str}:∀ D:List (Str×Str),KTD.datumAt k D=ci k D
 | []=>rfl
 | (x,b) :: D=>by
  show (if decide (k=x)=true then some b else KTD.datumAt k D)=_
  by_cases h:k=x
  ·simp [ci,h]
  ·simp [ci,h,cO D]
section
variable {X:Cx} {K:PySem.W.Frag}
theorem xn (hK:X.K=K):OpR X (compareOp .In) (fun x y H Q=>∃ k ad D,x=.str k∧y=.ref ad∧j8 K ad D∧Q (.bl (ci k D).isSome) H):=by
 subst hK;intro pins s σ H x y v u Q I rx ry h;obtain ⟨k,ad,D,rfl,rfl,hD,q⟩:=h;obtain ⟨tk,rfl⟩:=rx
 cases ry
 have T:=hD _ I.ok.mod.kin;have ty:s.TypeIs (.ref ad) "dict" :=by
  obtain ⟨_,o,_,_,ho,hc,_⟩:=T;exact ⟨o,I.bk _ _ ho,hc.1⟩
 show wpAny _ _ ((do return Value.bool (← contains (.ref ad) (.str k tk))):Sem Value) _ _ s;refine wpAny_bind ?_;unfold contains
 try with_reducible refine wpAny_holding ?_
 refine wpAny_bind (wpAny_specialOf ty slot_dict_contains.lookup ?_);show wpAny _ _ (if (some (Value.builtin "dict.__contains__") == some Value.none)=true then _ else _) _ _ s;rw [if_neg (by rw [beq_builtin_none];exact Bool.false_ne_true)];refine wpAny_bind (wpAny_callSpecialUnlessNone?_slot (name:=Str.ofString "__contains__") ty slot_dict_contains
  (wpAny_call_entry slot_dict_contains ty entry_dict_contains ?_ (args_dict_contains _ _)))
 show wpAny _ _ (dictGet ad (.str k tk) >>= _) _ _ s;refine wpAny_bind (dD T (fun b o z=>I.bk b o z) (fun z v hz hv=>?_) fun hn=>?_)
 ·rw [cO] at hz;rw [hz] at q;exact wpAny_pure ⟨_,rfl,wpAny_truthy_bool (wpAny_pure ⟨.bl true,H,I.tok _,rfl,q⟩)⟩
 ·rw [cO] at hn;rw [hn] at q;exact wpAny_bind (m:=Builtin.Dict.pendingKey? ad (.str k tk)) (wpAny_pendingKey_other T.1 (wpAny_pure ⟨_,rfl,wpAny_truthy_bool (wpAny_pure ⟨.bl false,H,I.tok _,rfl,q⟩)⟩))
def Db (K:PySem.W.Frag) (td ty:TE):TE:=fun σ H Q=>td σ H fun x H1=>ty σ H1 fun y H2=>∃ k ad D z,x=.ref ad∧y=.str k∧j8 K ad D∧ci k D=some z∧Q (.str z) H2
theorem sh {o e:Expr} {td ty:TE} {pos:Pos} (hK:X.K=K) (ho:PE X o td) (hi:PE X e ty) (hs:C2 e):PE X (.Subscript o e pos) (Db K td ty):=by
 subst hK;intro pins s σ H Q I h;refine rK PySem.F.slot_dict_getitem.lookup hs (thn (ho pins s σ H _ I h) fun u s1 ⟨x,H1,I1,rx,q1⟩=>thn (hi pins s1 σ H1 _ I1 q1) fun iv s2 ⟨y,H2,I2,ry,k,ad,D,z,ex,ey,hD,hz,q2⟩=>?_);subst ex ey;obtain rfl:u=Value.ref ad:=rx;obtain ⟨tk,rfl⟩:=ry;have T:=hD _ I2.ok.mod.kin;have ty:s2.TypeIs (.ref ad) "dict" :=by
  obtain ⟨_,o,_,_,ho,hc,_⟩:=T;exact ⟨o,I2.bk _ _ ho,hc.1⟩
 refine ⟨ty,?_⟩;unfold getItem
 try with_reducible refine wpAny_holding ?_
 refine wpAny_bind (wpAny_sequenceKey ty (by decide) ?_);refine wpAny_bind (wpAny_callSpecial?_slot (name:=Str.ofString "__getitem__") ty slot_dict_getitem
  (wpAny_call_entry slot_dict_getitem ty entry_dict_getitem ?_ (args_dict_getitem _ _)))
 show wpAny _ _ (dictGet ad (.str k tk) >>= _) _ _ s2;refine wpAny_bind (dD T (fun b o z=>I2.bk b o z) (fun z' v hz' hv=>?_) fun hn=>?_)
 ·rw [cO,hz] at hz'
  cases hz'
  obtain ⟨t,rfl⟩:=hv;exact wpAny_pure ⟨_,rfl,wpAny_pure ⟨.str z,H2,I2.tok _,⟨t,rfl⟩,q2⟩⟩
 ·rw [cO,hz] at hn
  cases hn
end
def sR (K:PySem.W.Frag) (a:Addr) (bs:List Addr):Prop:=∀ H:Hp,SqT K H a (bs.map V.ref)
end L2
namespace PySem
namespace StrLaws
open Builtin Builtin.Str
theorem lE (s sub:Str) (hi:Nat):∀ (l:List Nat) (a:Array Nat) (fr:Nat),1≤a.size→(forIn l (a,fr) (occBody s sub hi 1)).run.fst=a
 | [],a,fr,h=>rfl
 | j :: l,a,fr,h=>by
  rw [List.forIn_cons];unfold occBody;rw [if_neg (fun z=>by have:a.size < 1:=z.1.1.1;lia)];exact lE s sub hi l a fr h
theorem occ_find (s sub:Str) (hi:Nat):∀ (l:List Nat) (fr:Nat),(∀ i∈l,fr≤i) →
  (forIn l ((#[]:Array Nat),fr) (occBody s sub hi 1)).run.fst=match l.find? (fun i=>decide (i+sub.length≤hi∧subAt s sub i=true)) with | some i=>#[i] | none=>#[]
 | [],fr,_=>rfl
 | a :: l,fr,hf=>by
  rw [List.forIn_cons];unfold occBody;have ha:fr≤a:=hf a (List.mem_cons_self ..)
  by_cases hc:a+sub.length≤hi∧subAt s sub a=true
  ·rw [if_pos ⟨⟨⟨by show 0 < 1;decide,ha⟩,hc.1⟩,hc.2⟩,List.find?_cons,decide_eq_true hc];exact lE s sub hi l _ _ (by simp)
  ·rw [if_neg (fun h=>hc ⟨h.1.2,h.2⟩),List.find?_cons,decide_eq_false hc];exact occ_find s sub hi l fr fun i hi'=>hf i (List.mem_cons_of_mem _ hi')
theorem occ_one (x:Str) (c lo:Nat):occurrences x ⟨#[c]⟩ lo x.length 1=match (x.cps.toList.drop lo).findIdx? (· == c) with | some i=>[lo+i] | none=>[]:=by
 rw [occ_eq,occ_find x ⟨#[c]⟩ x.length _ lo (fun i hi=>by rw [List.mem_range'_1] at hi;exact hi.1)];have key:∀ (n lo:Nat),lo+n=x.length+1→(List.range' lo n).find? (fun i=>decide (i+(⟨#[c]⟩:Str).length≤x.length∧subAt x ⟨#[c]⟩ i=true))=((x.cps.toList.drop lo).findIdx? (· == c)).map (lo + ·):=by
  intro n
  induction n with
  | zero =>
   intro lo h;rw [List.drop_eq_nil_of_le (by rw [Array.length_toList];have:x.length=x.cps.size:=rfl;lia)]
   rfl
  | succ n ih =>
   intro lo h;rw [List.range'_succ];have dk:decide (lo+(⟨#[c]⟩:Str).length≤x.length∧subAt x ⟨#[c]⟩ lo=true)=decide (x.cps.toList[lo]?=some c):=by
    rw [decide_eq_decide];exact subAt_one x c lo
   by_cases hlt:lo < x.cps.toList.length
   ·rw [List.drop_eq_getElem_cons hlt]
    by_cases e:x.cps.toList[lo]=c
    ·rw [List.find?_cons_of_pos (by rw [dk,List.getElem?_eq_getElem hlt,e];simp),List.findIdx?_cons];simp [e]
    ·rw [List.find?_cons_of_neg (by rw [dk,List.getElem?_eq_getElem hlt];simpa using e),ih (lo+1) (by lia),List.findIdx?_cons];have:(x.cps.toList[lo] == c)=false:=by simpa using e
     rw [this]
     cases (x.cps.toList.drop (lo+1)).findIdx? (· == c) with
     | none=>rfl
     | some i=>simp;lia
   ·rw [List.find?_cons_of_neg (by rw [dk,List.getElem?_eq_none (by lia)];simp),ih (lo+1) (by lia),List.drop_eq_nil_of_le (by lia),List.drop_eq_nil_of_le (by lia)]
    rfl
 by_cases hlo:lo≤x.length+1
 ·rw [key (x.length+1 - lo) lo (by lia)]
  cases (x.cps.toList.drop lo).findIdx? (· == c) <;> rfl
 ·rw [show x.length+1 - lo=0 by lia,List.drop_eq_nil_of_le (by rw [Array.length_toList];have:x.length=x.cps.size:=rfl;lia)]
  rfl
end StrLaws
end PySem
namespace L2
open PySem PySem.Spec PyProof.Rows
section
variable {X:Cx}
inductive HS (X:Cx):List ExceptHandler→(Addr→TS)→Prop
 | nil:HS X [] (fun _ _ _ _=>False)
 | cons {x:Str} {np hpos:Pos} {HC:Addr} {b₀:Stmt} {suite:List Stmt} {ts:TS} {rest:List ExceptHandler} {tr:Addr→TS} (hm:X.mg x=some (.ref HC)) (hg:Gl X x) (hb:∀ ea,PSs (hcx X ea) (b₀ :: suite) ts) (hr:HS X rest tr) (hdb:(x == ("__debug__" : Str))=false:=by decide) :
   HS X (.ExceptHandler (some (.Name x np)) none (b₀ :: suite) hpos :: rest) (fun C D σ H=>∃ b,PySem.W.exmOne X.K (.ref C) (.ref HC)=some b∧(b=true→ts D σ H)∧(b=false→tr C D σ H))
theorem xp {pins:List (Addr×Obj)} {σ:St} {H':Hp} {s1:Shared} {h5:Heap} {ea C:Addr} {D:Ends} (ok:X.Ok) (I5:Inv X pins σ H' { s1 with heap:=h5 }) (LT:PySem.W.Looks (model X.prog X.w) h5 (typeOf (.ref ea)) (.ref C))
  (go:∀ {Q:Unit→Shared→Prop} {A:Around} {E:Value→Shared→Prop},(∀ h6,Inv X pins σ H' { s1 with heap:=h6 }→Q () { s1 with heap:=h6 })→wpAny (model X.prog X.w) A (setFlight (.ref ea) none) Q E { s1 with heap:=h5 }) :
  ∀ {hs:List ExceptHandler} {th:Addr→TS},HS X hs th→th C D σ H'→wpAny (model X.prog X.w) X.A (handleBy (.ref ea) X.env hs) (SP X pins D) X.xe { s1 with heap:=h5 }:=by
 intro hs th h
 induction h with
 | nil=>exact fun q=>q.elim
 | @cons x np hpos HC b₀ suite ts rest tr hm hg hb hr hdb ih =>
  rintro ⟨b,hx,q1,q2⟩;refine wpAny_handleBy_cons (codeAny_handlers_test (cv (X:=hcx X ea) (I5.hcx ea) hg hm ?_ hdb)) (by intro z;cases z);refine (PySem.W.exm_one (h:=h5) I5.kIn LT hx).here ?_
  cases b with
  | false=>exact ih (q2 rfl)
  | true =>
   refine codeAny_handlers_suite ?_;refine go fun h6 I6=>?_;refine wpAny_mono (hb ea pins _ _ _ _ (I6.hcx ea) (q1 rfl)) (fun f s8 h8=>?_) fun _ _ z=>z.elim
   cases f with
   | next =>
    obtain ⟨σ8,H8,I8,q8⟩:=h8;exact ⟨_,H8,I8.unhcx ok,q8⟩
   | ret v =>
    obtain ⟨v8,σ8,H8,I8,r8,q8⟩:=h8;exact ⟨v8,_,H8,I8.unhcx ok,r8,q8⟩
   | brk =>
    obtain ⟨σ8,H8,I8,q8⟩:=h8;exact ⟨_,H8,I8.unhcx ok,q8⟩
   | cont =>
    obtain ⟨σ8,H8,I8,q8⟩:=h8;exact ⟨_,H8,I8.unhcx ok,q8⟩
theorem qm {pins:List (Addr×Obj)} {σ:St} {H1:Hp} {s0 s1:Shared} {D:Ends} {ex:Value} {h0:ExceptHandler} {hs:List ExceptHandler} {th:Addr→TS} (hstk:X.stack=X.env :: X.outer) (hfr:X.env.frame=some X.env.locals) (ok:X.Ok) (I0:Inv X pins σ H1 s0)
  (hh:HS X (h0 :: hs) th) (fl0:CXE X.prog X.w X.stack H1 s0 (fun cls _ H'=>∃ C,cls=.ref C∧th C D σ H') ex s1) :
  wpAny (model X.prog X.w) X.A (noteFrame ex X.env) (fun _ s₂=>wpAny (model X.prog X.w) X.A (setFlight ex none) (fun _ s₃=>wpAny (model X.prog X.w) X.A (handleBy ex X.env (h0 :: hs)) (SP X pins D) X.xe s₃) X.xe s₂) X.xe s1:=by
 have fr0:X.A.frames=some (X.env :: X.outer):=by rw [← hstk];exact I0.ok.frames
 obtain ⟨ea,C,a0,B,H',rfl,fl,os,bare,un,hok,c1,c2,C',e',q⟩:=fl0
 cases e'
 have flS:=fl;rw [hstk] at fl;refine wpAny_looks_onW fr0 hfr fl fun h4 held4 up4=>?_;refine wpAny_landsW held4 fun h5 held5 up5=>?_;have frames:∀ {h2:Heap},s1.heap.UpToSlots h2→∀ b o,s0.heap.get? b=some o→b∈frs X.stack→∃ sl,h2.get? b=some { o with slots:=sl }:=fun {h2} up b o e hb=>by
  obtain ⟨sl,e1⟩:=un.slot b o e (I0.stkFree b hb) hb (by simp);obtain ⟨o2,e2,nf⟩:=lq flS.2.2.1 hb;rw [e1] at e2;obtain rfl:=Option.some.inj e2;obtain ⟨sl2,e3⟩:=up b _ e1 nf;exact ⟨sl2,e3⟩
 have I5:Inv X pins σ H' { s1 with heap:=h5 }:=I0.call' (s':={ s1 with heap:=h5 }) os (j0 un c1 c2 held5.1 (frames (up4.trans up5))) (hok.kept held5.1) bare (ch:=[]) (fun _ z=>nomatch z);obtain ⟨ob,hob,hobc⟩:=held5.there;have LT:PySem.W.Looks (model X.prog X.w) h5 (typeOf (.ref ea)) (.ref C):=by
  have L:PySem.W.Looks (model X.prog X.w) h5 (typeOf (.ref ea)) ob.cls:=(PySem.W.Looks.ld hob).andThen .now;rw [hobc] at L;exact L
 refine xp ok I5 LT (fun {Q A E} k=>?_) hh q;refine lands_againW held5 fun h6 fl6 up6=>?_;exact k h6 (I0.call' (s':={ s1 with heap:=h6 }) os (j0 un c1 c2 fl6.1 (frames ((up4.trans up5).trans up6))) (hok.kept fl6.1) bare (ch:=[]) (fun _ z=>nomatch z))
def Dc (j:Nat) (te:TX) (th:Addr→TS):TS:=fun D σ H=>te σ H (fun v H1=>D.nx (σ.set j (some v)) H1) fun cls _ H'=>∃ C,cls=.ref C∧th C D σ H'
def Dd (te:TX) (th:Addr→TS):TS:=fun D σ H=>te σ H (fun _ H1=>D.nx σ H1) fun cls _ H'=>∃ C,cls=.ref C∧th C D σ H'
theorem j9 {e:Expr} {y:Str} {j:Nat} {py p1 pos:Pos} {h0:ExceptHandler} {hs:List ExceptHandler} {te:TX} {th:Addr→TS} (hstk:X.stack=X.env :: X.outer) (hfr:X.env.frame=some X.env.locals) (he:PX X e te) (hN:X.N.Nodup) (hj:X.N[j]?=some y) (hy:Loc X.env.scope y) (hh:HS X (h0 :: hs) th)
  (hs':swapsWith e (some (.Name y py)) p1.line X.env=pure false:=by rfl) (hf:X.fn y=true∨X.env.scope.names.lookup y=some .local:=by first | exact .inl rfl | exact .inr rfl | assumption) :
  PS X (.Try [.Assign [.Name y py] e p1] (h0 :: hs) [] [] pos) (Dc j te th):=by
 intro pins s σ H D I h;refine wpAny_Try_except (wpAny_execs_cons (wpAny_Assign_Name (wpAny_mono (he pins s σ H _ _ I h) (fun v s1 ⟨y,H1,I1,r1,q1⟩=>?_) (fun ex s1 ⟨H1,s0,I0,fl0⟩=>?_)) hs'))
 ·exact eT I1 hN hj hy r1 (fun s2 I2=>wpAny_execs_nil (wpAny_execs_nil ⟨_,H1,I2,q1⟩)) hf
 exact qm hstk hfr I.ok I0 hh fl0
theorem sj {e:Expr} {p1 pos:Pos} {h0:ExceptHandler} {hs:List ExceptHandler} {te:TX} {th:Addr→TS} (hstk:X.stack=X.env :: X.outer) (hfr:X.env.frame=some X.env.locals) (he:PX X e te) (hh:HS X (h0 :: hs) th)
  (hs':swapsWith e none p1.line X.env=pure false:=by rfl) :
  PS X (.Try [.Expr e p1] (h0 :: hs) [] [] pos) (Dd te th):=by
 intro pins s σ H D I h;refine wpAny_Try_except (wpAny_execs_cons (wpAny_Expr_any (wpAny_mono (he pins s σ H _ _ I h) (fun v s1 ⟨y,H1,I1,r1,q1⟩=>?_) (fun ex s1 ⟨H1,s0,I0,fl0⟩=>?_)) I.quiet hs'))
 ·exact wpAny_execs_nil (wpAny_execs_nil ⟨σ,H1,I1,q1⟩)
 exact qm hstk hfr I.ok I0 hh fl0
theorem im {k:Nat} {f:Addr} {fd:FuncData} {ps:List Str} {sp:Sp} {x:Str} {p pos:Pos} {e:Expr} {te:TX} (F:FnOk X.prog X.w X.K X.mg X.base CX0 k f fd ps sp) (hr:Room k X.A) (hg:Gl X x) (hm:X.mg x=some (.ref f))
  (hk:PySem.W.keepIn X.K (.ref f)=true) (hb:Binds X.K fd ps []) (ha:PX X e te) (hdb:(x == ("__debug__" : Str))=false:=by decide) (he:starEach [e] X.env=[(false,eval e X.env)]:=by rfl):PX X (.Call (.Name x p) [e] [] pos) (fun σ H Q E=>te σ H (fun v H1=>sp [v] H1 Q E) E):=by
 intro pins s σ H Q E I h;refine wpAny_Call_Name_kw (cv I hg hm ?_ hdb);have ev:wpAny (model X.prog X.w) X.A (spliced (backTo pos (starEach [e] X.env))) (AP X pins σ (fun vs H1=>sp vs H1 Q E)) (fun ex s'=>∃ H1 s1,Inv X pins σ H1 s1∧CXE X.prog X.w X.stack H1 s1 E ex s') s:=by
  rw [he];refine Calls.spliced_cons (wpAny_mono (ha pins s σ H _ _ I h) (fun u s1 ⟨x,H1,I1,r1,q1⟩=>?_) fun _ _ z=>z);exact Calls.spliced_nil ⟨[x],H1,I1,.cons r1 .nil,q1⟩
 refine PySem.W.callWith_K (h₀:=X.base) I.ok.mod.kin hk (wpAny_mono ev (fun us s1 ⟨vs,H1,I1,r,q⟩=>?_) fun _ _ z=>z) he (by rfl);refine ⟨I1.kIn,?_⟩;have hl:us.length=ps.length:=by rw [← r.length];exact F.len _ _ _ _ q
 have hb':BindsTo s1 fd ⟨us,[]⟩ (ps.zip us):=by
  have z:=hb s1 us I1.kIn (by rw [List.append_nil];exact hl)
  rwa [List.append_nil] at z
 refine wpAny_call (codeAny_mono (F.run X.A X.stack s1 H1 ⟨us,[]⟩ us vs Q E hr I1.env0 hb' r q) fun rr s' hq=>?_)
 cases rr with
 | error ex=>exact False.elim hq
 | ok fl =>
  cases fl with
  | ret u=>exact I1.after hq
  | next=>exact False.elim hq
  | brk=>exact False.elim hq
  | cont=>exact False.elim hq
theorem cW:OpR X (binaryOp .Mult) (fun x y H Q=>∃ (z:Str) (n:Int),x=.str z∧y=.int n∧1≤z.length∧z.length≤100∧0≤n∧n≤100∧∀ z':Str,z'.cps.toList=(List.replicate n.toNat z.cps.toList).flatten→Q (.str z') H):=by
 intro pins s σ H x y v u Q I rx ry h;obtain ⟨z,n,rfl,rfl,hz1,hz,h0,h1,q⟩:=h;obtain ⟨t,rfl⟩:=rx;obtain ⟨t',rfl⟩:=ry;have hm:z.length*n.toNat≤10000:=Nat.le_trans (Nat.mul_le_mul hz (show n.toNat≤100 by lia)) (by decide);refine PySem.P.mul_str ?_ (fun c0 _=>?_) (fun _ _=>?_) ?_
 ·rw [decide_eq_false (by lia),decide_eq_false (by lia)]
  rfl
 ·intro c1;have c2:(z.length:Int) > (2 ^ 63 - 1) / n:=c1;have:(z.length:Int)≤(2 ^ 63 - 1) / n:=(Int.le_ediv_iff_mul_le (by lia)).mpr (by
   have hm':((z.length*n.toNat:Nat):Int)≤10000:=by lia
   rw [Int.natCast_mul,Int.toNat_of_nonneg h0] at hm';lia)
  lia
 ·exact decide_eq_false (Nat.not_lt.mpr (Nat.le_trans hm (by decide)))
 ·by_cases c1:n < 1
  ·rw [if_pos c1];refine ⟨Nat.zero_le _,.str _,H,I.tok _,⟨_,rfl⟩,q _ ?_⟩;rw [show n.toNat=0 by lia]
   rfl
  ·rw [if_neg c1]
   by_cases c2:n=1
   ·subst c2;exact ⟨.str _,H,I,⟨_,rfl⟩,q _ (by simp)⟩
   ·have c3:¬ (n == 1 || z.length == 0)=true:=by
     rw [show (z.length == 0)=false from by simp;lia,Bool.or_false]
     simpa using c2
    rw [if_neg c3];have e:((List.replicate n.toNat z.cps).foldl (·++·) #[]).toList=(List.replicate n.toNat z.cps.toList).flatten:=by
     have key:∀ (k:Nat) (acc:Array Nat),((List.replicate k z.cps).foldl (·++·) acc).toList=acc.toList++(List.replicate k z.cps.toList).flatten:=by
      intro k
      induction k with
      | zero=>intro acc;simp
      | succ k ih =>
       intro acc;rw [List.replicate_succ,List.foldl_cons,ih,List.replicate_succ,List.flatten_cons,Array.toList_append,List.append_assoc]
     have:=key n.toNat #[]
     simpa using this
    refine ⟨?_,.str _,H,I.tok _,⟨_,rfl⟩,q _ e⟩;show (((List.replicate n.toNat z.cps).foldl (·++·) #[])).size≤sizeLine;rw [← Array.length_toList,e,List.length_flatten,List.map_replicate,List.sum_replicate_nat];rw [Array.length_toList,Nat.mul_comm];exact Nat.le_trans hm (by decide)
end
def qo (vs:List Value) (bs:List Addr):Bool:=vs == bs.map Value.ref
def lG (K:PySem.W.Frag) (b:Addr) (bs:List Addr):Bool:=match K.lookup b with
 | some o=>o.cls == .type "tuple" && (match o.data with | .seq vs _=>qo vs.toList bs && decide (vs.size≤1000) | _=>false)
 | none=>false
theorem io:∀ bs:List Addr,Vals (bs.map V.ref) (bs.map Value.ref)
 | []=>.nil
 | b :: bs=>.cons rfl (io bs)
theorem De {K:PySem.W.Frag} {a:Addr} {bs:List Addr} (e:lG K a bs=true):sR K a bs:=by
 intro H;unfold lG at e
 split at e
 ·rename_i o ho
  simp only [Bool.and_eq_true] at e;obtain ⟨e2,e3⟩:=e
  split at e3
  ·rename_i vs n hd
   simp only [Bool.and_eq_true] at e3;have ev:vs.toList=bs.map Value.ref:=eq_of_beq e3.1;exact .inr ⟨o,vs,n,ho,eq_of_beq e2,hd,Nat.le_of_lt (bc (of_decide_eq_true e3.2)),by rw [ev];exact io bs⟩
  ·cases e3
 ·cases e
theorem mnM {K:PySem.W.Frag} {C f:Addr} {m q:Str} {st:Stmt} {ps:List Str} {od an:Option Addr} {sl:Array (Option Value)} {oc kV dc pm cd ct:Value} (a:PySem.W.findIn K (.ref C) m=some (some (.ref f))) (i:PySem.W.isFn K (.ref f)=true)
  (l:K.lookup f=some ⟨oc,od,.func (PySem.W.fnOf m q (br st) (aX st) (aa st) .none kV dc pm an cd ct),sl⟩) (c:PySem.W.codeIn K cd q=true) (k:PySem.W.keepIn K (.ref f)=true)
  (b:∀ (kV doc pm:Value) (an:Option Addr) (cdv ct:Value) (us:List Value),us.length=ps.length→bindArgs (PySem.W.fnOf m q (br st) (aX st) (aa st) .none kV doc pm an cdv ct) ⟨us,[]⟩=pure (ps.zip us)):∃ f fd,Mn K C m q st ps f fd :=
 ⟨f,_,⟨a,i,k⟩,fN (st:=st) l c k,(fN (st:=st) l c k).binds b⟩
theorem miM {K:PySem.W.Frag} {C f:Addr} {q:Str} {st:Stmt} {ps:List Str} {od an:Option Addr} {sl:Array (Option Value)} {oc kV dc pm cd ct:Value} (mk:PySem.W.makesIn K C=true) (a:PySem.W.findIn K (.ref C) "__init__" = some (some (.ref f))) (i:PySem.W.isFn K (.ref f)=true) (kc:PySem.W.keepIn K (.ref C)=true)
  (l:K.lookup f=some ⟨oc,od,.func (PySem.W.fnOf "__init__" q (br st) (aX st) (aa st) .none kV dc pm an cd ct),sl⟩) (c:PySem.W.codeIn K cd q=true) (k:PySem.W.keepIn K (.ref f)=true)
  (b:∀ (kV doc pm:Value) (an:Option Addr) (cdv ct:Value) (us:List Value),us.length=ps.length→bindArgs (PySem.W.fnOf "__init__" q (br st) (aX st) (aa st) .none kV doc pm an cdv ct) ⟨us,[]⟩=pure (ps.zip us)):∃ f fd,Mi K C "__init__" q st ps f fd :=
 ⟨f,_,⟨mk,a,i,kc⟩,fN (st:=st) l c k,(fN (st:=st) l c k).binds b⟩
end L2
namespace K91
open PySem L2 PyProof.Rows
abbrev nn:Stmt:=top 7
abbrev fu:Stmt:=top 8
abbrev gc:Stmt:=top 11
abbrev kJ:Stmt:=top 12
abbrev da:Stmt:=top 13
abbrev de:Stmt:=top 14
abbrev jf:Stmt:=top 15
abbrev jg:Stmt:=top 16
abbrev iT:Stmt:=top 17
abbrev kK:Stmt:=top 18
abbrev l8:Stmt:=top 19
abbrev nr:Stmt:=top 20
abbrev df:Stmt:=top 23
abbrev dO:Stmt:=top 24
abbrev eL:Stmt:=top 35
abbrev eO:Stmt:=top 36
abbrev gd:Stmt:=top 37
abbrev dP:Stmt:=top 38
abbrev bw:Stmt:=top 39
abbrev cm:Stmt:=top 45
abbrev l9:Stmt:=top 46
abbrev ge:Stmt:=top 47
abbrev cc:Stmt:=top 48
abbrev cC:Stmt:=top 49
abbrev dh:Stmt:=top 50
abbrev dQ:Stmt:=top 51
abbrev cD:Stmt:=top 52
abbrev bQ:Stmt:=top 53
abbrev cH:Stmt:=top 54
abbrev cI:Stmt:=top 55
abbrev dR:Stmt:=top 56
abbrev iU:Stmt:=top 57
abbrev di:Stmt:=top 61
abbrev dS:Stmt:=top 62
abbrev dj:Stmt:=top 63
abbrev dU:Stmt:=top 64
abbrev eP:Stmt:=top 65
abbrev a9:Stmt:=top 66
abbrev dW:Stmt:=top 67
abbrev ma:Stmt:=top 68
abbrev dl:Stmt:=top 69
abbrev dX:Stmt:=top 70
abbrev dY:Stmt:=top 71
abbrev cE:Stmt:=top 72
abbrev bR:Stmt:=top 73
abbrev cn:Stmt:=top 74
abbrev cJ:Stmt:=top 76
abbrev dZ:Stmt:=top 77
abbrev gf:Stmt:=top 78
abbrev d9:Stmt:=top 79
abbrev bV:Stmt:=top 80
abbrev bH:Stmt:=top 81
abbrev bW:Stmt:=top 82
abbrev bI:Stmt:=top 83
abbrev gg:Stmt:=top 84
abbrev eQ:Stmt:=top 85
abbrev eR:Stmt:=top 86
abbrev n8:Stmt:=top 87
abbrev cp:Stmt:=aP (top 40) 0
abbrev bJ:Stmt:=aP (top 40) 1
abbrev bX:Stmt:=aP (top 40) 2
abbrev cq:Stmt:=aP (top 40) 3
abbrev bj:Stmt:=aP (top 40) 4
theorem gH:FnScope ["self","text"] ["self","text"] (aa cp):=by constructor <;> first | rfl | decide +kernel
theorem cF:FnScope ["self","ahead","at"] ["self","ahead"] (aa bJ):=by constructor <;> first | rfl | decide +kernel
theorem gh:FnScope ["self","mark"] ["self","mark"] (aa bX):=by constructor <;> first | rfl | decide +kernel
theorem dz:FnScope ["self","sort","found"] ["self","sort"] (aa cq):=by constructor <;> first | rfl | decide +kernel
theorem ee:FnScope ["self","mark"] ["self","mark"] (aa bj):=by constructor <;> first | rfl | decide +kernel
theorem nu:FnScope ["letter"] ["letter"] (aa gc):=by constructor <;> first | rfl | decide +kernel
theorem md:FnScope ["value","kind","word"] ["value","kind"] (aa kJ):=by constructor <;> first | rfl | decide +kernel
theorem jh:FnScope ["value","kind"] ["value","kind"] (aa da):=by constructor <;> first | rfl | decide +kernel
theorem ji:FnScope ["value","most"] ["value","most"] (aa de):=by constructor <;> first | rfl | decide +kernel
theorem jj:FnScope ["number"] ["number"] (aa df):=by constructor <;> first | rfl | decide +kernel
theorem fv:FnScope ["text","figures"] ["text"] (aa dO):=by constructor <;> first | rfl | decide +kernel
theorem bS:FnScope ["text","found","at","end"] ["text"] (aa eL):=by constructor <;> first | rfl | decide +kernel
theorem gw:FnScope ["text","at","close"] ["text","at"] (aa eO):=by constructor <;> first | rfl | decide +kernel
theorem eS:FnScope ["text","at","letters","end"] ["text","at","letters"] (aa gd):=by constructor <;> first | rfl | decide +kernel
theorem fw:FnScope ["text","number"] ["text"] (aa dP):=by constructor <;> first | rfl | decide +kernel
theorem ar:FnScope ["words","deepest","here","sort","told"] ["words"] (aa bw):=by constructor <;> first | rfl | decide +kernel
theorem gI:FnScope ["sort","word"] ["sort","word"] (aa cm):=by constructor <;> first | rfl | decide +kernel
theorem sc_value_text:FnScope ["value","inner"] ["value"] (aa cc):=by constructor <;> first | rfl | decide +kernel
theorem ce:FnScope ["turn","word","forth","back"] ["turn"] (aa cC):=by constructor <;> first | rfl | decide +kernel
theorem jk:FnScope ["piece"] ["piece"] (aa dh):=by constructor <;> first | rfl | decide +kernel
theorem kL:FnScope ["path"] ["path"] (aa dQ):=by constructor <;> first | rfl | decide +kernel
theorem fz:FnScope ["sort","thing","form"] ["sort","thing"] (aa cD):=by constructor <;> first | rfl | decide +kernel
theorem kM:FnScope ["part","sort"] ["part","sort"] (aa bQ):=by constructor <;> first | rfl | decide +kernel
theorem eg:FnScope ["word","texts","inner"] ["word","texts"] (aa cH):=by constructor <;> first | rfl | decide +kernel
theorem iV:FnScope ["texts"] ["texts"] (aa cI):=by constructor <;> first | rfl | decide +kernel
theorem kN:FnScope ["word","text"] ["word","text"] (aa dR):=by constructor <;> first | rfl | decide +kernel
theorem pA:FnScope ["text"] ["text"] (aa iU):=by constructor <;> first | rfl | decide +kernel
theorem jl:FnScope ["text","kind"] ["text","kind"] (aa di):=by constructor <;> first | rfl | decide +kernel
theorem kO:FnScope ["text"] ["text"] (aa dS):=by constructor <;> first | rfl | decide +kernel
theorem jm:FnScope ["text"] ["text"] (aa dj):=by constructor <;> first | rfl | decide +kernel
theorem kP:FnScope ["text"] ["text"] (aa dU):=by constructor <;> first | rfl | decide +kernel
theorem eh:FnScope ["text","sort","row","told"] ["text","sort"] (aa eP):=by constructor <;> first | rfl | decide +kernel
theorem fA:FnScope ["row","sort","path"] ["row","sort"] (aa a9):=by constructor <;> first | rfl | decide +kernel
theorem fB:FnScope ["row","sort","word"] ["row","sort"] (aa dW):=by constructor <;> first | rfl | decide +kernel
theorem bq:FnScope ["row","opening","word","sort","closing"] ["row"] (aa dl):=by constructor <;> first | rfl | decide +kernel
theorem dm:FnScope ["row","word","forth"] ["row"] (aa dX):=by constructor <;> first | rfl | decide +kernel
theorem fC:FnScope ["row","names"] ["row"] (aa dY):=by constructor <;> first | rfl | decide +kernel
theorem cf:FnScope ["row","sort","word","form","found","part_sort"] ["row","sort","word"] (aa cE):=by constructor <;> first | rfl | decide +kernel
theorem fD:FnScope ["row","sort","closing","found"] ["row","sort","closing"] (aa bR):=by constructor <;> first | rfl | decide +kernel
theorem gJ:FnScope ["parts"] ["parts"] (aa cn):=by constructor <;> first | rfl | decide +kernel
theorem iW:FnScope ["script","k"] ["script","k"] (aa cJ):=by constructor <;> first | rfl | decide +kernel
theorem fE:FnScope ["cell","k","stir"] ["cell","k"] (aa dZ):=by constructor <;> first | rfl | decide +kernel
theorem cr:FnScope ["script","k","turn","cell","found","j"] ["script","k","turn"] (aa gf):=by constructor <;> first | rfl | decide +kernel
theorem fF:FnScope ["row","many","digit"] ["row","many"] (aa d9):=by constructor <;> first | rfl | decide +kernel
theorem bf:FnScope ["text","told"] ["text"] (aa bV):=by constructor <;> first | rfl | decide +kernel
theorem a7:FnScope ["text","told"] ["text"] (aa bH):=by constructor <;> first | rfl | decide +kernel
theorem bg:FnScope ["text","told"] ["text"] (aa bW):=by constructor <;> first | rfl | decide +kernel
theorem a8:FnScope ["text","told"] ["text"] (aa bI):=by constructor <;> first | rfl | decide +kernel
theorem ny:FnScope ["text","good"] ["text","good"] (aa gg):=by constructor <;> first | rfl | decide +kernel
theorem aN:FnScope ["row","deep","text","value","k","mark"] ["row"] (aa eQ):=by constructor <;> first | rfl | decide +kernel
theorem aO:FnScope ["row","many","figures","text","size","word"] ["row"] (aa eR):=by constructor <;> first | rfl | decide +kernel
theorem qX:FnScope ["script","k"] ["script"] (aa n8):=by constructor <;> first | rfl | decide +kernel
theorem pi1 {K:PySem.W.Frag} {X:Cx} {a:Expr} {ta:TE} {i j pos pos'} (hK:X.K=K) (ha:PE X a ta):PE X (.Subscript a (.Constant (.int i) j pos) pos') (tOp (C3 K) ta (tC (.int i))):=pe_ix (p9 hK) ha pe_int fun _ _=>rfl
theorem isS {K : PySem.W.Frag} {H : Hp} {z : Str} {Q : V → Prop} (h : Q (.str z)) : ∀ v, IsP K H (.str z) v → Q v := fun v hv => by cases hv; exact h
theorem sz1 : 1 ≤ sizeLine := by decide
theorem sz2 : 2 ≤ sizeLine := by decide
theorem sz3 : 3 ≤ sizeLine := by decide
theorem pcl {X:Cx} {x:Str} {st:Stmt} {ps:List Str} {f:Addr} {fd:FuncData} {k:Nat} {sp:Sp} {e:Expr} {es:List Expr} {t:TA} {p pos:Pos} (D:Gn X.K X.mg x st ps f fd) (F:FnOk X.prog X.w X.K X.mg X.base CX0 k f fd ps sp) (hr:Room k X.A) (hg:Gl X x) (ha:PA X (e :: es) t) (hdb:(x == ("__debug__" : Str))=false:=by decide) (he:starEach (e :: es) X.env=(false,eval e X.env) :: starEach es X.env:=by rfl) (hpl:(backTo pos (starEach es X.env)).any (·.1)=false:=by rfl):PE X (.Call (.Name x p) (e :: es) [] pos) (sI sp [] E0 t):=pe_call F hr hg D.m D.F.kp D.b .nil dA ha hdb he hpl
theorem pa1 {X:Cx} {e:Expr} {te:TE} (ha:PE X e te) (hs:starEach [e] X.env=(false,eval e X.env) :: starEach [] X.env):PA X [e] (gY te pM):=cw ha fM hs
theorem pa2 {X:Cx} {e f:Expr} {te tf:TE} (ha:PE X e te) (hb:PE X f tf) (hs:starEach [e,f] X.env=(false,eval e X.env) :: starEach [f] X.env) (ht:starEach [f] X.env=(false,eval f X.env) :: starEach [] X.env):PA X [e,f] (gY te (gY tf pM)):=cw ha (cw hb fM ht) hs
theorem pa3 {X:Cx} {e f g:Expr} {te tf tg:TE} (ha:PE X e te) (hb:PE X f tf) (hc:PE X g tg) (hs:starEach [e,f,g] X.env=(false,eval e X.env) :: starEach [f,g] X.env) (ht:starEach [f,g] X.env=(false,eval f X.env) :: starEach [g] X.env) (hu:starEach [g] X.env=(false,eval g X.env) :: starEach [] X.env):PA X [e,f,g] (gY te (gY tf (gY tg pM))):=cw ha (cw hb (cw hc fM hu) ht) hs
structure Ads where
 HandError:Addr
 BadValue:Addr
 BadText:Addr
 WordRow:Addr
structure Tx (K:PySem.W.Frag) (mg:Str→Option Value) (ad:Ads):Prop where
 is_whole:∃ f fd,Gn K mg "is_whole" nn ["thing"] f fd
 is_whole_within:∃ f fd,Gn K mg "is_whole_within" fu ["thing","low","high"] f fd
 is_sign:∃ f fd,Gn K mg "is_sign" gc ["letter"] f fd
 is_of:∃ f fd,Gn K mg "is_of" kJ ["value","kind"] f fd
 made_value:∃ f fd,Gn K mg "made_value" da ["value","kind"] f fd
 is_text_of:∃ f fd,Gn K mg "is_text_of" de ["value","most"] f fd
 holds_tuple:∃ f fd,Gn K mg "holds_tuple" jf ["value","word"] f fd
 holds_items:∃ f fd,Gn K mg "holds_items" jg ["value","word","kind","most"] f fd
 is_record_of:∃ f fd,Gn K mg "is_record_of" iT ["value","fields"] f fd
 is_pair_of:∃ f fd,Gn K mg "is_pair_of" kK ["pair","field"] f fd
 are_keyed:∃ f fd,Gn K mg "are_keyed" l8 ["items","key"] f fd
 field_of:∃ f fd,Gn K mg "field_of" nr ["record","name"] f fd
 figures_of:∃ f fd,Gn K mg "figures_of" df ["number"] f fd
 number_of:∃ f fd,Gn K mg "number_of" dO ["text"] f fd
 words_of:∃ f fd,Gn K mg "words_of" eL ["text"] f fd
 word_end:∃ f fd,Gn K mg "word_end" eO ["text","at"] f fd
 run_end:∃ f fd,Gn K mg "run_end" gd ["text","at","letters"] f fd
 made_word:∃ f fd,Gn K mg "made_word" dP ["text"] f fd
 deepest_brackets:∃ f fd,Gn K mg "deepest_brackets" bw ["words"] f fd
 parts_behind:∃ f fd,Gn K mg "parts_behind" cm ["sort","word"] f fd
 kind_text:∃ f fd,Gn K mg "kind_text" l9 ["kind"] f fd
 most_exchanged:∃ f fd,Gn K mg "most_exchanged" ge ["word","parts"] f fd
 value_text:∃ f fd,Gn K mg "value_text" cc ["value"] f fd
 turn_text:∃ f fd,Gn K mg "turn_text" cC ["turn"] f fd
 piece_text:∃ f fd,Gn K mg "piece_text" dh ["piece"] f fd
 path_text:∃ f fd,Gn K mg "path_text" dQ ["path"] f fd
 form_text:∃ f fd,Gn K mg "form_text" cD ["sort","thing"] f fd
 part_text:∃ f fd,Gn K mg "part_text" bQ ["part","sort"] f fd
 in_brackets:∃ f fd,Gn K mg "in_brackets" cH ["word","texts"] f fd
 with_commas:∃ f fd,Gn K mg "with_commas" cI ["texts"] f fd
 pair_text:∃ f fd,Gn K mg "pair_text" dR ["word","text"] f fd
 quoted:∃ f fd,Gn K mg "quoted" iU ["text"] f fd
 read_value:∃ f fd,Gn K mg "read_value" di ["text","kind"] f fd
 read_turn:∃ f fd,Gn K mg "read_turn" dS ["text"] f fd
 read_piece:∃ f fd,Gn K mg "read_piece" dj ["text"] f fd
 read_path:∃ f fd,Gn K mg "read_path" dU ["text"] f fd
 read_all:∃ f fd,Gn K mg "read_all" eP ["text","sort"] f fd
 part_read:∃ f fd,Gn K mg "part_read" a9 ["row","sort"] f fd
 pair_read:∃ f fd,Gn K mg "pair_read" dW ["row","sort"] f fd
 kind_read:∃ f fd,Gn K mg "kind_read" ma ["row"] f fd
 value_read:∃ f fd,Gn K mg "value_read" dl ["row"] f fd
 turn_read:∃ f fd,Gn K mg "turn_read" dX ["row"] f fd
 path_read:∃ f fd,Gn K mg "path_read" dY ["row"] f fd
 form_read:∃ f fd,Gn K mg "form_read" cE ["row","sort","word"] f fd
 list_read:∃ f fd,Gn K mg "list_read" bR ["row","sort","closing"] f fd
 at_least_one:∃ f fd,Gn K mg "at_least_one" cn ["parts"] f fd
 law_cell_at:∃ f fd,Gn K mg "_law_cell_at" cJ ["script","k"] f fd
 law_mixed:∃ f fd,Gn K mg "_law_mixed" dZ ["cell","k"] f fd
 law_own:∃ f fd,Gn K mg "_law_own" gf ["script","k","turn"] f fd
 law_digit:∃ f fd,Gn K mg "_law_digit" d9 ["row","many"] f fd
 law_turn_told:∃ f fd,Gn K mg "_law_turn_told" bV ["text"] f fd
 law_piece_told:∃ f fd,Gn K mg "_law_piece_told" bH ["text"] f fd
 law_path_told:∃ f fd,Gn K mg "_law_path_told" bW ["text"] f fd
 law_value_told:∃ f fd,Gn K mg "_law_value_told" bI ["text"] f fd
 law_due:∃ f fd,Gn K mg "_law_due" gg ["text","good"] f fd
 law_deep:∃ f fd,Gn K mg "_law_deep" eQ ["row"] f fd
 law_long:∃ f fd,Gn K mg "_law_long" eR ["row"] f fd
 law:∃ f fd,Gn K mg "law" n8 ["script"] f fd
 o_WordRow:mg "WordRow" = some (.ref ad.WordRow)
 c_WordRow:Cls K ad.WordRow
 n_WordRow_all_words:NoAttr K ad.WordRow "all_words"
 n_WordRow_place:NoAttr K ad.WordRow "place"
 m_WordRow_init:∃ f fd,Mi K ad.WordRow "__init__" "WordRow.__init__" cp ["self","text"] f fd
 m_WordRow_coming:∃ f fd,Mn K ad.WordRow "coming" "WordRow.coming" bJ ["self","ahead"] f fd
 m_WordRow_comes:∃ f fd,Mn K ad.WordRow "comes" "WordRow.comes" bX ["self","mark"] f fd
 m_WordRow_take:∃ f fd,Mn K ad.WordRow "take" "WordRow.take" cq ["self","sort"] f fd
 m_WordRow_take_mark:∃ f fd,Mn K ad.WordRow "take_mark" "WordRow.take_mark" bj ["self","mark"] f fd
 x_HandError:ExC K mg "HandError" ad.HandError
 x_BadValue:ExC K mg "BadValue" ad.BadValue
 x_BadText:ExC K mg "BadText" ad.BadText
 LETTERS:∃ t,mg "LETTERS" = some (.str "abcdefghijklmnopqrstuvwxyz" t)
 LONGEST_NAME:∃ t,mg "LONGEST_NAME" = some (.int 8 t)
 PERCENT:∃ t,mg "PERCENT" = some (.int 37 t)
 FIGURES:∃ t,mg "FIGURES" = some (.str "0123456789" t)
 BLANK:∃ t,mg "BLANK" = some (.str " " t)
 QUOTE:∃ t,mg "QUOTE" = some (.str "\"" t)
 MINUS:∃ t,mg "MINUS" = some (.str "-" t)
 OPENING:∃ t,mg "OPENING" = some (.str "([{" t)
 CLOSING:∃ t,mg "CLOSING" = some (.str ")]}" t)
 MARKS:∃ t,mg "MARKS" = some (.str "()[]{},:;/" t)
 MOST_FIGURES:∃ t,mg "MOST_FIGURES" = some (.int 60 t)
 MOST_BRACKETS:∃ t,mg "MOST_BRACKETS" = some (.int 40 t)
 END:mg "END" = some (.ref 140)∧ic K [(140,["end",""])]
 KIND_PARTS:mg "KIND_PARTS" = some (.ref 223)∧ib K 223 [("number",224),("text",225),("list",226),("rows",227)]∧ic K [(224,["number","number"]),(225,["number"]),(226,["number","kind"]),(227,["word","number","kind"])]
 TURN_PARTS:mg "TURN_PARTS" = some (.ref 228)∧ib K 228 [("bounds",229),("scale",230),("shrink",231),("figures",232),("number",233),("cut",234),("first",235),("one",236),("out",237),("items",238)]∧ic K [(229,["number","number"]),(230,["number"]),(231,["number"]),(232,["number"]),(233,["number","number"]),(234,["number"]),(235,["number"]),(236,["number"]),(237,[]),(238,["turn"])]
 PIECE_PARTS:mg "PIECE_PARTS" = some (.ref 239)∧ib K 239 [("put",240),("drop",241),("name",242),("sink",243),("lift",244),("turn",245),("split",246),("join",247),("part",248),("whole",249)]∧ic K [(240,["word","kind","value"]),(241,["word","value"]),(242,["word","word"]),(243,["word","word"]),(244,["word","word"]),(245,["word","turn"]),(246,["word","text","word","word"]),(247,["word","word","text","word"]),(248,["word","number","word","word"]),(249,["word","word","number","word","number","number"])]
 PAIR_SORTS:∃ a,mg "PAIR_SORTS" = some (.ref a)∧j8 K a [("field","kind"),("entry","value"),("way","word")]
 BRACKETED:mg "BRACKETED" = some (.ref 337)∧sR K 337 [334,335,336]∧ic K [(334,["[","list","value","]"]),(335,["{","record","entry","}"]),(336,["(","rows","value",")"])]
 z_all:mg "all" = none
 z_bool:mg "bool" = none
 z_int:mg "int" = none
 z_isinstance:mg "isinstance" = none
 z_len:mg "len" = none
 z_list:mg "list" = none
 z_max:mg "max" = none
 z_min:mg "min" = none
 z_ord:mg "ord" = none
 z_range:mg "range" = none
 z_str:mg "str" = none
 z_sum:mg "sum" = none
 z_tuple:mg "tuple" = none
 z_zip:mg "zip" = none
 exT:PySem.W.exmOne K (.ref ad.BadText) (.ref ad.BadText)=some true
 exVT:PySem.W.exmOne K (.ref ad.BadValue) (.ref ad.BadText)=some false
 exV:PySem.W.exmOne K (.ref ad.BadValue) (.ref ad.BadValue)=some true
abbrev depth:Nat:=225
def Df (K:PySem.W.Frag):Sp:=fun vs H Q _=>∃ (a:Addr) (ns:List Int),vs=[.ref a]∧SqL K H a (ns.map V.int)∧ns.length≤63∧∀ H',Q (.bl true) H'
section
variable {P:Program} {w:World} {K:PySem.W.Frag} {mg:Str→Option Value} {ad:Ads} {base:Heap}
theorem cX {K:PySem.W.Frag} {H:Hp} {z:Str} {v:V} (h:IsP K H (.str z) v):v=.str z:=by cases h;rfl
theorem mU {K:PySem.W.Frag} {H:Hp} {i:Int} {v:V} (h:IsP K H (.int i) v):v=.int i:=by cases h;rfl
theorem cY {A B:Prop} {x:V} (h:A):if decide (x=x)=true then A else B:=by rw [if_pos (decide_eq_true rfl)];exact h
theorem bZ {A B:Prop} {x y:V} (n:x≠y) (h:B):if decide (x=y)=true then A else B:=by rw [if_neg (fun c=>n (of_decide_eq_true c))];exact h
theorem qp {A B:Prop} {x y:V} (n:x≠y) (h:A):if (!decide (x=y))=true then A else B:=by rw [if_pos (by rw [decide_eq_false n];rfl)];exact h
theorem gn {A B:Prop} {x:V} (h:B):if (!decide (x=x))=true then A else B:=by rw [if_neg (by rw [decide_eq_true rfl];decide)];exact h
theorem aY {a b:Str} (h:a≠b):V.str a≠V.str b:=fun e=>h (V.str.inj e)
theorem at0 {α:Type} (c:α) (r:List α):atI (c :: r) 0=some c:=by
 have e:atI (c :: r) ((0:Nat):Int)=some c:=gM (by rfl);exact e
theorem aq (z:Str):z.cps.toList.length=z.length:=Array.length_toList
theorem bL {n:Nat} (h:n≤100000):n≤sizeLine:=Nat.le_trans h (by decide)
theorem lH {α:Type} {l:List α} {n:Nat} {c:α} (h:l[n]?=some c):atI l (n:Int)=some c:=gM h
theorem fV {α β:Type} {xs:List α} {i:Nat} {x:α} (f:α→β) (h:xs[i]?=some x):(xs.take i).map f++[f x]=(xs.take (i+1)).map f:=by
 rw [List.take_add_one,h,List.map_append];rfl
def aD (L:Str) (c:Nat):Bool:=decide (c∈L.cps.toList)
def bp (L:Str) (cs:List Nat):Nat:=(cs.takeWhile (aD L)).length
theorem ka (L:Str):∀ cs:List Nat,bp L cs≤cs.length
 | []=>Nat.le_refl _
 | c :: cs=>by
  unfold bp;rw [List.takeWhile_cons]
  split
  ·exact Nat.succ_le_succ (ka L cs)
  ·exact Nat.zero_le _
theorem qq {L:Str}:∀ {cs:List Nat} {k:Nat},k < bp L cs→∃ c,cs[k]?=some c∧aD L c=true
 | [],k,h=>by simp [bp] at h
 | c :: cs,k,h=>by
  unfold bp at h;rw [List.takeWhile_cons] at h
  split at h
  ·rename_i e
   cases k with
   | zero=>exact ⟨c,rfl,e⟩
   | succ k=>exact qq (cs:=cs) (by unfold bp;simpa using h)
  ·simp at h
theorem run_end {L:Str}:∀ {cs:List Nat} {c:Nat},cs[bp L cs]?=some c→aD L c=false
 | [],c,h=>by simp at h
 | d :: cs,c,h=>by
  unfold bp at h;rw [List.takeWhile_cons] at h
  split at h
  ·exact run_end (cs:=cs) (by unfold bp;simpa using h)
  ·rename_i e
   simp at h;subst h
   simpa using e
def mV (_:PySem.W.Frag) (_:Ads):Sp:=fun vs H Q _=>∃ (z L:Str) (n:Nat),vs=[.str z,.int n,.str L]∧n≤z.length∧z.length≤100000∧Q (.int (n+bp L (z.cps.toList.drop n):Nat)) H
theorem mW (T:Tx K mg ad) {f:Addr} {fd:FuncData} (F:Gn K mg "run_end" gd ["text","at","letters"] f fd):FnOk P w K mg base CX0 1 f fd ["text","at","letters"] (mV K ad):=by
 refine F.F.ok eS (fun vs H Q E h=>?_) (fun cdv A outer s H vs Q E hr h=>?_)
 ·obtain ⟨z,L,n,rfl,_⟩:=h
  rfl
 obtain ⟨z,L,n,rfl,hn,hz,q⟩:=h;refine ⟨_,(@pss_cons _ _ _ _ _ (@ps_set _ _ 3 _ _ _ _ eS.nd rfl (Or.inl rfl) (pv 1) (by rfl) (by first | exact .inl rfl | exact .inr rfl | assumption)) (@pss_cons _ _ _ _ _ (eV PassesOwn.never (PW.pt (@pw_and _ _ _ _ _ _ _ (pt_cmpR kU (pv 3) (pe_callB call_len_str rfl T.z_len PySem.boot_len (@pa1 _ _ _ (pv 0) (by rfl))) (nomark _)) (@pw_and1 _ _ _ _ (pt_cmpR op_in_str (@pe_ix _ _ _ _ _ _ _ ix_str (pv 0) (pv 3) (fun _ _=>rfl)) (pv 2) rfl))))
    (@pss_one _ _ _ (mh (i:=3) eS.nd rfl (Or.inl rfl) pe_int ip_add))) (@pss_one _ _ _ (@ps_ret _ _ _ _ (pv 3))))),?_⟩
 have rl:=ka L (z.cps.toList.drop n);rw [List.length_drop,aq] at rl;refine ⟨_,rfl,fun m σ H'=>H'=H∧∃ k:Nat,k≤bp L (z.cps.toList.drop n)∧m=bp L (z.cps.toList.drop n) - k∧σ=[some (.str z),some (.int n),some (.str L),some (.int (n+k:Nat))],⟨_,rfl,0,Nat.zero_le _,rfl,rfl⟩,?_⟩;rintro m σ H' ⟨rfl,k,hk,rfl,rfl⟩;refine ⟨_,rfl,_,rfl,z,rfl,bL hz,_,_,rfl,rfl,_,rfl,bu (fun c=>?_) (fun c=>?_)⟩
 ·have hlt:n+k < z.length:=by have:=of_decide_eq_true c;lia
  obtain ⟨ch,hch⟩:∃ ch,z.cps.toList[n+k]?=some ch:=⟨_,List.getElem?_eq_getElem (by rw [aq];exact hlt)⟩;have hd:(z.cps.toList.drop n)[k]?=some ch:=by rw [List.getElem?_drop];exact hch
  refine ⟨_,rfl,_,rfl,z,_,ch,rfl,rfl,bL hz,lH hch,_,rfl,_,_,rfl,rfl,_,rfl,?_⟩;rw [PySem.StrLaws.found_one]
  by_cases hlt':k < bp L (z.cps.toList.drop n)
  ·obtain ⟨c',h1,h2⟩:=qq hlt';rw [hd] at h1;obtain rfl:=Option.some.inj h1;rw [show decide (ch∈L.cps.toList)=true from h2];refine bT ⟨fun σ' H2=>H2=H'∧σ'=[some (.str z),some (.int n),some (.str L),some (.int (n+(k+1):Nat))],fun σ' H2 p=>⟨_,(by lia:bp L (z.cps.toList.drop n) - (k+1) < _),p.1,k+1,hlt',rfl,p.2⟩,_,rfl,_,_,rfl,rfl,rfl,?_⟩;simp only [List.set_cons_succ,List.set_cons_zero];rw [show ((n+k:Nat):Int)+1=((n+(k+1):Nat):Int) by lia]
  ·have e:k=bp L (z.cps.toList.drop n):=by lia
   subst e;rw [show decide (ch∈L.cps.toList)=false from run_end hd];exact bx ⟨_,rfl,q⟩
 ·have e:k=bp L (z.cps.toList.drop n):=by
   have c':¬ (((n+k:Nat):Int) < (z.length:Int)):=fun h=>c (decide_eq_true h);lia
  subst e;exact ⟨_,rfl,q⟩
abbrev bz:Str:= "abcdefghijklmnopqrstuvwxyz"
abbrev figS:Str:= "0123456789"
def bU:List Nat→Option Nat
 | []=>none
 | c :: r=>if c=34 then (r.findIdx? (· == 34)).map (· + 2) else if aD bz c=true then some (bp bz (c :: r)) else if c=45∨aD figS c=true then some (1+bp figS r) else some 1
theorem fc (c d:Nat):decide (V.str ⟨#[c]⟩=V.str ⟨#[d]⟩)=decide (c=d):=by
 rw [decide_eq_decide];exact ⟨fun h=>by injection h with h;injection h with h;simpa using h,fun h=>by rw [h]⟩
theorem qr:(Str.ofString "\"")=⟨#[34]⟩:=by decide +kernel
theorem qt:(Str.ofString "-")=⟨#[45]⟩:=by decide +kernel
theorem sS:(Str.ofString " ")=⟨#[32]⟩:=by decide +kernel
def lI (_:PySem.W.Frag) (ad:Ads):Sp:=fun vs H Q E=>∃ (z:Str) (n:Nat),vs=[.str z,.int n]∧n < z.length∧z.length≤100000 ∧
 (∀ k,bU (z.cps.toList.drop n)=some k→Q (.int (n+k:Nat)) H)∧(bU (z.cps.toList.drop n)=none→∀ H',Same H H'→E (.ref ad.BadText) none H')
theorem xr (z:Str) (n:Nat):qk z ⟨#[34]⟩ ((n:Int)+1)=match (z.cps.toList.drop (n+1)).findIdx? (· == 34) with | some i=>((n+1+i:Nat):Int) | none=>-1:=by
 unfold qk;have e:PySem.fromIndex z.length ((n:Int)+1)=n+1:=by
  unfold PySem.fromIndex;rw [if_neg (by lia)];lia
 rw [e,PySem.StrLaws.occ_one]
 cases (z.cps.toList.drop (n+1)).findIdx? (· == 34) <;> rfl
theorem lJ (T:Tx K mg ad) {f:Addr} {fd:FuncData} (F:Gn K mg "word_end" eO ["text","at"] f fd):FnOk P w K mg base (CXE P w) 2 f fd ["text","at"] (lI K ad):=by
 obtain ⟨_,_,E3⟩:=T.run_end;have Fk:=mW (P:=P) (w:=w) (base:=base) T E3;obtain ⟨t_QUOTE,c_QUOTE⟩:=T.QUOTE;obtain ⟨t_LETTERS,c_LETTERS⟩:=T.LETTERS;obtain ⟨t_MINUS,c_MINUS⟩:=T.MINUS;obtain ⟨t_FIGURES,c_FIGURES⟩:=T.FIGURES;refine F.F.okW gw (fun vs H Q E h=>?_) (fun cdv A outer s H vs Q E hr h=>?_)
 ·obtain ⟨z,n,rfl,_⟩:=h
  rfl
 obtain ⟨z,n,rfl,hn,hz,q1,q2⟩:=h;refine ⟨_,(@pss_cons _ _ _ _ _ (@ps_if _ _ _ _ _ _ _ _ (pt_cmpR op_eq (@pe_ix _ _ _ _ _ _ _ ix_str (pv 0) (pv 1) (fun _ _=>rfl)) (aS rfl c_QUOTE) (nomark _)) (@pss_cons _ _ _ _ _ (@ps_set _ _ 2 _ _ _ _ gw.nd rfl (Or.inl rfl) (pe_bm PySem.F.plainAttrs_str PySem.F.slot_str_find PySem.F.type_str_find ql (pv 0) (@pa2 _ _ _ _ _ (aS rfl c_QUOTE) (@ah _ _ _ _ _ _ _ _ aQ (pv 1) pe_int) (by rfl) (by rfl))) (by rfl) (by first | exact .inl rfl | exact .inr rfl | assumption)) (@pss_cons _ _ _ _ _ (@ps_if _ _ _ _ _ _ _ _ (pt_cmpR kU (pv 2) pe_int (nomark _)) (@pss_one _ _ _ (ps_raiseW rfl rfl rfl rfl T.x_BadText rfl (@pa1 _ _ _ pe_str (by rfl)))) pss_nil) (@pss_one _ _ _ (@ps_ret _ _ _ _ (@ah _ _ _ _ _ _ _ _ aQ (pv 2) pe_int))))) pss_nil) (@pss_cons _ _ _ _ _ (@ps_if _ _ _ _ _ _ _ _ (pt_cmpR op_in_str (@pe_ix _ _ _ _ _ _ _ ix_str (pv 0) (pv 1) (fun _ _=>rfl)) (aS rfl c_LETTERS) rfl) (@pss_one _ _ _ (@ps_ret _ _ _ _ (pcl E3 Fk (hr.mono (by lia)) rfl (@pa3 _ _ _ _ _ _ _ (pv 0) (pv 1) (aS rfl c_LETTERS) (by rfl) (by rfl) (by rfl))))) pss_nil) (@pss_cons _ _ _ _ _ (@ps_if _ _ _ _ _ _ _ _ (PW.pt (@kT _ _ _ _ _ _ _ (pt_cmpR op_eq (@pe_ix _ _ _ _ _ _ _ ix_str (pv 0) (pv 1) (fun _ _=>rfl)) (aS rfl c_MINUS) (nomark _)) (@pw_or1 _ _ _ _ (pt_cmpR op_in_str (@pe_ix _ _ _ _ _ _ _ ix_str (pv 0) (pv 1) (fun _ _=>rfl)) (aS rfl c_FIGURES) rfl)))) (@pss_one _ _ _ (@ps_ret _ _ _ _ (pcl E3 Fk (hr.mono (by lia)) rfl (@pa3 _ _ _ _ _ _ _ (pv 0) (@ah _ _ _ _ _ _ _ _ aQ (pv 1) pe_int) (aS rfl c_FIGURES) (by rfl) (by rfl) (by rfl))))) pss_nil) (@pss_one _ _ _ (@ps_ret _ _ _ _ (@ah _ _ _ _ _ _ _ _ aQ (pv 1) pe_int)))))),?_⟩;obtain ⟨ch,hch⟩:∃ ch,z.cps.toList[n]?=some ch:=⟨_,List.getElem?_eq_getElem (by rw [aq];exact hn)⟩;have hd:z.cps.toList.drop n=ch :: z.cps.toList.drop (n+1):=by
  obtain ⟨h1,h2⟩:=List.getElem?_eq_some_iff.mp hch;rw [List.drop_eq_getElem_cons h1,h2]
 rw [hd] at q1 q2;simp only [bU] at q1 q2;refine ⟨_,rfl,_,rfl,z,_,ch,rfl,rfl,bL hz,lH hch,?_⟩;refine ⟨rfl,_,rfl,?_⟩;rw [qr,fc];refine bu (fun c=>?_) (fun c=>?_)
 ·have c':=of_decide_eq_true c;rw [if_pos c'] at q1 q2;refine ⟨_,rfl,rfl,_,rfl,_,_,rfl,rfl,_,_,_,rfl,rfl,?_⟩;rw [xr]
  cases hf:(z.cps.toList.drop (n+1)).findIdx? (· == 34) with
  | none =>
   rw [hf] at q2;dsimp only;refine ⟨_,rfl,_,_,rfl,rfl,_,rfl,bu (fun _=>?_) (fun c=>absurd (show decide ((-1:Int) < 0)=true by decide) c)⟩;exact ⟨sz1,q2 rfl H (Same.refl H)⟩
  | some i =>
   rw [hf] at q1;dsimp only;refine ⟨_,rfl,_,_,rfl,rfl,_,rfl,bu (fun c=>absurd (of_decide_eq_true c) (Int.not_lt.mpr (Int.natCast_nonneg _))) (fun _=>?_)⟩;refine ⟨_,rfl,_,_,rfl,rfl,?_⟩;have:=q1 (i+2) rfl;rw [show ((n+1+i:Nat):Int)+1=((n+(i+2):Nat):Int) by lia];exact this
 have c':¬ ch=34:=fun h=>c (decide_eq_true h);rw [if_neg c'] at q1 q2;refine ⟨_,rfl,_,rfl,z,_,ch,rfl,rfl,bL hz,lH hch,_,_,rfl,rfl,_,rfl,?_⟩;rw [PySem.StrLaws.found_one];refine bu (fun c=>?_) (fun c=>?_)
 ·have c2:aD bz ch=true:=c;rw [if_pos c2] at q1;have:=q1 _ rfl;rw [← hd] at this;exact ⟨_,rfl,_,rfl,z,bz,n,rfl,by lia,hz,this⟩
 have c2:¬ aD bz ch=true:=c;rw [if_neg c2] at q1 q2;refine ⟨_,rfl,_,rfl,z,_,ch,rfl,rfl,bL hz,lH hch,rfl,_,rfl,?_⟩;rw [qt,fc];have run:(ch=45∨aD figS ch=true)→Q (.int (n+(1+bp figS (z.cps.toList.drop (n+1))):Nat)) H:=fun h=>by
  rw [if_pos h] at q1;exact q1 _ rfl
 have call:∀ {Q':Prop},((Q (.int (n+1+bp figS (z.cps.toList.drop (n+1)):Nat)) H)→Q')→(ch=45∨aD figS ch=true)→Q':=fun f h=>f (by
  rw [show n+1+bp figS (z.cps.toList.drop (n+1))=n+(1+bp figS (z.cps.toList.drop (n+1))) by lia];exact run h)
 refine bu (fun c3=>?_) (fun c3=>?_)
 ·refine bT ⟨_,rfl,_,rfl,_,_,rfl,rfl,z,figS,n+1,(by rw [Int.natCast_add];rfl),by lia,hz,call id (.inl (of_decide_eq_true c3))⟩
 ·refine ⟨_,rfl,_,rfl,z,_,ch,rfl,rfl,bL hz,lH hch,_,_,rfl,rfl,_,rfl,?_⟩;rw [PySem.StrLaws.found_one];refine bu (fun c4=>?_) (fun c4=>?_)
  ·exact ⟨_,rfl,_,rfl,_,_,rfl,rfl,z,figS,n+1,(by rw [Int.natCast_add];rfl),by lia,hz,call id (.inr c4)⟩
  ·rw [if_neg (fun h=>h.elim (fun h=>c3 (decide_eq_true h)) (fun h=>c4 h))] at q1;refine ⟨_,rfl,_,_,rfl,rfl,?_⟩;exact q1 1 rfl
abbrev figs:Str:= "0123456789"
def inF (c:Nat):Bool:=!(Builtin.Str.occurrences figs ⟨#[c]⟩ 0 figs.length 1).isEmpty
def eA (c:Nat):Bool:=decide (48≤c∧c≤57)
theorem sk (c:Nat):inF c=eA c:=by
 unfold inF eA;rw [PySem.StrLaws.found_one,show figs.cps.toList=[48,49,50,51,52,53,54,55,56,57] by decide +kernel,decide_eq_decide];refine ⟨fun h=>?_,fun h=>?_⟩
 ·revert c
  decide
 ·obtain ⟨k,rfl⟩:=Nat.exists_eq_add_of_le h.1;have h2:k < 10:=by lia
  clear h
  revert k
  decide
def aC (cs:List Nat):List Nat:=if cs.head?=some 45 then cs.drop 1 else cs
def cj (cs:List Nat):Option Int :=
 if aC cs=[] then none else if (aC cs).all eA=false then none
 else if (aC cs).head?=some 48∧cs≠[48] then none
 else some (if cs.head?=some 45 then -(NumText.digitsVal (aC cs):Int) else (NumText.digitsVal (aC cs):Int))
def DR:Option Int→V
 | none=>.non
 | some i=>.int i
def fW (m:Int):Str:=Str.ofString (toString m)
def kb (_:PySem.W.Frag) (_:Ads):Sp:=fun vs H Q _=>∃ z:Str,vs=[.str z]∧z.length≤100∧∀ H',Same H H'→Q (DR (cj z.cps.toList)) H'
theorem mX {n:Nat} (h:n≤1000):n≤sizeLine:=Nat.le_of_lt (bc h)
theorem qu:("-" : Str)=⟨#[45]⟩:=by decide +kernel
theorem jE:("0" : Str)=⟨#[48]⟩:=by decide +kernel
theorem xu:("" : Str)=⟨#[]⟩:=by decide +kernel
theorem qv (z:Str):decide (V.str z=V.str "")=decide (z.cps.toList=[]):=by
 rw [xu,decide_eq_decide];exact ⟨fun h=>by injection h with h;rw [h],fun h=>congrArg V.str (gQ h)⟩
theorem jF (z:Str):decide (V.str z=V.str "0")=decide (z.cps.toList=[48]):=by
 rw [jE,decide_eq_decide];exact ⟨fun h=>by injection h with h;rw [h],fun h=>congrArg V.str (gQ h)⟩
theorem ke (z:Str):Txt.startswith z "-" = decide (z.cps.toList.head?=some 45):=by rw [qu];exact ia z 45
theorem eB (z:Str):Txt.startswith z "0" = decide (z.cps.toList.head?=some 48):=by rw [jE];exact ia z 48
theorem qw {z:Str} {c:Nat} (h:z.cps.toList.head?=some c):1≤z.length:=by
 rw [← aq]
 cases e:z.cps.toList with
 | nil=>rw [e] at h;cases h
 | cons a l=>simp
theorem oU {z:Str} (h:z.cps.toList.head?=some 45):(Txt.slice z (some 1) none).cps.toList=aC z.cps.toList:=by
 rw [mL (qw h)];unfold aC;rw [if_pos h]
theorem lK (cs:List Nat):cs.all inF=cs.all eA:=by rw [show inF=eA from funext sk]
theorem nN (cs:List Nat):(aC cs).length≤cs.length:=by
 unfold aC
 split
 ·rw [List.length_drop];lia
 ·exact Nat.le_refl _
theorem oV {cs:List Nat} (h:cs.all eA=true):NumText.AllDigits cs:=fun c hc=>of_decide_eq_true (List.all_eq_true.mp h c hc)
theorem lL {z:Str} (hz:z.length≤100) (h1:aC z.cps.toList≠[]) (h2:(aC z.cps.toList).all eA=true) (h3:¬ ((aC z.cps.toList).head?=some 48∧z.cps.toList≠[48])):∃ n,PySem.intText? z=some n∧cj z.cps.toList=some n:=by
 unfold cj;rw [if_neg h1,if_neg (by rw [h2];exact Bool.noConfusion),if_neg h3];have hd:=oV h2
 by_cases hm:z.cps.toList.head?=some 45
 ·rw [if_pos hm];have ef:aC z.cps.toList=z.cps.toList.drop 1:=by unfold aC;rw [if_pos hm]
  have e:z.cps.toList=45 :: aC z.cps.toList:=by
   rw [ef]
   cases e:z.cps.toList with
   | nil=>rw [e] at hm;cases hm
   | cons a l=>rw [e] at hm;injection hm with hm;subst hm;rfl
  exact ⟨_,PySem.intText_neg e hd h1 (by lia),rfl⟩
 ·rw [if_neg hm];have ef:aC z.cps.toList=z.cps.toList:=by unfold aC;rw [if_neg hm]
  rw [ef] at hd h1 ⊢;exact ⟨_,PySem.intText_digits hd h1 (by lia),rfl⟩
theorem lN (m:Int):(fW m).cps.toList=mK m:=str_int m
theorem nO {K:PySem.W.Frag} {H:Hp} {l:Addr} {z:Str} {R:Hp→Prop} {nm:L2.St} (hl:H l=none) (hz:z.length≤sizeLine) (q:∀ H',Same H H'→SqL K H' l (bls (z.cps.toList.map inF))→R H')
  (hn:nm=[none]):∃ W:Nat→Nat→List V→L2.St→Hp→Prop,(∃ m,W 0 m [] nm (upd H l (.lst [])))∧∀ i m ys σ' H',W i m ys σ' H'→((Its z).stop i H'∧R H') ∨
   ((Its z).go i H'∧∀ x H'',(Its z).yld i H' x H''→pC 0 x σ' H'' fun σ2 H2=>cEl (tOp (fun x y H Q=>∃ i j,x=.str i∧y=.str j∧Q (.bl (!(Builtin.Str.occurrences j i 0 j.length 1).isEmpty)) H) (wL 0) (tC (.str figs))) ys l σ2 H2 fun ys' σ3 H3=>∃ m',m' < m∧W (i+1) m' ys' σ3 H3):=by
 subst hn;refine lh (Q:=fun _ H'=>R H') (fun i ys σ H'=>ys=bls ((z.cps.toList.take i).map inF)∧H'=upd H l (.lst ys)∧σ.length=1) ⟨rfl,rfl,rfl⟩ ?_ ?_
 ·rintro i c ys σ H1 N hc ⟨rfl,rfl,hσ⟩ next;have hc':z.cps.toList[i]?=some c:=by rw [Array.getElem?_toList];exact hc
  have hi:i < z.cps.toList.length:=(List.getElem?_eq_some_iff.mp hc').1;have hlen:(bls ((z.cps.toList.take i).map inF)).length < sizeLine:=by
   have:z.length=z.cps.toList.length:=by simp [Str.length]
   simp only [bls,List.length_map,List.length_take];lia
  match σ,hσ with
  | [_],_ =>
   refine ⟨.str ⟨#[c]⟩,rfl,_,_,rfl,rfl,ac,hlen,next _ _ _ ⟨?_,qY,rfl⟩⟩;show bls ((z.cps.toList.take i).map inF)++[V.bl (inF c)]=bls ((z.cps.toList.take (i+1)).map inF);unfold bls;rw [List.map_map,List.map_map];exact fV (V.bl ∘ inF) hc'
 ·rintro ys σ H1 ⟨rfl,rfl,hσ⟩;refine q _ (ax hl _) (SqL.of ?_);rw [ac];have:z.cps.toList.take z.cps.size=z.cps.toList:=List.take_of_length_le (by simp);rw [this]
theorem ip {c:Prop} [Decidable c] (h:(!decide c)=true):¬ c:=by simpa using h
theorem iq {c:Prop} [Decidable c] (h:¬ (!decide c)=true):c:=by simpa using h
theorem kf (T:Tx K mg ad) {f:Addr} {fd:FuncData} (F:Gn K mg "number_of" dO ["text"] f fd):FnOk P w K mg base CX0 1 f fd ["text"] (kb K ad):=by
 obtain ⟨t_FIGURES,c_FIGURES⟩:=T.FIGURES;refine F.F.ok fv (fun vs H Q E h=>?_) (fun cdv A outer s H vs Q E hr h=>?_)
 ·obtain ⟨z,rfl,_⟩:=h
  rfl
 obtain ⟨z,rfl,hz,q⟩:=h;refine ⟨_,(@pss_cons _ _ _ _ _ (@ps_set _ _ 1 _ _ _ _ fv.nd rfl (Or.inl rfl) (gT (@pt_val _ _ _ (pe_bm PySem.F.plainAttrs_str PySem.F.slot_str_startswith PySem.F.type_str_startswith mt_starts (pv 0) (@pa1 _ _ _ pe_str (by rfl))) (by intro _;rfl)) (pe_slice sl_str (pv 0) (po_some pe_int) gK) (pv 0)) (by rfl) (by first | exact .inl rfl | exact .inr rfl | assumption)) (@pss_cons _ _ _ _ _ (@ps_if _ _ _ _ _ _ _ _ (PW.pt (@kT _ _ _ _ _ _ _ (pt_cmpR op_eq (pv 1) pe_str (nomark _)) (@pw_or1 _ _ _ _ (@pt_not _ _ _ _ (@pt_val _ _ _ (pe_callB (call_allN (K:=K) rfl rfl) rfl T.z_all boot_all (@pa1 _ _ _ (pe_comp rfl (cs0 (NL:=["figure"]) rfl (by decide +kernel) (by decide +kernel)) (mH (pv 1)) (fun _ _ _ _=>(aE (i:=0) (show List.Nodup (α:=Str) ["figure"] by decide +kernel) rfl (Or.inl rfl))) (fun _ _ _ _=>(aR op_in_str (pv 0) (aS rfl c_FIGURES) rfl))) (by rfl))) (by intro _;rfl)))))) (@pss_one _ _ _ (@ps_ret _ _ _ _ pe_non)) pss_nil) (@pss_cons _ _ _ _ _ (@ps_if _ _ _ _ _ _ _ _ (PW.pt (@pw_and _ _ _ _ _ _ _ (@pt_val _ _ _ (pe_bm PySem.F.plainAttrs_str PySem.F.slot_str_startswith PySem.F.type_str_startswith mt_starts (pv 1) (@pa1 _ _ _ pe_str (by rfl))) (by intro _;rfl)) (@pw_and1 _ _ _ _ (pt_cmpR op_ne (pv 0) pe_str (nomark _))))) (@pss_one _ _ _ (@ps_ret _ _ _ _ pe_non)) pss_nil) (@pss_one _ _ _ (@ps_ret _ _ _ _ (pe_callTy call_int_text rfl T.z_int boot_int (@pa1 _ _ _ (pv 0) (by rfl)))))))),?_⟩;refine ⟨_,rfl,rfl,_,_,rfl,rfl,_,rfl,?_⟩;rw [ke];refine bu (fun c1=>?_) (fun c1=>?_)
 ·have eF:=oU (of_decide_eq_true c1);refine ⟨_,rfl,_,rfl,z,rfl,mX (by lia),?_⟩;have lF:=aq (Txt.slice z (some 1) none);rw [eF] at lF;refine ⟨_,rfl,rfl,_,rfl,?_⟩;rw [qv];have fl:=nN z.cps.toList;rw [aq] at fl;refine bu (fun c2=>?_) (fun c2=>?_)
  ·have e:cj z.cps.toList=none:=by unfold cj;rw [if_pos (eF.symm.trans (of_decide_eq_true c2))]
   refine bT ?_;rw [e] at q;exact q H (Same.refl H)
  have n2:aC z.cps.toList≠[]:=fun y=>c2 (decide_eq_true (eF.trans y));refine ⟨_,rfl,_,rfl,fun l hl=>nO (K:=K) hl (mX (by lia)) (fun H1 g1 s1=>⟨l,_,rfl,rfl,s1,_,rfl,?_⟩) rfl⟩;rw [List.all_map,show (id ∘ inF)=inF from rfl,eF,lK]
  cases hall:(aC z.cps.toList).all eA with
  | false =>
   have e:cj z.cps.toList=none:=by unfold cj;rw [if_neg n2,if_pos hall]
   refine bT ?_;rw [e] at q;exact q H1 g1
  | true =>
  refine bx ?_;refine ⟨_,rfl,rfl,_,_,rfl,rfl,_,rfl,?_⟩;rw [eB];have due:¬ ((aC z.cps.toList).head?=some 48∧z.cps.toList≠[48])→∃ n,PySem.intText? z=some n∧cj z.cps.toList=some n:=lL hz n2 hall;refine bu (fun c3=>?_) (fun c3=>?_)
  ·have c3':=(congrArg List.head? eF).symm.trans (of_decide_eq_true c3);refine ⟨_,rfl,rfl,_,rfl,?_⟩;rw [jF];refine bu (fun c4=>?_) (fun c4=>?_)
   ·have e:cj z.cps.toList=none:=by unfold cj;rw [if_neg n2,if_neg (by rw [hall];exact Bool.noConfusion),if_pos ⟨c3',ip c4⟩]
    rw [e] at q;exact q H1 g1
   ·obtain ⟨n,e1,e2⟩:=due (fun y=>y.2 (iq c4));rw [e2] at q;exact ⟨_,rfl,z,n,rfl,e1,by lia,q H1 g1⟩
  ·obtain ⟨n,e1,e2⟩:=due (fun y=>c3 (decide_eq_true ((congrArg List.head? eF).trans y.1)));rw [e2] at q;exact ⟨_,rfl,z,n,rfl,e1,by lia,q H1 g1⟩
 ·have eF:z.cps.toList=aC z.cps.toList:=by
   unfold aC;rw [if_neg (fun y=>c1 (decide_eq_true y))]
  have lF:=aq z;have lF:(aC z.cps.toList).length=z.length:=eF ▸ lF;refine ⟨_,rfl,?_⟩;refine ⟨_,rfl,rfl,_,rfl,?_⟩;rw [qv];have fl:=nN z.cps.toList;rw [aq] at fl;refine bu (fun c2=>?_) (fun c2=>?_)
  ·have e:cj z.cps.toList=none:=by unfold cj;rw [if_pos (eF.symm.trans (of_decide_eq_true c2))]
   refine bT ?_;rw [e] at q;exact q H (Same.refl H)
  have n2:aC z.cps.toList≠[]:=fun y=>c2 (decide_eq_true (eF.trans y));refine ⟨_,rfl,_,rfl,fun l hl=>nO (K:=K) hl (mX (by lia)) (fun H1 g1 s1=>⟨l,_,rfl,rfl,s1,_,rfl,?_⟩) rfl⟩;rw [List.all_map,show (id ∘ inF)=inF from rfl,eF,lK]
  cases hall:(aC z.cps.toList).all eA with
  | false =>
   have e:cj z.cps.toList=none:=by unfold cj;rw [if_neg n2,if_pos hall]
   refine bT ?_;rw [e] at q;exact q H1 g1
  | true =>
  refine bx ?_;refine ⟨_,rfl,rfl,_,_,rfl,rfl,_,rfl,?_⟩;rw [eB];have due:¬ ((aC z.cps.toList).head?=some 48∧z.cps.toList≠[48])→∃ n,PySem.intText? z=some n∧cj z.cps.toList=some n:=lL hz n2 hall;refine bu (fun c3=>?_) (fun c3=>?_)
  ·have c3':=(congrArg List.head? eF).symm.trans (of_decide_eq_true c3);refine ⟨_,rfl,rfl,_,rfl,?_⟩;rw [jF];refine bu (fun c4=>?_) (fun c4=>?_)
   ·have e:cj z.cps.toList=none:=by unfold cj;rw [if_neg n2,if_neg (by rw [hall];exact Bool.noConfusion),if_pos ⟨c3',ip c4⟩]
    rw [e] at q;exact q H1 g1
   ·obtain ⟨n,e1,e2⟩:=due (fun y=>y.2 (iq c4));rw [e2] at q;exact ⟨_,rfl,z,n,rfl,e1,by lia,q H1 g1⟩
  ·obtain ⟨n,e1,e2⟩:=due (fun y=>c3 (decide_eq_true ((congrArg List.head? eF).trans y.1)));rw [e2] at q;exact ⟨_,rfl,z,n,rfl,e1,by lia,q H1 g1⟩
def okC (c:Nat):Bool:=decide (32≤c) && decide (c≤126) && !decide (c=34) && !decide (c=37)
def mY (_:PySem.W.Frag) (_:Ads):Sp:=fun vs H Q _=>∃ c:Nat,vs=[.str ⟨#[c]⟩]∧Q (.bl (okC c)) H
theorem qx (a b:Nat):decide (([a]:List Nat) < [b])=decide (a < b):=by
 rw [decide_eq_decide,List.cons_lt_cons_iff];exact ⟨fun h=>h.elim id (fun h=>absurd h.2 (List.lt_irrefl _)),.inl⟩
theorem Dg:(Str.ofString "~")=⟨#[126]⟩:=by decide +kernel
theorem ir (T:Tx K mg ad) {f:Addr} {fd:FuncData} (F:Gn K mg "is_sign" gc ["letter"] f fd):FnOk P w K mg base CX0 1 f fd ["letter"] (mY K ad):=by
 obtain ⟨t_PERCENT,c_PERCENT⟩:=T.PERCENT;refine F.F.ok nu (fun vs H Q E h=>?_) (fun cdv A outer s H vs Q E hr h=>?_)
 ·obtain ⟨c,rfl,_⟩:=h
  rfl
 obtain ⟨c,rfl,q⟩:=h;refine ⟨_,(@pss_one _ _ _ (@ps_ret _ _ _ _ (jO (pH jB jB pe_str (pv 0) pe_str) (jO (aR op_ne (pv 0) pe_str (nomark _)) (me (aR op_ne (pe_callB pI rfl T.z_ord boot_ord (@pa1 _ _ _ (pv 0) (by rfl))) (gN rfl c_PERCENT) (nomark _))))))),?_⟩;refine ⟨_,rfl,_,_,rfl,rfl,_,rfl,?_⟩;rw [sS,show (!decide ((⟨#[c]⟩:Str).cps.toList < (⟨#[32]⟩:Str).cps.toList))=decide (32≤c) from by
  rw [show decide ((⟨#[c]⟩:Str).cps.toList < (⟨#[32]⟩:Str).cps.toList)=decide (c < 32) from qx c 32]
  by_cases h:c < 32 <;> simp [h] <;> lia]
 unfold okC at q;refine bu (fun c1=>?_) (fun c1=>?_)
 ·rw [c1] at q;refine ⟨_,_,rfl,rfl,?_⟩;rw [Dg,show (!decide ((⟨#[126]⟩:Str).cps.toList < (⟨#[c]⟩:Str).cps.toList))=decide (c≤126) from by
   rw [show decide ((⟨#[126]⟩:Str).cps.toList < (⟨#[c]⟩:Str).cps.toList)=decide (126 < c) from qx 126 c]
   by_cases h:c≤126 <;> simp [h] <;> lia]
  refine ⟨_,rfl,bu (fun c2=>?_) (fun c2=>?_)⟩
  ·rw [c2] at q;refine ⟨_,rfl,rfl,_,rfl,?_⟩;rw [qr,fc];refine bu (fun c3=>?_) (fun c3=>?_)
   ·rw [c3] at q;refine ⟨_,rfl,_,rfl,rfl,rfl,?_⟩;rw [show decide (V.int ((⟨#[c]⟩:Str).cps.getD 0 0:Nat)=V.int 37)=decide (c=37) from by
     rw [decide_eq_decide];exact ⟨fun h=>by injection h with h;exact Int.ofNat.inj h,fun h=>by rw [h];rfl⟩]
    exact q
   ·rw [show (!decide (c=34))=false from by simpa using c3] at q;exact q
  ·rw [show decide (c≤126)=false from by simpa using c2] at q;exact q
 ·rw [show decide (32≤c)=false from by simpa using c1] at q;exact ⟨_,rfl,bx q⟩
abbrev marksS:Str:= "()[]{},:;/"
def mk2 (w:Str) (d:Dt):Dt:=.tup [.str w,d]
def aB (cs:List Nat):Str:=⟨cs.toArray⟩
theorem ca (z:Str):aB z.cps.toList=z:=by
 unfold aB;rw [Array.toArray_toList]
def mkW (cs:List Nat):Option Dt :=
 if (!(Builtin.Str.occurrences marksS (aB cs) 0 marksS.length 1).isEmpty)=true then some (mk2 "mark" (.str (aB cs)))
 else if cs.head?=some 34∧((cs.drop 1).dropLast).all okC=true then some (mk2 "text" (.str (aB ((cs.drop 1).dropLast))))
 else if (∃ c,cs.head?=some c∧aD bz c=true)∧cs.length≤8 then some (mk2 "word" (.str (aB cs)))
 else if (cs.dropWhile (· == 45)).length≤60 then (cj cs).map fun n=>mk2 "number" (.int n) else none
open PySem.Builtin.Str in
theorem lO (z:Str) (h:1≤z.length):(Txt.slice z (some 1) (some (-1))).cps.toList=(z.cps.toList.drop 1).dropLast:=by
 have hl:=aq z
 by_cases h2:z.length=1
 ·obtain ⟨⟨l⟩⟩:=z
  match l,hl,h2 with
  | [c],_,_=>rfl
  | [],a,b=>cases b
  | c :: d :: l,a,b=>simp [Str.length] at b
 ·have e:Txt.slice z (some 1) (some (-1))=Txt.slice z (some 1) (some ((z.length:Int) - 1)):=by
   have e0:strSliceIndices (some 1) (some (-1)) 1 z.length=strSliceIndices (some 1) (some ((z.length:Int) - 1)) 1 z.length:=by
    simp only [strSliceIndices];rw [if_neg (show ¬ ((z.length:Int) - 1 < 0) by lia),if_pos (show (-1:Int) < 0 by decide),show (-1:Int)+(z.length:Int)=(z.length:Int) - 1 by lia]
   unfold Txt.slice;rw [e0]
  rw [e,eq_of_beq (slice_closesL (x:=z) (i:=1) (j:=(z.length:Int) - 1) (by decide) (by lia) (by lia))];show List.take _ _=_;rw [List.dropLast_eq_take,List.length_drop,hl]
  congr 1
  lia
theorem iu (z:Str):(Txt.lstripChars z ⟨#[45]⟩).length=(z.cps.toList.dropWhile (· == 45)).length:=by
 unfold Txt.lstripChars;rw [PyProof.Rows.stripBy_eq];have e:(#[45]:Array Nat).contains=(fun c:Nat=>c == 45):=by
  funext c
  rw [Bool.eq_iff_iff];simp
 have h:=congrArg List.length (List.takeWhile_append_dropWhile (p:=fun c:Nat=>c == 45) (l:=z.cps.toList));rw [List.length_append,aq] at h;show (z.cps.extract _ _).size=_;rw [Array.size_extract];unfold PySem.stripHi PySem.stripLo;simp only [if_true,Bool.false_eq_true,if_false];have hs:z.cps.size=z.length:=rfl;show min (z.length) z.cps.size - (List.takeWhile (#[45]:Array Nat).contains z.cps.toList).length=_;rw [e,hs,Nat.min_self];lia
def kg (K:PySem.W.Frag) (ad:Ads):Sp:=fun vs H Q E=>∃ z:Str,vs=[.str z]∧1≤z.length∧z.length≤100000∧z.length≤(z.cps.toList.dropWhile (· == 45)).length+1 ∧
 (∀ d,mkW z.cps.toList=some d→∀ v H',Same H H'→IsP K H' d v→Q v H')∧(mkW z.cps.toList=none→∀ H',Same H H'→E (.ref ad.BadText) none H')
theorem kh (z:Str) (h:1≤z.length):(Txt.slice z (some 1) (some (-1))).length≤z.length:=by
 rw [← aq,lO z h,List.length_dropLast,List.length_drop,aq];lia
theorem ki (T:Tx K mg ad) {f:Addr} {fd:FuncData} (F:Gn K mg "made_word" dP ["text"] f fd):FnOk P w K mg base (CXE P w) 2 f fd ["text"] (kg K ad):=by
 obtain ⟨_,_,EN⟩:=T.is_sign;have E6:=ir (P:=P) (w:=w) (base:=base) T EN;obtain ⟨_,_,Fd⟩:=T.number_of;have FF:=kf (P:=P) (w:=w) (base:=base) T Fd;obtain ⟨t_MARKS,c_MARKS⟩:=T.MARKS;obtain ⟨t_QUOTE,c_QUOTE⟩:=T.QUOTE;obtain ⟨t_LETTERS,c_LETTERS⟩:=T.LETTERS;obtain ⟨t_LONGEST_NAME,c_LONGEST_NAME⟩:=T.LONGEST_NAME;obtain ⟨t_MOST_FIGURES,c_MOST_FIGURES⟩:=T.MOST_FIGURES;obtain ⟨t_MINUS,c_MINUS⟩:=T.MINUS;refine F.F.okW fw (fun vs H Q E h=>?_) (fun cdv A outer s H vs Q E hr h=>?_)
 ·obtain ⟨z,rfl,_⟩:=h
  rfl
 obtain ⟨z,rfl,h1,hz,hs,q1,q2⟩:=h;refine ⟨_,(@pss_cons _ _ _ _ _ (@ps_if _ _ _ _ _ _ _ _ (pt_cmpR op_in_str (pv 0) (aS rfl c_MARKS) rfl) (@pss_one _ _ _ (@ps_ret _ _ _ _ (@pe_tupPK _ K _ _ _ _ rfl (@pa2 _ _ _ _ _ pe_str (pv 0) (by rfl) (by rfl))))) pss_nil) (@pss_cons _ _ _ _ _ (@ps_if _ _ _ _ _ _ _ _ (PW.pt (@pw_and _ _ _ _ _ _ _ (pt_cmpR op_eq (@pe_ix _ _ _ _ _ _ _ ix_str (pv 0) pe_int (fun _ _=>rfl)) (aS rfl c_QUOTE) (nomark _)) (@pw_and1 _ _ _ _ (@pt_val _ _ _ (pe_callB (call_allN (K:=K) rfl rfl) rfl T.z_all boot_all (@pa1 _ _ _ (pe_comp rfl (cs0 (NL:=["letter"]) rfl (by decide +kernel) (by decide +kernel)) (mH (pe_slice sl_str (pv 0) (po_some pe_int) (po_some (@pe_un _ _ _ _ _ _ un_neg pe_int)))) (fun _ _ _ _=>(aE (i:=0) (show List.Nodup (α:=Str) ["letter"] by decide +kernel) rfl (Or.inl rfl))) (fun _ _ _ _=>(pcl EN E6 (hr.mono (by lia)) rfl (@pa1 _ _ _ (pv 0) (by rfl))))) (by rfl))) (by intro _;rfl))))) (@pss_one _ _ _ (@ps_ret _ _ _ _ (@pe_tupPK _ K _ _ _ _ rfl (@pa2 _ _ _ _ _ pe_str (pe_slice sl_str (pv 0) (po_some pe_int) (po_some (@pe_un _ _ _ _ _ _ un_neg pe_int))) (by rfl) (by rfl))))) pss_nil) (@pss_cons _ _ _ _ _ (@ps_if _ _ _ _ _ _ _ _ (PW.pt (@pw_and _ _ _ _ _ _ _ (pt_cmpR op_in_str (@pe_ix _ _ _ _ _ _ _ ix_str (pv 0) pe_int (fun _ _=>rfl)) (aS rfl c_LETTERS) rfl) (@pw_and1 _ _ _ _ (pt_cmpR et (pe_callB call_len_str rfl T.z_len PySem.boot_len (@pa1 _ _ _ (pv 0) (by rfl))) (gN rfl c_LONGEST_NAME) (nomark _))))) (@pss_one _ _ _ (@ps_ret _ _ _ _ (@pe_tupPK _ K _ _ _ _ rfl (@pa2 _ _ _ _ _ pe_str (pv 0) (by rfl) (by rfl))))) pss_nil) (@pss_cons _ _ _ _ _ (@ps_set _ _ 1 _ _ _ _ fw.nd rfl (Or.inl rfl) (gT (pt_cmpR et (pe_callB call_len_str rfl T.z_len PySem.boot_len (@pa1 _ _ _ (pe_bm PySem.F.plainAttrs_str PySem.F.slot_str_lstrip PySem.F.type_str_lstrip mR (pv 0) (@pa1 _ _ _ (aS rfl c_MINUS) (by rfl))) (by rfl))) (gN rfl c_MOST_FIGURES) (nomark _)) (pcl Fd FF (hr.mono (by lia)) rfl (@pa1 _ _ _ (pv 0) (by rfl))) pe_non) (by rfl) (by first | exact .inl rfl | exact .inr rfl | assumption)) (@pss_cons _ _ _ _ _ (@ps_if _ _ _ _ _ _ _ _ (pt_cmpR pG (pv 1) pe_non (nomark _)) (@pss_one _ _ _ (ps_raiseW rfl rfl rfl rfl T.x_BadText rfl (@pa1 _ _ _ pe_str (by rfl)))) pss_nil) (@pss_one _ _ _ (@ps_ret _ _ _ _ (@pe_tupPK _ K _ _ _ _ rfl (@pa2 _ _ _ _ _ pe_str (pv 1) (by rfl) (by rfl)))))))))),?_⟩;obtain ⟨ch,hch⟩:∃ ch,z.cps.toList[0]?=some ch:=⟨_,List.getElem?_eq_getElem (by rw [aq];exact h1)⟩;have hh:z.cps.toList.head?=some ch:=by rw [List.head?_eq_getElem?];exact hch
 have tup:∀ {w:Str} {d:Dt} {x:V} {H1:Hp},mkW z.cps.toList=some (mk2 w d)→Same H H1→IsP K H1 d x→∃ l,IsPs K H1 l [.str w,x]∧([.str w,x]:List V).length≤sizeLine∧∀ v H',Same H1 H'→IsP K H' (.tup l) v→Q v H':=fun {w d x H1} e g hx=>⟨[.str w,d],.cons .str (.cons hx .nil),sz2,fun v H' g' hv=>q1 _ e v H' (g.trans g') hv⟩;refine ⟨_,rfl,_,_,rfl,rfl,_,rfl,bu (fun c=>?_) (fun c=>?_)⟩
 ·have e:mkW z.cps.toList=some (mk2 "mark" (.str z)):=by
   unfold mkW;rw [ca,if_pos c]
  obtain ⟨l,a1,a2,a3⟩:=tup e (Same.refl H) .str;exact ⟨_,rfl,l,a1,a2,a3⟩
 have m0:mkW z.cps.toList=(if z.cps.toList.head?=some 34∧((z.cps.toList.drop 1).dropLast).all okC=true then some (mk2 "text" (.str (aB ((z.cps.toList.drop 1).dropLast))))
   else if (∃ c,z.cps.toList.head?=some c∧aD bz c=true)∧z.cps.toList.length≤8 then some (mk2 "word" (.str (aB z.cps.toList)))
   else if (z.cps.toList.dropWhile (· == 45)).length≤60 then (cj z.cps.toList).map fun n=>mk2 "number" (.int n) else none):=by
  show (if _ then _ else _)=_;rw [ca,if_neg c]
 refine ⟨_,rfl,z,_,ch,rfl,rfl,bL hz,lH hch,rfl,_,rfl,?_⟩;rw [qr,fc];have sl:=lO z h1;have sll:=kh z h1;refine bu (fun c3=>?A) (fun c3=>?B)
 case' A =>
  refine ⟨_,rfl,_,rfl,_,rfl,_,rfl,z,rfl,bL hz,_,rfl,fun l hl=>?_⟩;refine jz (z:=Txt.slice z (some 1) (some (-1))) (fun i ys σ H'=>ys=bls (((Txt.slice z (some 1) (some (-1))).cps.toList.take i).map okC)∧Same H H'∧H' l=some (.lst ys)∧σ.length=1) ⟨rfl,ax hl _,ac,rfl⟩ ?_ ?_
  ·rintro i c ys σ H1 N hc ⟨rfl,g1,f1,hσ⟩ next;have hc':(Txt.slice z (some 1) (some (-1))).cps.toList[i]?=some c:=by rw [Array.getElem?_toList];exact hc
   have hi:=(List.getElem?_eq_some_iff.mp hc').1
   match σ,hσ with
   | [_],_ =>
    refine ⟨_,rfl,c,rfl,f1,?_,next _ _ _ ⟨?_,cN hl g1,ac,rfl⟩⟩
    ·simp only [bls,List.length_map,List.length_take];rw [aq] at hi ⊢;have:=bL hz;lia
    ·show bls _++[V.bl (okC c)]=bls _;unfold bls;rw [List.map_map,List.map_map];exact fV (V.bl ∘ okC) hc'
  rintro ys σ H1 ⟨rfl,g1,f1,hσ⟩;rw [List.take_of_length_le (by simp)] at f1;refine ⟨l,_,rfl,rfl,SqL.of f1,_,rfl,?_⟩;rw [List.all_map,show (id ∘ okC)=okC from rfl,sl];refine bu (fun c4=>?_) (fun c4=>?_)
  ·have e:mkW z.cps.toList=some (mk2 "text" (.str (Txt.slice z (some 1) (some (-1))))):=by
    rw [m0,if_pos ⟨by rw [hh,of_decide_eq_true c3],c4⟩,← sl,ca]
   obtain ⟨l,a1,a2,a3⟩:=tup e g1 .str;exact ⟨_,rfl,_,rfl,_,rfl,_,rfl,z,rfl,bL hz,l,a1,a2,a3⟩
  have nq:¬ (z.cps.toList.head?=some 34∧((z.cps.toList.drop 1).dropLast).all okC=true):=fun h=>c4 h.2
 case' B =>
  have g1:=Same.refl H;have nq:¬ (z.cps.toList.head?=some 34∧((z.cps.toList.drop 1).dropLast).all okC=true):=fun h=>c3 (decide_eq_true (Option.some.inj (hh.symm.trans h.1)))
 all_goals
  rw [if_neg nq] at m0;refine ⟨_,rfl,z,_,ch,rfl,rfl,bL hz,lH hch,_,_,rfl,rfl,_,rfl,?_⟩;rw [PySem.StrLaws.found_one];have lw:(∃ c,z.cps.toList.head?=some c∧aD bz c=true)↔aD bz ch=true:=⟨fun ⟨c,e1,e2⟩=>by rw [hh] at e1;cases e1;exact e2,fun e=>⟨ch,hh,e⟩⟩;refine bu (fun c5=>?_) (fun c5=>?_);refine ⟨_,rfl,z,rfl,bL hz,_,_,rfl,rfl,_,rfl,bu (fun c6=>?_) (fun c6=>?_)⟩
  ·have e:mkW z.cps.toList=some (mk2 "word" (.str z)):=by
    rw [m0,if_pos ⟨lw.mpr c5,by rw [aq];have:=of_decide_eq_true c6;lia⟩,ca]
   obtain ⟨l,a1,a2,a3⟩:=tup e g1 .str;exact ⟨_,rfl,l,a1,a2,a3⟩
  have nw:¬ ((∃ c,z.cps.toList.head?=some c∧aD bz c=true)∧z.cps.toList.length≤8):=fun h=>c6 (decide_eq_true (by have:=h.2;rw [aq] at this;lia))
  rotate_left
  have nw:¬ ((∃ c,z.cps.toList.head?=some c∧aD bz c=true)∧z.cps.toList.length≤8):=fun h=>c5 (lw.mp h.1)
  all_goals
   rw [if_neg nw] at m0;refine ⟨_,rfl,rfl,z,_,rfl,rfl,bL hz,_,rfl,?_,_,_,rfl,rfl,_,rfl,?_⟩
   ·rw [qt,iu];have:=(List.dropWhile_sublist (l:=z.cps.toList) (fun c:Nat=>c == 45)).length_le;rw [aq] at this;exact bL (by lia)
   rw [qt,iu];refine bu (fun c7=>?_) (fun c7=>?_)
   ·have c7':(z.cps.toList.dropWhile (· == 45)).length≤60:=by have:=of_decide_eq_true c7;lia
    rw [if_pos c7'] at m0;refine ⟨_,rfl,z,rfl,by lia,fun H2 g2=>?_⟩
    cases hn:cj z.cps.toList with
    | none =>
     rw [hn] at m0;exact ⟨_,rfl,rfl,_,rfl,cY ⟨sz1,q2 m0 H2 (g1.trans g2)⟩⟩
    | some n =>
     rw [hn] at m0;obtain ⟨l,a1,a2,a3⟩:=tup m0 (g1.trans g2) .int;exact ⟨_,rfl,rfl,_,rfl,bZ (fun c=>by cases c) ⟨_,rfl,l,a1,a2,a3⟩⟩
   ·rw [if_neg (fun h=>c7 (decide_eq_true (by lia)))] at m0;exact ⟨_,rfl,rfl,_,rfl,cY ⟨sz1,q2 m0 _ g1⟩⟩
def upB (L:Str):Dt→Bool
 | .tup [.str w,.str s]=>decide (w= "mark") && !(Builtin.Str.occurrences L s 0 L.length 1).isEmpty
 | _=>false
def dF (p:Int×Int) (d:Dt):Int×Int :=
 (if p.2+(if upB "([{" d=true then 1 else 0) - (if upB ")]}" d=true then 1 else 0) > p.1 then p.2+(if upB "([{" d=true then 1 else 0) - (if upB ")]}" d=true then 1 else 0) else p.1,
  p.2+(if upB "([{" d=true then 1 else 0) - (if upB ")]}" d=true then 1 else 0))
def eC (toks:List Dt):Int:=(toks.foldl dF (0,0)).1
def oW (d:Dt):Prop:=∃ w x,d=mk2 w x∧((∃ s,x=.str s)∨(w≠ "mark" ∧∃ n,x=.int n))
theorem nP {cs:List Nat} {d:Dt} (h:mkW cs=some d):oW d:=by
 unfold mkW at h
 split at h
 ·cases h;exact ⟨_,_,rfl,.inl ⟨_,rfl⟩⟩
 split at h
 ·cases h;exact ⟨_,_,rfl,.inl ⟨_,rfl⟩⟩
 split at h
 ·cases h;exact ⟨_,_,rfl,.inl ⟨_,rfl⟩⟩
 split at h
 ·obtain ⟨n,_,rfl⟩:=Option.map_eq_some_iff.mp h;exact ⟨_,_,rfl,.inr ⟨by decide,n,rfl⟩⟩
 ·cases h
theorem fX {K:PySem.W.Frag} {H:Hp} {a b:Dt} {v:V} (h:IsP K H (.tup [a,b]) v):∃ p x y,v=.ref p∧SqT K H p [x,y]∧IsP K H a x∧IsP K H b y:=by
 obtain ⟨p,xs,rfl,hp,_,r⟩:=h.unref
 cases r with
 | cons h1 r =>
  cases r with
  | cons h2 r =>
   cases r
   exact ⟨p,_,_,rfl,hp,h1,h2⟩
def eo (K:PySem.W.Frag) (_:Ads):Sp:=fun vs H Q _=>∃ (l:Addr) (ws:List V) (toks:List Dt),vs=[.ref l]∧H l=some (.lst ws)∧IsPs K H toks ws∧(∀ d∈toks,oW d)∧Q (.int (eC toks)) H
theorem er (T:Tx K mg ad) {f:Addr} {fd:FuncData} (F:Gn K mg "deepest_brackets" bw ["words"] f fd):FnOk P w K mg base CX0 1 f fd ["words"] (eo K ad):=by
 obtain ⟨t_OPENING,c_OPENING⟩:=T.OPENING;obtain ⟨t_CLOSING,c_CLOSING⟩:=T.CLOSING;refine F.F.ok ar (fun vs H Q E h=>?_) (fun cdv A outer s H vs Q E hr h=>?_)
 ·obtain ⟨l,ws,toks,rfl,_⟩:=h
  rfl
 obtain ⟨l,ws,toks,rfl,hl,hp,ht,q⟩:=h;refine ⟨_,(@pss_cons _ _ _ _ _ (@ps_set _ _ 1 _ _ _ _ ar.nd rfl (Or.inl rfl) pe_int (by rfl) (by first | exact .inl rfl | exact .inr rfl | assumption)) (@pss_cons _ _ _ _ _ (@ps_set _ _ 2 _ _ _ _ ar.nd rfl (Or.inl rfl) pe_int (by rfl) (by first | exact .inl rfl | exact .inr rfl | assumption)) (@pss_cons _ _ _ _ _ (fH PassesOwn.never rfl (qa (K:=K) rfl (pv 0)) (mf rfl (aU (aE (i:=3) ar.nd rfl (Or.inl rfl)) (aU (aE (i:=4) ar.nd rfl (Or.inl rfl)) eU)))
    (@pss_cons _ _ _ _ _ (@ps_if _ _ _ _ _ _ _ _ (PW.pt (@pw_and _ _ _ _ _ _ _ (pt_cmpR op_eq (pv 3) pe_str (nomark _)) (@pw_and1 _ _ _ _ (pt_cmpR op_in_str (pv 4) (aS rfl c_OPENING) rfl)))) (@pss_one _ _ _ (mh (i:=2) ar.nd rfl (Or.inl rfl) pe_int ip_add)) pss_nil) (@pss_cons _ _ _ _ _ (@ps_if _ _ _ _ _ _ _ _ (PW.pt (@pw_and _ _ _ _ _ _ _ (pt_cmpR op_eq (pv 3) pe_str (nomark _)) (@pw_and1 _ _ _ _ (pt_cmpR op_in_str (pv 4) (aS rfl c_CLOSING) rfl)))) (@pss_one _ _ _ (mh (i:=2) ar.nd rfl (Or.inl rfl) pe_int wQ)) pss_nil) (@pss_one _ _ _ (@ps_set _ _ 1 _ _ _ _ ar.nd rfl (Or.inl rfl) (pe_callB (om rfl) rfl T.z_max boot_max (@pa2 _ _ _ _ _ (pv 1) (pv 2) (by rfl) (by rfl))) (by rfl) (by first | exact .inl rfl | exact .inr rfl | assumption)))))) (@pss_one _ _ _ (@ps_ret _ _ _ _ (pv 1)))))),?_⟩
 refine ⟨_,rfl,l,rfl,⟨_,SqL.of hl⟩,pE (K:=K) (xs:=ws) (fun i σ H'=>H'=H∧∃ v3 v4,σ=[some (.ref l),some (.int ((toks.take i).foldl dF (0,0)).1),some (.int ((toks.take i).foldl dF (0,0)).2),v3,v4]) ⟨rfl,_,_,rfl⟩ (fun i σ H' _ p=>p.1 ▸ SqL.of hl) ?_ ?_⟩
 ·rintro i x σ H' hx ⟨rfl,v3,v4,rfl⟩;obtain ⟨d,hd,hdx⟩:=hp.get' hx;obtain ⟨w,y,rfl,hy⟩:=ht d (List.mem_of_getElem? hd);obtain ⟨b,x1,y2,rfl,hb,h1,h2⟩:=fX hdx;obtain rfl:=cX h1;have tk:toks.take (i+1)=toks.take i++[mk2 w y]:=by rw [List.take_add_one,hd];rfl
  rw [tk,List.foldl_append]
  generalize (toks.take i).foldl dF (0,0)=p
  refine ⟨b,_,rfl,hb,rfl,_,_,rfl,_,_,rfl,rfl,?_⟩
  by_cases hw:w= "mark"
  ·subst hw;obtain ⟨s0,rfl⟩:∃ s0,y=.str s0:=by
    rcases hy with h | ⟨h,_⟩
    ·exact h
    ·exact absurd rfl h
   obtain rfl:=cX h2;have u1:upB "([{" (mk2 "mark" (.str s0))=!(Builtin.Str.occurrences "([{" s0 0 (Str.ofString "([{").length 1).isEmpty:=by simp [upB,mk2]
   have u2:upB ")]}" (mk2 "mark" (.str s0))=!(Builtin.Str.occurrences ")]}" s0 0 (Str.ofString ")]}").length 1).isEmpty:=by simp [upB,mk2]
   refine ⟨_,rfl,rfl,_,rfl,cY ⟨_,rfl,_,_,rfl,rfl,_,rfl,?_⟩⟩;rw [← u1]
   cases e1:upB "([{" (mk2 "mark" (.str s0)) with
   | true =>
    refine bT ⟨_,rfl,_,_,rfl,rfl,_,rfl,rfl,_,rfl,cY ⟨_,rfl,_,_,rfl,rfl,_,rfl,?_⟩⟩;rw [← u2]
    cases e2:upB ")]}" (mk2 "mark" (.str s0)) with
    | true=>exact bT ⟨_,rfl,_,_,rfl,rfl,_,rfl,_,rfl,_,_,rfl,rfl,some (.str "mark"),some (.str s0),by simp [dF,e1,e2]⟩
    | false=>exact bx ⟨_,rfl,_,rfl,_,_,rfl,rfl,some (.str "mark"),some (.str s0),by simp [dF,e1,e2]⟩
   | false =>
    refine bx ⟨_,rfl,rfl,_,rfl,cY ⟨_,rfl,_,_,rfl,rfl,_,rfl,?_⟩⟩;rw [← u2]
    cases e2:upB ")]}" (mk2 "mark" (.str s0)) with
    | true=>exact bT ⟨_,rfl,_,_,rfl,rfl,_,rfl,_,rfl,_,_,rfl,rfl,some (.str "mark"),some (.str s0),by simp [dF,e1,e2]⟩
    | false=>exact bx ⟨_,rfl,_,rfl,_,_,rfl,rfl,some (.str "mark"),some (.str s0),by simp [dF,e1,e2]⟩
  ·have u:∀ L,upB L (mk2 w y)=false:=fun L=>by
    cases y <;> simp [upB,mk2,hw]
   refine ⟨_,rfl,rfl,_,rfl,bZ (aY hw) (bx ⟨_,rfl,rfl,_,rfl,bZ (aY hw) (bx ⟨_,rfl,_,rfl,_,_,rfl,rfl,some (.str w),some y2,by simp [dF,u]⟩)⟩)⟩
 ·rintro σ H' ⟨rfl,v3,v4,rfl⟩;rw [List.take_of_length_le (by rw [hp.length];exact Nat.le_refl _)];exact ⟨_,rfl,q⟩
def gy:Nat→List Nat→Option (List Dt)
 | 0,_=>some []
 | _+1,[]=>some []
 | n+1,c :: r=>match bU (c :: r) with
  | none=>none
  | some k=>if c=32 then gy n ((c :: r).drop k) else match mkW ((c :: r).take k) with
   | none=>none
   | some w=>(gy n ((c :: r).drop k)).map (w :: ·)
theorem dG {cs:List Nat} {k:Nat} (h:bU cs=some k):1≤k∧k≤cs.length:=by
 cases cs with
 | nil=>cases h
 | cons c r =>
  simp only [bU] at h
  split at h
  ·obtain ⟨i,hi,rfl⟩:=Option.map_eq_some_iff.mp h;have:=(List.findIdx?_eq_some_iff_getElem.mp hi).1;simp only [List.length_cons];lia
  split at h
  ·rename_i hc
   cases h
   refine ⟨?_,ka _ _⟩;unfold bp;rw [List.takeWhile_cons,if_pos hc];simp
  split at h
  ·cases h
   have:=ka figS r;simp only [List.length_cons];lia
  ·cases h
   simp
theorem oX:∀ (n m:Nat) (cs:List Nat),cs.length≤n→cs.length≤m→gy n cs=gy m cs:=by
 intro n
 induction n with
 | zero =>
  intro m cs h _;obtain rfl:=List.length_eq_zero_iff.mp (Nat.le_zero.mp h)
  cases m <;> rfl
 | succ n ih =>
  intro m cs h1 h2
  cases cs with
  | nil=>cases m <;> rfl
  | cons c r =>
   cases m with
   | zero=>simp at h2
   | succ m =>
    simp only [gy]
    cases hk:bU (c :: r) with
    | none=>rfl
    | some k =>
     obtain ⟨k1,k2⟩:=dG hk;have l1:((c :: r).drop k).length≤n:=by rw [List.length_drop];lia
     have l2:((c :: r).drop k).length≤m:=by rw [List.length_drop];lia
     have e:=ih m ((c :: r).drop k) l1 l2;simp only [e]
def cP (cs:List Nat):Option (List Dt):=gy cs.length cs
theorem fe {c:Nat} {r:List Nat}:cP (c :: r)=match bU (c :: r) with
  | none=>none
  | some k=>if c=32 then cP ((c :: r).drop k) else match mkW ((c :: r).take k) with
   | none=>none
   | some w=>(cP ((c :: r).drop k)).map (w :: ·):=by
 unfold cP;show gy (r.length+1) (c :: r)=_;simp only [gy]
 cases hk:bU (c :: r) with
 | none=>rfl
 | some k =>
  obtain ⟨k1,k2⟩:=dG hk;have e:=oX r.length ((c :: r).drop k).length ((c :: r).drop k) (by rw [List.length_drop];simp only [List.length_cons];lia) (Nat.le_refl _);simp only [e]
theorem xv {c:Nat} (h:aD figS c=true):c≠45:=by
 intro e;subst e
 revert h
 decide +kernel
theorem lP {L:Str}:∀ (cs:List Nat),cs.take (bp L cs)=cs.takeWhile (aD L)
 | []=>rfl
 | c :: cs=>by
  unfold bp;rw [List.takeWhile_cons]
  split
  ·have:=lP (L:=L) cs;unfold bp at this;rw [List.length_cons,List.take_succ_cons,this]
  ·rfl
theorem qy {p:Nat→Bool}:∀ {l:List Nat} {x:Nat},x∈l.takeWhile p→p x=true
 | [],x,h=>by simp at h
 | c :: l,x,h=>by
  rw [List.takeWhile_cons] at h
  split at h
  ·rename_i hc
   rcases List.mem_cons.mp h with rfl | h
   ·exact hc
   ·exact qy h
  ·simp at h
theorem mZ {cs:List Nat} {k:Nat} (h:bU cs=some k):(cs.take k).length≤((cs.take k).dropWhile (· == 45)).length+1:=by
 obtain ⟨k1,k2⟩:=dG h
 cases cs with
 | nil=>cases h
 | cons c r =>
  obtain ⟨k,rfl⟩:∃ j,k=j+1:=⟨k - 1,by lia⟩;rw [List.take_succ_cons]
  by_cases hc:c=45
  ·subst hc;have e:r.take k=(r.takeWhile (aD figS))∨k=0:=by
    simp only [bU] at h;rw [if_neg (by decide),if_neg (by decide +kernel),if_pos (.inl trivial)] at h;have:k=bp figS r:=by injection h;lia
    rw [this,lP];exact .inl rfl
   rw [List.dropWhile_cons,if_pos (by rfl)];rcases e with e | e
   ·rw [e];have e2:(r.takeWhile (aD figS)).dropWhile (· == 45)=r.takeWhile (aD figS):=by
     cases hr:r.takeWhile (aD figS) with
     | nil=>rfl
     | cons d t =>
      have hd:aD figS d=true:=qy (l:=r) (by rw [hr];exact List.mem_cons_self);rw [List.dropWhile_cons,if_neg (by simpa using xv hd)]
    rw [e2,List.length_cons];exact Nat.le_refl _
   ·subst e;simp
  ·rw [List.dropWhile_cons,if_neg (by simpa using hc)];lia
theorem oY {z:Str} {a k:Nat} (h:a+k≤z.length):Txt.slice z (some (a:Int)) (some ((a+k:Nat):Int))=aB ((z.cps.toList.drop a).take k):=by
 rw [eq_of_beq (slice_closesL (x:=z) (i:=(a:Int)) (j:=((a+k:Nat):Int)) (by lia) (by lia) (by lia))];unfold aB;rw [Int.toNat_natCast,show (((a+k:Nat):Int) - (a:Int)).toNat=k by lia]
def lQ (K:PySem.W.Frag) (ad:Ads):Sp:=fun vs H Q E=>∃ z:Str,vs=[.str z]∧z.length≤100000 ∧
 (∀ toks,cP z.cps.toList=some toks→eC toks≤40→∀ l ws H',H l=none→Same H H'→H' l=some (.lst ws)→IsPs K H' toks ws→Q (.ref l) H') ∧
 ((∀ toks,cP z.cps.toList=some toks→¬ eC toks≤40)→∀ H',Same H H'→E (.ref ad.BadText) none H')
theorem lR (T:Tx K mg ad) {f:Addr} {fd:FuncData} (F:Gn K mg "words_of" eL ["text"] f fd):FnOk P w K mg base (CXE P w) 3 f fd ["text"] (lQ K ad):=by
 obtain ⟨_,_,EO⟩:=T.word_end;have FP:=lJ (P:=P) (w:=w) (base:=base) T EO;obtain ⟨_,_,EG⟩:=T.made_word;have FI:=ki (P:=P) (w:=w) (base:=base) T EG;obtain ⟨_,_,EM⟩:=T.deepest_brackets;have E4:=er (P:=P) (w:=w) (base:=base) T EM;obtain ⟨t_BLANK,c_BLANK⟩:=T.BLANK;obtain ⟨t_MOST_BRACKETS,c_MOST_BRACKETS⟩:=T.MOST_BRACKETS;refine F.F.okW bS (fun vs H Q E h=>?_) (fun cdv A outer s H vs Q E hr h=>?_)
 ·obtain ⟨z,rfl,_⟩:=h
  rfl
 obtain ⟨z,rfl,hz,q1,q2⟩:=h;refine ⟨_,(@pss_cons _ _ _ _ _ (@ps_set _ _ 1 _ _ _ _ bS.nd rfl (Or.inl rfl) (@bA _ _ _ _ fM) (by rfl) (by first | exact .inl rfl | exact .inr rfl | assumption)) (@pss_cons _ _ _ _ _ (@ps_set _ _ 2 _ _ _ _ bS.nd rfl (Or.inl rfl) pe_int (by rfl) (by first | exact .inl rfl | exact .inr rfl | assumption)) (@pss_cons _ _ _ _ _ (lA fun ok=>eV (dC ok.frames rfl ok.frf) (pt_cmpR kU (pv 2) (pe_callB call_len_str rfl T.z_len PySem.boot_len (@pa1 _ _ _ (pv 0) (by rfl))) (nomark _))
    (@pss_cons _ _ _ _ _ (@ps_set _ _ 3 _ _ _ _ bS.nd rfl (Or.inl rfl) (pe_call FP (hr.mono (by first | decide | lia)) rfl EO.m EO.F.kp EO.b .nil (wing_on rfl rfl rfl) (@pa2 _ _ _ _ _ (pv 0) (pv 2) (by rfl) (by rfl))) (by rfl) (by first | exact .inl rfl | exact .inr rfl | assumption)) (@pss_cons _ _ _ _ _ (@ps_if _ _ _ _ _ _ _ _ (pt_cmpR op_ne (@pe_ix _ _ _ _ _ _ _ ix_str (pv 0) (pv 2) (fun _ _=>rfl)) (aS rfl c_BLANK) (nomark _)) (@pss_one _ _ _ (@ps_expr _ _ _ _ (pe_bm PySem.F.plainAttrs_list PySem.F.slot_list_append PySem.F.type_list_append cM (pv 1) (@pa1 _ _ _ (pe_call FI (hr.mono (by first | decide | lia)) rfl EG.m EG.F.kp EG.b .nil (wing_on rfl rfl rfl) (@pa1 _ _ _ (pe_slice sl_str (pv 0) (po_some (pv 2)) (po_some (pv 3))) (by rfl))) (by rfl))) (by rfl))) pss_nil) (@pss_one _ _ _ (@ps_set _ _ 2 _ _ _ _ bS.nd rfl (Or.inl rfl) (pv 3) (by rfl) (by first | exact .inl rfl | exact .inr rfl | assumption)))))) (@pss_cons _ _ _ _ _ (@ps_if _ _ _ _ _ _ _ _ (pt_cmpR op_gt (pcl EM E4 (hr.mono (by lia)) rfl (@pa1 _ _ _ (pv 1) (by rfl))) (gN rfl c_MOST_BRACKETS) (nomark _)) (@pss_one _ _ _ (ps_raiseW rfl rfl rfl rfl T.x_BadText rfl (@pa1 _ _ _ pe_str (by rfl)))) pss_nil) (@pss_one _ _ _ (@ps_ret _ _ _ _ (pv 1))))))),?_⟩
 refine ⟨(by show 0≤sizeLine;decide),fun l hl=>?_⟩;refine ⟨fun m σ H'=>∃ (a:Nat) (toks:List Dt) (ws:List V) (v3:Option V),a≤z.length∧m=z.length - a∧Same H H'∧H' l=some (.lst ws)∧IsPs K H' toks ws∧toks.length≤a∧(∀ d∈toks,oW d)∧(cP (z.cps.toList.drop a)).map (toks++·)=cP z.cps.toList∧σ=[some (.str z),some (.ref l),some (.int a),v3],
  ⟨_,0,[],[],none,Nat.zero_le _,rfl,ax hl _,ac,.nil,Nat.le_refl _,(fun d hd=>nomatch hd),(by simp),rfl⟩,?_⟩
 rintro m σ H1 ⟨a,toks,ws,v3,ha,rfl,g1,f1,hp,ht,hT,hL,rfl⟩;refine ⟨_,rfl,_,rfl,z,rfl,bL hz,_,_,rfl,rfl,_,rfl,bu (fun c=>?_) (fun c=>?_)⟩
 ·have hlt:a < z.length:=by have:=of_decide_eq_true c;lia
  obtain ⟨ch,hch⟩:∃ ch,z.cps.toList[a]?=some ch:=⟨_,List.getElem?_eq_getElem (by rw [aq];exact hlt)⟩;have hd:z.cps.toList.drop a=ch :: z.cps.toList.drop (a+1):=by
   obtain ⟨h1,h2⟩:=List.getElem?_eq_some_iff.mp hch;rw [List.drop_eq_getElem_cons h1,h2]
  have hs:=fe (c:=ch) (r:=z.cps.toList.drop (a+1));rw [← hd] at hs;refine ⟨fun σ' H'=>∃ (a':Nat) (toks:List Dt) (ws:List V) (v3:Option V),a < a'∧a'≤z.length∧Same H H'∧H' l=some (.lst ws)∧IsPs K H' toks ws∧toks.length≤a'∧(∀ d∈toks,oW d)∧(cP (z.cps.toList.drop a')).map (toks++·)=cP z.cps.toList∧σ'=[some (.str z),some (.ref l),some (.int a'),v3],
   fun σ' H' ⟨a',toks',ws',v',h1,h2,r⟩=>⟨z.length - a',by lia,a',toks',ws',v',h2,rfl,r⟩,?_⟩
  cases hk:bU (z.cps.toList.drop a) with
  | none =>
   rw [hk] at hs;refine ⟨_,rfl,_,rfl,z,a,rfl,hlt,hz,(fun k e=>by rw [hk] at e;cases e),fun _ H2 g2=>q2 (fun t h=>?_) H2 (g1.trans g2)⟩;rw [← hL,hs] at h
   cases h
  | some k =>
   rw [hk] at hs;obtain ⟨k1,k2⟩:=dG hk;rw [List.length_drop,aq] at k2;refine ⟨_,rfl,_,rfl,z,a,rfl,hlt,hz,(fun k' e=>?_),fun e=>by rw [hk] at e;cases e⟩;rw [hk] at e
   cases e
   refine ⟨_,rfl,_,rfl,z,_,ch,rfl,rfl,bL hz,lH hch,rfl,_,rfl,?_⟩;rw [sS,fc];dsimp only at hs;rw [List.drop_drop] at hs
   by_cases h32:ch=32
   ·rw [if_pos h32] at hs;rw [decide_eq_true h32];refine bx ⟨_,rfl,a+k,toks,ws,_,by lia,by lia,g1,f1,hp,by lia,hT,?_,rfl⟩;rw [← hs];exact hL
   ·rw [if_neg h32] at hs;rw [decide_eq_false h32];have es:=oY (z:=z) (a:=a) (k:=k) (by lia);have ec:(aB ((z.cps.toList.drop a).take k)).cps.toList=(z.cps.toList.drop a).take k:=rfl;have el:(aB ((z.cps.toList.drop a).take k)).length=k:=by
     rw [← aq,ec,List.length_take,List.length_drop,aq];lia
    refine bT ⟨_,rfl,.inl ⟨rfl,_,SqL.of f1⟩,_,rfl,_,rfl,_,rfl,_,rfl,_,rfl,z,rfl,bL hz,?_⟩;rw [es];refine ⟨_,rfl,by lia,by lia,(by
     have:=mZ hk;rw [← ec] at this;rw [aq] at this;exact this),fun d e v H2 g2 hv=>?_,fun e H2 g2=>q2 (fun t h=>?_) H2 (g1.trans g2)⟩
    ·rw [ec] at e;rw [e] at hs;dsimp only at hs;have lw:=hp.length;refine ⟨l,ws,_,rfl,rfl,g2 _ _ f1,Nat.lt_of_lt_of_le (show ws.length < 100000 by lia) (by decide),?_⟩;refine ⟨_,rfl,a+k,toks++[d],ws++[v],_,by lia,by lia,?_,ac,?_,by rw [List.length_append];simp only [List.length_cons,List.length_nil];lia,fun d' hd'=>?_,?_,rfl⟩
     ·intro b o eb;rw [af (am eb hl)];exact g2 _ _ (g1 _ _ eb)
     ·exact ((hp.same g2).but (g2 _ _ f1) But.put).append (.cons (hv.but (g2 _ _ f1) But.put) .nil)
     ·rcases List.mem_append.mp hd' with h | h
      ·exact hT d' h
      ·obtain rfl:=List.mem_singleton.mp h;exact nP e
     ·rw [← hL,hs,Option.map_map]
      congr 1
      funext x
      simp
    ·rw [ec] at e;rw [← hL,hs,e] at h
     cases h
 ·have e:a=z.length:=by
   have c':¬ ((a:Int) < (z.length:Int)):=fun h=>c (decide_eq_true h);lia
  have hN:cP z.cps.toList=some toks:=by
   rw [← hL,List.drop_eq_nil_of_le (by rw [aq];lia)];show some (toks++[])=_;rw [List.append_nil]
  refine ⟨_,rfl,l,ws,toks,rfl,f1,hp,hT,_,_,rfl,rfl,_,rfl,bu (fun c2=>?_) (fun c2=>?_)⟩
  ·refine ⟨sz1,q2 (fun t h=>?_) _ g1⟩;rw [hN] at h
   cases h
   have:=of_decide_eq_true c2;lia
  ·refine ⟨_,rfl,q1 toks hN ?_ l ws _ hl g1 f1 hp⟩;have c':¬ (40 < eC toks):=fun h=>c2 (decide_eq_true h);lia
abbrev Tk:=Str×Key
def tkD (t:Tk):Dt:=mk2 t.1 (kDt t.2)
def toTk:Dt→Tk
 | .tup [.str w,.str s]=>(w,.inr s)
 | .tup [.str w,.int n]=>(w,.inl n)
 | _=>("",.inl 0)
theorem lS:∀ {toks:List Dt},(∀ d∈toks,oW d)→(toks.map toTk).map tkD=toks
 | [],_=>rfl
 | d :: toks,h=>by
  have:=lS (toks:=toks) fun d hd=>h d (List.mem_cons_of_mem _ hd);rw [List.map_cons,List.map_cons,this];obtain ⟨w,x,rfl,hx⟩:=h d List.mem_cons_self;rcases hx with ⟨s,rfl⟩ | ⟨_,n,rfl⟩ <;> rfl
abbrev kj:Tk:=(("end" : Str),.inr "")
abbrev ae (m:Str):Tk:=(("mark" : Str),.inr m)
def ag (ts:List Tk) (p:Nat):Tk:=ts[p]?.getD kj
abbrev iY (l:Addr) (p:Nat):List (Str×V):=[("all_words",.ref l),("place",.int p)]
theorem sT:¬ (("all_words" : Str)= "place"):=by decide +kernel
theorem lT (l:Addr) (p:Nat) (y:Int):cT "place" (.int y) (iY l p)=([("all_words",V.ref l),("place",V.int y)]:List (Str×V)):=by
 show (if ("all_words" : Str)= "place" then _ else (("all_words" : Str),V.ref l) :: (if ("place" : Str)= "place" then [(("place" : Str),V.int y)] else _))=_;rw [if_neg sT,if_pos rfl]
theorem iw (l:Addr) (p:Nat):(iY l p).lookup ("all_words" : Str)=some (.ref l):=by
 rw [List.lookup_cons];simp
theorem eK (l:Addr) (p:Nat):(iY l p).lookup ("place" : Str)=some (.int p):=by
 have:(("place" : Str) == "all_words")=false:=by decide +kernel
 rw [List.lookup_cons,this,List.lookup_cons];simp
theorem ao (l:Addr) (p:Nat) {m:Str} (h1:(m == "all_words")=false) (h2:(m == "place")=false):(iY l p).lookup m=none:=by
 rw [List.lookup_cons,h1,List.lookup_cons,h2]
 rfl
def RowAt (K:PySem.W.Frag) (C:Addr) (H:Hp) (x l:Addr) (ts:List Tk) (p:Nat):Prop:=∃ dx ws,H x=some (.ins C dx (iY l p))∧H l=some (.lst ws)∧IsPs K H (ts.map tkD) ws∧l≠x∧ts.length≤100000∧∀ t∈ts,t.1= "word" →∃ s,t.2=Sum.inr s
theorem RowAt.same {K:PySem.W.Frag} {C:Addr} {H H':Hp} {x l:Addr} {ts:List Tk} {p:Nat} (h:RowAt K C H x l ts p) (g:Same H H'):RowAt K C H' x l ts p:=by
 obtain ⟨dx,ws,h1,h2,h3,h4⟩:=h;exact ⟨dx,ws,g _ _ h1,g _ _ h2,h3.same g,h4⟩
def gz (K:PySem.W.Frag) (ad:Ads):Sp:=fun vs H Q E=>∃ (x dx:Addr) (z:Str),vs=[.ref x,.str z]∧H x=some (.ins ad.WordRow dx [])∧z.length≤100000 ∧
 (∀ toks,cP z.cps.toList=some toks→eC toks≤40→∀ l H',H l=none→But x H H'→RowAt K ad.WordRow H' x l (toks.map toTk) 0→Q .non H') ∧
 ((∀ toks,cP z.cps.toList=some toks→¬ eC toks≤40)→∀ H',Same H H'→E (.ref ad.BadText) none H')
theorem sm:∀ (n:Nat) (cs:List Nat) (toks:List Dt),gy n cs=some toks→(∀ d∈toks,oW d)∧toks.length≤cs.length:=by
 intro n
 induction n with
 | zero=>intro cs toks h;cases h;exact ⟨fun d hd=>(by simp at hd),Nat.zero_le _⟩
 | succ n ih =>
  intro cs toks h
  cases cs with
  | nil=>cases h;exact ⟨fun d hd=>(by simp at hd),Nat.zero_le _⟩
  | cons c r =>
   simp only [gy] at h
   cases hk:bU (c :: r) with
   | none=>rw [hk] at h;cases h
   | some k =>
    rw [hk] at h;obtain ⟨k1,k2⟩:=dG hk;have ld:((c :: r).drop k).length=(c :: r).length - k:=List.length_drop;dsimp only at h
    split at h
    ·obtain ⟨a,b⟩:=ih _ _ h;exact ⟨a,by lia⟩
    ·cases hm:mkW ((c :: r).take k) with
     | none=>rw [hm] at h;cases h
     | some w =>
      rw [hm] at h;obtain ⟨t,ht,rfl⟩:=Option.map_eq_some_iff.mp h;obtain ⟨a,b⟩:=ih _ _ ht;refine ⟨fun d hd=>?_,by rw [List.length_cons];lia⟩;rcases List.mem_cons.mp hd with rfl | hd
      ·exact nP hm
      ·exact a d hd
theorem qz {cs:List Nat} {d:Dt} (h:mkW cs=some d) (hw:(toTk d).1= "word"):∃ s,(toTk d).2=Sum.inr s:=by
 unfold mkW at h
 split at h
 ·cases h;exact ⟨_,rfl⟩
 split at h
 ·cases h;exact ⟨_,rfl⟩
 split at h
 ·cases h;exact ⟨_,rfl⟩
 split at h
 ·obtain ⟨n,_,rfl⟩:=Option.map_eq_some_iff.mp h;exact absurd (show (Str.ofString "number")=Str.ofString "word" from hw) (by decide +kernel)
 ·cases h
theorem oZ:∀ (n:Nat) (cs:List Nat) (toks:List Dt),gy n cs=some toks→∀ d∈toks,(toTk d).1= "word" →∃ s,(toTk d).2=Sum.inr s:=by
 intro n
 induction n with
 | zero=>intro cs toks h;cases h;exact fun d hd=>(by simp at hd)
 | succ n ih =>
  intro cs toks h
  cases cs with
  | nil=>cases h;exact fun d hd=>(by simp at hd)
  | cons c r =>
   simp only [gy] at h
   cases hk:bU (c :: r) with
   | none=>rw [hk] at h;cases h
   | some k =>
    rw [hk] at h;dsimp only at h
    split at h
    ·exact ih _ _ h
    ·cases hm:mkW ((c :: r).take k) with
     | none=>rw [hm] at h;cases h
     | some w =>
      rw [hm] at h;obtain ⟨t,ht,rfl⟩:=Option.map_eq_some_iff.mp h;intro d hd hw;rcases List.mem_cons.mp hd with rfl | hd
      ·exact qz hm hw
      ·exact ih _ _ ht d hd hw
theorem gA (T:Tx K mg ad) {f:Addr} {fd:FuncData} (F:Mi K ad.WordRow "__init__" "WordRow.__init__" cp ["self","text"] f fd):FnOk P w K mg base (CXE P w) 4 f fd ["self","text"] (gz K ad):=by
 obtain ⟨_,_,EQ⟩:=T.words_of;have FN:=lR (P:=P) (w:=w) (base:=base) T EQ;refine F.F.okW gH (fun vs H Q E h=>?_) (fun cdv A outer s H vs Q E hr h=>?_)
 ·obtain ⟨x,dx,z,rfl,_⟩:=h
  rfl
 obtain ⟨x,dx,z,rfl,hx,hz,q1,q2⟩:=h;refine ⟨_,(@pss_cons _ _ _ _ _ (pL (pv 0) (pe_call FN (hr.mono (by first | decide | lia)) rfl EQ.m EQ.F.kp EQ.b .nil (wing_on rfl rfl rfl) (@pa1 _ _ _ (pv 1) (by rfl))) rfl) (@pss_one _ _ _ (pL (pv 0) pe_int rfl))),?_⟩;refine ⟨_,rfl,z,rfl,hz,fun toks hL hB l ws H1 hl g1 f1 hp=>?_,fun h H1 g1=>q2 h H1 g1⟩;have hlx:l≠x:=fun c=>by subst c;rw [hx] at hl;cases hl
 refine ⟨_,rfl,x,ad.WordRow,dx,[],rfl,g1 _ _ hx,T.c_WordRow,T.n_WordRow_all_words,(by show 0 < 1000;decide),_,rfl,x,ad.WordRow,dx,_,rfl,ac,T.c_WordRow,T.n_WordRow_place,(by show 1 < 1000;decide),?_⟩;obtain ⟨t1,t2⟩:=sm _ _ _ hL;refine q1 toks hL hB l _ hl (fun b o nb eb=>by rw [af nb,af nb];exact g1 _ _ eb) ⟨dx,ws,?_,?_,?_,hlx,by rw [List.length_map];rw [aq] at t2;lia,fun t ht hw=>?_⟩
 ·rw [ac];show some (HO.ins _ _ (if ("all_words" : Str)= "place" then _ else (("all_words" : Str),V.ref l) :: cT "place" (V.int 0) []))=_;rw [if_neg sT]
  rfl
 ·rw [af hlx,af hlx];exact f1
 ·rw [lS t1];exact aL (p:=x) (by rw [g1 _ _ hx];exact True.intro) (fun b o nb eb=>by rw [af nb,af nb];exact eb) hp
 ·obtain ⟨d,hd,rfl⟩:=List.mem_map.mp ht;exact oZ _ _ _ hL d hd hw
def fg (K:PySem.W.Frag) (ad:Ads):Sp:=fun vs H Q _=>∃ (x l:Addr) (ts:List Tk) (p k:Nat),vs=[.ref x,.int k]∧RowAt K ad.WordRow H x l ts p∧∀ v,IsD K H (tkD (ag ts (p+k))) v→Q v H
theorem aM (T:Tx K mg ad) {f:Addr} {fd:FuncData} (F:Mn K ad.WordRow "coming" "WordRow.coming" bJ ["self","ahead"] f fd):FnOk P w K mg base CX0 1 f fd ["self","ahead"] (fg K ad):=by
 obtain ⟨c_END,s_END⟩:=T.END;refine F.F.ok cF (fun vs H Q E h=>?_) (fun cdv A outer s H vs Q E hr h=>?_)
 ·obtain ⟨x,l,ts,p,k,rfl,_⟩:=h
  rfl
 obtain ⟨x,l,ts,p,k,rfl,⟨dx,ws,hx,hl,hp,hlx,h5⟩,q⟩:=h;refine ⟨_,(@pss_cons _ _ _ _ _ (@ps_set _ _ 2 _ _ _ _ cF.nd rfl (Or.inl rfl) (@ah _ _ _ _ _ _ _ _ aQ (mo (pv 0) rfl) (pv 1)) (by rfl) (by first | exact .inl rfl | exact .inr rfl | assumption)) (@pss_one _ _ _ (@ps_ret _ _ _ _ (gT (pt_cmpR kU (pv 2) (pe_callB (bo (K:=K) rfl) rfl T.z_len PySem.boot_len (@pa1 _ _ _ (mo (pv 0) rfl) (by rfl))) (nomark _)) (@pe_ix _ _ _ _ _ _ _ (bn (K:=K) rfl) (mo (pv 0) rfl) (pv 2) (fun _ _=>rfl)) (e8 rfl c_END))))),?_⟩;have lw:=hp.length;rw [List.length_map] at lw;refine ⟨_,rfl,x,ad.WordRow,dx,_,_,rfl,hx,T.c_WordRow,T.n_WordRow_place,eK l p,_,rfl,_,_,rfl,rfl,?_⟩;refine ⟨_,rfl,_,rfl,x,ad.WordRow,dx,_,_,rfl,hx,T.c_WordRow,T.n_WordRow_all_words,iw l p,l,_,rfl,.inl (SqL.of hl),_,_,rfl,rfl,_,rfl,bu (fun c=>?_) (fun c=>?_)⟩
 ·have hlt:p+k < ts.length:=by have:=of_decide_eq_true c;lia
  obtain ⟨v,hv,hd⟩:=hp.get (i:=p+k) (d:=tkD ts[p+k]) (by rw [List.getElem?_map,List.getElem?_eq_getElem hlt];rfl);refine ⟨_,rfl,x,ad.WordRow,dx,_,_,rfl,hx,T.c_WordRow,T.n_WordRow_all_words,iw l p,_,rfl,l,_,_,_,rfl,rfl,SqL.of hl,(by rw [← Int.natCast_add];exact gM hv),?_⟩;refine q v ?_;unfold ag;rw [List.getElem?_eq_getElem hlt];exact hd.d
 ·have hge:ts.length≤p+k:=by
   have c':¬ ((p:Int)+(k:Int) < (ws.length:Int)):=fun h=>c (decide_eq_true h);lia
  refine q _ ?_;unfold ag;rw [List.getElem?_eq_none hge];exact .tup (s_END (140,["end",""]) (by simp) H) (.cons .str (.cons .str .nil))
def fY (K:PySem.W.Frag) (ad:Ads):Sp:=fun vs H Q _=>∃ (x l:Addr) (ts:List Tk) (p:Nat) (m:Str),vs=[.ref x,.str m]∧RowAt K ad.WordRow H x l ts p∧∀ H',Same H H'→Q (.bl (decide (ag ts p=ae m))) H'
theorem m3 (t:Tk) (w:Str) (k:Key):eqD (tkD t) (mk2 w (kDt k))=decide (t=(w,k)):=by
 obtain ⟨w',k'⟩:=t;rw [Bool.eq_iff_iff]
 cases k <;> cases k' <;> simp [tkD,mk2,kDt,eqD,fQ]
theorem m4 (t:Tk):(tkD t).dep≤60:=by
 obtain ⟨w,k⟩:=t
 cases k <;> simp [tkD,mk2,kDt,Dt.dep,mI]
theorem be (T:Tx K mg ad) {f:Addr} {fd:FuncData} (F:Mn K ad.WordRow "comes" "WordRow.comes" bX ["self","mark"] f fd):FnOk P w K mg base CX0 2 f fd ["self","mark"] (fY K ad):=by
 obtain ⟨_,_,DZ⟩:=T.m_WordRow_coming;have D6:=aM (P:=P) (w:=w) (base:=base) T DZ;refine F.F.ok gh (fun vs H Q E h=>?_) (fun cdv A outer s H vs Q E hr h=>?_)
 ·obtain ⟨x,l,ts,p,m,rfl,_⟩:=h
  rfl
 obtain ⟨x,l,ts,p,m,rfl,hR,q⟩:=h;refine ⟨_,(@pss_one _ _ _ (@ps_ret _ _ _ _ (aR (nK (K:=K) rfl hr.units) (pe_meth (pv 0) T.c_WordRow DZ.meth D6 (hr.mono (by first | decide | lia)) DZ.b .nil dA (@pa1 _ _ _ pe_int (by rfl))) (@pe_tupPK _ K _ _ _ _ rfl (@pa2 _ _ _ _ _ pe_str (pv 1) (by rfl) (by rfl))) (nomark _)))),?_⟩;obtain ⟨dx,ws,hx,_⟩:=id hR;refine ⟨_,rfl,x,dx,_,rfl,hx,ao l p (by decide +kernel) (by decide +kernel),x,l,ts,p,0,rfl,hR,fun v hv=>?_⟩;refine ⟨_,rfl,[.str "mark",.str m],.cons .str (.cons .str .nil),sz2,fun v2 H1 g1 hv2=>?_⟩;refine ⟨_,_,hv.same g1,hv2.d,m4 _,?_⟩;have:=q H1 g1;rw [← m3] at this;exact this
def gB (K:PySem.W.Frag) (ad:Ads):Sp:=fun vs H Q E=>∃ (x l:Addr) (ts:List Tk) (p:Nat) (s:Str),vs=[.ref x,.str s]∧RowAt K ad.WordRow H x l ts p ∧
 ((ag ts p).1=s→∀ H',But x H H'→RowAt K ad.WordRow H' x l ts (p+1)→Q (kV (ag ts p).2) H')∧(¬ (ag ts p).1=s→E (.ref ad.BadText) none H)
theorem RowAt.next {K:PySem.W.Frag} {C:Addr} {H:Hp} {x dx l:Addr} {ws:List V} {ts:List Tk} {p q:Nat} (hx:H x=some (.ins C dx (iY l p))) (hl:H l=some (.lst ws)) (hp:IsPs K H (ts.map tkD) ws) (hlx:l≠x) (h5:ts.length≤100000∧∀ t∈ts,t.1= "word" →∃ s,t.2=Sum.inr s) :
  RowAt K C (upd H x (.ins C dx (iY l q))) x l ts q :=
 ⟨dx,ws,ac,by rw [af hlx];exact hl,aL (p:=x) (by rw [hx];exact True.intro) But.put hp,hlx,h5⟩
theorem xw {K:PySem.W.Frag} {H:Hp} {t:Tk} {v:V} (h:IsD K H (tkD t) v):∃ a,v=.ref a∧SqT K H a [.str t.1,kV t.2]:=by
 obtain ⟨a,xs,rfl,ha,r⟩:=IsD.unref h
 cases r with
 | cons h1 r =>
  cases r with
  | cons h2 r =>
   cases r
   cases h1
   refine ⟨a,rfl,?_⟩;obtain ⟨w,k⟩:=t
   cases k <;> (cases h2;exact ha)
theorem aV (T:Tx K mg ad) {f:Addr} {fd:FuncData} (F:Mn K ad.WordRow "take" "WordRow.take" cq ["self","sort"] f fd):FnOk P w K mg base (CXE P w) 2 f fd ["self","sort"] (gB K ad):=by
 obtain ⟨_,_,DZ⟩:=T.m_WordRow_coming;have D6:=aM (P:=P) (w:=w) (base:=base) T DZ;refine F.F.okW dz (fun vs H Q E h=>?_) (fun cdv A outer s H vs Q E hr h=>?_)
 ·obtain ⟨x,l,ts,p,s,rfl,_⟩:=h
  rfl
 obtain ⟨x,l,ts,p,s,rfl,hR,q1,q2⟩:=h;refine ⟨_,(@pss_cons _ _ _ _ _ (@ps_set _ _ 2 _ _ _ _ dz.nd rfl (Or.inl rfl) (pe_meth (pv 0) T.c_WordRow DZ.meth D6 (hr.mono (by first | decide | lia)) DZ.b .nil dA (@pa1 _ _ _ pe_int (by rfl))) (by rfl) (by first | exact .inl rfl | exact .inr rfl | assumption)) (@pss_cons _ _ _ _ _ (@ps_if _ _ _ _ _ _ _ _ (pt_cmpR op_ne (@pe_ix _ _ _ _ _ _ _ (ix_tupDN (K:=K) rfl) (pv 2) pe_int (fun _ _=>rfl)) (pv 1) (nomark _)) (@pss_one _ _ _ (ps_raiseW rfl rfl rfl rfl T.x_BadText rfl (@pa1 _ _ _ pe_str (by rfl)))) pss_nil) (@pss_cons _ _ _ _ _ (ps_fldaug (pv 0) pe_int ip_add) (@pss_one _ _ _ (@ps_ret _ _ _ _ (@pe_ix _ _ _ _ _ _ _ (ix_tupDN (K:=K) rfl) (pv 2) pe_int (fun _ _=>rfl))))))),?_⟩;obtain ⟨dx,ws,hx,hl,hp,hlx,h5⟩:=id hR;refine ⟨_,rfl,x,dx,_,rfl,hx,ao l p (by decide +kernel) (by decide +kernel),x,l,ts,p,0,rfl,hR,fun v hv=>?_⟩;rw [Nat.add_zero] at hv;have hv':IsD K H (.tup [.str (ag ts p).1,kDt (ag ts p).2]) v:=hv;refine ⟨_,rfl,_,_,_,hv',rfl,at0 _ _,fun v1 hv1=>?_⟩;obtain rfl:v1=.str (ag ts p).1:=by cases hv1;rfl
 refine ⟨_,rfl,rfl,_,rfl,?_⟩
 by_cases hs:(ag ts p).1=s
 ·rw [hs];refine gn ⟨_,rfl,x,ad.WordRow,dx,_,_,rfl,hx,T.c_WordRow,T.n_WordRow_place,eK l p,_,_,rfl,rfl,dx,_,hx,(by show 2 < 1000;decide),?_⟩;rw [lT,show (fun i j:Int=>i+j) (p:Int) 1=((p+1:Nat):Int) from (by show (p:Int)+1=_;lia)];have hn:RowAt K ad.WordRow (upd H x (.ins ad.WordRow dx (iY l (p+1)))) x l ts (p+1):=.next hx hl hp hlx h5;obtain ⟨a,rfl,ha⟩:=xw hv;have ha':SqT K (upd H x (.ins ad.WordRow dx (iY l (p+1)))) a [.str (ag ts p).1,kV (ag ts p).2]:=by
   rcases ha with (ha | ⟨o,ha⟩) | ha
   ·exact .inl (.inl (by rw [af (jo ha hx (by intro z;cases z))];exact ha))
   ·exact .inl (.inr ⟨o,by rw [af (jo ha hx (by intro z;cases z))];exact ha⟩)
   ·exact .inr ha
  have hk:IsD K (upd H x (.ins ad.WordRow dx (iY l (p+1)))) (.tup [.str (ag ts p).1,kDt (ag ts p).2]) (.ref a):=.tup ha' (.cons .str (.cons (by cases (ag ts p).2 <;> constructor) .nil));refine ⟨_,rfl,_,_,_,hk,rfl,rfl,fun v2 hv2=>?_⟩;have e2:v2=kV (ag ts p).2:=by
   revert hv2
   generalize (ag ts p).2=k
   intro hv2
   cases k <;> (cases hv2;rfl)
  rw [e2];exact q1 hs _ But.put hn
 ·exact qp (aY hs) ⟨sz1,q2 hs⟩
def dH (K:PySem.W.Frag) (ad:Ads):Sp:=fun vs H Q E=>∃ (x l:Addr) (ts:List Tk) (p:Nat) (m:Str),vs=[.ref x,.str m]∧RowAt K ad.WordRow H x l ts p ∧
 (ag ts p=ae m→∀ H',But x H H'→RowAt K ad.WordRow H' x l ts (p+1)→Q .non H')∧(¬ ag ts p=ae m→∀ H',Same H H'→E (.ref ad.BadText) none H')
theorem ay (T:Tx K mg ad) {f:Addr} {fd:FuncData} (F:Mn K ad.WordRow "take_mark" "WordRow.take_mark" bj ["self","mark"] f fd):FnOk P w K mg base (CXE P w) 3 f fd ["self","mark"] (dH K ad):=by
 obtain ⟨_,_,D3⟩:=T.m_WordRow_comes;have Ed:=be (P:=P) (w:=w) (base:=base) T D3;refine F.F.okW ee (fun vs H Q E h=>?_) (fun cdv A outer s H vs Q E hr h=>?_)
 ·obtain ⟨x,l,ts,p,m,rfl,_⟩:=h
  rfl
 obtain ⟨x,l,ts,p,m,rfl,hR,q1,q2⟩:=h;refine ⟨_,(@pss_cons _ _ _ _ _ (@ps_if _ _ _ _ _ _ _ _ (@pt_not _ _ _ _ (@pt_val _ _ _ (pe_meth (pv 0) T.c_WordRow D3.meth Ed (hr.mono (by first | decide | lia)) D3.b .nil dA (@pa1 _ _ _ (pv 1) (by rfl))) (by intro _;rfl))) (@pss_one _ _ _ (ps_raiseW rfl rfl rfl rfl T.x_BadText rfl (@pa1 _ _ _ pe_str (by rfl)))) pss_nil) (@pss_one _ _ _ (ps_fldaug (pv 0) pe_int ip_add))),?_⟩;obtain ⟨dx,ws,hx,hl,hp,hlx,h5⟩:=id hR;refine ⟨_,rfl,x,dx,_,rfl,hx,ao l p (by decide +kernel) (by decide +kernel),_,rfl,x,l,ts,p,m,rfl,hR,fun H1 g1=>?_⟩
 by_cases hs:ag ts p=ae m
 ·rw [decide_eq_true hs];refine ⟨_,rfl,bx ⟨_,rfl,x,ad.WordRow,dx,_,_,rfl,g1 _ _ hx,T.c_WordRow,T.n_WordRow_place,eK l p,_,_,rfl,rfl,dx,_,g1 _ _ hx,(by show 2 < 1000;decide),?_⟩⟩;rw [lT,show (fun i j:Int=>i+j) (p:Int) 1=((p+1:Nat):Int) from (by show (p:Int)+1=_;lia)];exact q1 hs _ (fun b o nb eb=>by rw [af nb];exact g1 _ _ eb) (.next (g1 _ _ hx) (g1 _ _ hl) (hp.same g1) hlx h5)
 ·rw [decide_eq_false hs];exact ⟨_,rfl,bT ⟨sz1,q2 hs H1 g1⟩⟩
inductive PR where
 | ok (v:Dt) (p:Nat)
 | err
 | out
def PR.bind (r:PR) (f:Dt→Nat→PR):PR:=match r with
 | .ok v p=>f v p
 | .err=>.err
 | .out=>.out
section
variable (ts:List Tk)
def bi (s:Str) (p:Nat):PR:=if (ag ts p).1=s then .ok (kDt (ag ts p).2) (p+1) else .err
def gp (m:Str) (p:Nat) (f:Nat→PR):PR:=if ag ts p=ae m then f (p+1) else .err
def eD (rd:Nat→PR) (cl:Str):Nat→Nat→List Dt→PR
 | 0,_,_=>.out
 | n+1,p,fs=>if ag ts p=ae cl then .ok (.tup fs) (p+1) else if 0 < fs.length then gp ts "," p fun p1=>(rd p1).bind fun v q=>eD rd cl n q (fs++[v]) else (rd p).bind fun v q=>eD rd cl n q (fs++[v])
def ix (rd:Nat→PR) (cl:Str) (p:Nat):PR:=eD ts rd cl (ts.length+1) p []
def dI (rd:Str→Nat→PR):List Str→Nat→List Dt→PR
 | [],p,fs=>gp ts ")" p fun q=>.ok (.tup fs) q
 | s :: r,p,fs=>if 1 < fs.length then gp ts "," p fun p1=>(rd s p1).bind fun v q=>dI rd r q (fs++[v]) else (rd s p).bind fun v q=>dI rd r q (fs++[v])
end
abbrev qA:List (Str×List Str):=[("number",["number","number"]),("text",["number"]),("list",["number","kind"]),("rows",["word","number","kind"])]
abbrev qB:List (Str×List Str):=[("bounds",["number","number"]),("scale",["number"]),("shrink",["number"]),("figures",["number"]),("number",["number","number"]),("cut",["number"]),("first",["number"]),("one",["number"]),("out",[]),("items",["turn"])]
abbrev m5:List (Str×List Str):=[("put",["word","kind","value"]),("drop",["word","value"]),("name",["word","word"]),("sink",["word","word"]),("lift",["word","word"]),("turn",["word","turn"]),("split",["word","text","word","word"]),("join",["word","word","text","word"]),("part",["word","number","word","word"]),("whole",["word","word","number","word","number","number"])]
def cx (k:Str):List (Str×List Str)→Option (List Str)
 | []=>none
 | (x,b) :: D=>if k=x then some b else cx k D
def aI (s w:Str):Option (List Str):=if s= "kind" then cx w qA else if s= "turn" then cx w qB else cx w m5
theorem lU {k:Str}:∀ {D:List (Str×Addr)} {F:List (Str×List Str)},D.map (·.1)=F.map (·.1)→(dE k D=none∧cx k F=none)∨∃ b fs,dE k D=some b∧cx k F=some fs∧(b,fs)∈(D.map (·.2)).zip (F.map (·.2))
 | [],[],_=>.inl ⟨rfl,rfl⟩
 | (x,b) :: D,(y,fs) :: F,h=>by
  have h':x=y∧D.map (·.1)=F.map (·.1):=by simpa using h
  obtain ⟨rfl,h'⟩:=h'
  by_cases e:k=x
  ·exact .inr ⟨b,fs,by simp [dE,e],by simp [cx,e],by simp⟩
  ·rcases lU (k:=k) h' with ⟨h1,h2⟩ | ⟨b',fs',h1,h2,h3⟩
   ·exact .inl ⟨by simp [dE,e,h1],by simp [cx,e,h2]⟩
   ·exact .inr ⟨b',fs',by simp [dE,e,h1],by simp [cx,e,h2],by
     rw [List.map_cons,List.map_cons,List.zip_cons_cons];exact List.mem_cons_of_mem _ h3⟩
def gC (K:PySem.W.Frag) (_:Ads):Sp:=fun vs H Q _=>∃ s w:Str,vs=[.str s,.str w]∧(match aI s w with
 | none=>Q .non H
 | some fs=>∀ b,(∀ H',SqT K H' b (fs.map V.str))→Q (.ref b) H)
theorem km {D:List (Str×Addr)} {F:List (Str×List Str)} {S:List (Addr×List Str)} {w:Str} {H:Hp} {Q:VK} (hS:ic K S) (e1:D.map (·.1)=F.map (·.1)) (e2:(D.map (·.2)).zip (F.map (·.2))=S)
  (q:match cx w F with
   | none=>Q .non H
   | some fs=>∀ b,(∀ H',SqT K H' b (fs.map V.str))→Q (.ref b) H):Q (match dE w D with | some b=>.ref b | none=>.non) H:=by
 rcases lU (k:=w) e1 with ⟨h1,h2⟩ | ⟨b,fs,h1,h2,h3⟩
 ·rw [h2] at q;rw [h1];exact q
 ·rw [h2] at q;rw [h1];rw [e2] at h3;exact q b fun H'=>hS _ h3 H'
theorem dr (T:Tx K mg ad) {f:Addr} {fd:FuncData} (F:Gn K mg "parts_behind" cm ["sort","word"] f fd):FnOk P w K mg base CX0 1 f fd ["sort","word"] (gC K ad):=by
 obtain ⟨c_KIND_PARTS,d_KIND_PARTS,s_KIND_PARTS⟩:=T.KIND_PARTS;obtain ⟨c_TURN_PARTS,d_TURN_PARTS,s_TURN_PARTS⟩:=T.TURN_PARTS;obtain ⟨c_PIECE_PARTS,d_PIECE_PARTS,s_PIECE_PARTS⟩:=T.PIECE_PARTS;refine F.F.ok gI (fun vs H Q E h=>?_) (fun cdv A outer s H vs Q E hr h=>?_)
 ·obtain ⟨s,w,rfl,_⟩:=h
  rfl
 obtain ⟨s,w,rfl,q⟩:=h;refine ⟨_,(@pss_cons _ _ _ _ _ (@ps_if _ _ _ _ _ _ _ _ (pt_cmpR op_eq (pv 0) pe_str (nomark _)) (@pss_one _ _ _ (@ps_ret _ _ _ _ (ik d_KIND_PARTS rfl c_KIND_PARTS (@pa1 _ _ _ (pv 1) (by rfl))))) pss_nil) (@pss_cons _ _ _ _ _ (@ps_if _ _ _ _ _ _ _ _ (pt_cmpR op_eq (pv 0) pe_str (nomark _)) (@pss_one _ _ _ (@ps_ret _ _ _ _ (ik d_TURN_PARTS rfl c_TURN_PARTS (@pa1 _ _ _ (pv 1) (by rfl))))) pss_nil) (@pss_one _ _ _ (@ps_ret _ _ _ _ (ik d_PIECE_PARTS rfl c_PIECE_PARTS (@pa1 _ _ _ (pv 1) (by rfl))))))),?_⟩;unfold aI at q;refine ⟨_,rfl,rfl,_,rfl,?_⟩
 by_cases h1:s= "kind"
 ·rw [if_pos h1] at q;subst h1;exact cY ⟨_,rfl,w,rfl,km s_KIND_PARTS rfl rfl q⟩
 rw [if_neg h1] at q;refine bZ (aY h1) ⟨_,rfl,rfl,_,rfl,?_⟩
 by_cases h2:s= "turn"
 ·rw [if_pos h2] at q;subst h2;exact cY ⟨_,rfl,w,rfl,km s_TURN_PARTS rfl rfl q⟩
 rw [if_neg h2] at q;exact bZ (aY h2) ⟨_,rfl,w,rfl,km s_PIECE_PARTS rfl rfl q⟩
def Rdd (K:PySem.W.Frag) (ad:Ads) (x l:Addr) (ts:List Tk) (H:Hp) (Q:VK) (E:XK) (r:PR):Prop:=match r with
 | .ok v q=>∀ y H',But x H H'→RowAt K ad.WordRow H' x l ts q→IsP K H' v y→Q y H'
 | .err=>∀ H',But x H H'→E (.ref ad.BadText) none H'
 | .out=>False
theorem Rdd.but {K:PySem.W.Frag} {ad:Ads} {x l:Addr} {ts:List Tk} {H H1:Hp} {Q:VK} {E:XK} {r:PR} (h:Rdd K ad x l ts H Q E r) (g:But x H H1):Rdd K ad x l ts H1 Q E r:=by
 cases r with
 | ok v q=>exact fun y H' g'=>h y H' (g.trans g')
 | err=>exact fun H' g'=>h H' (g.trans g')
 | out=>exact h
def gF (K:PySem.W.Frag) (ad:Ads):Sp:=fun vs H Q E=>∃ (l:List Dt) (y:V),vs=[y]∧IsP K H (.tup l) y∧l.length≤100000∧(l≠[]→Q y H)∧(l=[]→E (.ref ad.BadText) none H)
theorem gG (T:Tx K mg ad) {f:Addr} {fd:FuncData} (F:Gn K mg "at_least_one" cn ["parts"] f fd):FnOk P w K mg base (CXE P w) 1 f fd ["parts"] (gF K ad):=by
 refine F.F.okW gJ (fun vs H Q E h=>?_) (fun cdv A outer s H vs Q E hr h=>?_)
 ·obtain ⟨l,y,rfl,_⟩:=h
  rfl
 obtain ⟨l,y,rfl,hy,hl,q1,q2⟩:=h;refine ⟨_,(@pss_cons _ _ _ _ _ (@ps_if _ _ _ _ _ _ _ _ (pt_cmpR op_eq (pe_callB (mO (K:=K) rfl) rfl T.z_len PySem.boot_len (@pa1 _ _ _ (pv 0) (by rfl))) pe_int (nomark _)) (@pss_one _ _ _ (ps_raiseW rfl rfl rfl rfl T.x_BadText rfl (@pa1 _ _ _ pe_str (by rfl)))) pss_nil) (@pss_one _ _ _ (@ps_ret _ _ _ _ (pv 0)))),?_⟩;refine ⟨_,rfl,_,_,rfl,hy.d,rfl,_,rfl,?_⟩
 cases l with
 | nil=>exact cY ⟨sz1,q2 rfl⟩
 | cons a l=>exact bZ (fun c=>by injection c with c;simp at c;lia) ⟨_,rfl,q1 (by simp)⟩
section
variable (ts:List Tk)
def bC (p:Nat) (f:Str→Nat→PR):PR:=match ag ts p with
 | (w,.inr s)=>if w= "word" then f s (p+1) else .err
 | (_,.inl _)=>.err
def dv (rd:Str→Nat→PR) (s w:Str) (p:Nat):PR:=match aI s w with
 | none=>.err
 | some fs=>gp ts "(" p fun q=>dI ts rd fs q [.str w]
def bv (rd:Str→Nat→PR) (p:Nat):PR :=
 if ag ts p=ae "[" then (ix ts (rd "value") "]" (p+1)).bind fun v q=>.ok (mk2 "list" v) q
 else if ag ts p=ae "{" then (ix ts (rd "entry") "}" (p+1)).bind fun v q=>.ok (mk2 "record" v) q
 else if ag ts p=ae "(" then (ix ts (rd "value") ")" (p+1)).bind fun v q=>.ok (mk2 "rows" v) q
 else if (ag ts p).1= "number" then bi ts "number" p else bi ts "text" p
def nQ (rd:Str→Nat→PR) (s:Str) (p:Nat):PR:=bC ts p fun w q=>gp ts ":" q fun q=>(rd s q).bind fun v r=>.ok (.tup [.str w,v]) r
def gq (rd:Str→Nat→PR) (p:Nat):PR:=bC ts p fun w q=>if w= "words" then .out else dv ts rd "turn" w q
def gr:Nat→Nat→List Dt→PR
 | 0,_,_=>.out
 | n+1,p,fs=>if ag ts p=ae "/" then bC ts (p+1) fun w q=>gr n q (fs++[.str w]) else .ok (.tup fs) p
def jG (p:Nat):PR:=gp ts "/" p fun q=>if ¬ (ag ts q).1= "word" ∨ag ts (q+1)=ae "(" then .ok (.tup []) q else bC ts q fun w r=>gr ts (ts.length+1) r [.str w]
abbrev iy:List (Str×Str):=[("field","kind"),("entry","value"),("way","word")]
def prs:Nat→Str→Nat→PR
 | n+3,s,p=>if s= "value" then bv ts (prs n) p else if s= "kind" then .out else if s= "turn" then gq ts (prs n) p
  else if s= "piece" then bC ts p fun w q=>dv ts (prs n) "piece" w q else if s= "path" then jG ts p else if s= "change" then .out
  else match ci s iy with
   | some s'=>nQ ts (prs (n+1)) s' p
   | none=>bi ts s p
 | _,_,_=>.out
end
def iz (K:PySem.W.Frag) (ad:Ads) (n:Nat):Sp:=fun vs H Q E=>∃ (x lw:Addr) (ts:List Tk) (p:Nat) (s:Str),vs=[.ref x,.str s]∧RowAt K ad.WordRow H x lw ts p∧Rdd K ad x lw ts H Q E (prs ts n s p)
def qC (K:PySem.W.Frag) (ad:Ads) (n:Nat):Sp:=fun vs H Q E=>∃ (x lw:Addr) (ts:List Tk) (p:Nat) (s c:Str),vs=[.ref x,.str s,.str c]∧RowAt K ad.WordRow H x lw ts p∧Rdd K ad x lw ts H Q E (ix ts (prs ts n s) c p)
theorem Rdd.step {K:PySem.W.Frag} {ad:Ads} {x lw:Addr} {ts:List Tk} {H H3:Hp} {Q Q':VK} {E:XK} {r:PR} {f:Dt→Nat→PR} (q:Rdd K ad x lw ts H Q E (r.bind f)) (b:But x H H3)
  (k:∀ v p y H4,But x H3 H4→RowAt K ad.WordRow H4 x lw ts p→IsP K H4 v y→Rdd K ad x lw ts H Q E (f v p)→Q' y H4):Rdd K ad x lw ts H3 Q' E r:=by
 cases r with
 | ok v p=>exact fun y H4 b4 hR hv=>k v p y H4 b4 hR hv q
 | err=>exact fun H4 b4=>q H4 (b.trans b4)
 | out=>exact q
theorem au {ts:List Tk} {m:Str} {p:Nat} {f:Nat→PR} (h:ag ts p=ae m):gp ts m p f=f (p+1):=if_pos h
theorem cQ {ts:List Tk} {m:Str} {p:Nat} {f:Nat→PR} (h:¬ ag ts p=ae m):gp ts m p f=.err:=if_neg h
theorem RowAt.mut {K:PySem.W.Frag} {C:Addr} {H:Hp} {x lw:Addr} {ts:List Tk} {p:Nat} (h:RowAt K C H x lw ts p):Mut (H x):=by
 obtain ⟨dx,ws,hx,_⟩:=h;rw [hx];exact True.intro
theorem RowAt.put {K:PySem.W.Frag} {C:Addr} {H:Hp} {x lw l:Addr} {ts:List Tk} {p:Nat} {zs:List V} (h:RowAt K C H x lw ts p) (hl:H l=some (.lst zs)) (ys:List V) (no:lw≠l):RowAt K C (upd H l (.lst ys)) x lw ts p:=by
 obtain ⟨dx,ws,hx,h0,hp,hlx,h5⟩:=h;have nx:x≠l:=jo hx hl (by intro c;cases c);exact ⟨dx,ws,by rw [af nx];exact hx,by rw [af no];exact h0,hp.but hl But.put,hlx,h5⟩
theorem kn (T:Tx K mg ad) (n:Nat) {f fp:Addr} {fd fdp:FuncData} (F:Gn K mg "list_read" bR ["row","sort","closing"] f fd) (D2:Gn K mg "part_read" a9 ["row","sort"] fp fdp)
  (Ea:FnOk P w K mg base (CXE P w) (n+4) fp fdp ["row","sort"] (iz K ad n)):FnOk P w K mg base (CXE P w) (n+4+1) f fd ["row","sort","closing"] (qC K ad n):=by
 obtain ⟨f1,d1,D3⟩:=T.m_WordRow_comes;have Ed:=be (P:=P) (w:=w) (base:=base) T D3;obtain ⟨f2,d2,DX⟩:=T.m_WordRow_take_mark;have D0:=ay (P:=P) (w:=w) (base:=base) T DX;refine F.F.okW fD (fun vs H Q E h=>?_) (fun cdv A outer s H vs Q E hr h=>?_)
 ·obtain ⟨x,lw,ts,p,s,c,rfl,_⟩:=h
  rfl
 obtain ⟨x,lw,ts,p,s,c,rfl,hR,q⟩:=h;refine ⟨_,(@pss_cons _ _ _ _ _ (@ps_set _ _ 3 _ _ _ _ fD.nd rfl (Or.inl rfl) (@bA _ _ _ _ fM) (by rfl) (by first | exact .inl rfl | exact .inr rfl | assumption)) (@pss_cons _ _ _ _ _ (lA fun ok=>eV (dC ok.frames rfl ok.frf) (@pt_not _ _ _ _ (@pt_val _ _ _ (pe_meth (pv 0) T.c_WordRow D3.meth Ed (hr.mono (by first | decide | lia)) D3.b .nil dA (@pa1 _ _ _ (pv 2) (by rfl))) (by intro _;rfl)))
    (@pss_cons _ _ _ _ _ (@ps_if _ _ _ _ _ _ _ _ (pt_cmpR op_gt (pe_callB (bo (K:=K) rfl) rfl T.z_len PySem.boot_len (@pa1 _ _ _ (pv 3) (by rfl))) pe_int (nomark _)) (@pss_one _ _ _ (@ps_expr _ _ _ _ (pe_meth (pv 0) T.c_WordRow DX.meth D0 (hr.mono (by first | decide | lia)) DX.b .nil (wing_on rfl rfl rfl) (@pa1 _ _ _ pe_str (by rfl))) (by rfl))) pss_nil) (@pss_one _ _ _ (@ps_expr _ _ _ _ (pe_bm PySem.F.plainAttrs_list PySem.F.slot_list_append PySem.F.type_list_append cM (pv 3) (@pa1 _ _ _ (pe_call Ea (hr.mono (by first | decide | lia)) rfl D2.m D2.F.kp D2.b .nil (wing_on rfl rfl rfl) (@pa2 _ _ _ _ _ (pv 0) (pv 1) (by rfl) (by rfl))) (by rfl))) (by rfl))))) (@pss_cons _ _ _ _ _ (@ps_expr _ _ _ _ (pe_meth (pv 0) T.c_WordRow DX.meth D0 (hr.mono (by first | decide | lia)) DX.b .nil (wing_on rfl rfl rfl) (@pa1 _ _ _ (pv 2) (by rfl))) (by rfl)) (@pss_one _ _ _ (@ps_ret _ _ _ _ (pe_callTy (cV (K:=K) rfl) rfl T.z_tuple boot_tuple (@pa1 _ _ _ (pv 3) (by rfl)))))))),?_⟩
 refine ⟨(by show 0≤sizeLine;decide),fun l hl=>?_⟩;have hxl:l≠x:=by
  obtain ⟨dx,_,hx,_⟩:=hR;exact fun c=>by rw [c,hx] at hl;cases hl
 have hwl:lw≠l:=by
  obtain ⟨dx,_,_,h0,_⟩:=hR;exact am h0 hl
 refine ⟨fun m σ H'=>∃ (p':Nat) (fs:List Dt) (ys:List V),But x H H'∧RowAt K ad.WordRow H' x lw ts p'∧H' l=some (.lst ys)∧IsPs K H' fs ys∧fs.length+m≤ts.length+1∧Rdd K ad x lw ts H Q E (eD ts (prs ts n s) c m p' fs)∧σ=[some (.ref x),some (.str s),some (.str c),some (.ref l)],
  ⟨ts.length+1,p,[],[],But.same (ax hl _),hR.same (ax hl _),ac,.nil,Nat.le_of_eq (Nat.zero_add _),q,rfl⟩,?_⟩
 rintro m σ H1 ⟨p',fs,ys,b1,hR1,f1',hp,hm,q1,rfl⟩
 cases m with
 | zero=>exact q1.elim
 | succ m =>
 obtain ⟨dx,ws,hx,hl0,hp0,hlx0,h5⟩:=id hR1;have ly:=hp.length;refine ⟨_,rfl,x,dx,_,rfl,hx,ao lw p' (by decide +kernel) (by decide +kernel),_,rfl,x,lw,ts,p',c,rfl,hR1,fun H2 g2=>?_⟩;have R2:=hR1.same g2;have f2':=g2 _ _ f1';have hp2:=hp.same g2
 by_cases hc:ag ts p'=ae c
 ·rw [decide_eq_true hc];simp only [eD] at q1;rw [if_pos hc] at q1;refine ⟨_,rfl,bx ⟨_,rfl,x,dx,_,rfl,g2 _ _ hx,ao lw p' (by decide +kernel) (by decide +kernel),_,rfl,x,lw,ts,p',c,rfl,R2,fun _ H3 b3 hR3=>?_,fun h=>absurd hc h⟩⟩;refine ⟨_,rfl,l,ys,_,rfl,SqL.of (b3 _ _ hxl f2'),aL R2.mut b3 hp2,fun v H4 g4 hv=>?_⟩;exact q1 v H4 (((b1.trans (But.same g2)).trans b3).trans (But.same g4)) (hR3.same g4) hv
 ·rw [decide_eq_false hc];simp only [eD] at q1;rw [if_neg hc] at q1;refine ⟨_,rfl,bT ⟨fun σ' H'=>∃ (p':Nat) (fs:List Dt) (ys:List V),But x H H'∧RowAt K ad.WordRow H' x lw ts p'∧H' l=some (.lst ys)∧IsPs K H' fs ys∧fs.length+m≤ts.length+1∧Rdd K ad x lw ts H Q E (eD ts (prs ts n s) c m p' fs)∧σ'=[some (.ref x),some (.str s),some (.str c),some (.ref l)],fun σ' H' r=>⟨m,by lia,r⟩,?_⟩⟩;refine ⟨_,rfl,l,_,rfl,.inl (SqL.of f2'),_,_,rfl,rfl,_,rfl,?_⟩;have b2:But x H H2:=b1.trans (But.same g2);refine bu (fun c0=>?_) (fun c0=>?_)
  ·have pos:0 < fs.length:=by have:=of_decide_eq_true c0;lia
   rw [if_pos pos] at q1;refine ⟨_,rfl,x,dx,_,rfl,g2 _ _ hx,ao lw p' (by decide +kernel) (by decide +kernel),x,lw,ts,p',",",rfl,R2,fun hcm H3 b3 R3=>?_,fun hcm H3 g3=>?_⟩
   ·rw [au hcm] at q1;refine ⟨_,rfl,.inl ⟨rfl,_,SqL.of (b3 _ _ hxl f2')⟩,_,rfl,_,rfl,x,lw,ts,p' + 1,s,rfl,R3,q1.step (b2.trans b3) fun v p4 y H4 b4 R4 hv q4=>?_⟩;have f4:=b4 _ _ hxl (b3 _ _ hxl f2');refine ⟨l,ys,y,rfl,rfl,f4,Nat.lt_of_lt_of_le (show ys.length < 100001 by have:=h5.1;lia) (by decide),p4,fs++[v],ys++[y],fun b o nb eb=>?_,R4.put f4 _ hwl,ac,((aL R3.mut b4 (aL R2.mut b3 hp2)).but f4 But.put).append (.cons (hv.but f4 But.put) .nil),by rw [List.length_append];simp only [List.length_cons,List.length_nil];lia,q4,rfl⟩;rw [af (am eb hl)];exact b4 _ _ nb ((b2.trans b3) _ _ nb eb)
   ·rw [cQ hcm] at q1;exact q1 H3 (b2.trans (But.same g3))
  ·have pos:¬ 0 < fs.length:=fun h=>c0 (decide_eq_true (by lia));rw [if_neg pos] at q1;refine ⟨_,rfl,.inl ⟨rfl,_,SqL.of f2'⟩,_,rfl,_,rfl,x,lw,ts,p',s,rfl,R2,q1.step b2 fun v p4 y H4 b4 R4 hv q4=>?_⟩;have f4:=b4 _ _ hxl f2';refine ⟨l,ys,y,rfl,rfl,f4,Nat.lt_of_lt_of_le (show ys.length < 100001 by have:=h5.1;lia) (by decide),p4,fs++[v],ys++[y],fun b o nb eb=>?_,R4.put f4 _ hwl,ac,((aL R2.mut b4 hp2).but f4 But.put).append (.cons (hv.but f4 But.put) .nil),by rw [List.length_append];simp only [List.length_cons,List.length_nil];lia,q4,rfl⟩;rw [af (am eb hl)];exact b4 _ _ nb (b2 _ _ nb eb)
def sU (K:PySem.W.Frag) (ad:Ads) (n:Nat):Sp:=fun vs H Q E=>∃ (x lw:Addr) (ts:List Tk) (p:Nat) (s w:Str),vs=[.ref x,.str s,.str w]∧RowAt K ad.WordRow H x lw ts p∧Rdd K ad x lw ts H Q E (dv ts (prs ts n) s w p)
theorem ko (T:Tx K mg ad) (n:Nat) {f fp:Addr} {fd fdp:FuncData} (F:Gn K mg "form_read" cE ["row","sort","word"] f fd) (D2:Gn K mg "part_read" a9 ["row","sort"] fp fdp)
  (Ea:FnOk P w K mg base (CXE P w) (n+4) fp fdp ["row","sort"] (iz K ad n)):FnOk P w K mg base (CXE P w) (n+4+1) f fd ["row","sort","word"] (sU K ad n):=by
 obtain ⟨f1,d1,Ep⟩:=T.parts_behind;have ED:=dr (P:=P) (w:=w) (base:=base) T Ep;obtain ⟨f2,d2,DX⟩:=T.m_WordRow_take_mark;have D0:=ay (P:=P) (w:=w) (base:=base) T DX;refine F.F.okW cf (fun vs H Q E h=>?_) (fun cdv A outer s H vs Q E hr h=>?_)
 ·obtain ⟨x,lw,ts,p,s,w,rfl,_⟩:=h
  rfl
 obtain ⟨x,lw,ts,p,s,wd,rfl,hR,q⟩:=h;refine ⟨_,(@pss_cons _ _ _ _ _ (@ps_set _ _ 3 _ _ _ _ cf.nd rfl (Or.inl rfl) (pcl Ep ED (hr.mono (by lia)) rfl (@pa2 _ _ _ _ _ (pv 1) (pv 2) (by rfl) (by rfl))) (by rfl) (by first | exact .inl rfl | exact .inr rfl | assumption)) (@pss_cons _ _ _ _ _ (@ps_if _ _ _ _ _ _ _ _ (pt_cmpR pG (pv 3) pe_non (nomark _)) (@pss_one _ _ _ (ps_raiseW rfl rfl rfl rfl T.x_BadText rfl (@pa1 _ _ _ pe_str (by rfl)))) pss_nil) (@pss_cons _ _ _ _ _ (@ps_expr _ _ _ _ (pe_meth (pv 0) T.c_WordRow DX.meth D0 (hr.mono (by first | decide | lia)) DX.b .nil (wing_on rfl rfl rfl) (@pa1 _ _ _ pe_str (by rfl))) (by rfl)) (@pss_cons _ _ _ _ _ (@ps_set _ _ 4 _ _ _ _ cf.nd rfl (Or.inl rfl) (@bA _ _ _ _ (@pa1 _ _ _ (pv 2) (by rfl))) (by rfl) (by first | exact .inl rfl | exact .inr rfl | assumption)) (@pss_cons _ _ _ _ _ (lA fun ok=>fH (dC ok.frames rfl ok.frf) rfl (e9 (K:=K) rfl (pv 3)) (aE (i:=5) cf.nd rfl (Or.inl rfl))
    (@pss_cons _ _ _ _ _ (@ps_if _ _ _ _ _ _ _ _ (pt_cmpR op_gt (pe_callB (bo (K:=K) rfl) rfl T.z_len PySem.boot_len (@pa1 _ _ _ (pv 4) (by rfl))) pe_int (nomark _)) (@pss_one _ _ _ (@ps_expr _ _ _ _ (pe_meth (pv 0) T.c_WordRow DX.meth D0 (hr.mono (by first | decide | lia)) DX.b .nil (wing_on rfl rfl rfl) (@pa1 _ _ _ pe_str (by rfl))) (by rfl))) pss_nil) (@pss_one _ _ _ (@ps_expr _ _ _ _ (pe_bm PySem.F.plainAttrs_list PySem.F.slot_list_append PySem.F.type_list_append cM (pv 4) (@pa1 _ _ _ (pe_call Ea (hr.mono (by first | decide | lia)) rfl D2.m D2.F.kp D2.b .nil (wing_on rfl rfl rfl) (@pa2 _ _ _ _ _ (pv 0) (pv 5) (by rfl) (by rfl))) (by rfl))) (by rfl))))) (@pss_cons _ _ _ _ _ (@ps_expr _ _ _ _ (pe_meth (pv 0) T.c_WordRow DX.meth D0 (hr.mono (by first | decide | lia)) DX.b .nil (wing_on rfl rfl rfl) (@pa1 _ _ _ pe_str (by rfl))) (by rfl)) (@pss_one _ _ _ (@ps_ret _ _ _ _ (pe_callTy (cV (K:=K) rfl) rfl T.z_tuple boot_tuple (@pa1 _ _ _ (pv 4) (by rfl))))))))))),?_⟩
 obtain ⟨dx,ws,hx,hl0,hp0,hlx0,h5⟩:=id hR;refine ⟨_,rfl,_,rfl,s,wd,rfl,?_⟩;unfold dv at q
 cases hf:aI s wd with
 | none =>
  rw [hf] at q;exact ⟨_,rfl,rfl,_,rfl,cY ⟨sz1,q H (But.refl _ _)⟩⟩
 | some fs =>
  rw [hf] at q;intro b hb;refine ⟨_,rfl,rfl,_,rfl,bZ (fun c=>by cases c) ?_⟩;dsimp only at q;refine ⟨_,rfl,x,dx,_,rfl,hx,ao lw p (by decide +kernel) (by decide +kernel),x,lw,ts,p,"(",rfl,hR,fun hcm H1 b1 R1=>?_,fun hcm H1 g1=>?_⟩
  rotate_left
  ·rw [cQ hcm] at q;exact q H1 (But.same g1)
  rw [au hcm] at q;refine ⟨_,rfl,sz1,fun l hl=>?_⟩;have hlH:H l=none:=by
   cases c:H l with
   | none=>rfl
   | some o =>
    by_cases e:l=x
    ·subst e;obtain ⟨dx1,_,hx1,_⟩:=R1;rw [hx1] at hl
     cases hl
    ·rw [b1 _ _ e c] at hl
     cases hl
  have hxl:l≠x:=fun c=>by rw [c,hx] at hlH;cases hlH
  have hwl:lw≠l:=am hl0 hlH;refine ⟨_,rfl,b,rfl,⟨_,hb _⟩,nA (K:=K) (xs:=fs.map V.str) (fun i σ H'=>∃ (p':Nat) (gs:List Dt) (ys:List V) (v5:Option V),But x H H'∧RowAt K ad.WordRow H' x lw ts p'∧H' l=some (.lst ys)∧IsPs K H' gs ys∧gs.length=i+1∧Rdd K ad x lw ts H Q E (dI ts (prs ts n) (fs.drop i) p' gs)∧σ=[some (.ref x),some (.str s),some (.str wd),some (.ref b),some (.ref l),v5])
   ⟨p+1,[.str wd],[.str wd],_,b1.trans (But.same (ax hl _)),R1.same (ax hl _),ac,.cons .str .nil,rfl,q,rfl⟩ (fun i σ H' _ _=>hb H') ?_ ?_⟩
  ·rintro i y σ H2 hy ⟨p',gs,ys,v5,b2,R2,f2',hp2,hg,q2,rfl⟩;rw [List.getElem?_map] at hy;obtain ⟨s',hs',rfl⟩:=Option.map_eq_some_iff.mp hy;have hd:fs.drop i=s' :: fs.drop (i+1):=by
    obtain ⟨h1,h2⟩:=List.getElem?_eq_some_iff.mp hs';rw [List.drop_eq_getElem_cons h1,h2]
   rw [hd] at q2;simp only [dI] at q2;have ly:=hp2.length;obtain ⟨dx2,ws2,hx2,_⟩:=id R2;have il:i < fs.length:=(List.getElem?_eq_some_iff.mp hs').1;have fl:fs.length≤6:=by
    unfold aI at hf;have key:∀ (F:List (Str×List Str)) (w:Str) (l:List Str),(∀ q∈F,q.2.length≤6)→cx w F=some l→l.length≤6:=by
     intro F
     induction F with
     | nil=>intro w l _ h;cases h
     | cons a F ih =>
      intro w l h1 h2;simp only [cx] at h2
      split at h2
      ·cases h2;exact h1 a List.mem_cons_self
      ·exact ih w l (fun q hq=>h1 q (List.mem_cons_of_mem _ hq)) h2
    split at hf
    ·exact key qA _ _ (by decide +kernel) hf
    split at hf
    ·exact key qB _ _ (by decide +kernel) hf
    ·exact key m5 _ _ (by decide +kernel) hf
   refine ⟨_,rfl,l,_,rfl,.inl (SqL.of f2'),_,_,rfl,rfl,_,rfl,bu (fun c0=>?_) (fun c0=>?_)⟩
   ·have pos:1 < gs.length:=by have:=of_decide_eq_true c0;lia
    rw [if_pos pos] at q2;refine ⟨_,rfl,x,dx2,_,rfl,hx2,ao lw p' (by decide +kernel) (by decide +kernel),x,lw,ts,p',",",rfl,R2,fun hcm H3 b3 R3=>?_,fun hcm H3 g3=>?_⟩
    ·rw [au hcm] at q2;refine ⟨_,rfl,.inl ⟨rfl,_,SqL.of (b3 _ _ hxl f2')⟩,_,rfl,_,rfl,x,lw,ts,p' + 1,s',rfl,R3,q2.step (b2.trans b3) fun v p4 y H4 b4 R4 hv q4=>?_⟩;have f4:=b4 _ _ hxl (b3 _ _ hxl f2');refine ⟨l,ys,y,rfl,rfl,f4,bc (by lia),p4,gs++[v],ys++[y],_,fun b o nb eb=>?_,R4.put f4 _ hwl,ac,((aL R3.mut b4 (aL R2.mut b3 hp2)).but f4 But.put).append (.cons (hv.but f4 But.put) .nil),by rw [List.length_append];simp only [List.length_cons,List.length_nil];lia,q4,rfl⟩;rw [af (am eb hlH)];exact b4 _ _ nb ((b2.trans b3) _ _ nb eb)
    ·rw [cQ hcm] at q2;exact q2 H3 (b2.trans (But.same g3))
   ·have pos:¬ 1 < gs.length:=fun h=>c0 (decide_eq_true (by lia));rw [if_neg pos] at q2;refine ⟨_,rfl,.inl ⟨rfl,_,SqL.of f2'⟩,_,rfl,_,rfl,x,lw,ts,p',s',rfl,R2,q2.step b2 fun v p4 y H4 b4 R4 hv q4=>?_⟩;have f4:=b4 _ _ hxl f2';refine ⟨l,ys,y,rfl,rfl,f4,bc (by lia),p4,gs++[v],ys++[y],_,fun b o nb eb=>?_,R4.put f4 _ hwl,ac,((aL R2.mut b4 hp2).but f4 But.put).append (.cons (hv.but f4 But.put) .nil),by rw [List.length_append];simp only [List.length_cons,List.length_nil];lia,q4,rfl⟩;rw [af (am eb hlH)];exact b4 _ _ nb (b2 _ _ nb eb)
  ·rintro σ H2 ⟨p',gs,ys,v5,b2,R2,f2',hp2,hg,q2,rfl⟩;rw [List.length_map,List.drop_length] at q2;simp only [dI] at q2;obtain ⟨dx2,ws2,hx2,_⟩:=id R2;refine ⟨_,rfl,x,dx2,_,rfl,hx2,ao lw p' (by decide +kernel) (by decide +kernel),x,lw,ts,p',")",rfl,R2,fun hcm H3 b3 R3=>?_,fun hcm H3 g3=>?_⟩
   ·rw [au hcm] at q2;refine ⟨_,rfl,l,ys,_,rfl,SqL.of (b3 _ _ hxl f2'),aL R2.mut b3 hp2,fun v H4 g4 hv=>?_⟩;exact q2 v H4 ((b2.trans b3).trans (But.same g4)) (R3.same g4) hv
   ·rw [cQ hcm] at q2;exact q2 H3 (b2.trans (But.same g3))
def DS (K:PySem.W.Frag) (ad:Ads) (n:Nat):Sp:=fun vs H Q E=>∃ (x lw:Addr) (ts:List Tk) (p:Nat),vs=[.ref x]∧RowAt K ad.WordRow H x lw ts p∧Rdd K ad x lw ts H Q E (bv ts (prs ts n) p)
def brL:List (Str×Str×Str×Str):=[("[","list","value","]"),("{","record","entry","}"),("(","rows","value",")")]
theorem qD {ts:List Tk} {rd:Str→Nat→PR} {p i:Nat} {b:Str×Str×Str×Str} (hb:brL[i]?=some b) (no:∀ j a,j < i→brL[j]?=some a→¬ ag ts p=ae a.1) (h:ag ts p=ae b.1) :
  bv ts rd p=(ix ts (rd b.2.2.1) b.2.2.2 (p+1)).bind fun v q=>.ok (mk2 b.2.1 v) q:=by
 unfold bv
 match i,hb with
 | 0,hb=>cases hb;rw [if_pos h]
 | 1,hb=>cases hb;rw [if_neg (no 0 _ (by lia) rfl),if_pos h]
 | 2,hb=>cases hb;rw [if_neg (no 0 _ (by lia) rfl),if_neg (no 1 _ (by lia) rfl),if_pos h]
 | n+3,hb=>simp [brL] at hb
theorem qE {ts:List Tk} {rd:Str→Nat→PR} {p:Nat} (no:∀ j a,j < 3→brL[j]?=some a→¬ ag ts p=ae a.1):bv ts rd p=if (ag ts p).1= "number" then bi ts "number" p else bi ts "text" p:=by
 unfold bv;rw [if_neg (no 0 _ (by lia) rfl),if_neg (no 1 _ (by lia) rfl),if_neg (no 2 _ (by lia) rfl)]
theorem qF {K:PySem.W.Frag} {H:Hp} (k:Key):IsP K H (kDt k) (kV k):=by
 cases k with
 | inl i=>exact .int
 | inr z=>exact .str
theorem iZ (T:Tx K mg ad) (n:Nat) {f fl:Addr} {fd fdl:FuncData} (F:Gn K mg "value_read" dl ["row"] f fd) (D7:Gn K mg "list_read" bR ["row","sort","closing"] fl fdl)
  (En:FnOk P w K mg base (CXE P w) (n+4+1) fl fdl ["row","sort","closing"] (qC K ad n)):FnOk P w K mg base (CXE P w) (n+4+2) f fd ["row"] (DS K ad n):=by
 obtain ⟨f1,d1,D3⟩:=T.m_WordRow_comes;have Ed:=be (P:=P) (w:=w) (base:=base) T D3;obtain ⟨f2,d2,DX⟩:=T.m_WordRow_take_mark;have D0:=ay (P:=P) (w:=w) (base:=base) T DX;obtain ⟨f3,d3,DY⟩:=T.m_WordRow_take;have D5:=aV (P:=P) (w:=w) (base:=base) T DY;obtain ⟨f4,d4,DZ⟩:=T.m_WordRow_coming;have D6:=aM (P:=P) (w:=w) (base:=base) T DZ;obtain ⟨c_BRACKETED,tr,tt⟩:=T.BRACKETED;refine F.F.okW bq (fun vs H Q E h=>?_) (fun cdv A outer s H vs Q E hr h=>?_)
 ·obtain ⟨x,lw,ts,p,rfl,_⟩:=h
  rfl
 obtain ⟨x,lw,ts,p,rfl,hR,q⟩:=h;refine ⟨_,(@pss_cons _ _ _ _ _ (lA fun ok=>fH (dC ok.frames rfl ok.frf) rfl (e9 (K:=K) rfl (e8 rfl c_BRACKETED)) (mf rfl (aU (aE (i:=1) bq.nd rfl (Or.inl rfl)) (aU (aE (i:=2) bq.nd rfl (Or.inl rfl)) (aU (aE (i:=3) bq.nd rfl (Or.inl rfl)) (aU (aE (i:=4) bq.nd rfl (Or.inl rfl)) eU)))))
    (@pss_one _ _ _ (@ps_if _ _ _ _ _ _ _ _ (@pt_val _ _ _ (pe_meth (pv 0) T.c_WordRow D3.meth Ed (hr.mono (by first | decide | lia)) D3.b .nil dA (@pa1 _ _ _ (pv 1) (by rfl))) (by intro _;rfl)) (@pss_cons _ _ _ _ _ (@ps_expr _ _ _ _ (pe_meth (pv 0) T.c_WordRow DX.meth D0 (hr.mono (by first | decide | lia)) DX.b .nil (wing_on rfl rfl rfl) (@pa1 _ _ _ (pv 1) (by rfl))) (by rfl)) (@pss_one _ _ _ (@ps_ret _ _ _ _ (@pe_tupPK _ K _ _ _ _ rfl (@pa2 _ _ _ _ _ (pv 2) (pe_call En (hr.mono (by first | decide | lia)) rfl D7.m D7.F.kp D7.b .nil (wing_on rfl rfl rfl) (@pa3 _ _ _ _ _ _ _ (pv 0) (pv 3) (pv 4) (by rfl) (by rfl) (by rfl))) (by rfl) (by rfl)))))) pss_nil))) (@pss_cons _ _ _ _ _ (@ps_if _ _ _ _ _ _ _ _ (pt_cmpR op_eq (@pe_ix _ _ _ _ _ _ _ (ix_tupDN (K:=K) rfl) (pe_meth (pv 0) T.c_WordRow DZ.meth D6 (hr.mono (by first | decide | lia)) DZ.b .nil dA (@pa1 _ _ _ pe_int (by rfl))) pe_int (fun _ _=>rfl)) pe_str (nomark _)) (@pss_one _ _ _ (@ps_ret _ _ _ _ (pe_meth (pv 0) T.c_WordRow DY.meth D5 (hr.mono (by first | decide | lia)) DY.b .nil (wing_on rfl rfl rfl) (@pa1 _ _ _ pe_str (by rfl))))) pss_nil) (@pss_one _ _ _ (@ps_ret _ _ _ _ (pe_meth (pv 0) T.c_WordRow DY.meth D5 (hr.mono (by first | decide | lia)) DY.b .nil (wing_on rfl rfl rfl) (@pa1 _ _ _ pe_str (by rfl))))))),?_⟩
 obtain ⟨dx,ws,hx,hl0,hp0,hlx0,h5⟩:=id hR;have tt':∀ (i:Nat) (b:Str×Str×Str×Str),brL[i]?=some b→∀ H',SqT K H' (334+i) [.str b.1,.str b.2.1,.str b.2.2.1,.str b.2.2.2]:=by
  intro i b hb H'
  match i,hb with
  | 0,hb=>cases hb;exact tt (334,["[","list","value","]"]) (by simp) H'
  | 1,hb=>cases hb;exact tt (335,["{","record","entry","}"]) (by simp) H'
  | 2,hb=>cases hb;exact tt (336,["(","rows","value",")"]) (by simp) H'
  | n+3,hb=>simp [brL] at hb
 refine ⟨337,rfl,⟨_,tr _⟩,nA (K:=K) (xs:=([334,335,336]:List Addr).map V.ref) (fun i σ H'=>Same H H'∧(∀ j a,j < i→brL[j]?=some a→¬ ag ts p=ae a.1)∧∃ v1 v2 v3 v4,σ=[some (.ref x),v1,v2,v3,v4]) ⟨Same.refl H,fun j a h=>absurd h (Nat.not_lt_zero _),_,_,_,_,rfl⟩ (fun i σ H' _ _=>tr H') ?_ ?_⟩
 ·rintro i y σ H1 hy ⟨g1,no,v1,v2,v3,v4,rfl⟩;obtain ⟨b,hb,rfl⟩:∃ b,brL[i]?=some b∧y=.ref (334+i):=by
   match i,hy with
   | 0,hy=>cases hy;exact ⟨_,rfl,rfl⟩
   | 1,hy=>cases hy;exact ⟨_,rfl,rfl⟩
   | 2,hy=>cases hy;exact ⟨_,rfl,rfl⟩
   | n+3,hy=>simp at hy
  refine ⟨_,_,rfl,tt' i b hb H1,rfl,_,_,rfl,_,_,rfl,_,_,rfl,_,_,rfl,rfl,?_⟩;refine ⟨_,rfl,x,dx,_,rfl,g1 _ _ hx,ao lw p (by decide +kernel) (by decide +kernel),_,rfl,x,lw,ts,p,b.1,rfl,hR.same g1,fun H2 g2=>?_⟩;have g12:=g1.trans g2
  by_cases hc:ag ts p=ae b.1
  ·rw [decide_eq_true hc];rw [qD hb no hc] at q;refine ⟨_,rfl,bT ⟨_,rfl,x,dx,_,rfl,g12 _ _ hx,ao lw p (by decide +kernel) (by decide +kernel),_,rfl,x,lw,ts,p,b.1,rfl,hR.same g12,fun _ H3 b3 R3=>?_,fun h=>absurd hc h⟩⟩;refine ⟨_,rfl,_,rfl,_,rfl,_,rfl,x,lw,ts,p+1,b.2.2.1,b.2.2.2,rfl,R3,q.step ((But.same g12).trans b3) fun v p4 y H4 b4 R4 hv q4=>?_⟩;exact ⟨[.str b.2.1,v],.cons .str (.cons hv .nil),sz2,fun y5 H5 g5 hv5=>q4 y5 H5 ((((But.same g12).trans b3).trans b4).trans (But.same g5)) (R4.same g5) hv5⟩
  ·rw [decide_eq_false hc];refine ⟨_,rfl,bx ⟨g12,fun j a hj ha=>?_,_,_,_,_,rfl⟩⟩;rcases Nat.lt_succ_iff_lt_or_eq.mp hj with h | h
   ·exact no j a h ha
   ·subst h;rw [hb] at ha
    cases ha
    exact hc
 ·rintro σ H1 ⟨g1,no,v1,v2,v3,v4,rfl⟩;rw [qE no] at q;refine ⟨_,rfl,x,dx,_,rfl,g1 _ _ hx,ao lw p (by decide +kernel) (by decide +kernel),x,lw,ts,p,0,rfl,hR.same g1,fun v hv=>?_⟩;rw [Nat.add_zero] at hv;have hv':IsD K H1 (.tup [.str (ag ts p).1,kDt (ag ts p).2]) v:=hv;refine ⟨_,_,_,hv',rfl,at0 _ _,fun v1 hv1=>?_⟩;obtain rfl:v1=.str (ag ts p).1:=by cases hv1;rfl
  have tk:∀ {s0:Str} {Q':VK},Rdd K ad x lw ts H Q E (bi ts s0 p)→(∀ y H',Q y H'→Q' y H')→((ag ts p).1=s0→∀ H',But x H1 H'→RowAt K ad.WordRow H' x lw ts (p+1)→Q' (kV (ag ts p).2) H')∧(¬ (ag ts p).1=s0→E (.ref ad.BadText) none H1):=fun {s0 Q'} q hQ=>by
   unfold bi at q;refine ⟨fun e H' b' R'=>?_,fun e=>?_⟩
   ·rw [if_pos e] at q;exact hQ _ _ (q _ H' ((But.same g1).trans b') R' (qF _))
   ·rw [if_neg e] at q;exact q H1 (But.same g1)
  refine ⟨rfl,_,rfl,?_⟩
  by_cases hn:(ag ts p).1= "number"
  ·rw [if_pos hn] at q;rw [hn];obtain ⟨a1,a2⟩:=tk (Q':=Q) q (fun _ _ h=>h);exact cY ⟨_,rfl,x,dx,_,rfl,g1 _ _ hx,ao lw p (by decide +kernel) (by decide +kernel),x,lw,ts,p,"number",rfl,hR.same g1,a1,a2⟩
  ·rw [if_neg hn] at q;obtain ⟨a1,a2⟩:=tk (Q':=Q) q (fun _ _ h=>h);exact bZ (aY hn) ⟨_,rfl,x,dx,_,rfl,g1 _ _ hx,ao lw p (by decide +kernel) (by decide +kernel),x,lw,ts,p,"text",rfl,hR.same g1,a1,a2⟩
theorem qG {ts:List Tk} {p:Nat} (h:∀ t∈ts,t.1= "word" →∃ s,t.2=Sum.inr s) (e:(ag ts p).1= "word"):∃ s:Str,(ag ts p).2=Sum.inr s:=by
 unfold ag at e ⊢
 cases hp:ts[p]? with
 | none =>
  rw [hp] at e;exact absurd (show (Str.ofString "end")=Str.ofString "word" from e) (by decide +kernel)
 | some t =>
  rw [hp] at e;exact h t (List.mem_of_getElem? hp) e
theorem Rdd.word {K:PySem.W.Frag} {ad:Ads} {x lw:Addr} {ts:List Tk} {H H1:Hp} {Q:VK} {E:XK} {p:Nat} {f:Str→Nat→PR} (q:Rdd K ad x lw ts H Q E (bC ts p f)) (b:But x H H1) (h:∀ t∈ts,t.1= "word" →∃ s,t.2=Sum.inr s) :
  (∃ s,(ag ts p).1= "word" ∧kV (ag ts p).2=.str s∧Rdd K ad x lw ts H Q E (f s (p+1)))∨(¬ (ag ts p).1= "word" ∧E (.ref ad.BadText) none H1):=by
 by_cases e:(ag ts p).1= "word"
 ·obtain ⟨s,hs⟩:=qG h e;refine .inl ⟨s,e,by rw [hs];rfl,?_⟩;unfold bC at q
  generalize ag ts p=t at q e hs
  obtain ⟨w,kk⟩:=t;obtain rfl:kk=Sum.inr s:=hs;obtain rfl:w= "word" :=e;dsimp only at q;rw [if_pos rfl] at q;exact q
 ·refine .inr ⟨e,?_⟩;unfold bC at q
  generalize ag ts p=t at q e
  obtain ⟨w,kk⟩:=t
  cases kk with
  | inl i=>exact q H1 b
  | inr s =>
   dsimp only at q;rw [if_neg e] at q;exact q H1 b
def Dh (K:PySem.W.Frag) (ad:Ads) (n:Nat):Sp:=fun vs H Q E=>∃ (x lw:Addr) (ts:List Tk) (p:Nat) (s:Str),vs=[.ref x,.str s]∧RowAt K ad.WordRow H x lw ts p∧Rdd K ad x lw ts H Q E (nQ ts (prs ts n) s p)
theorem kq (T:Tx K mg ad) (n:Nat) {f fp:Addr} {fd fdp:FuncData} (F:Gn K mg "pair_read" dW ["row","sort"] f fd) (D2:Gn K mg "part_read" a9 ["row","sort"] fp fdp)
  (Ea:FnOk P w K mg base (CXE P w) (n+4) fp fdp ["row","sort"] (iz K ad n)):FnOk P w K mg base (CXE P w) (n+4+1) f fd ["row","sort"] (Dh K ad n):=by
 obtain ⟨f2,d2,DX⟩:=T.m_WordRow_take_mark;have D0:=ay (P:=P) (w:=w) (base:=base) T DX;obtain ⟨f3,d3,DY⟩:=T.m_WordRow_take;have D5:=aV (P:=P) (w:=w) (base:=base) T DY;refine F.F.okW fB (fun vs H Q E h=>?_) (fun cdv A outer s H vs Q E hr h=>?_)
 ·obtain ⟨x,lw,ts,p,s,rfl,_⟩:=h
  rfl
 obtain ⟨x,lw,ts,p,s,rfl,hR,q⟩:=h;refine ⟨_,(@pss_cons _ _ _ _ _ (@ps_set _ _ 2 _ _ _ _ fB.nd rfl (Or.inl rfl) (pe_meth (pv 0) T.c_WordRow DY.meth D5 (hr.mono (by first | decide | lia)) DY.b .nil (wing_on rfl rfl rfl) (@pa1 _ _ _ pe_str (by rfl))) (by rfl) (by first | exact .inl rfl | exact .inr rfl | assumption)) (@pss_cons _ _ _ _ _ (@ps_expr _ _ _ _ (pe_meth (pv 0) T.c_WordRow DX.meth D0 (hr.mono (by first | decide | lia)) DX.b .nil (wing_on rfl rfl rfl) (@pa1 _ _ _ pe_str (by rfl))) (by rfl)) (@pss_one _ _ _ (@ps_ret _ _ _ _ (@pe_tupPK _ K _ _ _ _ rfl (@pa2 _ _ _ _ _ (pv 2) (pe_call Ea (hr.mono (by first | decide | lia)) rfl D2.m D2.F.kp D2.b .nil (wing_on rfl rfl rfl) (@pa2 _ _ _ _ _ (pv 0) (pv 1) (by rfl) (by rfl))) (by rfl) (by rfl))))))),?_⟩;obtain ⟨dx,ws,hx,hl0,hp0,hlx0,h5⟩:=id hR;rcases q.word (But.refl _ _) h5.2 with ⟨wd,ht,e2,q1⟩ | ⟨hn,he⟩
 rotate_left
 ·exact ⟨_,rfl,x,dx,_,rfl,hx,ao lw p (by decide +kernel) (by decide +kernel),x,lw,ts,p,"word",rfl,hR,fun h=>absurd h hn,fun _=>he⟩
 refine ⟨_,rfl,x,dx,_,rfl,hx,ao lw p (by decide +kernel) (by decide +kernel),x,lw,ts,p,"word",rfl,hR,fun _ H1 b1 R1=>?_,fun h=>absurd ht h⟩;rw [e2];obtain ⟨dx1,ws1,hx1,_⟩:=id R1;refine ⟨_,rfl,x,dx1,_,rfl,hx1,ao lw _ (by decide +kernel) (by decide +kernel),x,lw,ts,p+1,":",rfl,R1,fun hcm H2 b2 R2=>?_,fun hcm H2 g2=>?_⟩
 ·rw [au hcm] at q1;refine ⟨_,rfl,_,rfl,_,rfl,x,lw,ts,p+1+1,s,rfl,R2,q1.step (b1.trans b2) fun v p4 y H4 b4 R4 hv q4=>?_⟩;exact ⟨[.str wd,v],.cons .str (.cons hv .nil),sz2,fun y5 H5 g5 hv5=>q4 y5 H5 (((b1.trans b2).trans b4).trans (But.same g5)) (R4.same g5) hv5⟩
 ·rw [cQ hcm] at q1;exact q1 H2 (b1.trans (But.same g2))
def Di (K:PySem.W.Frag) (ad:Ads) (n:Nat):Sp:=fun vs H Q E=>∃ (x lw:Addr) (ts:List Tk) (p:Nat),vs=[.ref x]∧RowAt K ad.WordRow H x lw ts p∧Rdd K ad x lw ts H Q E (gq ts (prs ts n) p)
theorem kr (T:Tx K mg ad) (n:Nat) {f ff fl:Addr} {fd fdf fdl:FuncData} (F:Gn K mg "turn_read" dX ["row"] f fd) (Eg:Gn K mg "form_read" cE ["row","sort","word"] ff fdf) (D7:Gn K mg "list_read" bR ["row","sort","closing"] fl fdl)
  (EL:FnOk P w K mg base (CXE P w) (n+4+1) ff fdf ["row","sort","word"] (sU K ad n)) (En:FnOk P w K mg base (CXE P w) (n+4+1) fl fdl ["row","sort","closing"] (qC K ad n)):FnOk P w K mg base (CXE P w) (n+4+2) f fd ["row"] (Di K ad n):=by
 obtain ⟨f2,d2,DX⟩:=T.m_WordRow_take_mark;have D0:=ay (P:=P) (w:=w) (base:=base) T DX;obtain ⟨f3,d3,DY⟩:=T.m_WordRow_take;have D5:=aV (P:=P) (w:=w) (base:=base) T DY;obtain ⟨f4,d4,Ee⟩:=T.at_least_one;have EW:=gG (P:=P) (w:=w) (base:=base) T Ee;refine F.F.okW dm (fun vs H Q E h=>?_) (fun cdv A outer s H vs Q E hr h=>?_)
 ·obtain ⟨x,lw,ts,p,rfl,_⟩:=h
  rfl
 obtain ⟨x,lw,ts,p,rfl,hR,q⟩:=h;refine ⟨_,(@pss_cons _ _ _ _ _ (@ps_set _ _ 1 _ _ _ _ dm.nd rfl (Or.inl rfl) (pe_meth (pv 0) T.c_WordRow DY.meth D5 (hr.mono (by first | decide | lia)) DY.b .nil (wing_on rfl rfl rfl) (@pa1 _ _ _ pe_str (by rfl))) (by rfl) (by first | exact .inl rfl | exact .inr rfl | assumption)) (@pss_cons _ _ _ _ _ (@ps_if _ _ _ _ _ _ _ _ (pt_cmpR op_ne (pv 1) pe_str (nomark _)) (@pss_one _ _ _ (@ps_ret _ _ _ _ (pe_call EL (hr.mono (by first | decide | lia)) rfl Eg.m Eg.F.kp Eg.b .nil (wing_on rfl rfl rfl) (@pa3 _ _ _ _ _ _ _ (pv 0) pe_str (pv 1) (by rfl) (by rfl) (by rfl))))) pss_nil) (@pss_cons _ _ _ _ _ (@ps_expr _ _ _ _ (pe_meth (pv 0) T.c_WordRow DX.meth D0 (hr.mono (by first | decide | lia)) DX.b .nil (wing_on rfl rfl rfl) (@pa1 _ _ _ pe_str (by rfl))) (by rfl)) (@pss_cons _ _ _ _ _ (@ps_set _ _ 2 _ _ _ _ dm.nd rfl (Or.inl rfl) (pe_call EW (hr.mono (by first | decide | lia)) rfl Ee.m Ee.F.kp Ee.b .nil (wing_on rfl rfl rfl) (@pa1 _ _ _ (pe_call En (hr.mono (by first | decide | lia)) rfl D7.m D7.F.kp D7.b .nil (wing_on rfl rfl rfl) (@pa3 _ _ _ _ _ _ _ (pv 0) pe_str pe_str (by rfl) (by rfl) (by rfl))) (by rfl))) (by rfl) (by first | exact .inl rfl | exact .inr rfl | assumption)) (@pss_one _ _ _ (@ps_ret _ _ _ _ (@pe_tupPK _ K _ _ _ _ rfl (@pa3 _ _ _ _ _ _ _ (pv 1) (pv 2) (pe_call EW (hr.mono (by first | decide | lia)) rfl Ee.m Ee.F.kp Ee.b .nil (wing_on rfl rfl rfl) (@pa1 _ _ _ (pe_call En (hr.mono (by first | decide | lia)) rfl D7.m D7.F.kp D7.b .nil (wing_on rfl rfl rfl) (@pa3 _ _ _ _ _ _ _ (pv 0) pe_str pe_str (by rfl) (by rfl) (by rfl))) (by rfl))) (by rfl) (by rfl) (by rfl))))))))),?_⟩;obtain ⟨dx,ws,hx,hl0,hp0,hlx0,h5⟩:=id hR;rcases q.word (But.refl _ _) h5.2 with ⟨wd,ht,e2,q1⟩ | ⟨hn,he⟩
 rotate_left
 ·exact ⟨_,rfl,x,dx,_,rfl,hx,ao lw p (by decide +kernel) (by decide +kernel),x,lw,ts,p,"word",rfl,hR,fun h=>absurd h hn,fun _=>he⟩
 refine ⟨_,rfl,x,dx,_,rfl,hx,ao lw p (by decide +kernel) (by decide +kernel),x,lw,ts,p,"word",rfl,hR,fun _ H1 b1 R1=>?_,fun h=>absurd ht h⟩;rw [e2]
 by_cases hw:wd= "words"
 ·rw [if_pos hw] at q1;exact q1.elim
 ·rw [if_neg hw] at q1;refine ⟨_,rfl,rfl,_,rfl,qp (aY hw) ⟨_,rfl,_,rfl,x,lw,ts,p+1,"turn",wd,rfl,R1,?_⟩⟩;exact Rdd.but q1 b1
def Dj (K:PySem.W.Frag) (ad:Ads):Sp:=fun vs H Q E=>∃ (x lw:Addr) (ts:List Tk) (p:Nat),vs=[.ref x]∧RowAt K ad.WordRow H x lw ts p∧Rdd K ad x lw ts H Q E (jG ts p)
theorem kt (T:Tx K mg ad) {f:Addr} {fd:FuncData} (F:Gn K mg "path_read" dY ["row"] f fd):FnOk P w K mg base (CXE P w) 4 f fd ["row"] (Dj K ad):=by
 obtain ⟨f1,d1,D3⟩:=T.m_WordRow_comes;have Ed:=be (P:=P) (w:=w) (base:=base) T D3;obtain ⟨f2,d2,DX⟩:=T.m_WordRow_take_mark;have D0:=ay (P:=P) (w:=w) (base:=base) T DX;obtain ⟨f3,d3,DY⟩:=T.m_WordRow_take;have D5:=aV (P:=P) (w:=w) (base:=base) T DY;obtain ⟨f4,d4,DZ⟩:=T.m_WordRow_coming;have D6:=aM (P:=P) (w:=w) (base:=base) T DZ;refine F.F.okW fC (fun vs H Q E h=>?_) (fun cdv A outer s H vs Q E hr h=>?_)
 ·obtain ⟨x,lw,ts,p,rfl,_⟩:=h
  rfl
 obtain ⟨x,lw,ts,p,rfl,hR,q⟩:=h;refine ⟨_,(@pss_cons _ _ _ _ _ (@ps_expr _ _ _ _ (pe_meth (pv 0) T.c_WordRow DX.meth D0 (hr.mono (by first | decide | lia)) DX.b .nil (wing_on rfl rfl rfl) (@pa1 _ _ _ pe_str (by rfl))) (by rfl)) (@pss_cons _ _ _ _ _ (@ps_if _ _ _ _ _ _ _ _ (PW.pt (@kT _ _ _ _ _ _ _ (pt_cmpR op_ne (@pe_ix _ _ _ _ _ _ _ (ix_tupDN (K:=K) rfl) (pe_meth (pv 0) T.c_WordRow DZ.meth D6 (hr.mono (by first | decide | lia)) DZ.b .nil dA (@pa1 _ _ _ pe_int (by rfl))) pe_int (fun _ _=>rfl)) pe_str (nomark _)) (@pw_or1 _ _ _ _ (pt_cmpR (nK (K:=K) rfl hr.units) (pe_meth (pv 0) T.c_WordRow DZ.meth D6 (hr.mono (by first | decide | lia)) DZ.b .nil dA (@pa1 _ _ _ pe_int (by rfl))) (@pe_tupPK _ K _ _ _ _ rfl (@pa2 _ _ _ _ _ pe_str pe_str (by rfl) (by rfl))) (nomark _))))) (@pss_one _ _ _ (@ps_ret _ _ _ _ (@pe_tupPK _ K _ _ _ _ rfl fM))) pss_nil) (@pss_cons _ _ _ _ _ (@ps_set _ _ 1 _ _ _ _ fC.nd rfl (Or.inl rfl) (@bA _ _ _ _ (@pa1 _ _ _ (pe_meth (pv 0) T.c_WordRow DY.meth D5 (hr.mono (by first | decide | lia)) DY.b .nil (wing_on rfl rfl rfl) (@pa1 _ _ _ pe_str (by rfl))) (by rfl))) (by rfl) (by first | exact .inl rfl | exact .inr rfl | assumption)) (@pss_cons _ _ _ _ _ (lA fun ok=>eV (dC ok.frames rfl ok.frf) (@pt_val _ _ _ (pe_meth (pv 0) T.c_WordRow D3.meth Ed (hr.mono (by first | decide | lia)) D3.b .nil dA (@pa1 _ _ _ pe_str (by rfl))) (by intro _;rfl))
    (@pss_cons _ _ _ _ _ (@ps_expr _ _ _ _ (pe_meth (pv 0) T.c_WordRow DX.meth D0 (hr.mono (by first | decide | lia)) DX.b .nil (wing_on rfl rfl rfl) (@pa1 _ _ _ pe_str (by rfl))) (by rfl)) (@pss_one _ _ _ (@ps_expr _ _ _ _ (pe_bm PySem.F.plainAttrs_list PySem.F.slot_list_append PySem.F.type_list_append cM (pv 1) (@pa1 _ _ _ (pe_meth (pv 0) T.c_WordRow DY.meth D5 (hr.mono (by first | decide | lia)) DY.b .nil (wing_on rfl rfl rfl) (@pa1 _ _ _ pe_str (by rfl))) (by rfl))) (by rfl))))) (@pss_one _ _ _ (@ps_ret _ _ _ _ (pe_callTy (cV (K:=K) rfl) rfl T.z_tuple boot_tuple (@pa1 _ _ _ (pv 1) (by rfl))))))))),?_⟩
 obtain ⟨dx,ws,hx,hl0,hp0,hlx0,h5⟩:=id hR;unfold jG at q;refine ⟨_,rfl,x,dx,_,rfl,hx,ao lw p (by decide +kernel) (by decide +kernel),x,lw,ts,p,"/",rfl,hR,fun hcm H1 b1 R1=>?_,fun hcm H1 g1=>?_⟩
 rotate_left
 ·rw [cQ hcm] at q;exact q H1 (But.same g1)
 rw [au hcm] at q;obtain ⟨dx1,ws1,hx1,hl1,hp1,_⟩:=id R1;refine ⟨_,rfl,x,dx1,_,rfl,hx1,ao lw _ (by decide +kernel) (by decide +kernel),x,lw,ts,p+1,0,rfl,R1,fun v hv=>?_⟩;rw [Nat.add_zero] at hv;have hv':IsD K H1 (.tup [.str (ag ts (p+1)).1,kDt (ag ts (p+1)).2]) v:=hv;refine ⟨_,_,_,hv',rfl,at0 _ _,fun v1 hv1=>?_⟩;obtain rfl:v1=.str (ag ts (p+1)).1:=by cases hv1;rfl
 refine ⟨rfl,_,rfl,?_⟩;have none':∀ {H2:Hp},Same H1 H2→(¬ (ag ts (p+1)).1= "word" ∨ag ts (p+1+1)=ae "(")→∃ l,IsPs K H2 l ([]:List V)∧([]:List V).length≤sizeLine∧∀ v H',Same H2 H'→IsP K H' (.tup l) v→Q v H':=fun {H2} g2 hor=>by
  rw [if_pos hor] at q;exact ⟨[],.nil,(by show 0≤sizeLine;decide),fun v H' g hv=>q v H' (((b1.trans (But.same g2))).trans (But.same g)) ((R1.same g2).same g) hv⟩
 by_cases hw:(ag ts (p+1)).1= "word"
 rotate_left
 ·obtain ⟨l,a1,a2,a3⟩:=none' (Same.refl H1) (.inl hw);exact qp (aY hw) (bT ⟨l,a1,a2,a3⟩)
 rw [hw];refine gn ⟨_,rfl,x,dx1,_,rfl,hx1,ao lw _ (by decide +kernel) (by decide +kernel),x,lw,ts,p+1,1,rfl,R1,fun v2 hv2=>?_⟩;refine ⟨[.str "mark",.str "("],.cons .str (.cons .str .nil),sz2,fun v3 H2 g2 hv3=>?_⟩;refine ⟨_,_,hv2.same g2,hv3.d,m4 _,_,rfl,?_⟩;rw [show eqD (tkD (ag ts (p+1+1))) (.tup [.str "mark",.str "("])=decide (ag ts (p+1+1)=ae "(") from m3 _ _ (Sum.inr "(")]
 by_cases hb:ag ts (p+1+1)=ae "("
 ·rw [decide_eq_true hb];obtain ⟨l,a1,a2,a3⟩:=none' g2 (.inr hb);exact bT ⟨l,a1,a2,a3⟩
 rw [decide_eq_false hb];refine bx ?_;rw [if_neg (fun h=>h.elim (fun h=>h hw) hb)] at q;have R2:=R1.same g2;have b2:=b1.trans (But.same g2 (r:=x));rcases q.word b2 h5.2 with ⟨wd,ht,e2,q1⟩ | ⟨hn,he⟩
 rotate_left
 ·exact absurd hw hn
 refine ⟨_,rfl,x,dx1,_,rfl,g2 _ _ hx1,ao lw _ (by decide +kernel) (by decide +kernel),x,lw,ts,p+1,"word",rfl,R2,fun _ H3 b3 R3=>?_,fun h=>absurd ht h⟩;rw [e2];refine ⟨sz1,fun l hl=>?_⟩;have b3':=b2.trans b3;have hlH:H l=none:=by
  cases c:H l with
  | none=>rfl
  | some o =>
   by_cases e:l=x
   ·subst e;obtain ⟨dx3,_,hx3,_⟩:=R3;rw [hx3] at hl
    cases hl
   ·rw [b3' _ _ e c] at hl
    cases hl
 have hxl:l≠x:=fun c=>by rw [c,hx] at hlH;cases hlH
 have hwl:lw≠l:=am hl0 hlH;refine ⟨fun m σ H'=>∃ (p':Nat) (fs:List Dt) (ys:List V),But x H H'∧RowAt K ad.WordRow H' x lw ts p'∧H' l=some (.lst ys)∧IsPs K H' fs ys∧fs.length+m≤ts.length+2∧Rdd K ad x lw ts H Q E (gr ts m p' fs)∧σ=[some (.ref x),some (.ref l)],
  ⟨ts.length+1,p+1+1,[.str wd],[.str wd],b3'.trans (But.same (ax hl _)),R3.same (ax hl _),ac,.cons .str .nil,(by simp only [List.length_cons,List.length_nil];lia),q1,rfl⟩,?_⟩
 rintro m σ H4 ⟨p',fs,ys,b4,R4,f4,hp4,hm,q4,rfl⟩
 cases m with
 | zero=>exact q4.elim
 | succ m =>
 obtain ⟨dx4,ws4,hx4,_⟩:=id R4;have ly:=hp4.length;refine ⟨_,rfl,x,dx4,_,rfl,hx4,ao lw p' (by decide +kernel) (by decide +kernel),x,lw,ts,p',"/",rfl,R4,fun H5 g5=>?_⟩;have R5:=R4.same g5;have f5:=g5 _ _ f4;have hp5:=hp4.same g5;have b5:But x H H5:=b4.trans (But.same g5);simp only [gr] at q4
 by_cases hc:ag ts p'=ae "/"
 ·rw [if_pos hc] at q4;rw [decide_eq_true hc];refine ⟨_,rfl,bT ⟨fun σ' H'=>∃ (p':Nat) (fs:List Dt) (ys:List V),But x H H'∧RowAt K ad.WordRow H' x lw ts p'∧H' l=some (.lst ys)∧IsPs K H' fs ys∧fs.length+m≤ts.length+2∧Rdd K ad x lw ts H Q E (gr ts m p' fs)∧σ'=[some (.ref x),some (.ref l)],fun σ' H' r=>⟨m,by lia,r⟩,?_⟩⟩;refine ⟨_,rfl,x,dx4,_,rfl,g5 _ _ hx4,ao lw p' (by decide +kernel) (by decide +kernel),x,lw,ts,p',"/",rfl,R5,fun _ H6 b6 R6=>?_,fun h=>absurd hc h⟩;have f6:=b6 _ _ hxl f5;have hp6:=aL R5.mut b6 hp5;have b6':=b5.trans b6;obtain ⟨dx6,ws6,hx6,_⟩:=id R6;rcases q4.word b6' h5.2 with ⟨wd',ht',e2',q5⟩ | ⟨hn,he⟩
  rotate_left
  ·exact ⟨_,rfl,.inl ⟨rfl,_,SqL.of f6⟩,_,rfl,x,dx6,_,rfl,hx6,ao lw _ (by decide +kernel) (by decide +kernel),x,lw,ts,p' + 1,"word",rfl,R6,fun h=>absurd h hn,fun _=>he⟩
  refine ⟨_,rfl,.inl ⟨rfl,_,SqL.of f6⟩,_,rfl,x,dx6,_,rfl,hx6,ao lw _ (by decide +kernel) (by decide +kernel),x,lw,ts,p' + 1,"word",rfl,R6,fun _ H7 b7 R7=>?_,fun h=>absurd ht' h⟩;rw [e2'];have f7:=b7 _ _ hxl f6;refine ⟨l,ys,_,rfl,rfl,f7,Nat.lt_of_lt_of_le (show ys.length < 100003 by have:=h5.1;lia) (by decide),p' + 1+1,fs++[.str wd'],ys++[.str wd'],fun b o nb eb=>?_,R7.put f7 _ hwl,ac,((aL R6.mut b7 hp6).but f7 But.put).append (.cons .str .nil),by rw [List.length_append];simp only [List.length_cons,List.length_nil];lia,q5,rfl⟩;rw [af (am eb hlH)];exact b7 _ _ nb (b6' _ _ nb eb)
 ·rw [if_neg hc] at q4;rw [decide_eq_false hc];refine ⟨_,rfl,bx ⟨_,rfl,l,ys,_,rfl,SqL.of f5,hp5,fun v H6 g6 hv=>?_⟩⟩;exact q4 v H6 (b5.trans (But.same g6)) (R5.same g6) hv
theorem ku (T:Tx K mg ad) (n:Nat) {f:Addr} {fd:FuncData} (D2:Gn K mg "part_read" a9 ["row","sort"] f fd)
  (Ea:FnOk P w K mg base (CXE P w) (n+4) f fd ["row","sort"] (iz K ad n)) (FT:FnOk P w K mg base (CXE P w) (n+1+4) f fd ["row","sort"] (iz K ad (n+1))):FnOk P w K mg base (CXE P w) (n+3+4) f fd ["row","sort"] (iz K ad (n+3)):=by
 obtain ⟨f1,d1,D7⟩:=T.list_read;have En:=kn (P:=P) (w:=w) (base:=base) T n D7 D2 Ea;obtain ⟨f2,d2,Eg⟩:=T.form_read;have EL:=ko (P:=P) (w:=w) (base:=base) T n Eg D2 Ea;obtain ⟨f3,d3,Ex⟩:=T.value_read;have Fu:=iZ (P:=P) (w:=w) (base:=base) T n Ex D7 En;obtain ⟨f4,d4,EF⟩:=T.pair_read;have FH:=kq (P:=P) (w:=w) (base:=base) T (n+1) EF D2 FT;obtain ⟨f5,d5,EK⟩:=T.turn_read;have FA:=kr (P:=P) (w:=w) (base:=base) T n EK Eg D7 EL En;obtain ⟨f6,d6,El⟩:=T.path_read;have Fc:=kt (P:=P) (w:=w) (base:=base) T El;obtain ⟨f7,d7,ES⟩:=T.kind_read;have Fw:FnOk P w K mg base (CXE P w) 1 f7 d7 ["row"] (fun _ _ _ _=>False):=bB fun _ _ _ _ h=>h;obtain ⟨f8,d8,DY⟩:=T.m_WordRow_take;have D5:=aV (P:=P) (w:=w) (base:=base) T DY;obtain ⟨a_PAIR,c_PAIR_SORTS,k_PAIR⟩:=T.PAIR_SORTS;refine D2.F.okW fA (fun vs H Q E h=>?_) (fun cdv A outer s H vs Q E hr h=>?_)
 ·obtain ⟨x,lw,ts,p,s,rfl,_⟩:=h
  rfl
 obtain ⟨x,lw,ts,p,s,rfl,hR,q⟩:=h;refine ⟨_,(@pss_cons _ _ _ _ _ (@ps_if _ _ _ _ _ _ _ _ (pt_cmpR op_eq (pv 1) pe_str (nomark _)) (@pss_one _ _ _ (@ps_ret _ _ _ _ (pe_call Fu (hr.mono (by first | decide | lia)) rfl Ex.m Ex.F.kp Ex.b .nil (wing_on rfl rfl rfl) (@pa1 _ _ _ (pv 0) (by rfl))))) pss_nil) (@pss_cons _ _ _ _ _ (@ps_if _ _ _ _ _ _ _ _ (pt_cmpR op_eq (pv 1) pe_str (nomark _)) (@pss_one _ _ _ (@ps_ret _ _ _ _ (pe_call Fw (hr.mono (by first | decide | lia)) rfl ES.m ES.F.kp ES.b .nil (wing_on rfl rfl rfl) (@pa1 _ _ _ (pv 0) (by rfl))))) pss_nil) (@pss_cons _ _ _ _ _ (@ps_if _ _ _ _ _ _ _ _ (pt_cmpR op_eq (pv 1) pe_str (nomark _)) (@pss_one _ _ _ (@ps_ret _ _ _ _ (pe_call FA (hr.mono (by first | decide | lia)) rfl EK.m EK.F.kp EK.b .nil (wing_on rfl rfl rfl) (@pa1 _ _ _ (pv 0) (by rfl))))) pss_nil) (@pss_cons _ _ _ _ _ (@ps_if _ _ _ _ _ _ _ _ (pt_cmpR op_eq (pv 1) pe_str (nomark _)) (@pss_one _ _ _ (@ps_ret _ _ _ _ (pe_call EL (hr.mono (by first | decide | lia)) rfl Eg.m Eg.F.kp Eg.b .nil (wing_on rfl rfl rfl) (@pa3 _ _ _ _ _ _ _ (pv 0) pe_str (pe_meth (pv 0) T.c_WordRow DY.meth D5 (hr.mono (by first | decide | lia)) DY.b .nil (wing_on rfl rfl rfl) (@pa1 _ _ _ pe_str (by rfl))) (by rfl) (by rfl) (by rfl))))) pss_nil) (@pss_cons _ _ _ _ _ (@ps_if _ _ _ _ _ _ _ _ (pt_cmpR op_eq (pv 1) pe_str (nomark _)) (@pss_one _ _ _ (@ps_ret _ _ _ _ (pe_call Fc (hr.mono (by first | decide | lia)) rfl El.m El.F.kp El.b .nil (wing_on rfl rfl rfl) (@pa1 _ _ _ (pv 0) (by rfl))))) pss_nil) (@pss_cons _ _ _ _ _ (@ps_if _ _ _ _ _ _ _ _ (pt_cmpR op_eq (pv 1) pe_str (nomark _)) (@pss_cons _ _ _ _ _ (@ps_set _ _ 2 _ _ _ _ fA.nd rfl (Or.inl rfl) (pe_call Fc (hr.mono (by first | decide | lia)) rfl El.m El.F.kp El.b .nil (wing_on rfl rfl rfl) (@pa1 _ _ _ (pv 0) (by rfl))) (by rfl) (by first | exact .inl rfl | exact .inr rfl | assumption)) (@pss_one _ _ _ (@ps_ret _ _ _ _ (@pe_tupPK _ K _ _ _ _ rfl (@pa2 _ _ _ _ _ (pv 2) (pe_call Ea (hr.mono (by first | decide | lia)) rfl D2.m D2.F.kp D2.b .nil (wing_on rfl rfl rfl) (@pa2 _ _ _ _ _ (pv 0) pe_str (by rfl) (by rfl))) (by rfl) (by rfl)))))) pss_nil) (@pss_cons _ _ _ _ _ (@ps_if _ _ _ _ _ _ _ _ (pt_cmpR (xn (K:=K) rfl) (pv 1) (e8 rfl c_PAIR_SORTS) rfl) (@pss_one _ _ _ (@ps_ret _ _ _ _ (pe_call FH (hr.mono (by first | decide | lia)) rfl EF.m EF.F.kp EF.b .nil (wing_on rfl rfl rfl) (@pa2 _ _ _ _ _ (pv 0) (sh (K:=K) rfl (e8 rfl c_PAIR_SORTS) (pv 1) (fun _ _=>rfl)) (by rfl) (by rfl))))) pss_nil) (@pss_one _ _ _ (@ps_ret _ _ _ _ (pe_meth (pv 0) T.c_WordRow DY.meth D5 (hr.mono (by first | decide | lia)) DY.b .nil (wing_on rfl rfl rfl) (@pa1 _ _ _ (pv 1) (by rfl)))))))))))),?_⟩;obtain ⟨dx,ws,hx,hl0,hp0,hlx0,h5⟩:=id hR;simp only [prs] at q;refine ⟨_,rfl,rfl,_,rfl,?_⟩
 by_cases h1:s= "value"
 ·rw [if_pos h1] at q;subst h1;exact cY ⟨_,rfl,x,lw,ts,p,rfl,hR,q⟩
 rw [if_neg h1] at q;refine bZ (aY h1) ⟨_,rfl,rfl,_,rfl,?_⟩
 by_cases h2:s= "kind"
 ·rw [if_pos h2] at q;exact q.elim
 rw [if_neg h2] at q;refine bZ (aY h2) ⟨_,rfl,rfl,_,rfl,?_⟩
 by_cases h3:s= "turn"
 ·rw [if_pos h3] at q;subst h3;exact cY ⟨_,rfl,x,lw,ts,p,rfl,hR,q⟩
 rw [if_neg h3] at q;refine bZ (aY h3) ⟨_,rfl,rfl,_,rfl,?_⟩
 by_cases h4:s= "piece"
 ·rw [if_pos h4] at q;subst h4;refine cY ?_;rcases q.word (But.refl _ _) h5.2 with ⟨wd,ht,e2,q1⟩ | ⟨hn,he⟩
  rotate_left
  ·exact ⟨_,rfl,_,rfl,x,dx,_,rfl,hx,ao lw p (by decide +kernel) (by decide +kernel),x,lw,ts,p,"word",rfl,hR,fun h=>absurd h hn,fun _=>he⟩
  refine ⟨_,rfl,_,rfl,x,dx,_,rfl,hx,ao lw p (by decide +kernel) (by decide +kernel),x,lw,ts,p,"word",rfl,hR,fun _ H1 b1 R1=>?_,fun h=>absurd ht h⟩;rw [e2];exact ⟨x,lw,ts,p+1,"piece",wd,rfl,R1,Rdd.but q1 b1⟩
 rw [if_neg h4] at q;refine bZ (aY h4) ⟨_,rfl,rfl,_,rfl,?_⟩
 by_cases h5':s= "path"
 ·rw [if_pos h5'] at q;subst h5';exact cY ⟨_,rfl,x,lw,ts,p,rfl,hR,q⟩
 rw [if_neg h5'] at q;refine bZ (aY h5') ⟨_,rfl,rfl,_,rfl,?_⟩
 by_cases h6:s= "change"
 ·rw [if_pos h6] at q;exact q.elim
 rw [if_neg h6] at q;refine bZ (aY h6) ⟨_,rfl,s,a_PAIR,iy,rfl,rfl,k_PAIR,_,rfl,?_⟩
 cases hl:ci s iy with
 | some s' =>
  rw [hl] at q;exact bT ⟨_,rfl,_,rfl,s,a_PAIR,iy,s',rfl,rfl,k_PAIR,hl,x,lw,ts,p,s',rfl,hR,q⟩
 | none =>
  rw [hl] at q;refine bx ⟨_,rfl,x,dx,_,rfl,hx,ao lw p (by decide +kernel) (by decide +kernel),_,rfl,x,lw,ts,p,s,rfl,hR,fun e H' b' R'=>?_,fun e=>?_⟩
  ·dsimp only at q;unfold bi at q;rw [if_pos e] at q;exact q _ H' b' R' (qF _)
  ·dsimp only at q;unfold bi at q;rw [if_neg e] at q;exact q H (But.refl _ _)
theorem iA (T:Tx K mg ad) {f:Addr} {fd:FuncData} (D:Gn K mg "part_read" a9 ["row","sort"] f fd):∀ n,FnOk P w K mg base (CXE P w) (n+4) f fd ["row","sort"] (iz K ad n)
 | 0=>bB fun vs H Q E z=>by obtain ⟨_,_,_,_,_,_,_,h⟩:=z;exact h
 | 1=>bB fun vs H Q E z=>by obtain ⟨_,_,_,_,_,_,_,h⟩:=z;exact h
 | 2=>bB fun vs H Q E z=>by obtain ⟨_,_,_,_,_,_,_,h⟩:=z;exact h
 | n+3=>ku T n D (iA T D n) (iA T D (n+1))
theorem fh (sp:Str):∀ zs:List Str,(zs.map (·.length)).sum≤(Str.join sp zs).length
 | []=>Nat.zero_le _
 | [x]=>by simp [Str.join]
 | x :: y :: r=>by
  have:=fh sp (y :: r);rw [PyProof.Rows.join_cons_cons,Str.length_append,Str.length_append];simp only [List.map_cons,List.sum_cons] at this ⊢;lia
theorem iB (sp:Str) (zs:List Str):Txt.join sp zs=Str.join sp zs:=PySem.StrLaws.glued_eq_join sp zs
def i0 (_:PySem.W.Frag) (_:Ads):Sp:=fun vs H Q _=>∃ i:Int,vs=[.int i]∧i.natAbs < 10 ^ 70∧Q (.str (fW i)) H
theorem sV {i:Int} (h:i.natAbs < 10 ^ 70):i.natAbs.log2 < 1920:=by
 by_cases h0:i.natAbs=0
 ·rw [h0];decide
 ·exact (Nat.log2_lt h0).mpr (Nat.lt_of_lt_of_le h (by decide +kernel))
theorem i3 (T:Tx K mg ad) {f:Addr} {fd:FuncData} (F:Gn K mg "figures_of" df ["number"] f fd):FnOk P w K mg base CX0 1 f fd ["number"] (i0 K ad):=by
 refine F.F.ok jj (fun vs H Q E h=>?_) (fun cdv A outer s H vs Q E hr h=>?_)
 ·obtain ⟨i,rfl,_⟩:=h
  rfl
 obtain ⟨i,rfl,hi,q⟩:=h;refine ⟨_,(@pss_one _ _ _ (@ps_ret _ _ _ _ (pe_callTy eX rfl T.z_str boot_str (@pa1 _ _ _ (pv 0) (by rfl))))),?_⟩;exact ⟨_,rfl,i,rfl,sV hi,q⟩
def pb (_:PySem.W.Frag) (_:Ads):Sp:=fun vs H Q _=>∃ z:Str,vs=[.str z]∧z.length≤100000∧Q (.str (Str.ofString "\"" ++z++Str.ofString "\"")) H
theorem aT {n:Nat} (h:n≤300000):n≤sizeLine:=Nat.le_trans h (by decide)
theorem pd (T:Tx K mg ad) {f:Addr} {fd:FuncData} (F:Gn K mg "quoted" iU ["text"] f fd):FnOk P w K mg base CX0 1 f fd ["text"] (pb K ad):=by
 refine F.F.ok pA (fun vs H Q E h=>?_) (fun cdv A outer s H vs Q E hr h=>?_)
 ·obtain ⟨z,rfl,_⟩:=h
  rfl
 obtain ⟨z,rfl,hz,q⟩:=h;refine ⟨_,(@pss_one _ _ _ (@ps_ret _ _ _ _ (@ah _ _ _ _ _ _ _ _ ai (@ah _ _ _ _ _ _ _ _ ai pe_str (pv 0)) pe_str))),?_⟩;have l1:(Str.ofString "\"").length=1:=by decide +kernel
 exact ⟨_,rfl,_,_,rfl,rfl,aT (by lia),_,_,rfl,rfl,aT (by rw [Str.length_append];lia),q⟩
def iC (K:PySem.W.Frag) (_:Ads):Sp:=fun vs H Q _=>∃ (l:Addr) (zs:List Str),vs=[.ref l]∧SqL K H l (zs.map V.str)∧zs.length≤1000∧(Str.join (Str.ofString ", ") zs).length≤100000∧Q (.str (Str.join (Str.ofString ", ") zs)) H
theorem ck (T:Tx K mg ad) {f:Addr} {fd:FuncData} (F:Gn K mg "with_commas" cI ["texts"] f fd):FnOk P w K mg base CX0 1 f fd ["texts"] (iC K ad):=by
 refine F.F.ok iV (fun vs H Q E h=>?_) (fun cdv A outer s H vs Q E hr h=>?_)
 ·obtain ⟨l,zs,rfl,_⟩:=h
  rfl
 obtain ⟨l,zs,rfl,hl,hz,hj,q⟩:=h;refine ⟨_,(@pss_one _ _ _ (@ps_ret _ _ _ _ (pe_bm PySem.F.plainAttrs_str PySem.F.slot_str_join PySem.F.type_str_join ii pe_str (@pa1 _ _ _ (pv 0) (by rfl))))),?_⟩;have l1:(Str.ofString ", ").length=2:=by decide +kernel
 have js:=fh (Str.ofString ", ") zs;refine ⟨rfl,_,rfl,_,l,zs,rfl,rfl,.inl hl,by rw [l1];lia,?_⟩;rw [iB];exact q
def kx (_:PySem.W.Frag) (_:Ads):Sp:=fun vs H Q _=>∃ a z:Str,vs=[.str a,.str z]∧a.length≤100000∧z.length≤100000∧Q (.str (a++Str.ofString ": " ++z)) H
theorem nR (a:Str):Str.empty++a=a:=by
 apply gQ;show (#[]++a.cps).toList=_;simp
theorem fi (T:Tx K mg ad) {f:Addr} {fd:FuncData} (F:Gn K mg "pair_text" dR ["word","text"] f fd):FnOk P w K mg base CX0 1 f fd ["word","text"] (kx K ad):=by
 refine F.F.ok kN (fun vs H Q E h=>?_) (fun cdv A outer s H vs Q E hr h=>?_)
 ·obtain ⟨a,z,rfl,_⟩:=h
  rfl
 obtain ⟨a,z,rfl,ha,hz,q⟩:=h;refine ⟨_,(@pss_one _ _ _ (@ps_ret _ _ _ _ (j7 (eJ (pv 0) (fU pe_str (eJ (pv 1) mS)))))),?_⟩;have l1:(Str.ofString ": ").length=2:=by decide +kernel
 have l0:Str.empty.length=0:=rfl;refine ⟨_,rfl,a,rfl,bL ha,aT (by rw [Str.length_append];lia),_,rfl,bL (by lia),aT (by rw [Str.length_append,Str.length_append];lia),_,rfl,z,rfl,bL hz,aT (by rw [Str.length_append,Str.length_append,Str.length_append];lia),aT (by rw [Str.length_append,Str.length_append,Str.length_append];lia),?_⟩;rw [nR];exact q
def iD (K:PySem.W.Frag) (_:Ads):Sp:=fun vs H Q _=>∃ (a:Str) (l:Addr) (zs:List Str),vs=[.str a,.ref l]∧SqL K H l (zs.map V.str)∧a.length≤100000∧zs.length≤1000∧(Str.join (Str.ofString ", ") zs).length≤100000∧Q (.str (a++Str.ofString "(" ++Str.join (Str.ofString ", ") zs++Str.ofString ")")) H
theorem iE (T:Tx K mg ad) {f:Addr} {fd:FuncData} (F:Gn K mg "in_brackets" cH ["word","texts"] f fd):FnOk P w K mg base CX0 2 f fd ["word","texts"] (iD K ad):=by
 obtain ⟨_,_,D8⟩:=T.with_commas;have Eh:=ck (P:=P) (w:=w) (base:=base) T D8;refine F.F.ok eg (fun vs H Q E h=>?_) (fun cdv A outer s H vs Q E hr h=>?_)
 ·obtain ⟨a,l,zs,rfl,_⟩:=h
  rfl
 obtain ⟨a,l,zs,rfl,hl,ha,hz,hj,q⟩:=h;refine ⟨_,(@pss_cons _ _ _ _ _ (@ps_set _ _ 2 _ _ _ _ eg.nd rfl (Or.inl rfl) (pcl D8 Eh (hr.mono (by lia)) rfl (@pa1 _ _ _ (pv 1) (by rfl))) (by rfl) (by first | exact .inl rfl | exact .inr rfl | assumption)) (@pss_one _ _ _ (@ps_ret _ _ _ _ (j7 (eJ (pv 0) (fU pe_str (eJ (pv 2) (fU pe_str mS)))))))),?_⟩;have l1:(Str.ofString "(").length=1:=by decide +kernel
 have l2:(Str.ofString ")").length=1:=by decide +kernel
 have l0:Str.empty.length=0:=rfl;refine ⟨_,rfl,l,zs,rfl,hl,hz,hj,?_⟩;refine ⟨_,rfl,a,rfl,bL ha,aT (by rw [Str.length_append];lia),_,rfl,bL (by lia),aT (by rw [Str.length_append,Str.length_append];lia),_,rfl,_,rfl,bL hj,aT (by rw [Str.length_append,Str.length_append,Str.length_append];lia),_,rfl,bL (by lia),aT (by rw [Str.length_append,Str.length_append,Str.length_append,Str.length_append];lia),aT (by rw [Str.length_append,Str.length_append,Str.length_append,Str.length_append];lia),?_⟩;rw [nR];exact q
def DT (p:Str×Dt):Dt:=.tup [.str p.1,p.2]
def iF (q:(Str×Dt)×Str):Str:=q.1.1++Str.ofString ": " ++q.2
inductive VT:Nat→Dt→Str→Prop
 | int (n:Nat) (i:Int):i.natAbs < 10 ^ 70→VT n (.int i) (fW i)
 | str (n:Nat) (z:Str):VT n (.str z) (Str.ofString "\"" ++z++Str.ofString "\"")
 | list (n:Nat) (ds:List Dt) (zs:List Str):zs.length=ds.length→ds.length≤1000→(∀ (i:Nat) (d:Dt) (z:Str),ds[i]?=some d→zs[i]?=some z→VT n d z)→VT (n+1) (mk2 "list" (.tup ds)) (Str.ofString "[" ++Str.join (Str.ofString ", ") zs++Str.ofString "]")
 | rows (n:Nat) (ds:List Dt) (zs:List Str):zs.length=ds.length→ds.length≤1000→(∀ (i:Nat) (d:Dt) (z:Str),ds[i]?=some d→zs[i]?=some z→VT n d z)→VT (n+1) (mk2 "rows" (.tup ds)) (Str.ofString "(" ++Str.join (Str.ofString ", ") zs++Str.ofString ")")
 | record (n:Nat) (ps:List (Str×Dt)) (ys:List Str):ys.length=ps.length→ps.length≤1000→(∀ (i:Nat) (p:Str×Dt) (y:Str),ps[i]?=some p→ys[i]?=some y→VT n p.2 y)→VT (n+1) (mk2 "record" (.tup (ps.map DT))) (Str.ofString "{" ++Str.join (Str.ofString ", ") ((ps.zip ys).map iF)++Str.ofString "}")
def sVT (K:PySem.W.Frag) (n:Nat):Sp:=fun vs H Q _=>∃ (d:Dt) (x:V) (z:Str),vs=[x]∧IsP K H d x∧VT n d z∧z.length≤100000∧∀ H',Same H H'→Q (.str z) H'
theorem i4 (T:Tx K mg ad) (n:Nat) {f:Addr} {fd:FuncData} (Er:Gn K mg "value_text" cc ["value"] f fd) (Eo:∀ m,m < n→FnOk P w K mg base CX0 (m+3) f fd ["value"] (sVT K m)):FnOk P w K mg base CX0 (n+3) f fd ["value"] (sVT K n):=by
 obtain ⟨f1,d1,E8⟩:=T.figures_of;have Fs:=i3 (P:=P) (w:=w) (base:=base) T E8;obtain ⟨f2,d2,Ft⟩:=T.quoted;have FR:=pd (P:=P) (w:=w) (base:=base) T Ft;obtain ⟨f3,d3,D8⟩:=T.with_commas;have Eh:=ck (P:=P) (w:=w) (base:=base) T D8;obtain ⟨f4,d4,Ev⟩:=T.pair_text;have EV:=fi (P:=P) (w:=w) (base:=base) T Ev;have Eo:FnOk P w K mg base CX0 (n+2) f fd ["value"] (fun vs H Q E=>∃ m,n=m+1∧sVT K m vs H Q E):=by
  cases n with
  | zero=>exact bB fun _ _ _ _ h=>by obtain ⟨m,h,_⟩:=h;cases h
  | succ m =>
   have g:=Eo m (Nat.lt_succ_self m);exact g.imp fun vs H Q E h=>by obtain ⟨m',e,h⟩:=h;cases e;exact h
 refine Er.F.ok sc_value_text (fun vs H Q E h=>?_) (fun cdv A outer s H vs Q E hr h=>?_)
 ·obtain ⟨d,x,z,rfl,_⟩:=h
  rfl
 obtain ⟨d,x,z,rfl,hd,vt,hz,q⟩:=h;refine ⟨_,(@pss_cons _ _ _ _ _ (@ps_if _ _ _ _ _ _ _ _ (@pt_val _ _ _ (pe_callB (call_isiN' (K:=K) rfl) rfl T.z_isinstance boot_isinstance (@pa2 _ _ _ _ _ (pv 0) (jZ rfl T.z_int boot_int) (by rfl) (by rfl))) (by intro _;rfl)) (@pss_one _ _ _ (@ps_ret _ _ _ _ (pcl E8 Fs (hr.mono (by lia)) rfl (@pa1 _ _ _ (pv 0) (by rfl))))) pss_nil) (@pss_cons _ _ _ _ _ (@ps_if _ _ _ _ _ _ _ _ (@pt_val _ _ _ (pe_callB (call_isiN' (K:=K) rfl) rfl T.z_isinstance boot_isinstance (@pa2 _ _ _ _ _ (pv 0) (jZ rfl T.z_str boot_str) (by rfl) (by rfl))) (by intro _;rfl)) (@pss_one _ _ _ (@ps_ret _ _ _ _ (pcl Ft FR (hr.mono (by lia)) rfl (@pa1 _ _ _ (pv 0) (by rfl))))) pss_nil) (@pss_cons _ _ _ _ _ (@ps_if _ _ _ _ _ _ _ _ (pt_cmpR op_eq (@pi1 K _ _ _ _ _ _ _ rfl (pv 0)) pe_str (nomark _)) (@pss_cons _ _ _ _ _ (@ps_set _ _ 1 _ _ _ _ sc_value_text.nd rfl (Or.inl rfl) (pcl D8 Eh (hr.mono (by lia)) rfl (@pa1 _ _ _ (pe_comp rfl (cs0 (NL:=["name","own"]) rfl (by decide +kernel) (by decide +kernel)) (e9 (K:=K) rfl (@pi1 K _ _ _ _ _ _ _ rfl (pv 0))) (fun _ _ _ _=>(j3 (K:=K) (n:=2) rfl rfl (aU (aE (i:=0) (show List.Nodup (α:=Str) ["name","own"] by decide +kernel) rfl (Or.inl rfl)) (aU (aE (i:=1) (show List.Nodup (α:=Str) ["name","own"] by decide +kernel) rfl (Or.inl rfl)) eU)))) (fun _ _ _ _=>(pcl Ev EV (hr.mono (by lia)) rfl (@pa2 _ _ _ _ _ (pv 0) (pcl Er Eo (hr.mono (by lia)) rfl (@pa1 _ _ _ (pv 1) (by rfl))) (by rfl) (by rfl))))) (by rfl))) (by rfl) (by first | exact .inl rfl | exact .inr rfl | assumption)) (@pss_one _ _ _ (@ps_ret _ _ _ _ (@ah _ _ _ _ _ _ _ _ ai (@ah _ _ _ _ _ _ _ _ ai pe_str (pv 1)) pe_str)))) pss_nil) (@pss_cons _ _ _ _ _ (@ps_set _ _ 1 _ _ _ _ sc_value_text.nd rfl (Or.inl rfl) (pcl D8 Eh (hr.mono (by lia)) rfl (@pa1 _ _ _ (pe_comp rfl (cs0 (NL:=["item"]) rfl (by decide +kernel) (by decide +kernel)) (e9 (K:=K) rfl (@pi1 K _ _ _ _ _ _ _ rfl (pv 0))) (fun _ _ _ _=>(aE (i:=0) (show List.Nodup (α:=Str) ["item"] by decide +kernel) rfl (Or.inl rfl))) (fun _ _ _ _=>(pcl Er Eo (hr.mono (by lia)) rfl (@pa1 _ _ _ (pv 0) (by rfl))))) (by rfl))) (by rfl) (by first | exact .inl rfl | exact .inr rfl | assumption)) (@pss_cons _ _ _ _ _ (@ps_if _ _ _ _ _ _ _ _ (pt_cmpR op_eq (@pi1 K _ _ _ _ _ _ _ rfl (pv 0)) pe_str (nomark _)) (@pss_one _ _ _ (@ps_ret _ _ _ _ (@ah _ _ _ _ _ _ _ _ ai (@ah _ _ _ _ _ _ _ _ ai pe_str (pv 1)) pe_str))) pss_nil) (@pss_one _ _ _ (@ps_ret _ _ _ _ (@ah _ _ _ _ _ _ _ _ ai (@ah _ _ _ _ _ _ _ _ ai pe_str (pv 1)) pe_str)))))))),?_⟩;have mem_le:∀ {zs:List Str} {i:Nat} {y:Str},zs[i]?=some y→y.length≤(Str.join (Str.ofString ", ") zs).length:=fun h=>PySem.join_mem_le _ _ _ (List.mem_of_getElem? h);have l1:∀ s:String,s∈["[","]","(",")","{","}"]→(Str.ofString s).length=1:=by decide +kernel
 cases vt with
 | int _ i hi =>
  obtain rfl:=mU hd;exact ⟨_,rfl,_,_,_,rfl,.int_int,_,rfl,bT ⟨_,rfl,i,rfl,hi,q H (Same.refl H)⟩⟩
 | str _ z0 =>
  obtain rfl:=cX hd;refine ⟨_,rfl,_,_,_,rfl,.str_int,_,rfl,bx ⟨_,rfl,_,_,_,rfl,.str_str,_,rfl,bT ⟨_,rfl,z0,rfl,?_,q H (Same.refl H)⟩⟩⟩;rw [Str.length_append,Str.length_append] at hz;lia
 | record m ps ys e1 e2 e3 =>
  obtain ⟨a,u1,u2,rfl,ha,hu1,hu2⟩:=fX hd;obtain rfl:=cX hu1;rw [Str.length_append,Str.length_append,l1 "{" (by simp),l1 "}" (by simp)] at hz;refine ⟨_,rfl,_,_,_,rfl,.tup_int ha,_,rfl,bx ⟨_,rfl,_,_,_,rfl,.tup_str ha,_,rfl,bx ?_⟩⟩;refine ⟨_,rfl,_,_,_,hd,rfl,at0 _ _,isS ?_⟩;refine ⟨rfl,_,rfl,cY ⟨_,rfl,_,_,_,hd,rfl,rfl,fun v2 hv2=>?_⟩⟩;obtain ⟨b,xs,rfl,hb,_,rb⟩:=hv2.unref;have lx:=rb.length;rw [List.length_map] at lx;refine ⟨b,rfl,⟨_,hb⟩,fun l hl=>?_⟩;refine fS (K:=K) (xs:=xs) (fun i zs σ H'=>zs=(((ps.zip ys).map iF).take i).map V.str∧Same H H'∧H' l=some (.lst zs)∧∃ w1 w2,σ=[w1,w2]) ⟨rfl,ax hl _,ac,_,_,rfl⟩ (fun i zs σ H' _ p=>p.2.1.tup hb) ?_ ?_
  ·rintro i y zs σ H1 N hy ⟨rfl,g1,f1',w1,w2,rfl⟩ next;obtain ⟨d0,hd0,hdy⟩:=rb.get' hy;rw [List.getElem?_map] at hd0;obtain ⟨p0,hp0,rfl⟩:=Option.map_eq_some_iff.mp hd0;have hi:=(List.getElem?_eq_some_iff.mp hp0).1;obtain ⟨y0,hy0⟩:∃ y0,ys[i]?=some y0:=⟨_,List.getElem?_eq_getElem (by lia)⟩;have hz0:((ps.zip ys).map iF)[i]?=some (iF (p0,y0)):=by rw [List.getElem?_map,(List.getElem?_zip_eq_some (z:=(p0,y0))).mpr ⟨hp0,hy0⟩];rfl
   obtain ⟨c,c1,c2,rfl,hc,hc1,hc2⟩:=fX (show IsP K H (.tup [.str p0.1,p0.2]) y from hdy);obtain rfl:=cX hc1;have ml:=mem_le hz0;rw [show (iF (p0,y0)).length=p0.1.length+(Str.ofString ": ").length+y0.length from by show (p0.1++Str.ofString ": " ++y0).length=_;rw [Str.length_append,Str.length_append]] at ml;refine ⟨c,_,rfl,g1.tup hc,rfl,_,_,rfl,_,_,rfl,rfl,?_⟩;refine ⟨_,rfl,_,rfl,m,rfl,p0.2,c2,y0,rfl,hc2.same g1,e3 i p0 y0 hp0 hy0,by lia,fun H2 g2=>?_⟩;refine ⟨_,_,rfl,by lia,by lia,g2 _ _ f1',?_,next _ _ _ ⟨?_,cN hl (g1.trans g2),ac,_,_,rfl⟩⟩
   ·rw [List.length_map,List.length_take];exact bc (by lia)
   ·rw [List.take_add_one,hz0,List.map_append]
    rfl
  rintro zs σ H1 ⟨rfl,g1,f1',w1,w2,rfl⟩;have ll:((ps.zip ys).map iF).length=ps.length:=by rw [List.length_map,List.length_zip,e1,Nat.min_self]
  rw [List.take_of_length_le (by lia)] at f1';refine ⟨l,_,rfl,SqL.of f1',by lia,by lia,?_⟩;refine ⟨_,rfl,_,_,rfl,rfl,?_,_,_,rfl,rfl,?_,q H1 g1⟩
  ·rw [l1 "{" (by simp)];exact aT (by lia)
  ·rw [Str.length_append,l1 "{" (by simp),l1 "}" (by simp)];exact aT (by lia)
 | list m ds zs e1 e2 e3 =>
  obtain ⟨a,u1,u2,rfl,ha,hu1,hu2⟩:=fX hd;obtain rfl:=cX hu1;rw [Str.length_append,Str.length_append,l1 "[" (by simp),l1 "]" (by simp)] at hz;refine ⟨_,rfl,_,_,_,rfl,.tup_int ha,_,rfl,bx ⟨_,rfl,_,_,_,rfl,.tup_str ha,_,rfl,bx ?_⟩⟩;refine ⟨_,rfl,_,_,_,hd,rfl,at0 _ _,isS ?_⟩;refine ⟨rfl,_,rfl,bZ (aY (by decide +kernel)) ⟨_,rfl,_,_,_,hd,rfl,rfl,fun v2 hv2=>?_⟩⟩;obtain ⟨b,xs,rfl,hb,_,rb⟩:=hv2.unref;have lx:=rb.length;refine ⟨b,rfl,⟨_,hb⟩,fun l hl=>?_⟩;refine fS (K:=K) (xs:=xs) (fun i ys σ H'=>ys=(zs.take i).map V.str∧Same H H'∧H' l=some (.lst ys)∧∃ w1,σ=[w1]) ⟨rfl,ax hl _,ac,_,rfl⟩ (fun i zs σ H' _ p=>p.2.1.tup hb) ?_ ?_
  ·rintro i y ys σ H1 N hy ⟨rfl,g1,f1',w1,rfl⟩ next;obtain ⟨d0,hd0,hdy⟩:=rb.get' hy;have hi:=(List.getElem?_eq_some_iff.mp hd0).1;obtain ⟨z0,hz0⟩:∃ z0,zs[i]?=some z0:=⟨_,List.getElem?_eq_getElem (by lia)⟩;have ml:=mem_le hz0;refine ⟨_,rfl,m,rfl,d0,y,z0,rfl,hdy.same g1,e3 i d0 z0 hd0 hz0,by lia,fun H2 g2=>?_⟩;refine ⟨g2 _ _ f1',?_,next _ _ _ ⟨?_,cN hl (g1.trans g2),ac,_,rfl⟩⟩
   ·rw [List.length_map,List.length_take];exact bc (by lia)
   ·rw [List.take_add_one,hz0,List.map_append]
    rfl
  rintro ys σ H1 ⟨rfl,g1,f1',w1,rfl⟩;rw [List.take_of_length_le (by lia)] at f1';refine ⟨l,zs,rfl,SqL.of f1',by lia,by lia,?_⟩;refine ⟨_,rfl,_,_,_,hd.same g1,rfl,at0 _ _,isS ?_⟩;refine ⟨rfl,_,rfl,cY ⟨_,rfl,_,_,rfl,rfl,?_,_,_,rfl,rfl,?_,q H1 g1⟩⟩
  ·rw [l1 "[" (by simp)];exact aT (by lia)
  ·rw [Str.length_append,l1 "[" (by simp),l1 "]" (by simp)];exact aT (by lia)
 | rows m ds zs e1 e2 e3 =>
  obtain ⟨a,u1,u2,rfl,ha,hu1,hu2⟩:=fX hd;obtain rfl:=cX hu1;rw [Str.length_append,Str.length_append,l1 "(" (by simp),l1 ")" (by simp)] at hz;refine ⟨_,rfl,_,_,_,rfl,.tup_int ha,_,rfl,bx ⟨_,rfl,_,_,_,rfl,.tup_str ha,_,rfl,bx ?_⟩⟩;refine ⟨_,rfl,_,_,_,hd,rfl,at0 _ _,isS ?_⟩;refine ⟨rfl,_,rfl,bZ (aY (by decide +kernel)) ⟨_,rfl,_,_,_,hd,rfl,rfl,fun v2 hv2=>?_⟩⟩;obtain ⟨b,xs,rfl,hb,_,rb⟩:=hv2.unref;have lx:=rb.length;refine ⟨b,rfl,⟨_,hb⟩,fun l hl=>?_⟩;refine fS (K:=K) (xs:=xs) (fun i ys σ H'=>ys=(zs.take i).map V.str∧Same H H'∧H' l=some (.lst ys)∧∃ w1,σ=[w1]) ⟨rfl,ax hl _,ac,_,rfl⟩ (fun i zs σ H' _ p=>p.2.1.tup hb) ?_ ?_
  ·rintro i y ys σ H1 N hy ⟨rfl,g1,f1',w1,rfl⟩ next;obtain ⟨d0,hd0,hdy⟩:=rb.get' hy;have hi:=(List.getElem?_eq_some_iff.mp hd0).1;obtain ⟨z0,hz0⟩:∃ z0,zs[i]?=some z0:=⟨_,List.getElem?_eq_getElem (by lia)⟩;have ml:=mem_le hz0;refine ⟨_,rfl,m,rfl,d0,y,z0,rfl,hdy.same g1,e3 i d0 z0 hd0 hz0,by lia,fun H2 g2=>?_⟩;refine ⟨g2 _ _ f1',?_,next _ _ _ ⟨?_,cN hl (g1.trans g2),ac,_,rfl⟩⟩
   ·rw [List.length_map,List.length_take];exact bc (by lia)
   ·rw [List.take_add_one,hz0,List.map_append]
    rfl
  rintro ys σ H1 ⟨rfl,g1,f1',w1,rfl⟩;rw [List.take_of_length_le (by lia)] at f1';refine ⟨l,zs,rfl,SqL.of f1',by lia,by lia,?_⟩;refine ⟨_,rfl,_,_,_,hd.same g1,rfl,at0 _ _,isS ?_⟩;refine ⟨rfl,_,rfl,bZ (aY (by decide +kernel)) ⟨_,rfl,_,_,rfl,rfl,?_,_,_,rfl,rfl,?_,q H1 g1⟩⟩
  ·rw [l1 "(" (by simp)];exact aT (by lia)
  ·rw [Str.length_append,l1 "(" (by simp),l1 ")" (by simp)];exact aT (by lia)
theorem jH (T:Tx K mg ad) {f:Addr} {fd:FuncData} (D:Gn K mg "value_text" cc ["value"] f fd):∀ n m,m < n→FnOk P w K mg base CX0 (m+3) f fd ["value"] (sVT K m)
 | 0,m,h=>absurd h (Nat.not_lt_zero _)
 | n+1,m,h=>i4 T m D fun k hk=>jH T D n k (by lia)
def bY (w:Str) (zs:List Str):Str:=w++Str.ofString "(" ++Str.join (Str.ofString ", ") zs++Str.ofString ")"
inductive PT:Nat→Str→Dt→Str→Prop
 | word (n:Nat) (z:Str):PT n "word" (.str z) z
 | val (n:Nat) (s:Str) (d:Dt) (z:Str):s= "value" ∨s= "number" ∨s= "text" →VT 41 d z→PT n s d z
 | turn (n:Nat) (w:Str) (ds:List Dt) (fs zs:List Str):¬ w= "words" →aI "turn" w=some fs→ds.length=fs.length→zs.length=fs.length→(∀ (i:Nat) (s:Str) (d:Dt) (z:Str),fs[i]?=some s→ds[i]?=some d→zs[i]?=some z→PT n s d z)→PT (n+1) "turn" (.tup (.str w :: ds)) (bY w zs)
theorem pe {s w:Str} {fs:List Str} (hf:aI s w=some fs):fs.length≤6:=by
 unfold aI at hf;have key:∀ (F:List (Str×List Str)) (w:Str) (l:List Str),(∀ q∈F,q.2.length≤6)→cx w F=some l→l.length≤6:=by
  intro F
  induction F with
  | nil=>intro w l _ h;cases h
  | cons a F ih =>
   intro w l h1 h2;simp only [cx] at h2
   split at h2
   ·cases h2;exact h1 a List.mem_cons_self
   ·exact ih w l (fun q hq=>h1 q (List.mem_cons_of_mem _ hq)) h2
 split at hf
 ·exact key qA _ _ (by decide +kernel) hf
 split at hf
 ·exact key qB _ _ (by decide +kernel) hf
 ·exact key m5 _ _ (by decide +kernel) hf
def sPT (K:PySem.W.Frag) (n:Nat):Sp:=fun vs H Q _=>∃ (s:Str) (d:Dt) (x:V) (z:Str),vs=[x,.str s]∧IsP K H d x∧PT n s d z∧z.length≤100000∧∀ H',Same H H'→Q (.str z) H'
def sFT (K:PySem.W.Frag) (n:Nat):Sp:=fun vs H Q _=>∃ (so w:Str) (ds:List Dt) (fs zs:List Str) (x:V),vs=[.str so,x]∧IsP K H (.tup (.str w :: ds)) x∧aI so w=some fs∧ds.length=fs.length∧zs.length=fs.length ∧
 (∀ (i:Nat) (s:Str) (d:Dt) (z:Str),fs[i]?=some s→ds[i]?=some d→zs[i]?=some z→PT n s d z)∧(bY w zs).length≤100000∧∀ H',Same H H'→Q (.str (bY w zs)) H'
def sTT (K:PySem.W.Frag) (n:Nat):Sp:=fun vs H Q _=>∃ (d:Dt) (x:V) (z:Str),vs=[x]∧IsP K H d x∧PT n "turn" d z∧z.length≤100000∧∀ H',Same H H'→Q (.str z) H'
theorem DU (a:Dt) (l:List Dt):L2.oG (a :: l) (some 1) none=l:=by
 unfold L2.oG HT.sIx;simp
theorem cZ (T:Tx K mg ad) (n:Nat) {f fp:Addr} {fd fdp:FuncData} (F:Gn K mg "form_text" cD ["sort","thing"] f fd) (Fx:Gn K mg "part_text" bQ ["part","sort"] fp fdp)
  (Fz:FnOk P w K mg base CX0 (3*n+46) fp fdp ["part","sort"] (sPT K n)):FnOk P w K mg base CX0 (3*n+46+1) f fd ["sort","thing"] (sFT K n):=by
 obtain ⟨f1,d1,Ep⟩:=T.parts_behind;have ED:=dr (P:=P) (w:=w) (base:=base) T Ep;obtain ⟨f2,d2,EY⟩:=T.in_brackets;have Fm:=iE (P:=P) (w:=w) (base:=base) T EY;refine F.F.ok fz (fun vs H Q E h=>?_) (fun cdv A outer s H vs Q E hr h=>?_)
 ·obtain ⟨so,w,ds,fs,zs,x,rfl,_⟩:=h
  rfl
 obtain ⟨so,wd,ds,fs,zs,x,rfl,hx,hf,l1,l2,hPT,hz,q⟩:=h;refine ⟨_,(@pss_cons _ _ _ _ _ (@ps_set _ _ 2 _ _ _ _ fz.nd rfl (Or.inl rfl) (pcl Ep ED (hr.mono (by lia)) rfl (@pa2 _ _ _ _ _ (pv 0) (@pi1 K _ _ _ _ _ _ _ rfl (pv 1)) (by rfl) (by rfl))) (by rfl) (by first | exact .inl rfl | exact .inr rfl | assumption)) (@pss_one _ _ _ (@ps_ret _ _ _ _ (pcl EY Fm (hr.mono (by lia)) rfl (@pa2 _ _ _ _ _ (@pi1 K _ _ _ _ _ _ _ rfl (pv 1)) (pe_comp rfl (cs0 (NL:=["part","part_sort"]) rfl (by decide +kernel) (by decide +kernel)) (rS rfl T.z_zip (@pa2 _ _ _ _ _ (pe_slice (qc (K:=K) rfl) (pv 1) (po_some pe_int) gK) (pv 2) (by rfl) (by rfl))) (fun _ _ _ _=>(j3 (K:=K) (n:=2) rfl rfl (aU (aE (i:=0) (show List.Nodup (α:=Str) ["part","part_sort"] by decide +kernel) rfl (Or.inl rfl)) (aU (aE (i:=1) (show List.Nodup (α:=Str) ["part","part_sort"] by decide +kernel) rfl (Or.inl rfl)) eU)))) (fun _ _ _ _=>(pcl Fx Fz (hr.mono (by lia)) rfl (@pa2 _ _ _ _ _ (pv 0) (pv 1) (by rfl) (by rfl))))) (by rfl) (by rfl)))))),?_⟩;have fl:=pe hf;refine ⟨_,rfl,_,rfl,_,_,_,hx,rfl,at0 _ _,isS ?_⟩;refine ⟨so,wd,rfl,?_⟩;rw [hf];intro b hb;refine ⟨_,rfl,_,_,_,hx,rfl,at0 _ _,isS ?_⟩;refine ⟨_,rfl,_,rfl,_,hx,fun v3 H1 g1 hv3=>?_⟩;rw [DU] at hv3;obtain ⟨c,xs,rfl,hc,_,rc⟩:=hv3.unref;have lx:=rc.length;refine ⟨_,rfl,c,b,rfl,⟨xs,hc⟩,⟨_,hb H1⟩,fun l hl=>?_⟩;have wz:(bY wd zs).length=wd.length+(Str.ofString "(").length+(Str.join (Str.ofString ", ") zs).length+(Str.ofString ")").length:=by
  unfold bY;rw [Str.length_append,Str.length_append,Str.length_append]
 refine mQ (K:=K) (xs:=xs) (ys:=fs.map V.str) (fun i us σ H'=>us=(zs.take i).map V.str∧Same H1 H'∧H' l=some (.lst us)∧∃ w1 w2,σ=[w1,w2]) ⟨rfl,ax hl _,ac,_,_,rfl⟩ (fun i us σ H' r=>⟨r.2.1.tup hc,hb H'⟩) ?_ ?_
 ·rintro i y1 y2 T0 us σ H2 N h1 h2 hT ⟨rfl,g2,f2',w1,w2,rfl⟩ next;rw [List.getElem?_map] at h2;obtain ⟨s0,hs0,rfl⟩:=Option.map_eq_some_iff.mp h2;obtain ⟨d0,hd0,hdy⟩:=rc.get' h1;have hi:=(List.getElem?_eq_some_iff.mp hs0).1;obtain ⟨z0,hz0⟩:∃ z0,zs[i]?=some z0:=⟨_,List.getElem?_eq_getElem (by lia)⟩;have ml:=PySem.join_mem_le (Str.ofString ", ") zs z0 (List.mem_of_getElem? hz0);have g3:=g2.trans (ax hT (.tup [y1,.str s0]));refine ⟨T0,_,rfl,SqT.of ac,rfl,_,_,rfl,_,_,rfl,rfl,?_⟩;refine ⟨_,rfl,_,rfl,s0,d0,y1,z0,rfl,hdy.same g3,hPT i s0 d0 z0 hs0 hd0 hz0,by lia,fun H3 g4=>?_⟩;have nl:l≠T0:=am f2' hT;refine ⟨g4 _ _ (by rw [af nl];exact f2'),?_,next _ _ _ ⟨?_,cN hl (g3.trans g4),ac,_,_,rfl⟩⟩
  ·rw [List.length_map,List.length_take];exact bc (by lia)
  ·rw [List.take_add_one,hz0,List.map_append]
   rfl
 rintro us σ H2 ⟨rfl,g2,f2',w1,w2,rfl⟩;rw [List.take_of_length_le (by rw [List.length_map];lia)] at f2';exact ⟨wd,l,zs,rfl,SqL.of f2',by lia,by lia,by lia,q H2 (g1.trans g2)⟩
theorem fj (T:Tx K mg ad) (n:Nat) {f ff:Addr} {fd fdf:FuncData} (F:Gn K mg "turn_text" cC ["turn"] f fd) (Eb:Gn K mg "form_text" cD ["sort","thing"] ff fdf)
  (ET:FnOk P w K mg base CX0 (3*n+46+1) ff fdf ["sort","thing"] (sFT K n)):FnOk P w K mg base CX0 (3*n+46+2) f fd ["turn"] (sTT K (n+1)):=by
 obtain ⟨f3,d3,D8⟩:=T.with_commas;have Eh:=ck (P:=P) (w:=w) (base:=base) T D8;obtain ⟨f4,d4,Ev⟩:=T.pair_text;have EV:=fi (P:=P) (w:=w) (base:=base) T Ev;refine F.F.ok ce (fun vs H Q E h=>?_) (fun cdv A outer s H vs Q E hr h=>?_)
 ·obtain ⟨d,x,z,rfl,_⟩:=h
  rfl
 obtain ⟨d,x,z,rfl,hx,pt,hz,q⟩:=h;refine ⟨_,(@pss_cons _ _ _ _ _ (@ps_set _ _ 1 _ _ _ _ ce.nd rfl (Or.inl rfl) (@pi1 K _ _ _ _ _ _ _ rfl (pv 0)) (by rfl) (by first | exact .inl rfl | exact .inr rfl | assumption)) (@pss_cons _ _ _ _ _ (@ps_if _ _ _ _ _ _ _ _ (pt_cmpR op_eq (pv 1) pe_str (nomark _)) (@pss_cons _ _ _ _ _ (@ps_set _ _ 2 _ _ _ _ ce.nd rfl (Or.inl rfl) (pcl D8 Eh (hr.mono (by lia)) rfl (@pa1 _ _ _ (pe_callTy (iX (K:=K) rfl) rfl T.z_list boot_list (@pa1 _ _ _ (@pi1 K _ _ _ _ _ _ _ rfl (pv 0)) (by rfl))) (by rfl))) (by rfl) (by first | exact .inl rfl | exact .inr rfl | assumption)) (@pss_cons _ _ _ _ _ (@ps_set _ _ 3 _ _ _ _ ce.nd rfl (Or.inl rfl) (pcl D8 Eh (hr.mono (by lia)) rfl (@pa1 _ _ _ (pe_comp rfl (cs0 (NL:=["behind","elder"]) rfl (by decide +kernel) (by decide +kernel)) (e9 (K:=K) rfl (@pi1 K _ _ _ _ _ _ _ rfl (pv 0))) (fun _ _ _ _=>(j3 (K:=K) (n:=2) rfl rfl (aU (aE (i:=0) (show List.Nodup (α:=Str) ["behind","elder"] by decide +kernel) rfl (Or.inl rfl)) (aU (aE (i:=1) (show List.Nodup (α:=Str) ["behind","elder"] by decide +kernel) rfl (Or.inl rfl)) eU)))) (fun _ _ _ _=>(pcl Ev EV (hr.mono (by lia)) rfl (@pa2 _ _ _ _ _ (pv 0) (pv 1) (by rfl) (by rfl))))) (by rfl))) (by rfl) (by first | exact .inl rfl | exact .inr rfl | assumption)) (@pss_one _ _ _ (@ps_ret _ _ _ _ (j7 (eJ (pv 1) (fU pe_str (eJ (pv 2) (fU pe_str (eJ (pv 3) (fU pe_str mS))))))))))) pss_nil) (@pss_one _ _ _ (@ps_ret _ _ _ _ (pcl Eb ET (hr.mono (by lia)) rfl (@pa2 _ _ _ _ _ pe_str (pv 0) (by rfl) (by rfl))))))),?_⟩;obtain ⟨wd,ds,fs,zs,rfl,rfl,nw,hf,l1,l2,hPT⟩:∃ wd ds fs zs,d=.tup (.str wd :: ds)∧z=bY wd zs∧¬ wd= "words" ∧aI "turn" wd=some fs∧ds.length=fs.length∧zs.length=fs.length∧(∀ (i:Nat) (s:Str) (d:Dt) (z:Str),fs[i]?=some s→ds[i]?=some d→zs[i]?=some z→PT n s d z):=by
  generalize hs:Str.ofString "turn" = s0 at pt
  cases pt with
  | word=>exact absurd hs (by decide +kernel)
  | val _ s d z h _ =>
   subst hs;exact absurd h (by decide +kernel)
  | turn _ w ds fs zs a b c d e=>exact ⟨w,ds,fs,zs,rfl,rfl,a,b,c,d,e⟩
 refine ⟨_,rfl,_,_,_,hx,rfl,at0 _ _,isS ?_⟩;refine ⟨_,rfl,rfl,_,rfl,bZ (aY nw) ⟨_,rfl,"turn",wd,ds,fs,zs,x,rfl,hx,hf,l1,l2,hPT,hz,q⟩⟩
theorem ky (T:Tx K mg ad) (n:Nat) {f:Addr} {fd:FuncData} (F:Gn K mg "part_text" bQ ["part","sort"] f fd) (G:∀ m,m < n→FnOk P w K mg base CX0 (3*m+46) f fd ["part","sort"] (sPT K m)):FnOk P w K mg base CX0 (3*n+46) f fd ["part","sort"] (sPT K n):=by
 obtain ⟨f1,d1,Er⟩:=T.value_text;have Eo:=jH (P:=P) (w:=w) (base:=base) T Er 42 41 (by decide);obtain ⟨f2,d2,FG⟩:=T.kind_text;have FL:FnOk P w K mg base CX0 1 f2 d2 ["kind"] (fun _ _ _ _=>False):=bB fun _ _ _ _ h=>h;obtain ⟨f3,d3,Em⟩:=T.turn_text;obtain ⟨f4,d4,Eb⟩:=T.form_text;have EU:FnOk P w K mg base CX0 (3*n+45) f3 d3 ["turn"] (sTT K n):=by
  cases n with
  | zero =>
   refine bB fun _ _ _ _ h=>?_;obtain ⟨d,x,z,_,_,pt,_⟩:=h
   generalize hs:Str.ofString "turn" = s0 at pt
   cases pt with
   | word=>exact absurd hs (by decide +kernel)
   | val _ s d z h _ =>
    subst hs;exact absurd h (by decide +kernel)
  | succ m=>exact fj T m Em Eb (cZ T m Eb F (G m (Nat.lt_succ_self m)))
 refine F.F.ok kM (fun vs H Q E h=>?_) (fun cdv A outer s H vs Q E hr h=>?_)
 ·obtain ⟨s,d,x,z,rfl,_⟩:=h
  rfl
 obtain ⟨s,d,x,z,rfl,hx,pt,hz,q⟩:=h;refine ⟨_,(@pss_cons _ _ _ _ _ (@ps_if _ _ _ _ _ _ _ _ (pt_cmpR op_eq (pv 1) pe_str (nomark _)) (@pss_one _ _ _ (@ps_ret _ _ _ _ (pv 0))) pss_nil) (@pss_cons _ _ _ _ _ (@ps_if _ _ _ _ _ _ _ _ (pt_cmpR op_eq (pv 1) pe_str (nomark _)) (@pss_one _ _ _ (@ps_ret _ _ _ _ (pcl FG FL (hr.mono (by lia)) rfl (@pa1 _ _ _ (pv 0) (by rfl))))) pss_nil) (@pss_cons _ _ _ _ _ (@ps_if _ _ _ _ _ _ _ _ (pt_cmpR op_eq (pv 1) pe_str (nomark _)) (@pss_one _ _ _ (@ps_ret _ _ _ _ (pcl Em EU (hr.mono (by lia)) rfl (@pa1 _ _ _ (pv 0) (by rfl))))) pss_nil) (@pss_one _ _ _ (@ps_ret _ _ _ _ (pcl Er Eo (hr.mono (by lia)) rfl (@pa1 _ _ _ (pv 0) (by rfl)))))))),?_⟩;refine ⟨_,rfl,rfl,_,rfl,?_⟩;have vals:∀ {s:Str},s= "value" ∨s= "number" ∨s= "text" →¬ s= "word" ∧¬ s= "kind" ∧¬ s= "turn" :=by
  rintro s (rfl | rfl | rfl) <;> decide +kernel
 cases pt with
 | word _ z =>
  obtain rfl:=cX hx;exact cY ⟨_,rfl,q H (Same.refl H)⟩
 | val _ _ _ _ h vt =>
  obtain ⟨a,b,c⟩:=vals h;exact bZ (aY a) ⟨_,rfl,rfl,_,rfl,bZ (aY b) ⟨_,rfl,rfl,_,rfl,bZ (aY c) ⟨_,rfl,d,x,z,rfl,hx,vt,hz,q⟩⟩⟩
 | turn m wd ds fs zs a b c d e =>
  exact bZ (aY (by decide +kernel)) ⟨_,rfl,rfl,_,rfl,bZ (aY (by decide +kernel)) ⟨_,rfl,rfl,_,rfl,cY ⟨_,rfl,_,x,_,rfl,hx,.turn m wd ds fs zs a b c d e,hz,q⟩⟩⟩
theorem fZ (T:Tx K mg ad) {f:Addr} {fd:FuncData} (D:Gn K mg "part_text" bQ ["part","sort"] f fd):∀ n m,m < n→FnOk P w K mg base CX0 (3*m+46) f fd ["part","sort"] (sPT K m)
 | 0,m,h=>absurd h (Nat.not_lt_zero _)
 | n+1,m,h=>ky T m D fun k hk=>fZ T D n k (by lia)
def i5 (K:PySem.W.Frag) (_:Ads):Sp:=fun vs H Q _=>∃ (w:Str) (ds:List Dt) (fs zs:List Str) (x:V),vs=[x]∧IsP K H (.tup (.str w :: ds)) x∧aI "piece" w=some fs∧ds.length=fs.length∧zs.length=fs.length ∧
 (∀ (i:Nat) (s:Str) (d:Dt) (z:Str),fs[i]?=some s→ds[i]?=some d→zs[i]?=some z→PT 40 s d z)∧(bY w zs).length≤100000∧∀ H',Same H H'→Q (.str (bY w zs)) H'
theorem i6 (T:Tx K mg ad) {f:Addr} {fd:FuncData} (F:Gn K mg "piece_text" dh ["piece"] f fd):FnOk P w K mg base CX0 168 f fd ["piece"] (i5 K ad):=by
 obtain ⟨f1,d1,D1⟩:=T.part_text;obtain ⟨f2,d2,Eb⟩:=T.form_text;have ET:=cZ (P:=P) (w:=w) (base:=base) T 40 Eb D1 (fZ T D1 41 40 (by decide));refine F.F.ok jk (fun vs H Q E h=>?_) (fun cdv A outer s H vs Q E hr h=>?_)
 ·obtain ⟨w,ds,fs,zs,x,rfl,_⟩:=h
  rfl
 obtain ⟨wd,ds,fs,zs,x,rfl,hx,hf,l1,l2,hPT,hz,q⟩:=h;refine ⟨_,(@pss_one _ _ _ (@ps_ret _ _ _ _ (pcl Eb ET (hr.mono (by lia)) rfl (@pa2 _ _ _ _ _ pe_str (pv 0) (by rfl) (by rfl))))),?_⟩;exact ⟨_,rfl,"piece",wd,ds,fs,zs,x,rfl,hx,hf,l1,l2,hPT,hz,q⟩
def kz (K:PySem.W.Frag) (_:Ads):Sp:=sTT K 41
theorem i7 (T:Tx K mg ad) {f:Addr} {fd:FuncData} (F:Gn K mg "turn_text" cC ["turn"] f fd):FnOk P w K mg base CX0 168 f fd ["turn"] (kz K ad):=by
 obtain ⟨f1,d1,D1⟩:=T.part_text;obtain ⟨f2,d2,Eb⟩:=T.form_text;exact fj T 40 F Eb (cZ (P:=P) (w:=w) (base:=base) T 40 Eb D1 (fZ T D1 41 40 (by decide)))
def kA (K:PySem.W.Frag) (_:Ads):Sp:=fun vs H Q _=>∃ (ns:List Str) (x:V),vs=[x]∧IsP K H (.tup (ns.map Dt.str)) x∧ns.length≤1000∧(Str.join (Str.ofString "/") ns).length≤100000∧Q (.str (Str.ofString "/" ++Str.join (Str.ofString "/") ns)) H
theorem iG {K:PySem.W.Frag} {H:Hp}:∀ {ns:List Str} {xs:List V},IsPs K H (ns.map Dt.str) xs→xs=ns.map V.str
 | [],_,h=>by cases h;rfl
 | n :: ns,_,h=>by
  cases h with
  | cons h r=>cases h;rw [iG r];rfl
theorem kB (T:Tx K mg ad) {f:Addr} {fd:FuncData} (F:Gn K mg "path_text" dQ ["path"] f fd):FnOk P w K mg base CX0 1 f fd ["path"] (kA K ad):=by
 refine F.F.ok kL (fun vs H Q E h=>?_) (fun cdv A outer s H vs Q E hr h=>?_)
 ·obtain ⟨ns,x,rfl,_⟩:=h
  rfl
 obtain ⟨ns,x,rfl,hx,hn,hz,q⟩:=h;refine ⟨_,(@pss_one _ _ _ (@ps_ret _ _ _ _ (@ah _ _ _ _ _ _ _ _ ai pe_str (pe_bm PySem.F.plainAttrs_str PySem.F.slot_str_join PySem.F.type_str_join ii pe_str (@pa1 _ _ _ (pv 0) (by rfl)))))),?_⟩;obtain ⟨a,xs,rfl,ha,_,ra⟩:=hx.unref;rw [iG ra] at ha;have l1:(Str.ofString "/").length=1:=by decide +kernel
 have js:=fh (Str.ofString "/") ns;refine ⟨rfl,_,rfl,_,a,ns,rfl,rfl,.inr ha,by rw [l1];lia,?_⟩;rw [iB];exact ⟨_,_,rfl,rfl,aT (by lia),q⟩
def aH (n:Nat) (s:Str) (cs:List Nat):Option Dt:=match cP cs with
 | none=>none
 | some toks=>if eC toks≤40 then (match prs (toks.map toTk) n s 0 with
  | .ok v q=>if ag (toks.map toTk) q=kj then some v else none
  | _=>none) else none
def c8 (n:Nat) (s:Str) (cs:List Nat):Prop:=∀ toks,cP cs=some toks→eC toks≤40→prs (toks.map toTk) n s 0≠.out
def lV (K:PySem.W.Frag) (ad:Ads):Sp:=fun vs H Q E=>∃ z s:Str,vs=[.str z,.str s]∧z.length≤100000∧c8 203 s z.cps.toList∧(∀ v,aH 203 s z.cps.toList=some v→∀ y H',Same H H'→IsP K H' v y→Q y H')∧(aH 203 s z.cps.toList=none→∀ H',Same H H'→E (.ref ad.BadText) none H')
theorem cy (T:Tx K mg ad) {f:Addr} {fd:FuncData} (F:Gn K mg "read_all" eP ["text","sort"] f fd):FnOk P w K mg base (CXE P w) 208 f fd ["text","sort"] (lV K ad):=by
 obtain ⟨f1,d1,EE⟩:=T.m_WordRow_init;have Fh:=gA (P:=P) (w:=w) (base:=base) T EE;obtain ⟨f2,d2,D2⟩:=T.part_read;have Ea:=iA (P:=P) (w:=w) (base:=base) T D2 203;obtain ⟨f3,d3,DZ⟩:=T.m_WordRow_coming;have D6:=aM (P:=P) (w:=w) (base:=base) T DZ;obtain ⟨c_END,s_END⟩:=T.END;refine F.F.okW eh (fun vs H Q E h=>?_) (fun cdv A outer s H vs Q E hr h=>?_)
 ·obtain ⟨z,s,rfl,_⟩:=h
  rfl
 obtain ⟨z,s,rfl,hz,ho,q1,q2⟩:=h;refine ⟨_,(@pss_cons _ _ _ _ _ (@ps_set _ _ 2 _ _ _ _ eh.nd rfl (Or.inl rfl) (rn EE.makes Fh (hr.mono (by first | decide | lia)) rfl T.o_WordRow EE.b .nil (wing_on rfl rfl rfl) (@pa1 _ _ _ (pv 0) (by rfl))) (by rfl) (by first | exact .inl rfl | exact .inr rfl | assumption)) (@pss_cons _ _ _ _ _ (@ps_set _ _ 3 _ _ _ _ eh.nd rfl (Or.inl rfl) (pe_call Ea (hr.mono (by first | decide | lia)) rfl D2.m D2.F.kp D2.b .nil (wing_on rfl rfl rfl) (@pa2 _ _ _ _ _ (pv 2) (pv 1) (by rfl) (by rfl))) (by rfl) (by first | exact .inl rfl | exact .inr rfl | assumption)) (@pss_cons _ _ _ _ _ (@ps_if _ _ _ _ _ _ _ _ (pt_cmpR (rR (K:=K) rfl hr.units) (pe_meth (pv 2) T.c_WordRow DZ.meth D6 (hr.mono (by first | decide | lia)) DZ.b .nil dA (@pa1 _ _ _ pe_int (by rfl))) (e8 rfl c_END) (nomark _)) (@pss_one _ _ _ (ps_raiseW rfl rfl rfl rfl T.x_BadText rfl (@pa1 _ _ _ pe_str (by rfl)))) pss_nil) (@pss_one _ _ _ (@ps_ret _ _ _ _ (pv 3)))))),?_⟩;refine ⟨_,rfl,?_⟩;intro x dx nx ndx nex;have free:∀ {H':Hp},But x (upd (upd H dx (.own x)) x (.ins ad.WordRow dx [])) H'→Same H H':=fun b c o e=>b c o (am e nx) (by rw [af (am e nx),af (am e ndx)];exact e);refine ⟨x,dx,z,rfl,ac,hz,fun toks hL hB l H1 hl b1 R1=>⟨rfl,?_⟩,fun h H1 g1=>q2 ?_ H1 (free (But.same g1))⟩
 ·have hno:=ho toks hL hB;refine ⟨_,rfl,_,rfl,x,l,_,0,s,rfl,R1,?_⟩;have hr':aH 203 s z.cps.toList=(match prs (toks.map toTk) 203 s 0 with
   | .ok v q=>if ag (toks.map toTk) q=kj then some v else none
   | _=>none):=by
   unfold aH;rw [hL];dsimp only;rw [if_pos hB]
  revert hr' hno
  generalize prs (toks.map toTk) 203 s 0=r
  intro hno hr'
  cases r with
  | out=>exact absurd rfl hno
  | err=>exact fun H2 b2=>q2 hr' H2 (free (b1.trans b2))
  | ok v p =>
   intro y H2 b2 R2 hv;obtain ⟨dx2,ws2,hx2,_⟩:=id R2;refine ⟨_,rfl,x,dx2,_,rfl,hx2,ao l _ (by decide +kernel) (by decide +kernel),x,l,_,p,0,rfl,R2,fun v3 hv3=>?_⟩;rw [Nat.add_zero] at hv3;refine ⟨tkD (ag (toks.map toTk) p),tkD kj,hv3,.tup (s_END (140,["end",""]) (by simp) H2) (.cons .str (.cons .str .nil)),m4 _,_,rfl,?_⟩;rw [show eqD (tkD (ag (toks.map toTk) p)) (tkD kj)=decide (ag (toks.map toTk) p=kj) from m3 _ _ (Sum.inr "")];dsimp only at hr'
   by_cases he:ag (toks.map toTk) p=kj
   ·rw [if_pos he] at hr';rw [decide_eq_true he];exact bx ⟨_,rfl,q1 v hr' y H2 (free (b1.trans b2)) hv⟩
   ·rw [if_neg he] at hr';rw [decide_eq_false he];exact bT ⟨sz1,q2 hr' H2 (free (b1.trans b2))⟩
 ·unfold aH
  cases hL:cP z.cps.toList with
  | none=>rfl
  | some toks =>
   dsimp only;rw [if_neg (h toks hL)]
def c9 (K:PySem.W.Frag) (ad:Ads) (so:Str):Sp:=fun vs H Q E=>∃ z:Str,vs=[.str z]∧z.length≤100000∧c8 203 so z.cps.toList∧(∀ v,aH 203 so z.cps.toList=some v→∀ y H',Same H H'→IsP K H' v y→Q y H')∧(aH 203 so z.cps.toList=none→∀ H',Same H H'→E (.ref ad.BadText) none H')
theorem kC (T:Tx K mg ad) {f:Addr} {fd:FuncData} (F:Gn K mg "read_turn" dS ["text"] f fd):FnOk P w K mg base (CXE P w) 209 f fd ["text"] (c9 K ad "turn"):=by
 obtain ⟨f1,d1,D4⟩:=T.read_all;have Es:=cy (P:=P) (w:=w) (base:=base) T D4;refine F.F.okW kO (fun vs H Q E h=>?_) (fun cdv A outer s H vs Q E hr h=>?_)
 ·obtain ⟨z,rfl,_⟩:=h
  rfl
 obtain ⟨z,rfl,hz,ho,q1,q2⟩:=h;exact ⟨_,(@pss_one _ _ _ (@ps_ret _ _ _ _ (pe_call Es (hr.mono (by first | decide | lia)) rfl D4.m D4.F.kp D4.b .nil (wing_on rfl rfl rfl) (@pa2 _ _ _ _ _ (pv 0) pe_str (by rfl) (by rfl))))),_,rfl,z,"turn",rfl,hz,ho,q1,q2⟩
theorem i8 (T:Tx K mg ad) {f:Addr} {fd:FuncData} (F:Gn K mg "read_piece" dj ["text"] f fd):FnOk P w K mg base (CXE P w) 209 f fd ["text"] (c9 K ad "piece"):=by
 obtain ⟨f1,d1,D4⟩:=T.read_all;have Es:=cy (P:=P) (w:=w) (base:=base) T D4;refine F.F.okW jm (fun vs H Q E h=>?_) (fun cdv A outer s H vs Q E hr h=>?_)
 ·obtain ⟨z,rfl,_⟩:=h
  rfl
 obtain ⟨z,rfl,hz,ho,q1,q2⟩:=h;exact ⟨_,(@pss_one _ _ _ (@ps_ret _ _ _ _ (pe_call Es (hr.mono (by first | decide | lia)) rfl D4.m D4.F.kp D4.b .nil (wing_on rfl rfl rfl) (@pa2 _ _ _ _ _ (pv 0) pe_str (by rfl) (by rfl))))),_,rfl,z,"piece",rfl,hz,ho,q1,q2⟩
theorem kD (T:Tx K mg ad) {f:Addr} {fd:FuncData} (F:Gn K mg "read_path" dU ["text"] f fd):FnOk P w K mg base (CXE P w) 209 f fd ["text"] (c9 K ad "path"):=by
 obtain ⟨f1,d1,D4⟩:=T.read_all;have Es:=cy (P:=P) (w:=w) (base:=base) T D4;refine F.F.okW kP (fun vs H Q E h=>?_) (fun cdv A outer s H vs Q E hr h=>?_)
 ·obtain ⟨z,rfl,_⟩:=h
  rfl
 obtain ⟨z,rfl,hz,ho,q1,q2⟩:=h;exact ⟨_,(@pss_one _ _ _ (@ps_ret _ _ _ _ (pe_call Es (hr.mono (by first | decide | lia)) rfl D4.m D4.F.kp D4.b .nil (wing_on rfl rfl rfl) (@pa2 _ _ _ _ _ (pv 0) pe_str (by rfl) (by rfl))))),_,rfl,z,"path",rfl,hz,ho,q1,q2⟩
def ofT (i:Nat):Dt→Bool
 | .str z=>decide (z.length≤i) && z.cps.toList.all okC
 | _=>false
inductive ValD:Dt→Prop
 | int (i:Int):ValD (.int i)
 | str (z:Str):ValD (.str z)
 | tup (w:Str) (l:Dt):ValD (mk2 w l)
def i9 (K:PySem.W.Frag) (_:Ads):Sp:=fun vs H Q _=>∃ (d:Dt) (x:V) (i:Nat),vs=[x,.int i]∧IsP K H d x∧ValD d∧(∀ z,d=.str z→z.length≤100000)∧∀ H',Same H H'→Q (.bl (ofT i d)) H'
theorem ja (T:Tx K mg ad) {f:Addr} {fd:FuncData} (F:Gn K mg "is_text_of" de ["value","most"] f fd):FnOk P w K mg base CX0 2 f fd ["value","most"] (i9 K ad):=by
 obtain ⟨_,_,EN⟩:=T.is_sign;have E6:=ir (P:=P) (w:=w) (base:=base) T EN;refine F.F.ok ji (fun vs H Q E h=>?_) (fun cdv A outer s H vs Q E hr h=>?_)
 ·obtain ⟨d,x,i,rfl,_⟩:=h
  rfl
 obtain ⟨d,x,i,rfl,hx,vd,hz,q⟩:=h;refine ⟨_,(@pss_cons _ _ _ _ _ (@ps_if _ _ _ _ _ _ _ _ (PW.pt (@kT _ _ _ _ _ _ _ (@pt_not _ _ _ _ (@pt_val _ _ _ (pe_callB (call_isiN' (K:=K) rfl) rfl T.z_isinstance boot_isinstance (@pa2 _ _ _ _ _ (pv 0) (jZ rfl T.z_str boot_str) (by rfl) (by rfl))) (by intro _;rfl))) (@pw_or1 _ _ _ _ (pt_cmpR op_gt (pe_callB call_len_str rfl T.z_len PySem.boot_len (@pa1 _ _ _ (pv 0) (by rfl))) (pv 1) (nomark _))))) (@pss_one _ _ _ (@ps_ret _ _ _ _ pe_bl)) pss_nil) (@pss_one _ _ _ (@ps_ret _ _ _ _ (pe_callB (call_allN (K:=K) rfl rfl) rfl T.z_all boot_all (@pa1 _ _ _ (pe_comp rfl (cs0 (NL:=["letter"]) rfl (by decide +kernel) (by decide +kernel)) (mH (pv 0)) (fun _ _ _ _=>(aE (i:=0) (show List.Nodup (α:=Str) ["letter"] by decide +kernel) rfl (Or.inl rfl))) (fun _ _ _ _=>(pcl EN E6 (hr.mono (by lia)) rfl (@pa1 _ _ _ (pv 0) (by rfl))))) (by rfl)))))),?_⟩
 cases vd with
 | int j =>
  obtain rfl:=mU hx;exact ⟨_,rfl,_,_,_,rfl,.int_str,_,rfl,bT (q H (Same.refl H))⟩
 | tup w l =>
  obtain ⟨a,u1,u2,rfl,ha,_⟩:=fX hx;exact ⟨_,rfl,_,_,_,rfl,.tup_str ha,_,rfl,bT (q H (Same.refl H))⟩
 | str z =>
  obtain rfl:=cX hx;have hz':=hz z rfl;refine ⟨_,rfl,_,_,_,rfl,.str_str,_,rfl,bx ?_⟩;refine ⟨_,rfl,z,rfl,bL hz',_,rfl,_,_,rfl,rfl,_,rfl,?_⟩;have ed:ofT i (.str z)=(decide (z.length≤i) && z.cps.toList.all okC):=rfl
  by_cases hl:z.length≤i
  ·rw [decide_eq_false (show ¬ ((i:Int) < (z.length:Int)) by lia)];refine bx ⟨_,rfl,_,rfl,fun l hl'=>?_⟩;refine jz (z:=z) (fun j ys σ H'=>ys=bls ((z.cps.toList.take j).map okC)∧Same H H'∧H' l=some (.lst ys)∧σ.length=1) ⟨rfl,ax hl' _,ac,rfl⟩ ?_ ?_
   ·rintro j c ys σ H1 N hc ⟨rfl,g1,f1',hσ⟩ next;have hc':z.cps.toList[j]?=some c:=by rw [Array.getElem?_toList];exact hc
    have hi:=(List.getElem?_eq_some_iff.mp hc').1
    match σ,hσ with
    | [_],_ =>
     refine ⟨_,rfl,c,rfl,f1',?_,next _ _ _ ⟨?_,cN hl' g1,ac,rfl⟩⟩
     ·simp only [bls,List.length_map,List.length_take];rw [aq] at hi ⊢;have:=bL hz';lia
     ·show bls _++[V.bl (okC c)]=bls _;unfold bls;rw [List.map_map,List.map_map];exact fV (V.bl ∘ okC) hc'
   rintro ys σ H1 ⟨rfl,g1,f1',hσ⟩;rw [List.take_of_length_le (by simp)] at f1';refine ⟨l,_,rfl,rfl,SqL.of f1',?_⟩;rw [List.all_map,show (id ∘ okC)=okC from rfl];have:=q H1 g1;rw [ed,decide_eq_true hl,Bool.true_and] at this;exact this
  ·rw [decide_eq_true (show ((i:Int) < (z.length:Int)) by lia)];have:=q H (Same.refl H);rw [ed,decide_eq_false hl,Bool.false_and] at this;exact bT this
def qH (K:PySem.W.Frag) (_:Ads):Sp:=fun vs H Q _=>∃ (d:Dt) (x y:V) (i:Nat),vs=[x,y]∧IsP K H d x∧IsP K H (.tup [.str "text",.int i]) y∧ValD d∧(∀ z,d=.str z→z.length≤100000)∧∀ H',Same H H'→Q (.bl (ofT i d)) H'
theorem qI (T:Tx K mg ad) {f:Addr} {fd:FuncData} (F:Gn K mg "is_of" kJ ["value","kind"] f fd):FnOk P w K mg base CX0 3 f fd ["value","kind"] (qH K ad):=by
 obtain ⟨f1,d1,E5⟩:=T.is_text_of;have Fq:=ja (P:=P) (w:=w) (base:=base) T E5;obtain ⟨f2,d2,Fa⟩:=T.is_whole_within;have E9:FnOk P w K mg base CX0 1 f2 d2 ["thing","low","high"] (fun _ _ _ _=>False):=bB fun _ _ _ _ h=>h;obtain ⟨f3,d3,EX⟩:=T.holds_items;have EZ:FnOk P w K mg base CX0 1 f3 d3 ["value","word","kind","most"] (fun _ _ _ _=>False):=bB fun _ _ _ _ h=>h;obtain ⟨f4,d4,Fj⟩:=T.is_record_of;have Fi:FnOk P w K mg base CX0 1 f4 d4 ["value","fields"] (fun _ _ _ _=>False):=bB fun _ _ _ _ h=>h;obtain ⟨f5,d5,FJ⟩:=T.are_keyed;have FC:FnOk P w K mg base CX0 1 f5 d5 ["items","key"] (fun _ _ _ _=>False):=bB fun _ _ _ _ h=>h;refine F.F.ok md (fun vs H Q E h=>?_) (fun cdv A outer s H vs Q E hr h=>?_)
 ·obtain ⟨d,x,y,i,rfl,_⟩:=h
  rfl
 obtain ⟨d,x,y,i,rfl,hx,hy,vd,hz,q⟩:=h;refine ⟨_,(@pss_cons _ _ _ _ _ (@ps_set _ _ 2 _ _ _ _ md.nd rfl (Or.inl rfl) (@pi1 K _ _ _ _ _ _ _ rfl (pv 1)) (by rfl) (by first | exact .inl rfl | exact .inr rfl | assumption)) (@pss_cons _ _ _ _ _ (@ps_if _ _ _ _ _ _ _ _ (pt_cmpR op_eq (pv 2) pe_str (nomark _)) (@pss_one _ _ _ (@ps_ret _ _ _ _ (pcl Fa E9 (hr.mono (by lia)) rfl (@pa3 _ _ _ _ _ _ _ (pv 0) (@pi1 K _ _ _ _ _ _ _ rfl (pv 1)) (@pi1 K _ _ _ _ _ _ _ rfl (pv 1)) (by rfl) (by rfl) (by rfl))))) pss_nil) (@pss_cons _ _ _ _ _ (@ps_if _ _ _ _ _ _ _ _ (pt_cmpR op_eq (pv 2) pe_str (nomark _)) (@pss_one _ _ _ (@ps_ret _ _ _ _ (pcl E5 Fq (hr.mono (by lia)) rfl (@pa2 _ _ _ _ _ (pv 0) (@pi1 K _ _ _ _ _ _ _ rfl (pv 1)) (by rfl) (by rfl))))) pss_nil) (@pss_cons _ _ _ _ _ (@ps_if _ _ _ _ _ _ _ _ (pt_cmpR op_eq (pv 2) pe_str (nomark _)) (@pss_one _ _ _ (@ps_ret _ _ _ _ (jO (pe_callB (call_isiN' (K:=K) rfl) rfl T.z_isinstance boot_isinstance (@pa2 _ _ _ _ _ (pv 0) (jZ rfl T.z_str boot_str) (by rfl) (by rfl))) (me (aR (mM (K:=K) rfl) (pv 0) (@pi1 K _ _ _ _ _ _ _ rfl (pv 1)) rfl))))) pss_nil) (@pss_cons _ _ _ _ _ (@ps_if _ _ _ _ _ _ _ _ (pt_cmpR op_eq (pv 2) pe_str (nomark _)) (@pss_one _ _ _ (@ps_ret _ _ _ _ (pcl EX EZ (hr.mono (by lia)) rfl (@cw _ _ _ _ _ (pv 0) (@pa3 _ _ _ _ _ _ _ pe_str (@pi1 K _ _ _ _ _ _ _ rfl (pv 1)) (@pi1 K _ _ _ _ _ _ _ rfl (pv 1)) (by rfl) (by rfl) (by rfl)) (by rfl))))) pss_nil) (@pss_cons _ _ _ _ _ (@ps_if _ _ _ _ _ _ _ _ (pt_cmpR op_eq (pv 2) pe_str (nomark _)) (@pss_one _ _ _ (@ps_ret _ _ _ _ (pcl Fj Fi (hr.mono (by lia)) rfl (@pa2 _ _ _ _ _ (pv 0) (@pi1 K _ _ _ _ _ _ _ rfl (pv 1)) (by rfl) (by rfl))))) pss_nil) (@pss_one _ _ _ (@ps_ret _ _ _ _ (jO (pcl EX EZ (hr.mono (by lia)) rfl (@cw _ _ _ _ _ (pv 0) (@pa3 _ _ _ _ _ _ _ pe_str (@pi1 K _ _ _ _ _ _ _ rfl (pv 1)) (@pi1 K _ _ _ _ _ _ _ rfl (pv 1)) (by rfl) (by rfl) (by rfl)) (by rfl))) (me (pcl FJ FC (hr.mono (by lia)) rfl (@pa2 _ _ _ _ _ (@pi1 K _ _ _ _ _ _ _ rfl (pv 0)) (@pi1 K _ _ _ _ _ _ _ rfl (pv 1)) (by rfl) (by rfl))))))))))))),?_⟩;refine ⟨_,rfl,_,_,_,hy,rfl,at0 _ _,isS ?_⟩;refine ⟨_,rfl,rfl,_,rfl,bZ (aY (by decide +kernel)) ⟨_,rfl,rfl,_,rfl,cY ⟨_,rfl,_,rfl,_,_,_,hy,rfl,rfl,fun v2 hv2=>?_⟩⟩⟩;obtain rfl:=mU hv2;exact ⟨d,x,i,rfl,hx,vd,hz,q⟩
def jb (K:PySem.W.Frag) (ad:Ads):Sp:=fun vs H Q E=>∃ (d:Dt) (x y:V) (i:Nat),vs=[x,y]∧IsP K H d x∧IsP K H (.tup [.str "text",.int i]) y∧ValD d∧(∀ z,d=.str z→z.length≤100000)∧(ofT i d=true→∀ H',Same H H'→Q x H')∧(ofT i d=false→∀ H',Same H H'→E (.ref ad.BadValue) none H')
theorem jc (T:Tx K mg ad) {f:Addr} {fd:FuncData} (F:Gn K mg "made_value" da ["value","kind"] f fd):FnOk P w K mg base (CXE P w) 4 f fd ["value","kind"] (jb K ad):=by
 obtain ⟨f1,d1,FM⟩:=T.is_of;have FS:=qI (P:=P) (w:=w) (base:=base) T FM;refine F.F.okW jh (fun vs H Q E h=>?_) (fun cdv A outer s H vs Q E hr h=>?_)
 ·obtain ⟨d,x,y,i,rfl,_⟩:=h
  rfl
 obtain ⟨d,x,y,i,rfl,hx,hy,vd,hz,q1,q2⟩:=h;refine ⟨_,(@pss_cons _ _ _ _ _ (@ps_if _ _ _ _ _ _ _ _ (@pt_not _ _ _ _ (@pt_val _ _ _ (pcl FM FS (hr.mono (by lia)) rfl (@pa2 _ _ _ _ _ (pv 0) (pv 1) (by rfl) (by rfl))) (by intro _;rfl))) (@pss_one _ _ _ (ps_raiseW rfl rfl rfl rfl T.x_BadValue rfl (@pa1 _ _ _ pe_str (by rfl)))) pss_nil) (@pss_one _ _ _ (@ps_ret _ _ _ _ (pv 0)))),?_⟩;refine ⟨_,rfl,_,rfl,d,x,y,i,rfl,hx,hy,vd,hz,fun H1 g1=>?_⟩
 cases ho:ofT i d with
 | true=>exact ⟨_,rfl,bx ⟨_,rfl,q1 ho H1 g1⟩⟩
 | false=>exact ⟨_,rfl,bT ⟨sz1,q2 ho H1 g1⟩⟩
def jd (K:PySem.W.Frag) (ad:Ads):Sp:=fun vs H Q E=>∃ (z:Str) (y:V) (i:Nat),vs=[.str z,y]∧IsP K H (.tup [.str "text",.int i]) y∧z.length≤100000∧c8 203 "value" z.cps.toList ∧
 (∀ v,aH 203 "value" z.cps.toList=some v→ValD v∧(∀ z,v=.str z→z.length≤100000)∧(ofT i v=true→∀ x H',Same H H'→IsP K H' v x→Q x H')∧(ofT i v=false→∀ H',Same H H'→E (.ref ad.BadValue) none H'))∧(aH 203 "value" z.cps.toList=none→∀ H',Same H H'→E (.ref ad.BadText) none H')
theorem je (T:Tx K mg ad) {f:Addr} {fd:FuncData} (F:Gn K mg "read_value" di ["text","kind"] f fd):FnOk P w K mg base (CXE P w) 209 f fd ["text","kind"] (jd K ad):=by
 obtain ⟨f1,d1,D4⟩:=T.read_all;have Es:=cy (P:=P) (w:=w) (base:=base) T D4;obtain ⟨f2,d2,EA⟩:=T.made_value;have Fv:=jc (P:=P) (w:=w) (base:=base) T EA;refine F.F.okW jl (fun vs H Q E h=>?_) (fun cdv A outer s H vs Q E hr h=>?_)
 ·obtain ⟨z,y,i,rfl,_⟩:=h
  rfl
 obtain ⟨z,y,i,rfl,hy,hz,ho,q1,q2⟩:=h;refine ⟨_,(@pss_one _ _ _ (@ps_ret _ _ _ _ (pe_call Fv (hr.mono (by first | decide | lia)) rfl EA.m EA.F.kp EA.b .nil (wing_on rfl rfl rfl) (@pa2 _ _ _ _ _ (pe_call Es (hr.mono (by first | decide | lia)) rfl D4.m D4.F.kp D4.b .nil (wing_on rfl rfl rfl) (@pa2 _ _ _ _ _ (pv 0) pe_str (by rfl) (by rfl))) (pv 1) (by rfl) (by rfl))))),?_⟩;refine ⟨_,rfl,z,"value",rfl,hz,ho,fun v hv x H1 g1 hx=>?_,q2⟩;obtain ⟨vd,hl,a,b⟩:=q1 v hv;exact ⟨_,rfl,v,x,y,i,rfl,hx,hy.same g1,vd,hl,fun h H2 g2=>a h x H2 (g1.trans g2) (hx.same g2),fun h H2 g2=>b h H2 (g1.trans g2)⟩
def kE (_:PySem.W.Frag) (_:Ads):Sp:=fun vs H Q _=>∃ i k:Int,vs=[.int i,.int k]∧∀ c:Int,0≤c→c < 2147483647→Q (.int c) H
def kF (_:PySem.W.Frag) (_:Ads):Sp:=fun vs H Q _=>∃ (r:Addr) (n m:Int),vs=[.ref r,.int m]∧H r=some (.lst [.int n])∧0 < m∧m < 10000000000000000000000000000000000000000000000000000000000000∧Q (.int (n % m)) (upd H r (.lst [.int (n / m)]))
def iH (K:PySem.W.Frag) (_:Ads):Sp:=fun vs H Q _=>∃ (a:Addr) (ns:List Int) (k:Nat),vs=[.ref a,.int k]∧SqL K H a (ns.map V.int)∧ns.length≤63∧∀ c,Q (.int c) H
def m6 (K:PySem.W.Frag) (_:Ads):Sp:=fun vs H Q _=>∃ (a:Addr) (ns:List Int) (k t:Nat),vs=[.ref a,.int k,.int t]∧SqL K H a (ns.map V.int)∧ns.length≤63∧k < 1000∧t < 2 ∧
 ∀ r n H',H r=none→Same H H'→H' r=some (.lst [.int n])→Q (.ref r) H'
theorem kG (T:Tx K mg ad) {f:Addr} {fd:FuncData} (F:Gn K mg "_law_mixed" dZ ["cell","k"] f fd):FnOk P w K mg base CX0 1 f fd ["cell","k"] (kE K ad):=by
 refine F.F.ok fE (fun vs H Q E h=>?_) (fun cdv A outer s H vs Q E hr h=>?_)
 ·obtain ⟨i,k,rfl,_⟩:=h
  rfl
 obtain ⟨i,k,rfl,q⟩:=h;refine ⟨_,(@pss_cons _ _ _ _ _ (@ps_set _ _ 2 _ _ _ _ fE.nd rfl (Or.inl rfl) (@ah _ _ _ _ _ _ _ _ eG (@ah _ _ _ _ _ _ _ _ eE (@ah _ _ _ _ _ _ _ _ aQ (@ah _ _ _ _ _ _ _ _ aQ (@ah _ _ _ _ _ _ _ _ eG (pv 0) pe_int) (@ah _ _ _ _ _ _ _ _ eE pe_int (pv 1))) pe_int) pe_int) pe_int) (by rfl) (by first | exact .inl rfl | exact .inr rfl | assumption)) (@pss_one _ _ _ (@ps_ret _ _ _ _ (@ah _ _ _ _ _ _ _ _ eG (@ah _ _ _ _ _ _ _ _ eE (@ah _ _ _ _ _ _ _ _ eG (@ah _ _ _ _ _ _ _ _ eE (pv 2) (pv 2)) pe_int) pe_int) pe_int)))),?_⟩;refine ⟨_,rfl,_,_,rfl,rfl,(by show (0:Int) < 1000000007;decide),_,rfl,_,_,rfl,rfl,.inl ⟨by decide,by decide⟩,_,_,rfl,rfl,_,_,rfl,rfl,_,_,rfl,rfl,.inr ⟨by decide,by decide⟩,_,_,rfl,rfl,(by show (0:Int) < 2147483647;decide),?_⟩;have b0:(0:Int)≤(i % 1000000007+7919*k+1)*48271 % 2147483647:=Int.emod_nonneg _ (by decide);have b1:(i % 1000000007+7919*k+1)*48271 % 2147483647 < 2147483647:=Int.emod_lt_of_pos _ (by decide);exact ⟨_,rfl,_,rfl,_,_,rfl,rfl,.inl ⟨by lia,by lia⟩,_,_,rfl,rfl,(by show (0:Int) < 2147483629;decide),_,_,rfl,rfl,.inr ⟨by decide,by decide⟩,_,_,rfl,rfl,(by show (0:Int) < 2147483647;decide),q _ (Int.emod_nonneg _ (by decide)) (Int.emod_lt_of_pos _ (by decide))⟩
theorem fk (T:Tx K mg ad) {f:Addr} {fd:FuncData} (F:Gn K mg "_law_digit" d9 ["row","many"] f fd):FnOk P w K mg base CX0 1 f fd ["row","many"] (kF K ad):=by
 refine F.F.ok fF (fun vs H Q E h=>?_) (fun cdv A outer s H vs Q E hr h=>?_)
 ·obtain ⟨r,n,m,rfl,_⟩:=h
  rfl
 obtain ⟨r,n,m,rfl,hr0,h0,h1,q⟩:=h;refine ⟨_,(@pss_cons _ _ _ _ _ (@ps_set _ _ 2 _ _ _ _ fF.nd rfl (Or.inl rfl) (@ah _ _ _ _ _ _ _ _ eG (@pe_ix _ _ _ _ _ _ _ (bn (K:=K) rfl) (pv 0) pe_int (fun _ _=>rfl)) (pv 1)) (by rfl) (by first | exact .inl rfl | exact .inr rfl | assumption)) (@pss_cons _ _ _ _ _ (wP (@ah _ _ _ _ _ _ _ _ h7 (@pe_ix _ _ _ _ _ _ _ (bn (K:=K) rfl) (pv 0) pe_int (fun _ _=>rfl)) (pv 1)) (wO (pv 0) pe_int pR)) (@pss_one _ _ _ (@ps_ret _ _ _ _ (pv 2))))),?_⟩;have e0:atI [V.int n] 0=some (.int n):=rfl;exact ⟨_,rfl,r,_,_,_,rfl,rfl,SqL.of hr0,e0,_,rfl,_,_,rfl,rfl,h0,_,rfl,r,_,_,_,rfl,rfl,SqL.of hr0,e0,_,rfl,_,_,rfl,rfl,⟨h0,h1⟩,_,rfl,r,_,_,_,rfl,rfl,hr0,rfl,_,rfl,q⟩
theorem DV {α:Type} {xs:List α} {d:Int} (h0:0≤d) (h1:d < (xs.length:Int)):∃ v,v∈xs∧atI xs d=some v:=by
 have hk:d.toNat < xs.length:=by lia
 have ek:((d.toNat:Nat):Int)=d:=by lia
 have e:atI xs ((d.toNat:Nat):Int)=some xs[d.toNat]:=gM (by simp [hk]);rw [ek] at e;exact ⟨xs[d.toNat],List.getElem_mem hk,e⟩
theorem mod_lt (n:Int) {m:Int} (h:0 < m):0≤n % m∧n % m < m:=⟨Int.emod_nonneg _ (by lia),Int.emod_lt_of_pos _ h⟩
theorem iI (T:Tx K mg ad) {f:Addr} {fd:FuncData} (F:Gn K mg "_law_cell_at" cJ ["script","k"] f fd):FnOk P w K mg base CX0 1 f fd ["script","k"] (iH K ad):=by
 refine F.F.ok iW (fun vs H Q E h=>?_) (fun cdv A outer s H vs Q E hr h=>?_)
 ·obtain ⟨a,ns,k,rfl,_⟩:=h
  rfl
 obtain ⟨a,ns,k,rfl,hS,h63,q⟩:=h;refine ⟨_,(@pss_cons _ _ _ _ _ (@ps_if _ _ _ _ _ _ _ _ (pt_cmpR kU (pv 1) (pe_callB (bo (K:=K) rfl) rfl T.z_len PySem.boot_len (@pa1 _ _ _ (pv 0) (by rfl))) (nomark _)) (@pss_one _ _ _ (@ps_ret _ _ _ _ (@pe_ix _ _ _ _ _ _ _ (bn (K:=K) rfl) (pv 0) (pv 1) (fun _ _=>rfl)))) pss_nil) (@pss_one _ _ _ (@ps_ret _ _ _ _ pe_int))),?_⟩;refine ⟨_,rfl,_,rfl,a,_,rfl,.inl hS,_,_,rfl,rfl,_,rfl,?_⟩;rw [List.length_map];refine bu (fun c=>?_) (fun c=>?_)
 ·have c':(k:Int) < ns.length:=of_decide_eq_true c;obtain ⟨v,hv,e⟩:=DV (xs:=ns.map V.int) (d:=(k:Int)) (by lia) (by rw [List.length_map];exact c');obtain ⟨i,_,rfl⟩:=List.mem_map.mp hv;exact ⟨_,rfl,_,rfl,a,_,_,_,rfl,rfl,hS,e,q i⟩
 ·exact q 0
theorem xx {y:Int} (h0:0≤y) (h1:y < 2147483647 ^ 40):IntMulOk (y / 8) (10 ^ Int.toNat 60):=by
 refine IntMulOk.of_le (m:=1240) (n:=200) (intBits_le_iff.mpr ?_) (by decide +kernel) (by decide);have h2:(2147483647:Int) ^ 40≤((2 ^ 1240:Nat):Int):=by decide +kernel
 have h3:y / 8≤y:=Int.ediv_le_self _ h0;have h4:0≤y / 8:=by lia
 lia
theorem qJ {y c:Int} {i:Nat} (h0:0≤y) (h1:y < 2147483647 ^ i) (c0:0≤c) (c1:c < 2147483647):0≤y*2147483647+c∧y*2147483647+c < 2147483647 ^ (i+1):=by
 have e:(2147483647:Int) ^ (i+1)=2147483647 ^ i*2147483647:=Int.pow_succ _ _;rw [e]
 generalize (2147483647:Int) ^ i=b at *
 lia
theorem m7 (T:Tx K mg ad) {f:Addr} {fd:FuncData} (F:Gn K mg "_law_own" gf ["script","k","turn"] f fd):FnOk P w K mg base CX0 2 f fd ["script","k","turn"] (m6 K ad):=by
 obtain ⟨_,_,E1⟩:=T.law_cell_at;have Fn:=iI (P:=P) (w:=w) (base:=base) T E1;obtain ⟨_,_,Fb⟩:=T.law_mixed;have Fy:=kG (P:=P) (w:=w) (base:=base) T Fb;refine F.F.ok cr (fun vs H Q E h=>?_) (fun cdv A outer s H vs Q E hr h=>?_)
 ·obtain ⟨a,ns,k,t,rfl,_⟩:=h
  rfl
 obtain ⟨a,ns,k,t,rfl,hS,h63,hk,ht,q⟩:=h;refine ⟨_,(@pss_cons _ _ _ _ _ (@ps_set _ _ 3 _ _ _ _ cr.nd rfl (Or.inl rfl) (pcl E1 Fn (hr.mono (by lia)) rfl (@pa2 _ _ _ _ _ (pv 0) (pv 1) (by rfl) (by rfl))) (by rfl) (by first | exact .inl rfl | exact .inr rfl | assumption)) (@pss_cons _ _ _ _ _ (@ps_set _ _ 4 _ _ _ _ cr.nd rfl (Or.inl rfl) pe_int (by rfl) (by first | exact .inl rfl | exact .inr rfl | assumption)) (@pss_cons _ _ _ _ _ (fH PassesOwn.never rfl (fG rfl T.z_range (@pa1 _ _ _ pe_int (by rfl))) (aE (i:=5) cr.nd rfl (Or.inl rfl))
    (@pss_one _ _ _ (@ps_set _ _ 4 _ _ _ _ cr.nd rfl (Or.inl rfl) (@ah _ _ _ _ _ _ _ _ aQ (@ah _ _ _ _ _ _ _ _ eE (pv 4) pe_int) (pcl Fb Fy (hr.mono (by lia)) rfl (@pa2 _ _ _ _ _ (@ah _ _ _ _ _ _ _ _ aQ (@ah _ _ _ _ _ _ _ _ aQ (@ah _ _ _ _ _ _ _ _ eG (pe_callB pY rfl T.z_sum boot_sum (@pa1 _ _ _ (pv 0) (by rfl))) (@ah _ _ _ _ _ _ _ _ gU pe_int pe_int)) (pv 3)) (pv 1)) (@ah _ _ _ _ _ _ _ _ aQ (@ah _ _ _ _ _ _ _ _ aQ (@ah _ _ _ _ _ _ _ _ eE pe_int (pv 1)) (@ah _ _ _ _ _ _ _ _ eE pe_int (pv 2))) (pv 5)) (by rfl) (by rfl)))) (by rfl) (by first | exact .inl rfl | exact .inr rfl | assumption)))) (@pss_cons _ _ _ _ _ (@ps_if _ _ _ _ _ _ _ _ (PW.pt (@pw_and _ _ _ _ _ _ _ (pt_cmpR CM (pv 3) (@ah _ _ _ _ _ _ _ _ gU pe_int pe_int) (nomark _)) (@pw_and1 _ _ _ _ (pt_cmpR op_eq (pv 2) pe_int (nomark _))))) (@pss_one _ _ _ (@ps_ret _ _ _ _ (@bA _ _ _ _ (@pa1 _ _ _ (@ah _ _ _ _ _ _ _ _ aQ (@ah _ _ _ _ _ _ _ _ eG (pv 3) (@ah _ _ _ _ _ _ _ _ gU pe_int pe_int)) (@ah _ _ _ _ _ _ _ _ rO (@ah _ _ _ _ _ _ _ _ h7 (pv 4) pe_int) (@ah _ _ _ _ _ _ _ _ gU pe_int pe_int))) (by rfl))))) pss_nil) (@pss_one _ _ _ (@ps_ret _ _ _ _ (@bA _ _ _ _ (@pa1 _ _ _ (@ah _ _ _ _ _ _ _ _ h7 (pv 4) pe_int) (by rfl))))))))),?_⟩
 refine ⟨_,rfl,_,rfl,a,ns,k,rfl,hS,h63,fun x=>?_⟩;refine ⟨40,rfl,by decide,by decide,fI (lo:=0) (n:=(40:Int).toNat) (fun i σ H1=>H1=H∧∃ y v,(0≤y∧y < 2147483647 ^ i)∧σ=[some (.ref a),some (.int k),some (.int t),some (.int x),some (.int y),v]) ⟨rfl,0,_,⟨Int.le_refl _,by decide⟩,rfl⟩ ?_ ?_⟩
 ·rintro i σ H1 hi ⟨rfl,y,v,⟨y0,y1⟩,rfl⟩;refine ⟨_,rfl,_,_,rfl,rfl,.inr ⟨by decide,by decide⟩,?_⟩;refine ⟨_,rfl,a,ns,rfl,rfl,hS,_,_,rfl,rfl,⟨by decide,by decide,by decide⟩,_,_,rfl,rfl,(by show (0:Int) < 10 ^ (60:Int).toNat;decide +kernel),?_⟩;refine ⟨_,rfl,_,_,rfl,rfl,_,rfl,_,_,rfl,rfl,?_⟩;refine ⟨_,rfl,_,_,rfl,rfl,.inl ⟨by decide,by decide⟩,_,rfl,_,_,rfl,rfl,.inl ⟨by decide,by decide⟩,?_⟩;refine ⟨_,_,rfl,rfl,_,rfl,_,_,rfl,rfl,_,_,rfl,fun m m0 m1=>?_⟩;exact ⟨_,_,rfl,rfl,rfl,_,_,qJ y0 y1 m0 m1,rfl⟩
 ·rintro σ H1 ⟨rfl,y,v,⟨y0,y1⟩,rfl⟩;refine ⟨_,rfl,_,_,rfl,rfl,⟨by decide,by decide,by decide⟩,_,_,rfl,rfl,_,rfl,?_⟩;refine bu (fun c1=>?_) (fun c1=>?_)
  ·refine ⟨_,rfl,rfl,_,rfl,bu (fun c2=>?_) (fun c2=>?_)⟩
   ·refine ⟨_,rfl,_,_,rfl,rfl,⟨by decide,by decide,by decide⟩,_,_,rfl,rfl,(by show (0:Int) < 10 ^ (60:Int).toNat;decide +kernel),?_⟩;refine ⟨_,rfl,_,_,rfl,rfl,⟨by decide,by decide⟩,_,_,rfl,rfl,⟨by decide,by decide,by decide⟩,?_⟩;refine ⟨_,_,rfl,rfl,xx y0 y1,_,_,rfl,rfl,sz1,fun r hr'=>q r _ _ hr' (ax hr' _) ac⟩
   ·exact ⟨_,rfl,_,_,rfl,rfl,⟨by decide,by decide⟩,sz1,fun r hr'=>q r _ _ hr' (ax hr' _) ac⟩
  ·exact ⟨_,rfl,_,_,rfl,rfl,⟨by decide,by decide⟩,sz1,fun r hr'=>q r _ _ hr' (ax hr' _) ac⟩
def bE (K:PySem.W.Frag) (_:Ads):Sp:=fun vs H Q _=>∃ z:Str,vs=[.str z]∧z.length≤100000∧c8 203 "turn" z.cps.toList∧(∀ v,aH 203 "turn" z.cps.toList=some v→∃ y:Str,PT 41 "turn" v y∧y.length≤100000∧∀ H',Same H H'→Q (.str y) H')∧(aH 203 "turn" z.cps.toList=none→∀ H',Same H H'→Q (.str "refused") H')
theorem cR (T:Tx K mg ad) {f:Addr} {fd:FuncData} (F:Gn K mg "_law_turn_told" bV ["text"] f fd):FnOk P w K mg base CX0 210 f fd ["text"] (bE K ad):=by
 obtain ⟨f1,d1,EI⟩:=T.read_turn;have FD:=kC (P:=P) (w:=w) (base:=base) T EI;obtain ⟨f2,d2,Em⟩:=T.turn_text;have EU:=i7 (P:=P) (w:=w) (base:=base) T Em;refine F.F.ok bf (fun vs H Q E h=>?_) (fun cdv A outer s H vs Q E hr h=>?_)
 ·obtain ⟨z,rfl,_⟩:=h
  rfl
 obtain ⟨z,rfl,hz,ho,q1,q2⟩:=h;refine ⟨_,(@pss_cons _ _ _ _ _ (@ps_set _ _ 1 _ _ _ _ bf.nd rfl (Or.inl rfl) pe_str (by rfl) (by first | exact .inl rfl | exact .inr rfl | assumption)) (@pss_cons _ _ _ _ _ (j9 (j:=1) rfl rfl (im EU (hr.mono (by first | decide | lia)) rfl Em.m Em.F.kp Em.b (gO FD (hr.mono (by first | decide | lia)) rfl EI.m EI.F.kp EI.b (@pa1 _ _ _ (pv 0) (by rfl)))) bf.nd rfl (Or.inl rfl) (HS.cons T.x_BadText.m rfl (fun _=>(@pss_one _ _ _ (@ps_set _ _ 1 _ _ _ _ bf.nd rfl (Or.inl rfl) pe_str (by rfl) (by first | exact .inl rfl | exact .inr rfl | assumption)))) HS.nil)) (@pss_one _ _ _ (@ps_ret _ _ _ _ (pv 1))))),?_⟩;refine ⟨_,rfl,z,rfl,hz,ho,fun v hv x H1 g1 hx=>?_,fun hn H1 g1=>?_⟩
 ·obtain ⟨y,pt,hy,q⟩:=q1 v hv;exact ⟨v,x,y,rfl,hx,pt,hy,fun H2 g2=>⟨_,rfl,q H2 (g1.trans g2)⟩⟩
 ·exact ⟨_,rfl,true,T.exT,fun _=>⟨_,rfl,q2 hn H1 g1⟩,fun c=>by cases c⟩
def aZ (K:PySem.W.Frag) (_:Ads):Sp:=fun vs H Q _=>∃ z:Str,vs=[.str z]∧z.length≤100000∧c8 203 "piece" z.cps.toList∧(∀ v,aH 203 "piece" z.cps.toList=some v→∃ (w:Str) (ds:List Dt) (fs zs:List Str),v=.tup (.str w :: ds)∧aI "piece" w=some fs∧ds.length=fs.length∧zs.length=fs.length ∧
 (∀ (i:Nat) (s:Str) (d:Dt) (z:Str),fs[i]?=some s→ds[i]?=some d→zs[i]?=some z→PT 40 s d z)∧(bY w zs).length≤100000∧∀ H',Same H H'→Q (.str (bY w zs)) H')∧(aH 203 "piece" z.cps.toList=none→∀ H',Same H H'→Q (.str "refused") H')
theorem cz (T:Tx K mg ad) {f:Addr} {fd:FuncData} (F:Gn K mg "_law_piece_told" bH ["text"] f fd):FnOk P w K mg base CX0 210 f fd ["text"] (aZ K ad):=by
 obtain ⟨f1,d1,Ez⟩:=T.read_piece;have Fr:=i8 (P:=P) (w:=w) (base:=base) T Ez;obtain ⟨f2,d2,Ey⟩:=T.piece_text;have Fp:=i6 (P:=P) (w:=w) (base:=base) T Ey;refine F.F.ok a7 (fun vs H Q E h=>?_) (fun cdv A outer s H vs Q E hr h=>?_)
 ·obtain ⟨z,rfl,_⟩:=h
  rfl
 obtain ⟨z,rfl,hz,ho,q1,q2⟩:=h;refine ⟨_,(@pss_cons _ _ _ _ _ (@ps_set _ _ 1 _ _ _ _ a7.nd rfl (Or.inl rfl) pe_str (by rfl) (by first | exact .inl rfl | exact .inr rfl | assumption)) (@pss_cons _ _ _ _ _ (j9 (j:=1) rfl rfl (im Fp (hr.mono (by first | decide | lia)) rfl Ey.m Ey.F.kp Ey.b (gO Fr (hr.mono (by first | decide | lia)) rfl Ez.m Ez.F.kp Ez.b (@pa1 _ _ _ (pv 0) (by rfl)))) a7.nd rfl (Or.inl rfl) (HS.cons T.x_BadText.m rfl (fun _=>(@pss_one _ _ _ (@ps_set _ _ 1 _ _ _ _ a7.nd rfl (Or.inl rfl) pe_str (by rfl) (by first | exact .inl rfl | exact .inr rfl | assumption)))) HS.nil)) (@pss_one _ _ _ (@ps_ret _ _ _ _ (pv 1))))),?_⟩;refine ⟨_,rfl,z,rfl,hz,ho,fun v hv x H1 g1 hx=>?_,fun hn H1 g1=>?_⟩
 ·obtain ⟨w,ds,fs,zs,rfl,a,b,c,d,e,q⟩:=q1 v hv;exact ⟨w,ds,fs,zs,x,rfl,hx,a,b,c,d,e,fun H2 g2=>⟨_,rfl,q H2 (g1.trans g2)⟩⟩
 ·exact ⟨_,rfl,true,T.exT,fun _=>⟨_,rfl,q2 hn H1 g1⟩,fun c=>by cases c⟩
def bF (K:PySem.W.Frag) (_:Ads):Sp:=fun vs H Q _=>∃ z:Str,vs=[.str z]∧z.length≤100000∧c8 203 "path" z.cps.toList∧(∀ v,aH 203 "path" z.cps.toList=some v→∃ ns:List Str,v=.tup (ns.map Dt.str)∧ns.length≤1000∧(Str.join (Str.ofString "/") ns).length≤100000∧∀ H',Same H H'→Q (.str (Str.ofString "/" ++Str.join (Str.ofString "/") ns)) H')∧(aH 203 "path" z.cps.toList=none→∀ H',Same H H'→Q (.str "refused") H')
theorem f9 (T:Tx K mg ad) {f:Addr} {fd:FuncData} (F:Gn K mg "_law_path_told" bW ["text"] f fd):FnOk P w K mg base CX0 210 f fd ["text"] (bF K ad):=by
 obtain ⟨f1,d1,EJ⟩:=T.read_path;have FK:=kD (P:=P) (w:=w) (base:=base) T EJ;obtain ⟨f2,d2,EH⟩:=T.path_text;have FE:=kB (P:=P) (w:=w) (base:=base) T EH;refine F.F.ok bg (fun vs H Q E h=>?_) (fun cdv A outer s H vs Q E hr h=>?_)
 ·obtain ⟨z,rfl,_⟩:=h
  rfl
 obtain ⟨z,rfl,hz,ho,q1,q2⟩:=h;refine ⟨_,(@pss_cons _ _ _ _ _ (@ps_set _ _ 1 _ _ _ _ bg.nd rfl (Or.inl rfl) pe_str (by rfl) (by first | exact .inl rfl | exact .inr rfl | assumption)) (@pss_cons _ _ _ _ _ (j9 (j:=1) rfl rfl (im FE (hr.mono (by first | decide | lia)) rfl EH.m EH.F.kp EH.b (gO FK (hr.mono (by first | decide | lia)) rfl EJ.m EJ.F.kp EJ.b (@pa1 _ _ _ (pv 0) (by rfl)))) bg.nd rfl (Or.inl rfl) (HS.cons T.x_BadText.m rfl (fun _=>(@pss_one _ _ _ (@ps_set _ _ 1 _ _ _ _ bg.nd rfl (Or.inl rfl) pe_str (by rfl) (by first | exact .inl rfl | exact .inr rfl | assumption)))) HS.nil)) (@pss_one _ _ _ (@ps_ret _ _ _ _ (pv 1))))),?_⟩;refine ⟨_,rfl,z,rfl,hz,ho,fun v hv x H1 g1 hx=>?_,fun hn H1 g1=>?_⟩
 ·obtain ⟨ns,rfl,a,b,q⟩:=q1 v hv;exact ⟨ns,x,rfl,hx,a,b,_,rfl,q H1 g1⟩
 ·exact ⟨_,rfl,true,T.exT,fun _=>⟨_,rfl,q2 hn H1 g1⟩,fun c=>by cases c⟩
def bD (K:PySem.W.Frag) (_:Ads):Sp:=fun vs H Q _=>∃ z:Str,vs=[.str z]∧z.length≤100000∧c8 203 "value" z.cps.toList∧(∀ v,aH 203 "value" z.cps.toList=some v→ValD v∧(∀ z,v=.str z→z.length≤100000)∧∀ H',Same H H'→Q (.str (if ofT 60 v=true then "read" else "value")) H')∧(aH 203 "value" z.cps.toList=none→∀ H',Same H H'→Q (.str "refused") H')
theorem cA (T:Tx K mg ad) {f:Addr} {fd:FuncData} (F:Gn K mg "_law_value_told" bI ["text"] f fd):FnOk P w K mg base CX0 210 f fd ["text"] (bD K ad):=by
 obtain ⟨f1,d1,EC⟩:=T.read_value;have Fo:=je (P:=P) (w:=w) (base:=base) T EC;refine F.F.ok a8 (fun vs H Q E h=>?_) (fun cdv A outer s H vs Q E hr h=>?_)
 ·obtain ⟨z,rfl,_⟩:=h
  rfl
 obtain ⟨z,rfl,hz,ho,q1,q2⟩:=h;refine ⟨_,(@pss_cons _ _ _ _ _ (@ps_set _ _ 1 _ _ _ _ a8.nd rfl (Or.inl rfl) pe_str (by rfl) (by first | exact .inl rfl | exact .inr rfl | assumption)) (@pss_cons _ _ _ _ _ (sj rfl rfl (gO Fo (hr.mono (by first | decide | lia)) rfl EC.m EC.F.kp EC.b (@pa2 _ _ _ _ _ (pv 0) (@pe_tupPK _ K _ _ _ _ rfl (@pa2 _ _ _ _ _ pe_str pe_int (by rfl) (by rfl))) (by rfl) (by rfl))) (HS.cons T.x_BadText.m rfl (fun _=>(@pss_one _ _ _ (@ps_set _ _ 1 _ _ _ _ a8.nd rfl (Or.inl rfl) pe_str (by rfl) (by first | exact .inl rfl | exact .inr rfl | assumption)))) (HS.cons T.x_BadValue.m rfl (fun _=>(@pss_one _ _ _ (@ps_set _ _ 1 _ _ _ _ a8.nd rfl (Or.inl rfl) pe_str (by rfl) (by first | exact .inl rfl | exact .inr rfl | assumption)))) HS.nil))) (@pss_one _ _ _ (@ps_ret _ _ _ _ (pv 1))))),?_⟩;refine ⟨_,rfl,[.str "text",.int 60],.cons .str (.cons .int .nil),sz2,fun y H0 g0 hy=>?_⟩;refine ⟨z,y,60,rfl,hy,hz,ho,fun v hv=>?_,fun hn H1 g1=>?_⟩
 ·obtain ⟨vd,hl,q⟩:=q1 v hv;refine ⟨vd,hl,fun ht x H1 g1 hx=>?_,fun hf H1 g1=>?_⟩
  ·have:=q H1 (g0.trans g1);rw [if_pos ht] at this;exact ⟨_,rfl,this⟩
  ·have:=q H1 (g0.trans g1);rw [if_neg (by rw [hf];decide)] at this;exact ⟨_,rfl,false,T.exVT,(fun c=>by cases c),fun _=>⟨true,T.exV,fun _=>⟨_,rfl,this⟩,fun c=>by cases c⟩⟩
 ·exact ⟨_,rfl,true,T.exT,fun _=>⟨_,rfl,q2 hn H1 (g0.trans g1)⟩,fun c=>by cases c⟩
def m8 (_:PySem.W.Frag) (_:Ads):Sp:=fun vs H Q _=>∃ (z:Str) (b:Bool),vs=[.str z,.bl b]∧Q (.str (if b=true then z else "refused")) H
theorem iJ (T:Tx K mg ad) {f:Addr} {fd:FuncData} (F:Gn K mg "_law_due" gg ["text","good"] f fd):FnOk P w K mg base CX0 1 f fd ["text","good"] (m8 K ad):=by
 refine F.F.ok ny (fun vs H Q E h=>?_) (fun cdv A outer s H vs Q E hr h=>?_)
 ·obtain ⟨z,b,rfl,_⟩:=h
  rfl
 obtain ⟨z,b,rfl,q⟩:=h;refine ⟨_,(@pss_cons _ _ _ _ _ (@ps_if _ _ _ _ _ _ _ _ (@pt_val _ _ _ (pv 1) (by intro _;rfl)) (@pss_one _ _ _ (@ps_ret _ _ _ _ (pv 0))) pss_nil) (@pss_one _ _ _ (@ps_ret _ _ _ _ pe_str))),?_⟩
 cases b with
 | true=>exact ⟨_,rfl,_,rfl,bT ⟨_,rfl,q⟩⟩
 | false=>exact ⟨_,rfl,_,rfl,bx q⟩
def aw (cs:List Nat):Option (List Tk):=(cP cs).map (List.map toTk)
theorem fm:aw []=some []:=rfl
theorem iK (r:List Nat):aw (32 :: r)=aw r:=by
 unfold aw;rw [fe];have e:bU (32 :: r)=some 1:=by
  simp only [bU];rw [if_neg (by decide),if_neg (by decide +kernel),if_neg (by decide +kernel)]
 rw [e]
 rfl
theorem jI (c:Nat) (w r:List Nat):(c :: (w++r)).take (w.length+1)=c :: w:=by simp
theorem pf (c:Nat) (w r:List Nat):(c :: (w++r)).drop (w.length+1)=r:=by simp
theorem dJ {c:Nat} {w r:List Nat} {d:Dt} (hc:¬ c=32) (hw:bU (c :: (w++r))=some (w.length+1)) (hm:mkW (c :: w)=some d):aw (c :: (w++r))=(aw r).map (toTk d :: ·):=by
 unfold aw;rw [fe,hw];dsimp only;rw [if_neg hc,jI,pf,hm]
 cases cP r <;> rfl
theorem ph {c:Nat} {w r:List Nat} (hc:¬ c=32) (hw:bU (c :: (w++r))=some (w.length+1)) (hm:mkW (c :: w)=none):aw (c :: (w++r))=none:=by
 unfold aw;rw [fe,hw];dsimp only;rw [if_neg hc,jI,hm]
 rfl
theorem aF {c:Nat} (r:List Nat) (h:c∈[40,41,91,93,123,125,44,58,47]):aw (c :: r)=(aw r).map (ae ⟨#[c]⟩ :: ·):=by
 have key:¬ c=32∧¬ c=34∧¬ aD bz c=true∧¬ (c=45∨aD figS c=true)∧(!(Builtin.Str.occurrences marksS (aB [c]) 0 marksS.length 1).isEmpty)=true:=by
  revert c
  decide +kernel
 obtain ⟨a,b,c1,d,e⟩:=key;refine dJ (w:=[]) (d:=mk2 "mark" (.str (aB [c]))) a ?_ (by unfold mkW;rw [if_pos e]);simp only [bU];rw [if_neg b,if_neg c1,if_neg d]
 rfl
theorem nS {L:Str} {w r:List Nat} (h:w.all (aD L)=true) (hr:∀ c,r.head?=some c→aD L c=false):bp L (w++r)=w.length:=by
 induction w with
 | nil =>
  cases r with
  | nil=>rfl
  | cons c r =>
   show bp L (c :: r)=0;unfold bp;rw [List.takeWhile_cons,if_neg (by rw [hr c rfl];decide)]
   rfl
 | cons c w ih =>
  rw [List.all_cons,Bool.and_eq_true] at h;show bp L (c :: (w++r))=w.length+1;unfold bp;rw [List.takeWhile_cons,if_pos h.1,List.length_cons];exact congrArg Nat.succ (ih h.2)
theorem qK {c:Nat} (h:aD bz c=true):¬ c=34∧¬ c=32:=by
 constructor <;> (rintro rfl;revert h;decide +kernel)
theorem m9 {c:Nat} (h:aD figS c=true):¬ c=34∧¬ c=32∧¬ aD bz c=true:=by
 have e:figS.cps.toList=[48,49,50,51,52,53,54,55,56,57]:=by decide +kernel
 have h':c∈[48,49,50,51,52,53,54,55,56,57]:=by
  rw [← e];exact of_decide_eq_true h
 clear h e
 revert c
 decide +kernel
theorem pi {c:Nat} {w r:List Nat} (h:(c :: w).all (aD bz)=true) (hr:∀ c,r.head?=some c→aD bz c=false):bU (c :: (w++r))=some (w.length+1):=by
 have hc:aD bz c=true:=by rw [List.all_cons,Bool.and_eq_true] at h;exact h.1
 simp only [bU];rw [if_neg (qK hc).1,if_pos hc];exact congrArg some (nS (w:=c :: w) h hr)
theorem pj {c:Nat} {w r:List Nat} {d:Dt} (h:(c :: w).all (aD bz)=true) (hr:∀ c,r.head?=some c→aD bz c=false) (hm:mkW (c :: w)=some d):aw (c :: (w++r))=(aw r).map (toTk d :: ·) :=
 dJ (by rw [List.all_cons,Bool.and_eq_true] at h;exact (qK h.1).2) (pi h hr) hm
theorem lW {c:Nat} {w r:List Nat} (hc:c=45∨aD figS c=true) (h:w.all (aD figS)=true) (hr:∀ c,r.head?=some c→aD figS c=false):bU (c :: (w++r))=some (w.length+1):=by
 have n34:¬ c=34∧¬ c=32∧¬ aD bz c=true:=by
  rcases hc with rfl | hc
  ·decide +kernel
  ·exact m9 hc
 simp only [bU];rw [if_neg n34.1,if_neg n34.2.2,if_pos hc,nS h hr,Nat.add_comm]
theorem pk {b r:List Nat} (h:b.all (fun c=>!(c == 34))=true):bU (34 :: ((b++[34])++r))=some ((b++[34]).length+1):=by
 simp only [bU];rw [if_pos trivial];have e:((b++[34])++r).findIdx? (· == 34)=some b.length:=by
  induction b with
  | nil=>rfl
  | cons c b ih =>
   rw [List.all_cons,Bool.and_eq_true] at h;have hc:(c == 34)=false:=by simpa using h.1
   show (c :: ((b++[34])++r)).findIdx? _=_;rw [List.findIdx?_cons,hc,ih h.2]
   rfl
 rw [e,List.length_append]
 rfl
theorem qL {x y:Str} (h:x.length < y.length):Builtin.Str.occurrences x y 0 x.length 1=[]:=by
 rw [PySem.StrLaws.occ_eq,PySem.StrLaws.occ_find x y x.length _ 0 (fun i _=>Nat.zero_le _),List.find?_eq_none.mpr (fun i _=>by simp;lia)]
theorem nU {cs:List Nat} (h:10 < cs.length):¬ (!(Builtin.Str.occurrences marksS (aB cs) 0 marksS.length 1).isEmpty)=true:=by
 rw [qL (by rw [show marksS.length=10 by decide +kernel];exact h)]
 decide
theorem qM {b:List Nat} (h1:10≤b.length) (hb:b.all okC=true):mkW (34 :: (b++[34]))=some (mk2 "text" (.str (aB b))):=by
 have e:((34 :: (b++[34])).drop 1).dropLast=b:=by simp
 unfold mkW;rw [e,if_neg (nU (by simp;lia)),if_pos ⟨rfl,hb⟩]
abbrev wordT (s:Str):Tk:=(("word" : Str),Sum.inr s)
abbrev gu (s:Str):Tk:=(("text" : Str),Sum.inr s)
abbrev pp (n:Int):Tk:=(("number" : Str),Sum.inl n)
theorem Dk:(mkW [53]).map toTk=some (pp 5):=by kernel_rfl
theorem Dl:(mkW [34,97,34]).map toTk=some (gu "a"):=by kernel_rfl
theorem xz:(mkW [97]).map toTk=some (wordT "a"):=by kernel_rfl
theorem qN {w:List Nat} {t:Tk} (h:(mkW w).map toTk=some t):∃ d,mkW w=some d∧toTk d=t:=Option.map_eq_some_iff.mp h
def gv (L:Str) (r:List Nat):Prop:=∀ c,r.head?=some c→aD L c=false
theorem qO {c:Nat} {w r:List Nat} {t:Tk} (h:(c :: w).all (aD bz)=true) (hr:gv bz r) (hm:(mkW (c :: w)).map toTk=some t):aw (c :: (w++r))=(aw r).map (t :: ·):=by
 obtain ⟨d,hd,rfl⟩:=qN hm;exact pj h hr hd
theorem xA {c:Nat} {w r:List Nat} {t:Tk} (hc:c=45∨aD figS c=true) (h:w.all (aD figS)=true) (hr:gv figS r) (hm:(mkW (c :: w)).map toTk=some t):aw (c :: (w++r))=(aw r).map (t :: ·):=by
 obtain ⟨d,hd,rfl⟩:=qN hm;exact dJ (by
  rcases hc with rfl | hc
  ·decide
  ·exact (m9 hc).2.1) (lW hc h hr) hd
theorem qP {b r:List Nat} {t:Tk} (h:b.all (fun c=>!(c == 34))=true) (hm:(mkW (34 :: (b++[34]))).map toTk=some t):aw (34 :: ((b++[34])++r))=(aw r).map (t :: ·):=by
 obtain ⟨d,hd,rfl⟩:=qN hm;exact dJ (by decide) (pk h) hd
inductive NV:Nat→List Nat→List Tk→Dt→Prop
 | five:NV 0 [53] [pp 5] (.int 5)
 | a:NV 0 [34,97,34] [gu "a"] (.str "a")
 | sq {k:Nat} {cs:List Nat} {ts:List Tk} {v:Dt}:NV k cs ts v→NV (k+1) (91 :: (cs++[93])) (ae "[" :: (ts++[ae "]"])) (mk2 "list" (.tup [v]))
 | cu {k:Nat} {cs:List Nat} {ts:List Tk} {v:Dt}:NV k cs ts v→NV (k+1) (123 :: 97 :: 58 :: 32 :: (cs++[125])) (ae "{" :: wordT "a" :: ae ":" :: (ts++[ae "}"])) (mk2 "record" (.tup [.tup [.str "a",v]]))
 | pa {k:Nat} {cs:List Nat} {ts:List Tk} {v:Dt}:NV k cs ts v→NV (k+1) (40 :: (cs++[41])) (ae "(" :: (ts++[ae ")"])) (mk2 "rows" (.tup [v]))
theorem mk1:(("[" : Str)=⟨#[91]⟩∧("]" : Str)=⟨#[93]⟩∧("{" : Str)=⟨#[123]⟩∧("}" : Str)=⟨#[125]⟩)∧(("(" : Str)=⟨#[40]⟩∧(")" : Str)=⟨#[41]⟩∧(":" : Str)=⟨#[58]⟩∧("," : Str)=⟨#[44]⟩∧("/" : Str)=⟨#[47]⟩):=by decide +kernel
theorem ni {L:Str} {c:Nat} {r:List Nat} (h:aD L c=false):gv L (c :: r):=fun d hd=>by
 cases hd
 exact h
theorem nc {r:List Nat} (hr:gv bz r):aw (97 :: r)=(aw r).map (wordT "a" :: ·):=qO (w:=[]) (by decide +kernel) hr xz
theorem NV.lex {k:Nat} {cs:List Nat} {ts:List Tk} {v:Dt} (h:NV k cs ts v):∀ r,gv figS r→aw (cs++r)=(aw r).map (ts++·):=by
 induction h with
 | five=>exact fun r hr=>xA (w:=[]) (.inr (by decide +kernel)) rfl hr Dk
 | a=>exact fun r _=>qP (b:=[97]) (by decide) Dl
 | sq h ih =>
  intro r hr;rw [List.cons_append,List.append_assoc,aF _ (by decide),List.singleton_append,ih _ (ni (by decide +kernel)),aF _ (by decide)]
  cases aw r with
  | none=>rfl
  | some l=>simp [mk1]
 | pa h ih =>
  intro r hr;rw [List.cons_append,List.append_assoc,aF _ (by decide),List.singleton_append,ih _ (ni (by decide +kernel)),aF _ (by decide)]
  cases aw r with
  | none=>rfl
  | some l=>simp [mk1]
 | cu h ih =>
  intro r hr;rw [List.cons_append,List.cons_append,List.cons_append,List.cons_append,List.append_assoc,List.singleton_append,aF _ (by decide),nc (ni (by decide +kernel)),aF _ (by decide),iK,ih _ (ni (by decide +kernel)),aF _ (by decide)]
  cases aw r with
  | none=>rfl
  | some l=>simp [mk1]
def upT (L:Str):Tk→Bool
 | (w,.inr s)=>decide (w= "mark") && !(Builtin.Str.occurrences L s 0 L.length 1).isEmpty
 | (_,.inl _)=>false
theorem sW (L:Str) (d:Dt):upB L d=upT L (toTk d):=by
 unfold upB toTk
 split <;> first | rfl | (rename_i h;split <;> first | rfl | (rename_i w s;exact absurd rfl (h w s)))
def stT (p:Int×Int) (t:Tk):Int×Int :=
 (if p.2+(if upT "([{" t=true then 1 else 0) - (if upT ")]}" t=true then 1 else 0) > p.1 then p.2+(if upT "([{" t=true then 1 else 0) - (if upT ")]}" t=true then 1 else 0) else p.1,
  p.2+(if upT "([{" t=true then 1 else 0) - (if upT ")]}" t=true then 1 else 0))
theorem Dm (p:Int×Int) (d:Dt):dF p d=stT p (toTk d):=by
 unfold dF stT;rw [sW,sW]
theorem nV (toks:List Dt):eC toks=((toks.map toTk).foldl stT (0,0)).1:=by
 unfold eC;rw [List.foldl_map]
 congr 2
 funext p d
 exact Dm p d
theorem aG:(upT "([{" (ae "[")=true∧upT "([{" (ae "{")=true∧upT "([{" (ae "(")=true)∧(upT ")]}" (ae "[")=false∧upT ")]}" (ae "{")=false∧upT ")]}" (ae "(")=false):=by decide +kernel
theorem aA:(upT "([{" (ae "]")=false∧upT "([{" (ae "}")=false∧upT "([{" (ae ")")=false)∧(upT ")]}" (ae "]")=true∧upT ")]}" (ae "}")=true∧upT ")]}" (ae ")")=true):=by decide +kernel
theorem bM:(upT "([{" (ae ":")=false∧upT "([{" (ae ",")=false∧upT "([{" (ae "/")=false)∧(upT ")]}" (ae ":")=false∧upT ")]}" (ae ",")=false∧upT ")]}" (ae "/")=false):=by decide +kernel
theorem az (L s:Str):upT L (wordT s)=false:=by
 show (decide (("word" : Str)= "mark") && !(Builtin.Str.occurrences L s 0 L.length 1).isEmpty)=false;rw [decide_eq_false (by decide +kernel)]
 rfl
theorem fq (L s:Str):upT L (gu s)=false:=by
 show (decide (("text" : Str)= "mark") && !(Builtin.Str.occurrences L s 0 L.length 1).isEmpty)=false;rw [decide_eq_false (by decide +kernel)]
 rfl
theorem gR (L:Str) (n:Int):upT L (pp n)=false:=rfl
theorem cB {p:Int×Int} {t:Tk} (h1:upT "([{" t=true) (h2:upT ")]}" t=false):stT p t=(max p.1 (p.2+1),p.2+1):=by
 unfold stT;rw [h1,h2];simp only [if_true,Bool.false_eq_true,if_false]
 congr 1
 ·split <;> lia
 ·lia
theorem bN {p:Int×Int} {t:Tk} (h1:upT "([{" t=false) (h2:upT ")]}" t=true) (h:p.2≤p.1+1):stT p t=(p.1,p.2 - 1):=by
 unfold stT;rw [h1,h2];simp only [if_true,Bool.false_eq_true,if_false]
 congr 1
 ·split <;> lia
 ·lia
theorem aJ {p:Int×Int} {t:Tk} (h1:upT "([{" t=false) (h2:upT ")]}" t=false) (h:p.2≤p.1):stT p t=p:=by
 unfold stT;rw [h1,h2];simp only [Bool.false_eq_true,if_false];obtain ⟨a,b⟩:=p;simp at h ⊢;lia
theorem NV.deep {k:Nat} {cs:List Nat} {ts:List Tk} {v:Dt} (h:NV k cs ts v):∀ p:Int×Int,p.2≤p.1→ts.foldl stT p=(max p.1 (p.2+k),p.2):=by
 induction h with
 | five=>exact fun p hp=>(aJ (gR _ _) (gR _ _) hp).trans (by obtain ⟨a,b⟩:=p;simp at hp ⊢;lia)
 | a=>exact fun p hp=>(aJ (fq _ _) (fq _ _) hp).trans (by obtain ⟨a,b⟩:=p;simp at hp ⊢;lia)
 | sq h ih =>
  intro p hp;rw [List.foldl_cons,cB aG.1.1 aG.2.1,List.foldl_append,ih _ (by simp;lia),List.foldl_cons,bN aA.1.1 aA.2.1 (by simp;lia)];obtain ⟨a,b⟩:=p;simp at hp ⊢;lia
 | cu h ih =>
  intro p hp;rw [List.foldl_cons,cB aG.1.2.1 aG.2.2.1,List.foldl_cons,aJ (az _ _) (az _ _) (by simp;lia),List.foldl_cons,aJ bM.1.1 bM.2.1 (by simp;lia),List.foldl_append,ih _ (by simp;lia),List.foldl_cons,bN aA.1.2.1 aA.2.2.1 (by simp;lia)];obtain ⟨a,b⟩:=p;simp at hp ⊢;lia
 | pa h ih =>
  intro p hp;rw [List.foldl_cons,cB aG.1.2.2 aG.2.2.2,List.foldl_append,ih _ (by simp;lia),List.foldl_cons,bN aA.1.2.2 aA.2.2.2 (by simp;lia)];obtain ⟨a,b⟩:=p;simp at hp ⊢;lia
theorem jJ {cs:List Nat} {ts:List Tk} (h:aw cs=some ts):∃ toks,cP cs=some toks∧toks.map toTk=ts:=Option.map_eq_some_iff.mp h
theorem ej {cs:List Nat} {s:Str} {ts:List Tk} {v:Dt} {q:Nat} (h:aw cs=some ts) (hd:(ts.foldl stT (0,0)).1≤40) (hp:prs ts 203 s 0=.ok v q) (he:ag ts q=kj):aH 203 s cs=some v∧c8 203 s cs:=by
 obtain ⟨toks,hL,rfl⟩:=jJ h;rw [← nV] at hd
 constructor
 ·unfold aH;rw [hL];dsimp only;rw [if_pos hd,hp];dsimp only;rw [if_pos he]
 ·intro t ht _;rw [hL] at ht
  cases ht
  rw [hp];exact fun c=>by cases c
theorem nW {cs:List Nat} {s:Str} {ts:List Tk} (h:aw cs=some ts) (hd:¬ (ts.foldl stT (0,0)).1≤40):aH 203 s cs=none∧c8 203 s cs:=by
 obtain ⟨toks,hL,rfl⟩:=jJ h;rw [← nV] at hd
 constructor
 ·unfold aH;rw [hL];dsimp only;rw [if_neg hd]
 ·intro t ht hd';rw [hL] at ht
  cases ht
  exact absurd hd' hd
theorem ng {cs:List Nat} {s:Str} (h:aw cs=none):aH 203 s cs=none∧c8 203 s cs:=by
 have hL:cP cs=none:=by simpa [aw] using h
 constructor
 ·unfold aH;rw [hL]
 ·intro t ht;rw [hL] at ht
  cases ht
theorem aj {T:List Tk} {p:Nat} {t:Tk} {l:List Tk} (h:T.drop p=t :: l):ag T p=t∧T.drop (p+1)=l∧p < T.length:=by
 have hp:p < T.length:=by
  have:=congrArg List.length h;rw [List.length_drop,List.length_cons] at this;lia
 rw [List.drop_eq_getElem_cons hp] at h;injection h with h1 h2
 refine ⟨?_,h2,hp⟩;unfold ag;rw [List.getElem?_eq_getElem hp,h1]
 rfl
theorem kH {T:List Tk} {p:Nat} (h:T.drop p=[]):ag T p=kj:=by
 unfold ag;rw [List.getElem?_eq_none (List.drop_eq_nil_iff.mp h)]
 rfl
theorem iL {T:List Tk} {p:Nat} {a b:List Tk} (h:T.drop p=a++b):T.drop (p+a.length)=b:=by
 rw [← List.drop_drop,h,List.drop_left]
theorem NV.head {k:Nat} {cs:List Nat} {ts:List Tk} {v:Dt} (h:NV k cs ts v):∃ t l,ts=t :: l∧¬ t=ae "]" ∧¬ t=ae ")" :=by
 cases h with
 | five=>exact ⟨_,_,rfl,by decide +kernel,by decide +kernel⟩
 | a=>exact ⟨_,_,rfl,by decide +kernel,by decide +kernel⟩
 | sq h=>exact ⟨_,_,rfl,by decide +kernel,by decide +kernel⟩
 | cu h=>exact ⟨_,_,rfl,by decide +kernel,by decide +kernel⟩
 | pa h=>exact ⟨_,_,rfl,by decide +kernel,by decide +kernel⟩
theorem iM {T:List Tk} {rd:Nat→PR} {cl:Str} {p q:Nat} {v:Dt} (h0:¬ ag T p=ae cl) (hr:rd p=.ok v q) (h1:ag T q=ae cl) (hl:q < T.length):ix T rd cl p=.ok (.tup [v]) (q+1):=by
 unfold ix;obtain ⟨n,hn⟩:∃ n,T.length=n+1:=⟨T.length - 1,by lia⟩;rw [hn];simp only [eD];rw [if_neg h0,if_neg (by simp),hr];show eD T rd cl (n+1) q [v]=_;simp only [eD];rw [if_pos h1]
theorem NV.parse {k:Nat} {cs:List Nat} {ts:List Tk} {v:Dt} (h:NV k cs ts v):∀ (T:List Tk) (p:Nat) (rest:List Tk) (n:Nat),T.drop p=ts++rest→5*k+3≤n→prs T n "value" p=.ok v (p+ts.length):=by
 have vS:∀ (T:List Tk) (n p:Nat),prs T (n+3) "value" p=bv T (prs T n) p:=fun T n p=>by
  simp only [prs];rw [if_pos trivial]
 induction h with
 | five =>
  intro T p rest n hT hn;obtain ⟨n,rfl⟩:∃ m,n=m+3:=⟨n - 3,by lia⟩;rw [vS];obtain ⟨a,_⟩:=aj hT;unfold bv bi;rw [a,if_neg (by decide +kernel),if_neg (by decide +kernel),if_neg (by decide +kernel),if_pos rfl,if_pos rfl]
  rfl
 | a =>
  intro T p rest n hT hn;obtain ⟨n,rfl⟩:∃ m,n=m+3:=⟨n - 3,by lia⟩;rw [vS];obtain ⟨a,_⟩:=aj hT;unfold bv bi;rw [a,if_neg (by decide +kernel),if_neg (by decide +kernel),if_neg (by decide +kernel),if_neg (by decide +kernel),if_pos rfl]
  rfl
 | sq h ih =>
  intro T p rest n hT hn;obtain ⟨n,rfl⟩:∃ m,n=m+3:=⟨n - 3,by lia⟩;rw [vS];rw [List.cons_append,List.append_assoc] at hT;obtain ⟨a,b,_⟩:=aj hT;obtain ⟨t,l,e,e1,_⟩:=h.head;have c:ag T (p+1)=t:=(aj (by rw [b,e];rfl)).1;obtain ⟨d,_,d3⟩:=aj (iL b);unfold bv;rw [a,if_pos rfl,iM (by rw [c];exact e1) (ih T (p+1) _ n b (by lia)) d d3];simp only [PR.bind,List.length_cons,List.length_append,List.length_nil]
  congr 1
  lia
 | pa h ih =>
  intro T p rest n hT hn;obtain ⟨n,rfl⟩:∃ m,n=m+3:=⟨n - 3,by lia⟩;rw [vS];rw [List.cons_append,List.append_assoc] at hT;obtain ⟨a,b,_⟩:=aj hT;obtain ⟨t,l,e,_,e1⟩:=h.head;have c:ag T (p+1)=t:=(aj (by rw [b,e];rfl)).1;obtain ⟨d,_,d3⟩:=aj (iL b);unfold bv;rw [a,if_neg (by decide +kernel),if_neg (by decide +kernel),if_pos rfl,iM (by rw [c];exact e1) (ih T (p+1) _ n b (by lia)) d d3];simp only [PR.bind,List.length_cons,List.length_append,List.length_nil]
  congr 1
  lia
 | @cu k cs ts v h ih =>
  intro T p rest n hT hn;obtain ⟨n,rfl⟩:∃ m,n=m+3+3:=⟨n - 6,by lia⟩;rw [vS];rw [List.cons_append,List.cons_append,List.cons_append,List.append_assoc] at hT;obtain ⟨a,b,_⟩:=aj hT;obtain ⟨a1,b1,_⟩:=aj b;obtain ⟨a2,b2,_⟩:=aj b1;obtain ⟨d,_,d3⟩:=aj (iL b2);have hr:prs T (n+3) "entry" (p+1)=.ok (.tup [.str "a",v]) (p+1+1+1+ts.length):=by
   have e:prs T (n+3) "entry" (p+1)=nQ T (prs T (n+1)) "value" (p+1):=by
    simp only [prs];rw [if_neg (by decide +kernel),if_neg (by decide +kernel),if_neg (by decide +kernel),if_neg (by decide +kernel),if_neg (by decide +kernel),if_neg (by decide +kernel)];rw [show ci "entry" iy=some ("value" : Str) by decide +kernel]
   rw [e];unfold nQ bC;rw [a1];dsimp only;rw [if_pos rfl,au a2,ih T _ _ (n+1) b2 (by lia)]
   rfl
  unfold bv;rw [a,if_neg (by decide +kernel),if_pos rfl,iM (by rw [a1];decide +kernel) hr d d3];simp only [PR.bind,List.length_cons,List.length_append,List.length_nil]
  congr 1
  lia
theorem ak (a b:Str):(a++b).cps.toList=a.cps.toList++b.cps.toList:=by
 show (a.cps++b.cps).toList=_;rw [Array.toList_append]
theorem cG {z:Str} {cs:List Nat} (h:z.cps.toList=cs):z=aB cs:=by rw [← ca z,h]
theorem bO (sp z:Str):Str.join sp [z]=z:=rfl
theorem aW (cs:List Nat):(aB cs).cps.toList=cs:=rfl
theorem NV.text {k:Nat} {cs:List Nat} {ts:List Tk} {v:Dt} (h:NV k cs ts v):∀ n,k≤n→VT n v (aB cs):=by
 induction h with
 | five =>
  intro n _;have:=VT.int n 5 (by decide +kernel)
  rwa [show fW 5=aB [53] by decide +kernel] at this
 | a =>
  intro n _;have:=VT.str n "a"
  rwa [show Str.ofString "\"" ++Str.ofString "a" ++Str.ofString "\"" = aB [34,97,34] by decide +kernel] at this
 | @sq k cs ts v h ih =>
  intro n hn;obtain ⟨n,rfl⟩:∃ m,n=m+1:=⟨n - 1,by lia⟩;have:=VT.list n [v] [aB cs] rfl (by show 1≤1000;decide) (fun i d z h1 h2=>by
   match i,h1,h2 with
   | 0,h1,h2=>cases h1;cases h2;exact ih n (by lia))
  rwa [show Str.ofString "[" ++Str.join (Str.ofString ", ") [aB cs]++Str.ofString "]" = aB (91 :: (cs++[93])) from cG (by rw [ak,ak,bO,aW];simp [mk1])] at this
 | @pa k cs ts v h ih =>
  intro n hn;obtain ⟨n,rfl⟩:∃ m,n=m+1:=⟨n - 1,by lia⟩;have:=VT.rows n [v] [aB cs] rfl (by show 1≤1000;decide) (fun i d z h1 h2=>by
   match i,h1,h2 with
   | 0,h1,h2=>cases h1;cases h2;exact ih n (by lia))
  rwa [show Str.ofString "(" ++Str.join (Str.ofString ", ") [aB cs]++Str.ofString ")" = aB (40 :: (cs++[41])) from cG (by rw [ak,ak,bO,aW];simp [mk1])] at this
 | @cu k cs ts v h ih =>
  intro n hn;obtain ⟨n,rfl⟩:∃ m,n=m+1:=⟨n - 1,by lia⟩;have:=VT.record n [("a",v)] [aB cs] rfl (by show 1≤1000;decide) (fun i d z h1 h2=>by
   match i,h1,h2 with
   | 0,h1,h2=>cases h1;cases h2;exact ih n (by lia))
  rwa [show Str.ofString "{" ++Str.join (Str.ofString ", ") (([((Str.ofString "a"),v)].zip [aB cs]).map iF)++Str.ofString "}" = aB (123 :: 97 :: 58 :: 32 :: (cs++[125])) from cG (by
   show (Str.ofString "{" ++Str.join (Str.ofString ", ") [Str.ofString "a" ++Str.ofString ": " ++aB cs]++Str.ofString "}").cps.toList=_;rw [ak,ak,bO,ak,ak,aW,show (Str.ofString "a").cps.toList=[97] by decide +kernel,show (Str.ofString ": ").cps.toList=[58,32] by decide +kernel];simp [mk1])] at this
theorem xB:(mkW [105,116,101,109,115]).map toTk=some (wordT "items"):=by kernel_rfl
theorem xC:(mkW [111,117,116]).map toTk=some (wordT "out"):=by kernel_rfl
theorem xD:(mkW [116,117,114,110]).map toTk=some (wordT "turn"):=by kernel_rfl
theorem xE:(mkW [100,114,111,112]).map toTk=some (wordT "drop"):=by kernel_rfl
theorem em {c:Nat} {w:List Nat} {z:Str} (r:List Nat) (h:(c :: w).all (aD bz)=true) (hm:(mkW (c :: w)).map toTk=some (wordT z)):aw (c :: (w++40 :: r))=(aw r).map ([wordT z,ae "("]++·):=by
 rw [qO h (ni (by decide +kernel)) hm,aF _ (by decide)]
 cases aw r with
 | none=>rfl
 | some l=>simp [mk1]
theorem iN {c:Nat} {w:List Nat} {z:Str} (x r:List Nat) (h:(c :: w).all (aD bz)=true) (hm:(mkW (c :: w)).map toTk=some (wordT z)):aw ((c :: (w++40 :: x))++r)=(aw (x++r)).map ([wordT z,ae "("]++·):=by
 rw [List.cons_append,List.append_assoc,List.cons_append];exact em _ h hm
inductive NT:Nat→List Nat→List Tk→Dt→Prop
 | out:NT 1 (111 :: ([117,116]++40 :: [41])) [wordT "out",ae "(",ae ")"] (.tup [.str "out"])
 | items {k:Nat} {cs:List Nat} {ts:List Tk} {v:Dt}:NT k cs ts v→NT (k+1) (105 :: ([116,101,109,115]++40 :: (cs++[41]))) (wordT "items" :: ae "(" :: (ts++[ae ")"])) (.tup [.str "items",v])
structure Nst (s:Str) (k:Nat) (cs:List Nat) (ts:List Tk) (v:Dt):Prop where
 lex:∀ r,gv figS r→aw (cs++r)=(aw r).map (ts++·)
 deep:∀ p:Int×Int,p.2≤p.1→ts.foldl stT p=(max p.1 (p.2+k),p.2)
 parse:∀ (T:List Tk) (p:Nat) (rest:List Tk) (n:Nat),5*k+3≤n→T.drop p=ts++rest→prs T n s p=.ok v (p+ts.length)
theorem NT.lex {k:Nat} {cs:List Nat} {ts:List Tk} {v:Dt} (h:NT k cs ts v):∀ r,aw (cs++r)=(aw r).map (ts++·):=by
 induction h with
 | out =>
  intro r;rw [iN _ _ (by decide +kernel) xC,List.singleton_append,aF _ (by decide)]
  cases aw r with
  | none=>rfl
  | some l=>simp [mk1]
 | items h ih =>
  intro r;rw [iN _ _ (by decide +kernel) xB,List.append_assoc,List.singleton_append,ih,aF _ (by decide)]
  cases aw r with
  | none=>rfl
  | some l=>simp [mk1]
theorem NT.deep {k:Nat} {cs:List Nat} {ts:List Tk} {v:Dt} (h:NT k cs ts v):∀ p:Int×Int,p.2≤p.1→ts.foldl stT p=(max p.1 (p.2+k),p.2):=by
 induction h with
 | out =>
  intro p hp;rw [List.foldl_cons,aJ (az _ _) (az _ _) hp,List.foldl_cons,cB aG.1.2.2 aG.2.2.2,List.foldl_cons,bN aA.1.2.2 aA.2.2.2 (by simp <;> lia)];obtain ⟨a,b⟩:=p;simp at hp ⊢ <;> lia
 | items h ih =>
  intro p hp;rw [List.foldl_cons,aJ (az _ _) (az _ _) hp,List.foldl_cons,cB aG.1.2.2 aG.2.2.2,List.foldl_append,ih _ (by simp <;> lia),List.foldl_cons,bN aA.1.2.2 aA.2.2.2 (by simp <;> lia)];obtain ⟨a,b⟩:=p;simp at hp ⊢ <;> lia
theorem NT.pos {k:Nat} {cs:List Nat} {ts:List Tk} {v:Dt} (h:NT k cs ts v):1≤k:=by cases h <;> lia
theorem NT.parse {k:Nat} {cs:List Nat} {ts:List Tk} {v:Dt} (h:NT k cs ts v):∀ (T:List Tk) (p:Nat) (rest:List Tk) (n:Nat),T.drop p=ts++rest→3*k≤n→prs T n "turn" p=.ok v (p+ts.length):=by
 have vS:∀ (T:List Tk) (n p:Nat),prs T (n+3) "turn" p=gq T (prs T n) p:=fun T n p=>by
  simp only [prs];rw [if_neg (by decide +kernel),if_neg (by decide +kernel),if_pos trivial]
 induction h with
 | out =>
  intro T p rest n hT hn;obtain ⟨n,rfl⟩:∃ m,n=m+3:=⟨n - 3,by lia⟩;rw [List.cons_append,List.cons_append,List.cons_append] at hT;rw [vS];obtain ⟨a,b,_⟩:=aj hT;obtain ⟨a1,b1,_⟩:=aj b;obtain ⟨a2,b2,_⟩:=aj b1;unfold gq bC;rw [a];dsimp only;rw [if_pos rfl,if_neg (by decide +kernel)];unfold dv;rw [show aI "turn" "out" = some [] by decide +kernel];dsimp only;rw [au a1];simp only [dI];rw [au a2]
  rfl
 | @items k cs ts v h ih =>
  intro T p rest n hT hn;obtain ⟨n,rfl⟩:∃ m,n=m+3:=⟨n - 3,by lia⟩;rw [List.cons_append,List.cons_append,List.append_assoc] at hT;rw [vS];obtain ⟨a,b,_⟩:=aj hT;obtain ⟨a1,b1,_⟩:=aj b;obtain ⟨a2,b2,_⟩:=aj (iL b1);unfold gq bC;rw [a];dsimp only;rw [if_pos rfl,if_neg (by decide +kernel)];unfold dv;rw [show aI "turn" "items" = some [("turn" : Str)] by decide +kernel];dsimp only;rw [au a1];simp only [dI];rw [if_neg (by simp),ih T _ _ n b1 (by lia)];simp only [PR.bind];rw [au a2];simp only [List.length_cons,List.length_append,List.length_nil]
  congr 1
  lia
theorem ft (w:Str) (zs:List Str):(bY w zs).cps.toList=w.cps.toList++40 :: ((Str.join (Str.ofString ", ") zs).cps.toList++[41]):=by
 unfold bY;rw [ak,ak,ak];simp [mk1]
theorem NT.text {k:Nat} {cs:List Nat} {ts:List Tk} {v:Dt} (h:NT k cs ts v):∀ n,k≤n→PT n "turn" v (aB cs):=by
 induction h with
 | out =>
  intro n hn;obtain ⟨n,rfl⟩:∃ m,n=m+1:=⟨n - 1,by lia⟩;have:=PT.turn n "out" [] [] [] (by decide +kernel) (by decide +kernel) rfl rfl (fun i s d z h=>by simp at h)
  rwa [show bY "out" []=aB (111 :: ([117,116]++40 :: [41])) by decide +kernel] at this
 | @items k cs ts v h ih =>
  intro n hn;obtain ⟨n,rfl⟩:∃ m,n=m+1:=⟨n - 1,by lia⟩;have:=PT.turn n "items" [v] [("turn" : Str)] [aB cs] (by decide +kernel) (by decide +kernel) rfl rfl (fun i s d z h1 h2 h3=>by
   match i,h1,h2,h3 with
   | 0,h1,h2,h3=>cases h1;cases h2;cases h3;exact ih n (by lia))
  rwa [cG (ft "items" [aB cs]),bO,aW,show (Str.ofString "items").cps.toList=[105,116,101,109,115] by decide +kernel] at this
theorem NT.nst {k:Nat} {cs:List Nat} {ts:List Tk} {v:Dt} (h:NT k cs ts v):Nst "turn" k cs ts v:=⟨fun r _=>h.lex r,h.deep,fun T p rest n hn hT=>h.parse T p rest n hT (by lia)⟩
theorem NV.nst {k:Nat} {cs:List Nat} {ts:List Tk} {v:Dt} (h:NV k cs ts v):Nst "value" k cs ts v:=⟨h.lex,h.deep,fun T p rest n hn hT=>h.parse T p rest n hT (by lia)⟩
theorem Nst.whole {s:Str} {k:Nat} {cs:List Nat} {ts:List Tk} {v:Dt} (h:Nst s k cs ts v):(k≤40→aH 203 s cs=some v∧c8 203 s cs)∧(¬ k≤40→aH 203 s cs=none∧c8 203 s cs):=by
 have hl:aw cs=some ts:=by
  have:=h.lex [] (fun c hc=>by cases hc);rw [List.append_nil,fm] at this;rw [this];simp
 have hd:=h.deep (0,0) (Int.le_refl _);refine ⟨fun hk=>?_,fun hk=>?_⟩
 ·refine ej hl (by rw [hd];simp;lia) (h.parse ts 0 [] 203 (by lia) (by simp)) (kH ?_);rw [Nat.zero_add,List.drop_length]
 ·exact nW hl (by rw [hd];simp;lia)
theorem jK (T:List Tk) (n p:Nat):prs T (n+3) "piece" p=bC T p fun w q=>dv T (prs T n) "piece" w q:=by
 simp only [prs];rw [if_neg (by decide +kernel),if_neg (by decide +kernel),if_neg (by decide +kernel),if_pos trivial]
theorem iO (T:List Tk) (n p:Nat):prs T (n+3) "word" p=bi T "word" p:=by
 simp only [prs];rw [if_neg (by decide +kernel),if_neg (by decide +kernel),if_neg (by decide +kernel),if_neg (by decide +kernel),if_neg (by decide +kernel),if_neg (by decide +kernel),show ci "word" iy=none by decide +kernel]
theorem Nst.piece {s w:Str} {k:Nat} {cs:List Nat} {ts:List Tk} {v:Dt} {c:Nat} {wc:List Nat} (h:Nst s k cs ts v) (hw:(c :: wc).all (aD bz)=true) (hm:(mkW (c :: wc)).map toTk=some (wordT w)) (hf:aI "piece" w=some [("word" : Str),s]) :
  (k≤39→aH 203 "piece" (c :: (wc++40 :: (97 :: 44 :: 32 :: (cs++[41]))))=some (.tup [.str w,.str "a",v])∧c8 203 "piece" (c :: (wc++40 :: (97 :: 44 :: 32 :: (cs++[41]))))) ∧
  (¬ k≤39→aH 203 "piece" (c :: (wc++40 :: (97 :: 44 :: 32 :: (cs++[41]))))=none∧c8 203 "piece" (c :: (wc++40 :: (97 :: 44 :: 32 :: (cs++[41]))))):=by
 have hl:aw (c :: (wc++40 :: (97 :: 44 :: 32 :: (cs++[41]))))=some (wordT w :: ae "(" :: wordT "a" :: ae "," :: (ts++[ae ")"])):=by
  rw [em _ hw hm,nc (ni (by decide +kernel)),aF _ (by decide),iK,h.lex _ (ni (by decide +kernel)),aF _ (by decide),fm];simp [mk1]
 have hd:(wordT w :: ae "(" :: wordT "a" :: ae "," :: (ts++[ae ")"])).foldl stT (0,0)=(((k+1:Nat):Int),0):=by
  rw [List.foldl_cons,aJ (az _ _) (az _ _) (by simp <;> lia),List.foldl_cons,cB aG.1.2.2 aG.2.2.2,List.foldl_cons,aJ (az _ _) (az _ _) (by simp <;> lia),List.foldl_cons,aJ bM.1.2.1 bM.2.2.1 (by simp <;> lia),List.foldl_append,h.deep _ (by simp <;> lia),List.foldl_cons,bN aA.1.2.2 aA.2.2.2 (by simp <;> lia)];simp <;> lia
 refine ⟨fun hk=>?_,fun hk=>nW hl (by rw [hd];simp;lia)⟩
 generalize hT:wordT w :: ae "(" :: wordT "a" :: ae "," :: (ts++[ae ")"])=T at hl hd
 have h0:T.drop 0=wordT w :: ae "(" :: wordT "a" :: ae "," :: (ts++[ae ")"]):=by rw [hT];rfl
 obtain ⟨a,b,_⟩:=aj h0;obtain ⟨a1,b1,_⟩:=aj b;obtain ⟨a2,b2,_⟩:=aj b1;obtain ⟨a3,b3,_⟩:=aj b2;obtain ⟨a4,b4,_⟩:=aj (iL b3);refine ej (q:=4+ts.length+1) hl (by rw [hd];simp;lia) ?_ (kH (by rw [← b4]));have e:prs T 203 "piece" 0=bC T 0 fun w q=>dv T (prs T 200) "piece" w q:=jK T 200 0;have e2:prs T 200 "word" 2=bi T "word" 2:=iO T 197 2;rw [e];unfold bC;rw [a];dsimp only;rw [if_pos rfl];unfold dv;rw [hf];dsimp only;rw [au a1];simp only [dI];rw [if_neg (by simp),e2];unfold bi;rw [a2];dsimp only;rw [if_pos rfl];simp only [PR.bind];rw [if_pos (by simp),au a3,h.parse T _ _ 200 (by lia) b3];simp only;rw [au a4]
 rfl
theorem NT.rep:∀ n:Nat,∃ ts v,NT (n+1) ((List.replicate n [105,116,101,109,115,40]).flatten++([111,117,116,40,41]++List.replicate n 41)) ts v
 | 0=>⟨_,_,.out⟩
 | n+1=>by
  obtain ⟨ts,v,h⟩:=NT.rep n;have e:(List.replicate (n+1) [105,116,101,109,115,40]).flatten++([111,117,116,40,41]++List.replicate (n+1) 41)=105 :: ([116,101,109,115]++40 :: (((List.replicate n [105,116,101,109,115,40]).flatten++([111,117,116,40,41]++List.replicate n 41))++[41])):=by
   rw [List.replicate_succ,List.flatten_cons,List.replicate_succ' (a:=41)];simp
  rw [e];exact ⟨_,_,.items h⟩
theorem pq {K:PySem.W.Frag} {ad:Ads} {d:Nat} {z:Str} {ts:List Tk} {v:Dt} {H:Hp} {Q:VK} {E:XK} (h:NT d z.cps.toList ts v) (hz:z.length≤100000) (q:∀ H',Same H H'→Q (.str (if decide ((d:Int)≤40)=true then z else "refused")) H'):bE K ad [.str z] H Q E:=by
 obtain ⟨w1,w2⟩:=h.nst.whole
 by_cases hd:d≤40
 ·obtain ⟨a,b⟩:=w1 hd;refine ⟨z,rfl,hz,b,fun v' hv=>?_,fun c=>by rw [a] at c;cases c⟩;rw [a] at hv
  cases hv
  have t:=h.text 41 (by lia);rw [ca] at t;refine ⟨z,t,hz,fun H' g=>?_⟩;have:=q H' g
  rwa [if_pos (decide_eq_true (by lia))] at this
 ·obtain ⟨a,b⟩:=w2 hd;refine ⟨z,rfl,hz,b,(fun v' hv=>by rw [a] at hv;cases hv),fun _ H' g=>?_⟩;have:=q H' g
  rwa [if_neg (fun c=>hd (by have:=of_decide_eq_true c;lia))] at this
theorem iP {K:PySem.W.Frag} {ad:Ads} {s w:Str} {k c:Nat} {wc cs:List Nat} {z:Str} {ts:List Tk} {v:Dt} {H:Hp} {Q:VK} {E:XK} (h:Nst s k cs ts v) (hw:(c :: wc).all (aD bz)=true) (hm:(mkW (c :: wc)).map toTk=some (wordT w)) (hf:aI "piece" w=some [("word" : Str),s])
  (ht:k≤39→PT 40 s v (aB cs)) (ec:w.cps.toList=c :: wc) (ez:z.cps.toList=c :: (wc++40 :: (97 :: 44 :: 32 :: (cs++[41])))) (hz:z.length≤100000) (q:∀ H',Same H H'→Q (.str (if decide ((k:Int)≤39)=true then z else "refused")) H'):aZ K ad [.str z] H Q E:=by
 obtain ⟨w1,w2⟩:=h.piece hw hm hf;rw [← ez] at w1 w2
 by_cases hd:k≤39
 ·obtain ⟨a,b⟩:=w1 hd;refine ⟨z,rfl,hz,b,fun v' hv=>?_,fun c=>by rw [a] at c;cases c⟩;rw [a] at hv
  cases hv
  have e:bY w [Str.ofString "a",aB cs]=z:=by
   rw [← ca z,ez];refine cG ?_;rw [ft,ec,PyProof.Rows.join_cons_cons,bO,ak,ak,aW,show (Str.ofString "a").cps.toList=[97] by decide +kernel,show (Str.ofString ", ").cps.toList=[44,32] by decide +kernel];simp
  refine ⟨w,[.str "a",v],_,[Str.ofString "a",aB cs],rfl,hf,rfl,rfl,fun i s d z h1 h2 h3=>?_,by rw [e];exact hz,fun H' g=>?_⟩
  ·match i,h1,h2,h3 with
   | 0,h1,h2,h3=>cases h1;cases h2;cases h3;exact .word _ _
   | 1,h1,h2,h3=>cases h1;cases h2;cases h3;exact ht hd
  ·have:=q H' g;rw [if_pos (decide_eq_true (by lia))] at this;rw [e];exact this
 ·obtain ⟨a,b⟩:=w2 hd;refine ⟨z,rfl,hz,b,(fun v' hv=>by rw [a] at hv;cases hv),fun _ H' g=>?_⟩;have:=q H' g
  rwa [if_neg (fun c=>hd (by have:=of_decide_eq_true c;lia))] at this
theorem NV.out {k:Nat} {cs:List Nat} {ts:List Tk} {v:Dt} (h:NV (k+1) cs ts v):ValD v∧(∀ z,v=.str z→z.length≤100000)∧ofT 60 v=false:=by
 cases h <;> exact ⟨.tup _ _,fun z hz=>(by cases hz),rfl⟩
theorem nh {K:PySem.W.Frag} {ad:Ads} {k:Nat} {z:Str} {ts:List Tk} {v:Dt} {H:Hp} {Q:VK} {E:XK} (h:NV (k+1) z.cps.toList ts v) (hz:z.length≤100000) (q:∀ H',Same H H'→Q (.str (if k+1≤40 then "value" else "refused")) H'):bD K ad [.str z] H Q E:=by
 obtain ⟨w1,w2⟩:=h.nst.whole;obtain ⟨o1,o2,o3⟩:=h.out
 by_cases hd:k+1≤40
 ·obtain ⟨a,b⟩:=w1 hd;refine ⟨z,rfl,hz,b,fun v' hv=>?_,fun c=>by rw [a] at c;cases c⟩;rw [a] at hv
  cases hv
  refine ⟨o1,o2,fun H' g=>?_⟩;have:=q H' g;rw [if_pos hd] at this;rw [o3];exact this
 ·obtain ⟨a,b⟩:=w2 hd;refine ⟨z,rfl,hz,b,(fun v' hv=>by rw [a] at hv;cases hv),fun _ H' g=>?_⟩;have:=q H' g
  rwa [if_neg hd] at this
theorem bP {r:Addr} {H H1 H2:Hp} (a:But r H H1) (b:Same H1 H2):But r H H2:=a.trans (But.same b)
theorem bK {r p:Addr} {H H1:Hp} {u:HO} (a:But r H H1) (hp:H1 p=none):But r H (upd H1 p u):=a.trans (But.same (ax hp u))
theorem dN {σ:L2.St} {H:Hp} {Q:List V→Hp→Prop} (h:Q [] H):pM σ H Q:=h
def lX (_:PySem.W.Frag) (_:Ads):Sp:=fun vs H Q _=>∃ (r:Addr) (n:Int),vs=[.ref r]∧H r=some (.lst [.int n])∧∀ H',But r H H'→Q (.bl true) H'
theorem nj:(Str.ofString "items(").cps.toList=[105,116,101,109,115,40]∧(Str.ofString "out()").cps.toList=[111,117,116,40,41]∧(Str.ofString ")").cps.toList=[41]∧(Str.ofString "turn(a, ").cps.toList=116 :: ([117,114,110]++40 :: [97,44,32])∧(Str.ofString "drop(a, ").cps.toList=100 :: ([114,111,112]++40 :: [97,44,32]):=by decide +kernel
theorem bG {z:Str} {cs:List Nat} (h:z.cps.toList=cs):z.length=cs.length:=by rw [← h,aq]
theorem iQ {c:List Nat}:∀ n:Nat,(List.replicate n c).flatten.length=n*c.length
 | 0=>by simp
 | n+1=>by rw [List.replicate_succ,List.flatten_cons,List.length_append,iQ n,Nat.succ_mul,Nat.add_comm]
theorem lY (n c:Nat):(List.replicate n [c]).flatten=List.replicate n c:=by
 induction n with
 | zero=>rfl
 | succ n ih=>rw [List.replicate_succ,List.flatten_cons,ih,List.replicate_succ];rfl
theorem lZ (T:Tx K mg ad) {f:Addr} {fd:FuncData} (F:Gn K mg "_law_deep" eQ ["row"] f fd):FnOk P w K mg base CX0 211 f fd ["row"] (lX K ad):=by
 obtain ⟨f1,d1,D9⟩:=T.law_digit;have Ec:=fk (P:=P) (w:=w) (base:=base) T D9;obtain ⟨f2,d2,Ej⟩:=T.law_turn_told;have EB:=cR (P:=P) (w:=w) (base:=base) T Ej;obtain ⟨f3,d3,Ek⟩:=T.law_due;have Eu:=iJ (P:=P) (w:=w) (base:=base) T Ek;obtain ⟨f4,d4,Ef⟩:=T.law_piece_told;have Et:=cz (P:=P) (w:=w) (base:=base) T Ef;obtain ⟨f5,d5,Ei⟩:=T.law_value_told;have Ew:=cA (P:=P) (w:=w) (base:=base) T Ei;refine F.F.ok aN (fun vs H Q E h=>?_) (fun cdv A outer s H vs Q E hr h=>?_)
 ·obtain ⟨r,n,rfl,_⟩:=h
  rfl
 obtain ⟨r,n,rfl,hR,q⟩:=h;refine ⟨_,(@pss_cons _ _ _ _ _ (@ps_set _ _ 1 _ _ _ _ aN.nd rfl (Or.inl rfl) (@ah _ _ _ _ _ _ _ _ aQ pe_int (pcl D9 Ec (hr.mono (by lia)) rfl (@pa2 _ _ _ _ _ (pv 0) pe_int (by rfl) (by rfl)))) (by rfl) (by first | exact .inl rfl | exact .inr rfl | assumption)) (@pss_cons _ _ _ _ _ (@ps_set _ _ 2 _ _ _ _ aN.nd rfl (Or.inl rfl) (@ah _ _ _ _ _ _ _ _ ai (@ah _ _ _ _ _ _ _ _ ai (@ah _ _ _ _ _ _ _ _ cW pe_str (@ah _ _ _ _ _ _ _ _ mm (pv 1) pe_int)) pe_str) (@ah _ _ _ _ _ _ _ _ cW pe_str (@ah _ _ _ _ _ _ _ _ mm (pv 1) pe_int))) (by rfl) (by first | exact .inl rfl | exact .inr rfl | assumption)) (@pss_cons _ _ _ _ _ (@ps_if _ _ _ _ _ _ _ _ (pt_cmpR op_ne (pcl Ej EB (hr.mono (by lia)) rfl (@pa1 _ _ _ (pv 2) (by rfl))) (pcl Ek Eu (hr.mono (by lia)) rfl (@pa2 _ _ _ _ _ (pv 2) (aR et (pv 1) pe_int (nomark _)) (by rfl) (by rfl))) (nomark _)) (@pss_one _ _ _ (@ps_ret _ _ _ _ pe_bl)) pss_nil) (@pss_cons _ _ _ _ _ (@ps_set _ _ 2 _ _ _ _ aN.nd rfl (Or.inl rfl) (@ah _ _ _ _ _ _ _ _ ai (@ah _ _ _ _ _ _ _ _ ai pe_str (pv 2)) pe_str) (by rfl) (by first | exact .inl rfl | exact .inr rfl | assumption)) (@pss_cons _ _ _ _ _ (@ps_if _ _ _ _ _ _ _ _ (pt_cmpR op_ne (pcl Ef Et (hr.mono (by lia)) rfl (@pa1 _ _ _ (pv 2) (by rfl))) (pcl Ek Eu (hr.mono (by lia)) rfl (@pa2 _ _ _ _ _ (pv 2) (aR et (pv 1) pe_int (nomark _)) (by rfl) (by rfl))) (nomark _)) (@pss_one _ _ _ (@ps_ret _ _ _ _ pe_bl)) pss_nil) (@pss_cons _ _ _ _ _ (@ps_set _ _ 3 _ _ _ _ aN.nd rfl (Or.inl rfl) (@pe_ix _ _ _ _ _ _ _ (bn (K:=K) rfl) (@bA _ _ _ _ (@pa3 _ _ _ _ _ _ _ pe_str pe_str pe_str (by rfl) (by rfl) (by rfl))) (pcl D9 Ec (hr.mono (by lia)) rfl (@pa2 _ _ _ _ _ (pv 0) pe_int (by rfl) (by rfl))) (fun _ _=>rfl)) (by rfl) (by first | exact .inl rfl | exact .inr rfl | assumption)) (@pss_cons _ _ _ _ _ (fH PassesOwn.never rfl (fG rfl T.z_range (@pa1 _ _ _ (pv 1) (by rfl))) (aE (i:=4) aN.nd rfl (Or.inl rfl))
    (@pss_cons _ _ _ _ _ (@ps_set _ _ 5 _ _ _ _ aN.nd rfl (Or.inl rfl) (pcl D9 Ec (hr.mono (by lia)) rfl (@pa2 _ _ _ _ _ (pv 0) pe_int (by rfl) (by rfl))) (by rfl) (by first | exact .inl rfl | exact .inr rfl | assumption)) (@pss_one _ _ _ (@ps_set _ _ 3 _ _ _ _ aN.nd rfl (Or.inl rfl) (@ah _ _ _ _ _ _ _ _ ai (@ah _ _ _ _ _ _ _ _ ai (@pe_ix _ _ _ _ _ _ _ (bn (K:=K) rfl) (@bA _ _ _ _ (@pa3 _ _ _ _ _ _ _ pe_str pe_str pe_str (by rfl) (by rfl) (by rfl))) (pv 5) (fun _ _=>rfl)) (pv 3)) (@pe_ix _ _ _ _ _ _ _ (bn (K:=K) rfl) (@bA _ _ _ _ (@pa3 _ _ _ _ _ _ _ pe_str pe_str pe_str (by rfl) (by rfl) (by rfl))) (pv 5) (fun _ _=>rfl))) (by rfl) (by first | exact .inl rfl | exact .inr rfl | assumption))))) (@pss_cons _ _ _ _ _ (@ps_if _ _ _ _ _ _ _ _ (pt_cmpR op_ne (pcl Ei Ew (hr.mono (by lia)) rfl (@pa1 _ _ _ (pv 3) (by rfl))) (@pe_ix _ _ _ _ _ _ _ (bn (K:=K) rfl) (@bA _ _ _ _ (@pa2 _ _ _ _ _ pe_str pe_str (by rfl) (by rfl))) (pe_callTy jp rfl T.z_int boot_int (@pa1 _ _ _ (aR et (pv 1) pe_int (nomark _)) (by rfl))) (fun _ _=>rfl)) (nomark _)) (@pss_one _ _ _ (@ps_ret _ _ _ _ pe_bl)) pss_nil) (@pss_cons _ _ _ _ _ (@ps_set _ _ 2 _ _ _ _ aN.nd rfl (Or.inl rfl) (@ah _ _ _ _ _ _ _ _ ai (@ah _ _ _ _ _ _ _ _ ai pe_str (pv 3)) pe_str) (by rfl) (by first | exact .inl rfl | exact .inr rfl | assumption)) (@pss_one _ _ _ (@ps_ret _ _ _ _ (aR op_eq (pcl Ef Et (hr.mono (by lia)) rfl (@pa1 _ _ _ (pv 2) (by rfl))) (pcl Ek Eu (hr.mono (by lia)) rfl (@pa2 _ _ _ _ _ (pv 2) (aR et (pv 1) pe_int (nomark _)) (by rfl) (by rfl))) (nomark _))))))))))))),?_⟩
 refine ⟨_,rfl,r,n,5,rfl,hR,by decide,by decide,_,_,rfl,rfl,?_⟩;obtain ⟨m0,m1⟩:=mod_lt n (m:=5) (by decide);obtain ⟨D,hD⟩:∃ D:Nat,38+n % 5=((D+1:Nat):Int):=⟨(37+n % 5).toNat,by lia⟩;have b1:But r H (upd H r (.lst [.int (n / 5)])):=But.put;have r1:(upd H r (.lst [.int (n / 5)])) r=some (.lst [.int (n / 5)]):=ac
 revert b1 r1
 generalize upd H r (.lst [.int (n / 5)])=H1
 intro b1 r1;have l1:(Str.ofString "items(").length=6∧(Str.ofString ")").length=1∧(Str.ofString "out()").length=5:=by decide +kernel
 refine ⟨_,rfl,_,_,rfl,rfl,_,_,rfl,rfl,by lia,by lia,by lia,by lia,fun z1 hz1=>?_⟩;have e1:((38+n % 5) - 1).toNat=D:=by lia
 rw [e1,nj.1] at hz1;have lz1:=bG hz1;rw [iQ] at lz1;refine ⟨_,_,rfl,rfl,aT (by simp at lz1;lia),_,rfl,_,_,rfl,rfl,_,_,rfl,rfl,by lia,by lia,by lia,by lia,fun z2 hz2=>?_⟩;rw [e1,nj.2.2.1,lY] at hz2;have lz2:=bG hz2;rw [List.length_replicate] at lz2;refine ⟨_,_,rfl,rfl,aT (by rw [Str.length_append];simp at lz1;lia),?_⟩;obtain ⟨ts1,v1,nt⟩:=NT.rep D;have ezt:(z1++Str.ofString "out()" ++z2).cps.toList=(List.replicate D [105,116,101,109,115,40]).flatten++([111,117,116,40,41]++List.replicate D 41):=by
  rw [ak,ak,hz1,hz2,nj.2.1,List.append_assoc]
 rw [← ezt] at nt;have lzt:(z1++Str.ofString "out()" ++z2).length≤1000:=by
  rw [Str.length_append,Str.length_append];simp at lz1;lia
 revert nt lzt
 generalize z1++Str.ofString "out()" ++z2=zt
 intro nt lzt;rw [hD];refine ⟨_,rfl,?_⟩;refine dN (pq nt (by lia) fun H2 g2=>?_);refine ⟨_,rfl,_,rfl,_,_,rfl,rfl,_,_,rfl,?_⟩;refine ⟨rfl,_,rfl,gn ?_⟩;have b2:But r H H2:=bP b1 g2;have r2:=g2 _ _ r1;have l2:(Str.ofString "turn(a, ").length=8∧(Str.ofString "drop(a, ").length=8:=by decide +kernel
 refine ⟨_,rfl,_,_,rfl,rfl,aT (by lia),_,_,rfl,rfl,aT (by rw [Str.length_append];lia),?_⟩;have ep:∀ (wc:List Nat) (c:Nat) (w:Str) (x:Str),w.cps.toList=c :: (wc++40 :: [97,44,32])→(w++x++Str.ofString ")").cps.toList=c :: (wc++40 :: (97 :: 44 :: 32 :: (x.cps.toList++[41]))):=fun wc c w x h=>by
  rw [ak,ak,h,nj.2.2.1];simp
 have hD2:D≤41∧37≤D:=by lia
 refine ⟨_,rfl,?_⟩;refine dN (iP (w:= "turn") nt.nst (by decide +kernel) xD (by decide +kernel) (fun hk=>nt.text 40 (by lia)) (by decide +kernel) (ep _ _ _ zt nj.2.2.2.1) (by rw [Str.length_append,Str.length_append];lia) fun H3 g3=>?_);refine ⟨_,rfl,_,rfl,_,_,rfl,rfl,_,_,rfl,rfl,_,rfl,gn ?_⟩;have b3:But r H H3:=bP b2 g3;have r3:=g3 _ _ r2;refine ⟨sz3,fun p hp=>?_⟩;have np:p≠r:=fun c=>by rw [c,r3] at hp;cases hp
 refine ⟨_,rfl,r,n / 5,2,rfl,by rw [af (Ne.symm np)];exact r3,by decide,by decide,?_⟩;obtain ⟨cs0,ts0,v0,nv0,lc0,ev0⟩:∃ cs ts v,NV 0 cs ts v∧cs.length≤3∧atI [V.str (Str.ofString "5"),V.str (Str.ofString "\"a\""),V.str (Str.ofString "[]")] (n / 5 % 2)=some (.str (aB cs)):=by
  obtain ⟨c0,c1⟩:=mod_lt (n / 5) (m:=2) (by decide);rcases (show n / 5 % 2=0∨n / 5 % 2=1 by lia) with e | e <;> rw [e]
  ·exact ⟨_,_,_,.five,by decide,by decide +kernel⟩
  ·exact ⟨_,_,_,.a,by decide,by decide +kernel⟩
 refine ⟨p,_,_,_,rfl,rfl,SqL.of (by rw [af np,ac]),ev0,?_⟩;have b4:But r H (upd (upd H3 p (.lst [V.str (Str.ofString "5"),V.str (Str.ofString "\"a\""),V.str (Str.ofString "[]")])) r (.lst [.int (n / 5 / 2)])):=(bK b3 hp).trans But.put;have r4:(upd (upd H3 p (.lst [V.str (Str.ofString "5"),V.str (Str.ofString "\"a\""),V.str (Str.ofString "[]")])) r (.lst [.int (n / 5 / 2)])) r=some (.lst [.int (n / 5 / 2)]):=ac
 revert b4 r4
 generalize upd (upd H3 p (.lst [V.str (Str.ofString "5"),V.str (Str.ofString "\"a\""),V.str (Str.ofString "[]")])) r (.lst [.int (n / 5 / 2)])=H4
 intro b4 r4;refine ⟨_,rfl,_,rfl,?_,?_,fI (lo:=0) (n:=((D+1:Nat):Int).toNat) (fun i σ H'=>∃ (m:Int) (cs:List Nat) (ts:List Tk) (v:Dt) (v4 v5:Option V),But r H H'∧H' r=some (.lst [.int m])∧NV i cs ts v∧cs.length≤3+5*i∧σ=[some (.ref r),some (.int ((D+1:Nat):Int)),some (.str (Str.ofString "turn(a, " ++zt++Str.ofString ")")),some (.str (aB cs)),v4,v5]) ⟨_,cs0,ts0,v0,_,_,b4,r4,nv0,lc0,rfl⟩ ?_ ?_⟩
 ·lia
 ·lia
 ·rintro i σ H5 hi ⟨m,cs,ts,v,v4,v5,b5,r5,nv,lc,rfl⟩;refine ⟨_,rfl,r,m,3,rfl,r5,by decide,by decide,?_⟩;obtain ⟨o,c,cs',ts',v',e1,e2,nv',ez,lo,lc'⟩:∃ (o c:Str) (cs':List Nat) (ts':List Tk) (v':Dt),atI [V.str (Str.ofString "["),V.str (Str.ofString "{a: "),V.str (Str.ofString "(")] (m % 3)=some (.str o)∧atI [V.str (Str.ofString "]"),V.str (Str.ofString "}"),V.str (Str.ofString ")")] (m % 3)=some (.str c)∧NV (i+1) cs' ts' v'∧o++aB cs++c=aB cs'∧(o.length≤4∧c.length≤1)∧cs'.length≤cs.length+5:=by
   obtain ⟨c0,c1⟩:=mod_lt m (m:=3) (by decide);rcases (show m % 3=0∨m % 3=1∨m % 3=2 by lia) with e | e | e <;> rw [e]
   ·exact ⟨_,_,_,_,_,rfl,rfl,.sq nv,cG (by rw [ak,ak,aW];simp [mk1]),by decide +kernel,by simp⟩
   ·exact ⟨_,_,_,_,_,rfl,rfl,.cu nv,cG (by rw [ak,ak,aW,show (Str.ofString "{a: ").cps.toList=[123,97,58,32] by decide +kernel];simp [mk1]),by decide +kernel,by simp⟩
   ·exact ⟨_,_,_,_,_,rfl,rfl,.pa nv,cG (by rw [ak,ak,aW];simp [mk1]),by decide +kernel,by simp⟩
  have b6:But r H (upd H5 r (.lst [.int (m / 3)])):=b5.trans But.put;have r6:(upd H5 r (.lst [.int (m / 3)])) r=some (.lst [.int (m / 3)]):=ac
  revert b6 r6
  generalize upd H5 r (.lst [.int (m / 3)])=H6
  intro b6 r6;have ls:(aB cs).length=cs.length:=bG (aW cs);refine ⟨sz3,fun p1 hp1=>⟨_,rfl,p1,_,_,_,rfl,rfl,SqL.of ac,e1,_,rfl,_,_,rfl,rfl,aT (by lia),sz3,fun p2 hp2=>⟨_,rfl,p2,_,_,_,rfl,rfl,SqL.of ac,e2,_,_,rfl,rfl,aT (by rw [Str.length_append];lia),?_⟩⟩⟩;have n1:r≠p1:=fun c=>by rw [← c,r6] at hp1;cases hp1
  have n2:r≠p2:=fun c=>by rw [← c,af n1,r6] at hp2;cases hp2
  rw [ez];exact ⟨_,cs',ts',v',_,_,bK (bK b6 hp1) hp2,by rw [af n2,af n1];exact r6,nv',by lia,rfl⟩
 ·rintro σ H5 ⟨m,cs,ts,v,v4,v5,b5,r5,nv,lc,rfl⟩;rw [Int.toNat_natCast] at nv lc;have ls:(aB cs).length=cs.length:=bG (aW cs);refine ⟨_,rfl,?_⟩;refine dN (nh (z:=aB cs) nv (by lia) fun H6 g6=>?_);have ev:atI [V.str (Str.ofString "refused"),V.str (Str.ofString "value")] (if decide (((D+1:Nat):Int)≤40)=true then 1 else 0)=some (.str (if D+1≤40 then Str.ofString "value" else Str.ofString "refused")):=by
   by_cases hk:D+1≤40
   ·rw [if_pos (decide_eq_true (by lia)),if_pos hk]
    rfl
   ·rw [if_neg (fun c=>hk (by have:=of_decide_eq_true c;lia)),if_neg hk]
    rfl
  refine ⟨sz2,fun p1 hp1=>⟨_,rfl,_,_,rfl,rfl,.inr ⟨_,rfl,p1,_,_,_,rfl,rfl,SqL.of ac,ev,rfl,_,rfl,gn ?_⟩⟩⟩;refine ⟨_,rfl,_,_,rfl,rfl,aT (by lia),_,_,rfl,rfl,aT (by rw [Str.length_append];lia),?_⟩;refine ⟨_,rfl,?_⟩;refine dN (iP (w:= "drop") nv.nst (by decide +kernel) xE (by decide +kernel) (fun hk=>.val _ _ _ _ (.inl rfl) (nv.text 41 (by lia))) (by decide +kernel) (ep _ _ _ (aB cs) nj.2.2.2.2) (by rw [Str.length_append,Str.length_append];lia) fun H7 g7=>?_);refine ⟨_,rfl,_,rfl,_,_,rfl,rfl,_,_,rfl,rfl,?_⟩;have:=q H7 (bP (bK (bP b5 g6) hp1) g7);rw [decide_eq_true rfl];exact this
theorem nX:∀ (cs:List Nat) (a:Nat),NumText.AllDigits cs→cs.foldl (fun acc c=>acc*10+(c - 48)) a < (a+1)*10 ^ cs.length
 | [],a,_=>by simp
 | c :: cs,a,h=>by
  have h1:=nX cs (a*10+(c - 48)) fun d hd=>h d (List.mem_cons_of_mem _ hd);have hc:=h c List.mem_cons_self;rw [List.foldl_cons,List.length_cons,Nat.pow_succ];refine Nat.lt_of_lt_of_le h1 ?_;rw [Nat.mul_comm (10 ^ cs.length) 10,← Nat.mul_assoc];exact Nat.mul_le_mul_right _ (by lia)
theorem sr {c:Nat} {r:List Nat} (h:NumText.AllDigits (c :: r)) (hc:49≤c):dg (NumText.digitsVal (c :: r))=c :: r:=by
 unfold dg;rw [NumText.toDigits_digitsVal r.length (c :: r) rfl h (.inr ⟨c,r,rfl,hc⟩),List.map_map];have key:∀ l:List Nat,NumText.AllDigits l→l.map (Char.toNat ∘ Char.ofNat)=l:=by
  intro l
  induction l with
  | nil=>intro _;rfl
  | cons d l ih =>
   intro hl;have hd:=hl d List.mem_cons_self;rw [List.map_cons,ih fun x hx=>hl x (List.mem_cons_of_mem _ hx)]
   congr 1
   have:d∈[48,49,50,51,52,53,54,55,56,57]:=by simp;lia
   clear hd hl ih
   revert d
   decide +kernel
 exact key _ h
theorem su {F sg:List Nat} {r:List Nat} (hF:F=57 :: r) (hd:NumText.AllDigits F) (h1:10 < F.length) (hs:sg=[]∨sg=[45]) :
  (F.length≤60→∃ n:Int,mkW (sg++F)=some (mk2 "number" (.int n))∧(fW n).cps.toList=sg++F∧n.natAbs < 10 ^ 70)∧(¬ F.length≤60→mkW (sg++F)=none):=by
 have h57:∀ c r',sg++F=c :: r'→¬ c=34∧¬ aD bz c=true:=by
  intro c r' e;rcases hs with rfl | rfl
  ·rw [hF] at e;injection e with e
   subst e
   decide +kernel
  ·injection e with e
   subst e
   decide +kernel
 have m0:mkW (sg++F)=(if ((sg++F).dropWhile (· == 45)).length≤60 then (cj (sg++F)).map fun n=>mk2 "number" (.int n) else none):=by
  unfold mkW;rw [if_neg (nU (by rw [List.length_append];lia)),if_neg,if_neg]
  ·rintro ⟨⟨c,hc,hl⟩,_⟩;obtain ⟨r',e⟩:=List.head?_eq_some_iff.mp hc;exact (h57 c r' e).2 hl
  ·rintro ⟨hc,_⟩;obtain ⟨r',e⟩:=List.head?_eq_some_iff.mp hc;exact (h57 _ r' e).1 rfl
 have dw:(sg++F).dropWhile (· == 45)=F:=by
  rcases hs with rfl | rfl
  ·rw [hF];rfl
  ·rw [hF];rfl
 rw [dw] at m0;refine ⟨fun hl=>?_,fun hl=>by rw [m0,if_neg hl]⟩;rw [if_pos hl] at m0;have fo:aC (sg++F)=F:=by
  rcases hs with rfl | rfl
  ·rw [hF];rfl
  ·rw [hF];rfl
 have all:F.all eA=true:=List.all_eq_true.mpr fun c hc=>decide_eq_true (hd c hc);have du:cj (sg++F)=some (if (sg++F).head?=some 45 then -(NumText.digitsVal F:Int) else (NumText.digitsVal F:Int)):=by
  unfold cj;rw [fo,if_neg (by rw [hF];simp),if_neg (by rw [all];decide),if_neg (by rw [hF];simp)]
 have bd:dg (NumText.digitsVal F)=F:=by rw [hF] at hd ⊢;exact sr hd (by decide)
 have lt:NumText.digitsVal F < 10 ^ 70:=by
  have:=nX F 0 hd;refine Nat.lt_of_lt_of_le this ?_;rw [Nat.zero_add,Nat.one_mul];exact Nat.pow_le_pow_right (by decide) (by lia)
 have pos:0 < NumText.digitsVal F:=by rw [hF];exact NumText.digitsVal_pos (by decide)
 rw [du] at m0;refine ⟨_,m0,?_,?_⟩
 ·rw [lN];rcases hs with rfl | rfl
  ·rw [if_neg (by rw [hF];simp)];unfold mK;rw [if_neg (by lia),Int.natAbs_natCast,bd]
   rfl
  ·have h45:([45]++F).head?=some 45:=rfl;rw [if_pos h45];unfold mK;rw [if_pos (by lia),Int.natAbs_neg,Int.natAbs_natCast,bd]
   rfl
 ·split <;> lia
theorem sv {F:List Nat} (hd:NumText.AllDigits F):F.all (aD figS)=true:=by
 have e:figS.cps.toList=[48,49,50,51,52,53,54,55,56,57]:=by decide +kernel
 refine List.all_eq_true.mpr fun c hc=>?_;unfold aD;rw [e];have:=hd c hc;exact decide_eq_true (by simp;lia)
theorem qQ:(mkW [115,99,97,108,101]).map toTk=some (wordT "scale"):=by kernel_rfl
theorem qR (T:List Tk) (n p:Nat):prs T (n+3) "turn" p=gq T (prs T n) p:=by
 simp only [prs];rw [if_neg (by decide +kernel),if_neg (by decide +kernel),if_pos trivial]
theorem sw (T:List Tk) (n p:Nat):prs T (n+3) "number" p=bi T "number" p:=by
 simp only [prs];rw [if_neg (by decide +kernel),if_neg (by decide +kernel),if_neg (by decide +kernel),if_neg (by decide +kernel),if_neg (by decide +kernel),if_neg (by decide +kernel),show ci "number" iy=none by decide +kernel]
theorem qS {F sg:List Nat} {r:List Nat} (hF:F=57 :: r) (hd:NumText.AllDigits F) (h1:10 < F.length) (hs:sg=[]∨sg=[45]) :
  (F.length≤60→∃ n:Int,(aH 203 "turn" (115 :: ([99,97,108,101]++40 :: ((sg++F)++[41])))=some (.tup [.str "scale",.int n])∧c8 203 "turn" (115 :: ([99,97,108,101]++40 :: ((sg++F)++[41]))))∧(fW n).cps.toList=sg++F∧n.natAbs < 10 ^ 70) ∧
  (¬ F.length≤60→aH 203 "turn" (115 :: ([99,97,108,101]++40 :: ((sg++F)++[41])))=none∧c8 203 "turn" (115 :: ([99,97,108,101]++40 :: ((sg++F)++[41])))):=by
 obtain ⟨t1,t2⟩:=su hF hd h1 hs;obtain ⟨c,w,ew,hc,hw⟩:∃ c w,sg++F=c :: w∧(c=45∨aD figS c=true)∧w.all (aD figS)=true:=by
  have al:=sv hd;rcases hs with rfl | rfl
  ·rw [hF,List.all_cons,Bool.and_eq_true] at al;exact ⟨57,r,by rw [hF];rfl,.inr al.1,al.2⟩
  ·exact ⟨45,F,rfl,.inl rfl,al⟩
 rw [ew] at t1 t2 ⊢;have c32:¬ c=32:=by
  rcases hc with rfl | hc
  ·decide
  ·exact (m9 hc).2.1
 have we:=lW (r:=[41]) hc hw (ni (by decide +kernel));refine ⟨fun hl=>?_,fun hl=>ng ?_⟩
 ·obtain ⟨n,hm,hn,hb⟩:=t1 hl;refine ⟨n,?_,hn,hb⟩;have lx:aw (115 :: ([99,97,108,101]++40 :: ((c :: w)++[41])))=some [wordT "scale",ae "(",pp n,ae ")"]:=by
   rw [em _ (by decide +kernel) qQ,List.cons_append,dJ c32 we hm,aF _ (by decide),fm];simp [mk1,toTk,mk2]
  refine ej (q:=4) lx ?_ ?_ rfl
  ·rw [List.foldl_cons,aJ (az _ _) (az _ _) (by simp),List.foldl_cons,cB aG.1.2.2 aG.2.2.2,List.foldl_cons,aJ (gR _ _) (gR _ _) (by simp <;> lia),List.foldl_cons,bN aA.1.2.2 aA.2.2.2 (by simp <;> lia)];simp <;> lia
  ·generalize hT:[wordT "scale",ae "(",pp n,ae ")"]=T
   have h0:T.drop 0=[wordT "scale",ae "(",pp n,ae ")"]:=by rw [hT];rfl
   obtain ⟨a,b,_⟩:=aj h0;obtain ⟨a1,b1,_⟩:=aj b;obtain ⟨a2,b2,_⟩:=aj b1;obtain ⟨a3,b3,_⟩:=aj b2;rw [show prs T 203 "turn" 0=gq T (prs T 200) 0 from qR T 200 0];unfold gq bC;rw [a];dsimp only;rw [if_pos rfl,if_neg (by decide +kernel)];unfold dv;rw [show aI "turn" "scale" = some [("number" : Str)] by decide +kernel];dsimp only;rw [au a1];simp only [dI];rw [if_neg (by simp),show prs T 200 "number" (0+1+1)=bi T "number" (0+1+1) from sw T 197 _];unfold bi;rw [a2];dsimp only;rw [if_pos rfl];simp only [PR.bind];rw [au a3]
   rfl
 ·rw [em _ (by decide +kernel) qQ,List.cons_append,ph c32 we (t2 hl)]
  rfl
theorem nk {K:PySem.W.Frag} {ad:Ads} {z:Str} {F sg:List Nat} {r:List Nat} {H:Hp} {Q:VK} {E:XK} (hF:F=57 :: r) (hd:NumText.AllDigits F) (h1:10 < F.length) (hs:sg=[]∨sg=[45]) (ez:z.cps.toList=115 :: ([99,97,108,101]++40 :: ((sg++F)++[41]))) (hz:z.length≤100000)
  (q:∀ H',Same H H'→Q (.str (if decide ((F.length:Int)≤60)=true then z else "refused")) H'):bE K ad [.str z] H Q E:=by
 obtain ⟨w1,w2⟩:=qS hF hd h1 hs;rw [← ez] at w1 w2
 by_cases hl:F.length≤60
 ·obtain ⟨n,⟨a,b⟩,hn,hb⟩:=w1 hl;refine ⟨z,rfl,hz,b,fun v' hv=>?_,fun c=>by rw [a] at c;cases c⟩;rw [a] at hv
  cases hv
  have e:bY "scale" [fW n]=z:=by
   rw [← ca z,ez];refine cG ?_;rw [ft,bO,hn,show (Str.ofString "scale").cps.toList=[115,99,97,108,101] by decide +kernel]
   rfl
  refine ⟨z,?_,hz,fun H' g=>?_⟩
  ·have t:=PT.turn 40 "scale" [.int n] [("number" : Str)] [fW n] (by decide +kernel) (by decide +kernel) rfl rfl (fun i s d z h1 h2 h3=>by
    match i,h1,h2,h3 with
    | 0,h1,h2,h3=>cases h1;cases h2;cases h3;exact .val _ _ _ _ (.inr (.inl rfl)) (.int _ _ hb))
   rw [e] at t;exact t
  ·have:=q H' g
   rwa [if_pos (decide_eq_true (by lia))] at this
 ·obtain ⟨a,b⟩:=w2 hl;refine ⟨z,rfl,hz,b,(fun v' hv=>by rw [a] at hv;cases hv),fun _ H' g=>?_⟩;have:=q H' g
  rwa [if_neg (fun c=>hl (by have:=of_decide_eq_true c;lia))] at this
def wS:Nat→Str
 | 0=> "cdefghi"
 | 1=> "bcdefghi"
 | _=> "abcdefghi"
theorem iR:(aw (Str.ofString "name(" ++wS 0++Str.ofString ", b)").cps.toList=some [wordT "name",ae "(",wordT (wS 0),ae ",",wordT "b",ae ")"])∧(aw (Str.ofString "name(" ++wS 1++Str.ofString ", b)").cps.toList=some [wordT "name",ae "(",wordT (wS 1),ae ",",wordT "b",ae ")"])∧(aw (Str.ofString "name(" ++wS 2++Str.ofString ", b)").cps.toList=none):=⟨by kernel_rfl,by kernel_rfl,by kernel_rfl⟩
theorem sx (s:Str) {cs:List Nat} (h:aw cs=some [wordT "name",ae "(",wordT s,ae ",",wordT "b",ae ")"]):aH 203 "piece" cs=some (.tup [.str "name",.str s,.str "b"])∧c8 203 "piece" cs:=by
 refine ej (q:=6) h ?_ ?_ rfl
 ·rw [List.foldl_cons,aJ (az _ _) (az _ _) (by simp),List.foldl_cons,cB aG.1.2.2 aG.2.2.2,List.foldl_cons,aJ (az _ _) (az _ _) (by simp <;> lia),List.foldl_cons,aJ bM.1.2.1 bM.2.2.1 (by simp <;> lia),List.foldl_cons,aJ (az _ _) (az _ _) (by simp <;> lia),List.foldl_cons,bN aA.1.2.2 aA.2.2.2 (by simp <;> lia)];simp <;> lia
 ·generalize hT:[wordT "name",ae "(",wordT s,ae ",",wordT "b",ae ")"]=T
  have h0:T.drop 0=[wordT "name",ae "(",wordT s,ae ",",wordT "b",ae ")"]:=by rw [hT];rfl
  obtain ⟨a,b,_⟩:=aj h0;obtain ⟨a1,b1,_⟩:=aj b;obtain ⟨a2,b2,_⟩:=aj b1;obtain ⟨a3,b3,_⟩:=aj b2;obtain ⟨a4,b4,_⟩:=aj b3;obtain ⟨a5,b5,_⟩:=aj b4;rw [show prs T 203 "piece" 0=bC T 0 fun w q=>dv T (prs T 200) "piece" w q from jK T 200 0];unfold bC;rw [a];dsimp only;rw [if_pos rfl];unfold dv;rw [show aI "piece" "name" = some [("word" : Str),"word"] by decide +kernel];dsimp only;rw [au a1];simp only [dI];rw [if_neg (by simp),show prs T 200 "word" (0+1+1)=bi T "word" (0+1+1) from iO T 197 _];unfold bi;rw [a2];dsimp only;rw [if_pos rfl];simp only [PR.bind];rw [if_pos (by simp),au a3,show prs T 200 "word" (0+1+1+1+1)=bi T "word" (0+1+1+1+1) from iO T 197 _];unfold bi;rw [a4];dsimp only;rw [if_pos rfl];simp only;rw [au a5]
  rfl
theorem pw {K:PySem.W.Frag} {ad:Ads} {i:Nat} {H:Hp} {Q:VK} {E:XK} (hi:i < 3) (q:∀ H',Same H H'→Q (.str (if decide ((7+i:Int)≤8)=true then Str.ofString "name(" ++wS i++Str.ofString ", b)" else "refused")) H'):aZ K ad [.str (Str.ofString "name(" ++wS i++Str.ofString ", b)")] H Q E:=by
 have good:∀ {i:Nat},i < 2→aw (Str.ofString "name(" ++wS i++Str.ofString ", b)").cps.toList=some [wordT "name",ae "(",wordT (wS i),ae ",",wordT "b",ae ")"]→(∀ H',Same H H'→Q (.str (Str.ofString "name(" ++wS i++Str.ofString ", b)")) H')→(Str.ofString "name(" ++wS i++Str.ofString ", b)").length≤1000→aZ K ad [.str (Str.ofString "name(" ++wS i++Str.ofString ", b)")] H Q E:=by
  intro i _ hl q hz;obtain ⟨a,b⟩:=sx _ hl;refine ⟨_,rfl,by lia,b,fun v' hv=>?_,fun c=>by rw [a] at c;cases c⟩;rw [a] at hv
  cases hv
  have e:bY "name" [wS i,Str.ofString "b"]=Str.ofString "name(" ++wS i++Str.ofString ", b)" :=by
   rw [← ca (Str.ofString "name(" ++wS i++Str.ofString ", b)")];refine cG ?_;rw [ft,PyProof.Rows.join_cons_cons,bO,ak,ak,ak,ak,show (Str.ofString "b").cps.toList=[98] by decide +kernel,show (Str.ofString ", ").cps.toList=[44,32] by decide +kernel,show (Str.ofString "name").cps.toList=[110,97,109,101] by decide +kernel,show (Str.ofString "name(").cps.toList=[110,97,109,101,40] by decide +kernel,show (Str.ofString ", b)").cps.toList=[44,32,98,41] by decide +kernel];simp
  refine ⟨"name",[.str (wS i),.str "b"],[("word" : Str),"word"],[wS i,Str.ofString "b"],rfl,by decide +kernel,rfl,rfl,fun j s d z h1 h2 h3=>?_,by rw [e];lia,fun H' g=>by rw [e];exact q H' g⟩
  match j,h1,h2,h3 with
  | 0,h1,h2,h3=>cases h1;cases h2;cases h3;exact .word _ _
  | 1,h1,h2,h3=>cases h1;cases h2;cases h3;exact .word _ _
 match i,hi with
 | 0,_=>exact good (by decide) iR.1 (fun H' g=>by have:=q H' g;rwa [if_pos (by decide)] at this) (by decide +kernel)
 | 1,_=>exact good (by decide) iR.2.1 (fun H' g=>by have:=q H' g;rwa [if_pos (by decide)] at this) (by decide +kernel)
 | 2,_ =>
  obtain ⟨a,b⟩:=ng (s:= "piece") iR.2.2;refine ⟨_,rfl,Nat.le_trans (show _≤1000 by decide +kernel) (by decide),b,(fun v' hv=>by rw [a] at hv;cases hv),fun _ H' g=>?_⟩;have:=q H' g
  rwa [if_neg (by decide)] at this
def slC (ns:List Str):List Nat:=(ns.map fun n=>47 :: n.cps.toList).flatten
def slT (ns:List Str):List Tk:=(ns.map fun n=>[ae "/",wordT n]).flatten
theorem l3:∀ (n:Str) (ns:List Str),(Str.ofString "/" ++Str.join (Str.ofString "/") (n :: ns)).cps.toList=slC (n :: ns)
 | n,[]=>by
  rw [ak,bO];simp [slC,mk1]
 | n,m :: ns=>by
  have ih:=l3 m ns;rw [ak] at ih;rw [ak,PyProof.Rows.join_cons_cons,ak,ak,List.append_assoc,ih];simp [slC,mk1]
theorem qT:∀ (N:Nat) (r:List Nat),gv bz r→aw (slC (List.replicate N "a")++r)=(aw r).map (slT (List.replicate N "a")++·)
 | 0,r,_=>by
  show aw r=(aw r).map ([]++·)
  cases aw r <;> rfl
 | N+1,r,hr=>by
  have hr':gv bz (slC (List.replicate N "a")++r):=by
   cases N with
   | zero=>exact hr
   | succ N=>exact ni (by decide +kernel)
  have e:slC (List.replicate (N+1) "a")++r=47 :: 97 :: (slC (List.replicate N "a")++r):=by
   rw [List.replicate_succ];simp [slC,show (Str.ofString "a").cps.toList=[97] by decide +kernel]
  rw [e,aF _ (by decide),nc hr',qT N r hr,List.replicate_succ]
  cases aw r with
  | none=>rfl
  | some l=>simp [slT,mk1]
theorem nY:∀ ns:List Str,(slT ns).foldl stT (0,0)=(0,0)
 | []=>rfl
 | n :: ns=>by
  show (ae "/" :: wordT n :: slT ns).foldl stT (0,0)=_;rw [List.foldl_cons,aJ bM.1.2.2 bM.2.2.2 (by simp),List.foldl_cons,aJ (az _ _) (az _ _) (by simp)];exact nY ns
theorem jL {T:List Tk}:∀ (ns:List Str) (m p:Nat) (fs:List Dt),ns.length < m→T.drop p=slT ns→gr T m p fs=.ok (.tup (fs++ns.map Dt.str)) (p+2*ns.length)
 | [],m,p,fs,hm,hT=>by
  obtain ⟨m,rfl⟩:∃ k,m=k+1:=⟨m - 1,by simp at hm;lia⟩;simp only [gr];rw [kH hT,if_neg (by decide +kernel)];simp
 | n :: ns,m,p,fs,hm,hT=>by
  rw [List.length_cons] at hm;obtain ⟨m,rfl⟩:∃ k,m=k+1:=⟨m - 1,by lia⟩;have hT':T.drop p=ae "/" :: wordT n :: slT ns:=hT;obtain ⟨a,b,_⟩:=aj hT';obtain ⟨a1,b1,_⟩:=aj b;simp only [gr];rw [a,if_pos rfl];unfold bC;rw [a1];dsimp only;rw [if_pos rfl,jL ns m _ _ (by lia) b1,List.append_assoc,List.length_cons]
  congr 1
  lia
theorem qU (T:List Tk) (n p:Nat):prs T (n+3) "path" p=jG T p:=by
 simp only [prs];rw [if_neg (by decide +kernel),if_neg (by decide +kernel),if_neg (by decide +kernel),if_neg (by decide +kernel),if_pos trivial]
theorem sy {cs:List Nat} (n:Str) (ns:List Str) (h:aw cs=some (slT (n :: ns))):aH 203 "path" cs=some (.tup ((n :: ns).map Dt.str))∧c8 203 "path" cs:=by
 have ll:∀ ns:List Str,(slT ns).length=2*ns.length:=by
  intro ns
  induction ns with
  | nil=>rfl
  | cons n ns ih =>
   show (slT ns).length+1+1=_;rw [ih,List.length_cons];lia
 have le:=ll (n :: ns);refine ej (q:=2+2*ns.length) h (by rw [nY];simp) ?_ ?_
 ·revert le
  generalize hT:slT (n :: ns)=T
  intro le;have h0:T.drop 0=ae "/" :: wordT n :: slT ns:=by rw [← hT];rfl
  obtain ⟨a,b,_⟩:=aj h0;obtain ⟨a1,b1,_⟩:=aj b;have a2:¬ ag T (0+1+1)=ae "(" :=by
   cases ns with
   | nil=>rw [kH b1];decide +kernel
   | cons m ns=>rw [(aj (show T.drop (0+1+1)=ae "/" :: wordT m :: slT ns from b1)).1];decide +kernel
  rw [show prs T 203 "path" 0=jG T 0 from qU T 200 0];unfold jG;rw [au a,if_neg (by
   rintro (c | c)
   ·rw [a1] at c;exact c rfl
   ·exact a2 c)]
  unfold bC;rw [a1];dsimp only;rw [if_pos rfl,jL ns _ _ _ (by rw [le,List.length_cons];lia) b1]
  rfl
 ·unfold ag;rw [List.getElem?_eq_none (by rw [le,List.length_cons];lia)]
  rfl
theorem iS:(aw (47 :: (wS 0).cps.toList)=some [ae "/",wordT (wS 0)])∧(aw (47 :: (wS 1).cps.toList)=some [ae "/",wordT (wS 1)])∧(aw (47 :: (wS 2).cps.toList)=none):=⟨by kernel_rfl,by kernel_rfl,by kernel_rfl⟩
theorem qV (a b:List Str):slC (a++b)=slC a++slC b∧slT (a++b)=slT a++slT b:=by
 unfold slC slT;rw [List.map_append,List.flatten_append,List.map_append,List.flatten_append];exact ⟨rfl,rfl⟩
theorem kI (N:Nat) (w:Str):List.replicate (N+1) (Str.ofString "a")++[w]=Str.ofString "a" :: (List.replicate N (Str.ofString "a")++[w]):=by rw [List.replicate_succ];rfl
theorem nZ (N:Nat) (w:Str):(Str.ofString "/" ++Str.join (Str.ofString "/") (List.replicate (N+1) (Str.ofString "a")++[w])).cps.toList=slC (List.replicate (N+1) (Str.ofString "a"))++47 :: w.cps.toList:=by
 rw [kI,l3,← kI,(qV _ _).1];simp [slC]
theorem n6 {N:Nat} (hN:N≤100) (w:Str) (hw:w.length≤9):(Str.ofString "/" ++Str.join (Str.ofString "/") (List.replicate (N+1) (Str.ofString "a")++[w])).length≤1000:=by
 rw [bG (nZ N w),List.length_append,List.length_cons,aq];have:∀ N:Nat,(slC (List.replicate N (Str.ofString "a"))).length=2*N:=by
  intro N
  induction N with
  | zero=>rfl
  | succ N ih =>
   rw [List.replicate_succ];show (47 :: (Str.ofString "a").cps.toList++slC (List.replicate N (Str.ofString "a"))).length=_;rw [List.length_append,ih,show (Str.ofString "a").cps.toList=[97] by decide +kernel];simp;lia
 rw [this];lia
theorem px {K:PySem.W.Frag} {ad:Ads} {i N:Nat} {H:Hp} {Q:VK} {E:XK} (hi:i < 3) (hN:N≤100) (q:∀ H',Same H H'→Q (.str (if decide ((7+i:Int)≤8)=true then Str.ofString "/" ++Str.join (Str.ofString "/") (List.replicate (N+1) (Str.ofString "a")++[wS i]) else "refused")) H'):bF K ad [.str (Str.ofString "/" ++Str.join (Str.ofString "/") (List.replicate (N+1) (Str.ofString "a")++[wS i]))] H Q E:=by
 have ns:=kI N;have ec:=nZ N;have ll:=n6 hN;have lx:∀ w:Str,aw (Str.ofString "/" ++Str.join (Str.ofString "/") (List.replicate (N+1) (Str.ofString "a")++[w])).cps.toList=(aw (47 :: w.cps.toList)).map (slT (List.replicate (N+1) (Str.ofString "a"))++·):=fun w=>by
  rw [ec,qT _ _ (ni (by decide +kernel))]
 have good:∀ {w:Str},w.length≤9→aw (47 :: w.cps.toList)=some [ae "/",wordT w]→(∀ H',Same H H'→Q (.str (Str.ofString "/" ++Str.join (Str.ofString "/") (List.replicate (N+1) (Str.ofString "a")++[w]))) H')→bF K ad [.str (Str.ofString "/" ++Str.join (Str.ofString "/") (List.replicate (N+1) (Str.ofString "a")++[w]))] H Q E:=by
  intro w hw hl q;have l1:=ll w hw;have hx:aw (Str.ofString "/" ++Str.join (Str.ofString "/") (List.replicate (N+1) (Str.ofString "a")++[w])).cps.toList=some (slT (Str.ofString "a" :: (List.replicate N (Str.ofString "a")++[w]))):=by
   rw [lx,hl,← ns,(qV _ _).2]
   rfl
  obtain ⟨a,b⟩:=sy _ _ hx;rw [← ns] at a;refine ⟨_,rfl,by lia,b,fun v' hv=>?_,fun c=>by rw [a] at c;cases c⟩;rw [a] at hv
  cases hv
  refine ⟨_,rfl,?_,?_,q⟩
  ·rw [List.length_append,List.length_replicate];simp;lia
  ·rw [Str.length_append] at l1;lia
 match i,hi with
 | 0,_=>exact good (by decide +kernel) iS.1 (fun H' g=>by have:=q H' g;rwa [if_pos (by decide)] at this)
 | 1,_=>exact good (by decide +kernel) iS.2.1 (fun H' g=>by have:=q H' g;rwa [if_pos (by decide)] at this)
 | 2,_ =>
  have l1:=ll (wS 2) (by decide +kernel);obtain ⟨a,b⟩:=ng (s:= "path") (show aw (Str.ofString "/" ++Str.join (Str.ofString "/") (List.replicate (N+1) (Str.ofString "a")++[wS 2])).cps.toList=none by rw [lx,iS.2.2];rfl);refine ⟨_,rfl,by lia,b,(fun v' hv=>by rw [a] at hv;cases hv),fun _ H' g=>?_⟩;have:=q H' g
  rwa [if_neg (by decide)] at this
theorem pz {K:PySem.W.Frag} {ad:Ads} {b:List Nat} {z:Str} {H:Hp} {Q:VK} {E:XK} (ez:z.cps.toList=34 :: (b++[34])) (h1:10≤b.length) (h2:b.length≤1000) (hb:b.all okC=true) (q:∀ H',Same H H'→Q (.str (if b.length≤60 then "read" else "value")) H'):bD K ad [.str z] H Q E:=by
 have nq:b.all (fun c=>!(c == 34))=true:=List.all_eq_true.mpr fun c hc=>by
  have:=List.all_eq_true.mp hb c hc;unfold okC at this;simp at this ⊢;exact this.1.2
 have lx:aw z.cps.toList=some [gu (aB b)]:=by
  have:=qP (r:=[]) nq (by rw [qM h1 hb];rfl:(mkW (34 :: (b++[34]))).map toTk=some (gu (aB b)));rw [List.append_nil,fm] at this;rw [ez,this]
  rfl
 have rd:aH 203 "value" z.cps.toList=some (.str (aB b))∧c8 203 "value" z.cps.toList:=by
  refine ej (q:=1) lx ?_ ?_ rfl
  ·rw [List.foldl_cons,aJ (fq _ _) (fq _ _) (by simp)];simp
  ·generalize hT:[gu (aB b)]=T
   have h0:T.drop 0=[gu (aB b)]:=by rw [hT];rfl
   obtain ⟨a,_⟩:=aj h0;have e:prs T 203 "value" 0=bv T (prs T 200) 0:=by
    have:∀ n,prs T (n+3) "value" 0=bv T (prs T n) 0:=fun n=>by
     simp only [prs];rw [if_pos trivial]
    exact this 200
   rw [e];unfold bv bi;rw [a];have m1:∀ m:Str,¬ gu (aB b)=ae m:=fun m c=>by
    injection c with c _
    revert c
    decide +kernel
   rw [if_neg (m1 _),if_neg (m1 _),if_neg (m1 _),if_neg (show ¬ (("text" : Str)= "number") by decide +kernel),if_pos rfl]
   rfl
 have lz:=bG ez;have lb:(aB b).length=b.length:=bG (aW b);refine ⟨z,rfl,by simp at lz;lia,rd.2,fun v hv=>?_,fun c=>by rw [rd.1] at c;cases c⟩;rw [rd.1] at hv
 cases hv
 refine ⟨.str _,fun z' hz'=>by cases hz';lia,fun H' g=>?_⟩;have e:ofT 60 (.str (aB b))=decide (b.length≤60):=by
  show (decide ((aB b).length≤60) && (aB b).cps.toList.all okC)=_;rw [aW,hb,lb,Bool.and_true]
 rw [e];have:=q H' g
 by_cases h:b.length≤60
 ·rw [if_pos h] at this;rw [if_pos (decide_eq_true h)];exact this
 ·rw [if_neg h] at this;rw [if_neg (by simpa using h)];exact this
def l4 (_:PySem.W.Frag) (_:Ads):Sp:=fun vs H Q _=>∃ (r:Addr) (n:Int),vs=[.ref r]∧H r=some (.lst [.int n])∧∀ H',But r H H'→Q (.bl true) H'
theorem qW (n:Nat):NumText.AllDigits (List.replicate n 48):=fun c hc=>by
 rw [(List.mem_replicate.mp hc).2]
 decide
theorem l5 (T:Tx K mg ad) {f:Addr} {fd:FuncData} (F:Gn K mg "_law_long" eR ["row"] f fd):FnOk P w K mg base CX0 211 f fd ["row"] (l4 K ad):=by
 obtain ⟨f1,d1,D9⟩:=T.law_digit;have Ec:=fk (P:=P) (w:=w) (base:=base) T D9;obtain ⟨f2,d2,Ej⟩:=T.law_turn_told;have EB:=cR (P:=P) (w:=w) (base:=base) T Ej;obtain ⟨f3,d3,Ek⟩:=T.law_due;have Eu:=iJ (P:=P) (w:=w) (base:=base) T Ek;obtain ⟨f4,d4,Ef⟩:=T.law_piece_told;have Et:=cz (P:=P) (w:=w) (base:=base) T Ef;obtain ⟨f5,d5,Ei⟩:=T.law_value_told;have Ew:=cA (P:=P) (w:=w) (base:=base) T Ei;obtain ⟨f6,d6,ER⟩:=T.law_path_told;have Fe:=f9 (P:=P) (w:=w) (base:=base) T ER;refine F.F.ok aO (fun vs H Q E h=>?_) (fun cdv A outer s H vs Q E hr h=>?_)
 ·obtain ⟨r,n,rfl,_⟩:=h
  rfl
 obtain ⟨r,n,rfl,hR,q⟩:=h;refine ⟨_,(@pss_cons _ _ _ _ _ (@ps_set _ _ 1 _ _ _ _ aO.nd rfl (Or.inl rfl) (@ah _ _ _ _ _ _ _ _ aQ pe_int (pcl D9 Ec (hr.mono (by lia)) rfl (@pa2 _ _ _ _ _ (pv 0) pe_int (by rfl) (by rfl)))) (by rfl) (by first | exact .inl rfl | exact .inr rfl | assumption)) (@pss_cons _ _ _ _ _ (@ps_set _ _ 2 _ _ _ _ aO.nd rfl (Or.inl rfl) (@ah _ _ _ _ _ _ _ _ ai (@ah _ _ _ _ _ _ _ _ ai pe_str (pe_callTy eX rfl T.z_str boot_str (@pa1 _ _ _ (pcl D9 Ec (hr.mono (by lia)) rfl (@pa2 _ _ _ _ _ (pv 0) (@ah _ _ _ _ _ _ _ _ gU pe_int pe_int) (by rfl) (by rfl))) (by rfl)))) (@ah _ _ _ _ _ _ _ _ cW pe_str pe_int)) (by rfl) (by first | exact .inl rfl | exact .inr rfl | assumption)) (@pss_cons _ _ _ _ _ (@ps_set _ _ 3 _ _ _ _ aO.nd rfl (Or.inl rfl) (@ah _ _ _ _ _ _ _ _ ai (@ah _ _ _ _ _ _ _ _ ai (@ah _ _ _ _ _ _ _ _ ai pe_str (@pe_ix _ _ _ _ _ _ _ (bn (K:=K) rfl) (@bA _ _ _ _ (@pa2 _ _ _ _ _ pe_str pe_str (by rfl) (by rfl))) (pcl D9 Ec (hr.mono (by lia)) rfl (@pa2 _ _ _ _ _ (pv 0) pe_int (by rfl) (by rfl))) (fun _ _=>rfl))) (pe_slice sl_str (pv 2) gK (po_some (pv 1)))) pe_str) (by rfl) (by first | exact .inl rfl | exact .inr rfl | assumption)) (@pss_cons _ _ _ _ _ (@ps_if _ _ _ _ _ _ _ _ (pt_cmpR op_ne (pcl Ej EB (hr.mono (by lia)) rfl (@pa1 _ _ _ (pv 3) (by rfl))) (pcl Ek Eu (hr.mono (by lia)) rfl (@pa2 _ _ _ _ _ (pv 3) (aR et (pv 1) pe_int (nomark _)) (by rfl) (by rfl))) (nomark _)) (@pss_one _ _ _ (@ps_ret _ _ _ _ pe_bl)) pss_nil) (@pss_cons _ _ _ _ _ (@ps_set _ _ 4 _ _ _ _ aO.nd rfl (Or.inl rfl) (@ah _ _ _ _ _ _ _ _ aQ pe_int (pcl D9 Ec (hr.mono (by lia)) rfl (@pa2 _ _ _ _ _ (pv 0) pe_int (by rfl) (by rfl)))) (by rfl) (by first | exact .inl rfl | exact .inr rfl | assumption)) (@pss_cons _ _ _ _ _ (@ps_set _ _ 5 _ _ _ _ aO.nd rfl (Or.inl rfl) (pe_slice sl_str pe_str (po_some (@ah _ _ _ _ _ _ _ _ mm pe_int (pv 4))) gK) (by rfl) (by first | exact .inl rfl | exact .inr rfl | assumption)) (@pss_cons _ _ _ _ _ (@ps_set _ _ 3 _ _ _ _ aO.nd rfl (Or.inl rfl) (@ah _ _ _ _ _ _ _ _ ai (@ah _ _ _ _ _ _ _ _ ai pe_str (pv 5)) pe_str) (by rfl) (by first | exact .inl rfl | exact .inr rfl | assumption)) (@pss_cons _ _ _ _ _ (@ps_if _ _ _ _ _ _ _ _ (pt_cmpR op_ne (pcl Ef Et (hr.mono (by lia)) rfl (@pa1 _ _ _ (pv 3) (by rfl))) (pcl Ek Eu (hr.mono (by lia)) rfl (@pa2 _ _ _ _ _ (pv 3) (aR et (pv 4) pe_int (nomark _)) (by rfl) (by rfl))) (nomark _)) (@pss_one _ _ _ (@ps_ret _ _ _ _ pe_bl)) pss_nil) (@pss_cons _ _ _ _ _ (@ps_set _ _ 3 _ _ _ _ aO.nd rfl (Or.inl rfl) (@ah _ _ _ _ _ _ _ _ ai pe_str (pe_bm PySem.F.plainAttrs_str PySem.F.slot_str_join PySem.F.type_str_join ii pe_str (@pa1 _ _ _ (@ah _ _ _ _ _ _ _ _ (qe (K:=K) rfl) (@ah _ _ _ _ _ _ _ _ qj (@bA _ _ _ _ (@pa1 _ _ _ pe_str (by rfl))) (@ah _ _ _ _ _ _ _ _ aQ pe_int (pcl D9 Ec (hr.mono (by lia)) rfl (@pa2 _ _ _ _ _ (pv 0) pe_int (by rfl) (by rfl))))) (@bA _ _ _ _ (@pa1 _ _ _ (pv 5) (by rfl)))) (by rfl)))) (by rfl) (by first | exact .inl rfl | exact .inr rfl | assumption)) (@pss_cons _ _ _ _ _ (@ps_if _ _ _ _ _ _ _ _ (pt_cmpR op_ne (pcl ER Fe (hr.mono (by lia)) rfl (@pa1 _ _ _ (pv 3) (by rfl))) (pcl Ek Eu (hr.mono (by lia)) rfl (@pa2 _ _ _ _ _ (pv 3) (aR et (pv 4) pe_int (nomark _)) (by rfl) (by rfl))) (nomark _)) (@pss_one _ _ _ (@ps_ret _ _ _ _ pe_bl)) pss_nil) (@pss_cons _ _ _ _ _ (@ps_set _ _ 3 _ _ _ _ aO.nd rfl (Or.inl rfl) (@ah _ _ _ _ _ _ _ _ ai (@ah _ _ _ _ _ _ _ _ ai pe_str (@ah _ _ _ _ _ _ _ _ cW pe_str (@ah _ _ _ _ _ _ _ _ aQ pe_int (pcl D9 Ec (hr.mono (by lia)) rfl (@pa2 _ _ _ _ _ (pv 0) pe_int (by rfl) (by rfl)))))) pe_str) (by rfl) (by first | exact .inl rfl | exact .inr rfl | assumption)) (@pss_one _ _ _ (@ps_ret _ _ _ _ (aR op_eq (pcl Ei Ew (hr.mono (by lia)) rfl (@pa1 _ _ _ (pv 3) (by rfl))) (@pe_ix _ _ _ _ _ _ _ (bn (K:=K) rfl) (@bA _ _ _ _ (@pa2 _ _ _ _ _ pe_str pe_str (by rfl) (by rfl))) (pe_callTy jp rfl T.z_int boot_int (@pa1 _ _ _ (aR et (pe_callB call_len_str rfl T.z_len PySem.boot_len (@pa1 _ _ _ (pv 3) (by rfl))) pe_int (nomark _)) (by rfl))) (fun _ _=>rfl)) (nomark _))))))))))))))),?_⟩;refine ⟨_,rfl,r,n,5,rfl,hR,by decide,by decide,_,_,rfl,rfl,?_⟩;obtain ⟨m0,m1⟩:=mod_lt n (m:=5) (by decide);obtain ⟨M,hM⟩:∃ M:Nat,58+n % 5=(M:Int):=⟨(58+n % 5).toNat,by lia⟩;rw [hM];have b1:But r H (upd H r (.lst [.int (n / 5)])):=But.put;have r1:(upd H r (.lst [.int (n / 5)])) r=some (.lst [.int (n / 5)]):=ac
 revert b1 r1
 generalize upd H r (.lst [.int (n / 5)])=H1
 generalize n / 5=n1
 intro b1 r1;refine ⟨_,rfl,_,_,rfl,rfl,⟨by decide,by decide,by decide⟩,r,n1,_,rfl,r1,(by show (0:Int) < 10 ^ (57:Int).toNat;decide +kernel),(by show (10:Int) ^ (57:Int).toNat < _;decide +kernel),?_⟩;obtain ⟨k0,k1⟩:=mod_lt n1 (m:=10 ^ Int.toNat 57) (by decide +kernel);have e57:(10:Int) ^ Int.toNat 57=1000000000000000000000000000000000000000000000000000000000:=by decide +kernel
 rw [e57] at k0 k1 ⊢;obtain ⟨d,hd⟩:∃ d:Nat,n1 % 1000000000000000000000000000000000000000000000000000000000=(d:Int):=⟨(n1 % 1000000000000000000000000000000000000000000000000000000000).toNat,by lia⟩;rw [hd] at k1 ⊢;have b2:But r H (upd H1 r (.lst [.int (n1 / 1000000000000000000000000000000000000000000000000000000000)])):=b1.trans But.put;have r2:(upd H1 r (.lst [.int (n1 / 1000000000000000000000000000000000000000000000000000000000)])) r=some (.lst [.int (n1 / 1000000000000000000000000000000000000000000000000000000000)]):=ac
 revert b2 r2
 generalize upd H1 r (.lst [.int (n1 / 1000000000000000000000000000000000000000000000000000000000)])=H2
 generalize n1 / 1000000000000000000000000000000000000000000000000000000000=n2
 intro b2 r2;have sd:(fW (d:Int)).cps.toList=dg d:=by
  rw [lN];unfold mK;rw [if_neg (by lia),Int.natAbs_natCast]
 have ld:(dg d).length≤57:=p8 56 d (by
  have:d < 1000000000000000000000000000000000000000000000000000000000:=by lia
  exact Nat.lt_of_lt_of_le this (by decide))
 have lsd:(fW (d:Int)).length=(dg d).length:=bG sd;have lt9:(Str.ofString "9").cps.toList=[57]∧(Str.ofString "0").cps.toList=[48]∧(Str.ofString "9").length=1∧(Str.ofString "0").length=1:=by decide +kernel
 refine ⟨_,rfl,sV (by lia),_,_,rfl,rfl,aT ?_,_,_,rfl,rfl,by lia,by lia,by decide,by decide,fun zz hzz=>?_⟩
 ·show _+(fW (d:Int)).length≤_;lia
 rw [lt9.2.1,show (62:Int).toNat=62 from rfl,lY] at hzz;have lzz:=bG hzz;rw [List.length_replicate] at lzz;have e1:(Str.ofString "9" ++fW (d:Int)++zz).cps.toList=57 :: (dg d++List.replicate 62 48):=by
  rw [ak,ak,hzz,sd,lt9.1]
  rfl
 refine ⟨_,_,rfl,rfl,aT ?_,?_⟩
 ·show (Str.ofString "9" ++fW (d:Int)).length+zz.length≤_;rw [Str.length_append];lia
 obtain ⟨zf,ezf⟩:∃ zf,zf=Str.ofString "9" ++Str.ofString (toString (d:Int))++zz:=⟨_,rfl⟩;rw [← ezf];have e2:zf.cps.toList=57 :: (dg d++List.replicate 62 48):=by rw [ezf];exact e1
 have lf:=bG e2;rw [List.length_cons,List.length_append,List.length_replicate] at lf;have eF:(Txt.slice zf none (some (M:Int))).cps.toList=zf.cps.toList.take M:=by
  rw [eq_of_beq (slice_closes_to (x:=zf) (j:=(M:Int)) ⟨by lia,by rw [aq];lia⟩)];simp
 refine ⟨sz2,fun p hp=>?_⟩;have np:p≠r:=fun c=>by rw [c,r2] at hp;cases hp
 refine ⟨_,rfl,r,n2,2,rfl,by rw [af (Ne.symm np)];exact r2,by decide,by decide,?_⟩;obtain ⟨sg,hs,ev⟩:∃ sg:Str,(sg.cps.toList=[]∨sg.cps.toList=[45])∧atI [V.str (Str.ofString ""),V.str (Str.ofString "-")] (n2 % 2)=some (.str sg):=by
  obtain ⟨c0,c1⟩:=mod_lt n2 (m:=2) (by decide);rcases (show n2 % 2=0∨n2 % 2=1 by lia) with e | e <;> rw [e]
  ·exact ⟨_,.inl (by decide +kernel),rfl⟩
  ·exact ⟨_,.inr (by decide +kernel),rfl⟩
 have lsg:sg.length≤1:=by
  rcases hs with h | h <;> rw [bG h] <;> decide
 refine ⟨p,_,_,_,rfl,rfl,SqL.of (by rw [af np,ac]),ev,?_⟩;have b3:But r H (upd (upd H2 p (.lst [V.str (Str.ofString ""),V.str (Str.ofString "-")])) r (.lst [.int (n2 / 2)])):=(bK b2 hp).trans But.put;have r3:(upd (upd H2 p (.lst [V.str (Str.ofString ""),V.str (Str.ofString "-")])) r (.lst [.int (n2 / 2)])) r=some (.lst [.int (n2 / 2)]):=ac
 revert b3 r3
 generalize upd (upd H2 p (.lst [V.str (Str.ofString ""),V.str (Str.ofString "-")])) r (.lst [.int (n2 / 2)])=H3
 generalize n2 / 2=n3
 intro b3 r3;have l6:(Str.ofString "scale(").length=6∧(Str.ofString ")").length=1∧(Str.ofString "scale(").cps.toList=115 :: ([99,97,108,101]++[40]):=by decide +kernel
 have lF:(Txt.slice zf none (some (M:Int))).length=M:=by
  rw [bG eF,List.length_take,aq];lia
 refine ⟨_,_,rfl,rfl,aT (by lia),?_⟩;refine ⟨_,rfl,_,rfl,_,rfl,zf,rfl,aT (by lia),?_⟩;refine ⟨_,_,rfl,rfl,aT (by rw [Str.length_append];lia),?_⟩;refine ⟨_,_,rfl,rfl,aT (by rw [Str.length_append,Str.length_append];lia),?_⟩;have ezt:(Str.ofString "scale(" ++sg++Txt.slice zf none (some (M:Int))++Str.ofString ")").cps.toList=115 :: ([99,97,108,101]++40 :: ((sg.cps.toList++zf.cps.toList.take M)++[41])):=by
  rw [ak,ak,ak,eF,l6.2.2,nj.2.2.1];simp
 have lzt:(Str.ofString "scale(" ++sg++Txt.slice zf none (some (M:Int))++Str.ofString ")").length≤1000:=by
  rw [Str.length_append,Str.length_append,Str.length_append];lia
 have lM:(zf.cps.toList.take M).length=M:=by rw [← eF,aq,lF]
 have eM:zf.cps.toList.take M=57 :: (dg d++List.replicate 62 48).take (M - 1):=by
  rw [e2];obtain ⟨k,rfl⟩:∃ k,M=k+1:=⟨M - 1,by lia⟩
  rfl
 have dM:NumText.AllDigits (zf.cps.toList.take M):=fun c hc=>by
  have:=List.mem_of_mem_take hc;rw [e2] at this;rcases List.mem_cons.mp this with rfl | h
  ·decide
  rcases List.mem_append.mp h with h | h
  ·exact oN d c h
  ·exact qW 62 c h
 revert ezt lzt
 generalize Str.ofString "scale(" ++sg++Txt.slice zf none (some (M:Int))++Str.ofString ")" = zt
 intro ezt lzt;refine ⟨_,rfl,?_⟩;refine dN (nk eM dM (by lia) hs ezt (by lia) fun H4 g4=>?_);rw [lM];refine ⟨_,rfl,_,rfl,_,_,rfl,rfl,_,_,rfl,rfl,_,rfl,gn ?_⟩;have b4:=bP b3 g4;have r4:=g4 _ _ r3;refine ⟨_,rfl,r,n3,3,rfl,r4,by decide,by decide,_,_,rfl,rfl,?_⟩;obtain ⟨c0,c1⟩:=mod_lt n3 (m:=3) (by decide);obtain ⟨I,hI⟩:∃ I:Nat,n3 % 3=(I:Int):=⟨(n3 % 3).toNat,by lia⟩;rw [hI] at c1 ⊢;have hI3:I < 3:=by lia
 have b5:But r H (upd H4 r (.lst [.int (n3 / 3)])):=b4.trans But.put;have r5:(upd H4 r (.lst [.int (n3 / 3)])) r=some (.lst [.int (n3 / 3)]):=ac
 revert b5 r5
 generalize upd H4 r (.lst [.int (n3 / 3)])=H5
 generalize n3 / 3=n4
 intro b5 r5;have ew:Txt.slice (Str.ofString "abcdefghi") (some (9 - (7+(I:Int)))) none=wS I:=by
  match I,hI3 with
  | 0,_=>decide +kernel
  | 1,_=>decide +kernel
  | 2,_=>decide +kernel
 have lw:(wS I).length≤9:=by
  match I,hI3 with
  | 0,_=>decide +kernel
  | 1,_=>decide +kernel
  | 2,_=>decide +kernel
 refine ⟨_,rfl,_,_,rfl,rfl,_,rfl,_,rfl,by decide +kernel,?_⟩;rw [ew];have ln:(Str.ofString "name(").length=5∧(Str.ofString ", b)").length=4∧(Str.ofString "/").length=1∧(Str.ofString "a").length=1:=by decide +kernel
 refine ⟨_,rfl,_,_,rfl,rfl,aT (by lia),_,_,rfl,rfl,aT (by rw [Str.length_append];lia),?_⟩;refine ⟨_,rfl,?_⟩;refine dN (pw hI3 fun H6 g6=>?_);refine ⟨_,rfl,_,rfl,_,_,rfl,rfl,_,_,rfl,rfl,_,rfl,gn ?_⟩;have b6:=bP b5 g6;have r6:=g6 _ _ r5;refine ⟨rfl,sz1,fun p1 hp1=>?_⟩;have np1:p1≠r:=fun c=>by rw [c,r6] at hp1;cases hp1
 refine ⟨_,rfl,r,n4,60,rfl,by rw [af (Ne.symm np1)];exact r6,by decide,by decide,_,_,rfl,rfl,?_⟩;obtain ⟨c2,c3⟩:=mod_lt n4 (m:=60) (by decide);obtain ⟨N,hN⟩:∃ N:Nat,1+n4 % 60=((N+1:Nat):Int):=⟨(n4 % 60).toNat,by lia⟩;rw [hN];have b7:But r H (upd (upd H6 p1 (.lst [V.str (Str.ofString "a")])) r (.lst [.int (n4 / 60)])):=(bK b6 hp1).trans But.put;have r7:(upd (upd H6 p1 (.lst [V.str (Str.ofString "a")])) r (.lst [.int (n4 / 60)])) r=some (.lst [.int (n4 / 60)]):=ac;have l7:(upd (upd H6 p1 (.lst [V.str (Str.ofString "a")])) r (.lst [.int (n4 / 60)])) p1=some (.lst [V.str (Str.ofString "a")]):=by rw [af np1,ac]
 revert b7 r7 l7
 generalize upd (upd H6 p1 (.lst [V.str (Str.ofString "a")])) r (.lst [.int (n4 / 60)])=H7
 generalize n4 / 60=n5
 intro b7 r7 l7;refine ⟨p1,_,_,rfl,l7,rfl,by lia,by lia,fun p2 hp2=>?_⟩;rw [Int.toNat_natCast];refine ⟨_,rfl,sz1,fun p3 hp3=>?_⟩;have n2r:r≠p2:=fun c=>by rw [← c,r7] at hp2;cases hp2
 have n3r:r≠p3:=fun c=>by rw [← c,af n2r,r7] at hp3;cases hp3
 have n32:p2≠p3:=fun c=>by rw [← c,ac] at hp3;cases hp3
 refine ⟨p2,p3,_,_,rfl,rfl,SqL.of (by rw [af n32,ac]),SqL.of ac,aT (by rw [List.length_replicate];show _+1≤_;lia),fun p4 hp4=>?_⟩;have n4r:r≠p4:=fun c=>by rw [← c,af n3r,af n2r,r7] at hp4;cases hp4
 have lj:=n6 (N:=N) (by lia) (wS I) lw;rw [Str.length_append] at lj;refine ⟨_,p4,List.replicate (N+1) (Str.ofString "a")++[wS I],rfl,rfl,.inl (SqL.of ?_),?_,?_⟩
 ·rw [ac,List.map_append,List.map_replicate]
  rfl
 ·have:=fh (Str.ofString "/") (List.replicate (N+1) (Str.ofString "a")++[wS I]);rw [ln.2.2.1,List.length_append,List.length_replicate];simp only [List.length_cons,List.length_nil];lia
 rw [iB];refine ⟨_,_,rfl,rfl,aT (by lia),?_⟩;have b8:=bK (u:=.lst (List.replicate (N+1) (V.str (Str.ofString "a"))++[V.str (wS I)])) (bK (u:=.lst [V.str (wS I)]) (bK (u:=.lst (List.replicate (N+1) (V.str (Str.ofString "a")))) b7 hp2) hp3) hp4;have r8:(upd (upd (upd H7 p2 (HO.lst (List.replicate (N+1) (V.str (Str.ofString "a"))))) p3 (HO.lst [V.str (wS I)])) p4 (HO.lst (List.replicate (N+1) (V.str (Str.ofString "a"))++[V.str (wS I)]))) r=some (.lst [.int n5]):=by
  rw [af n4r,af n3r,af n2r];exact r7
 revert b8 r8
 generalize upd (upd (upd H7 p2 (HO.lst (List.replicate (N+1) (V.str (Str.ofString "a"))))) p3 (HO.lst [V.str (wS I)])) p4 (HO.lst (List.replicate (N+1) (V.str (Str.ofString "a"))++[V.str (wS I)]))=H8
 intro b8 r8;refine ⟨_,rfl,?_⟩;refine dN (px hI3 (by lia) fun H9 g9=>?_);refine ⟨_,rfl,_,rfl,_,_,rfl,rfl,_,_,rfl,rfl,_,rfl,gn ?_⟩;have b9:=bP b8 g9;have r9:=g9 _ _ r8;refine ⟨_,rfl,r,n5,10,rfl,r9,by decide,by decide,_,_,rfl,rfl,?_⟩;obtain ⟨c4,c5⟩:=mod_lt n5 (m:=10) (by decide);obtain ⟨L,hL⟩:∃ L:Nat,15+n5 % 10=(L:Int):=⟨(15+n5 % 10).toNat,by lia⟩;rw [hL];have b10:But r H (upd H9 r (.lst [.int (n5 / 10)])):=b9.trans But.put
 revert b10
 generalize upd H9 r (.lst [.int (n5 / 10)])=H10
 intro b10;have lt:(Str.ofString "a b").length=3∧(Str.ofString "\"").length=1∧(Str.ofString "a b").cps.toList=[97,32,98]∧(Str.ofString "\"").cps.toList=[34]:=by decide +kernel
 refine ⟨_,_,rfl,rfl,by lia,by lia,by lia,by lia,fun zb hzb=>?_⟩;rw [Int.toNat_natCast,lt.2.2.1] at hzb;have lb:=bG hzb;have lfl:=iQ (c:=[97,32,98]) L;rw [lfl] at lb;simp only [List.length_cons,List.length_nil] at lb lfl;refine ⟨_,_,rfl,rfl,aT (by lia),_,_,rfl,rfl,aT (by rw [Str.length_append];lia),?_⟩;have ezq:(Str.ofString "\"" ++zb++Str.ofString "\"").cps.toList=34 :: ((List.replicate L [97,32,98]).flatten++[34]):=by
  rw [ak,ak,hzb,lt.2.2.2]
  rfl
 have okb:(List.replicate L [97,32,98]).flatten.all okC=true:=List.all_eq_true.mpr fun c hc=>by
  obtain ⟨l,hl,hcl⟩:=List.mem_flatten.mp hc;rw [(List.mem_replicate.mp hl).2] at hcl
  clear hc
  revert c
  decide +kernel
 have lzq:(Str.ofString "\"" ++zb++Str.ofString "\"").length=3*L+2:=by
  rw [Str.length_append,Str.length_append];lia
 revert ezq lzq
 generalize Str.ofString "\"" ++zb++Str.ofString "\"" = zq
 intro ezq lzq;refine ⟨_,rfl,?_⟩;refine dN (pz ezq (by lia) (by lia) okb fun H11 g11=>?_);have ev2:atI [V.str (Str.ofString "value"),V.str (Str.ofString "read")] (if decide ((zq.length:Int)≤62)=true then 1 else 0)=some (.str (if (List.replicate L [97,32,98]).flatten.length≤60 then Str.ofString "read" else Str.ofString "value")):=by
  rw [lfl]
  by_cases hk:L*3≤60
  ·rw [if_pos (decide_eq_true (by lia)),if_pos hk]
   rfl
  ·rw [if_neg (fun c=>hk (by have:=of_decide_eq_true c;lia)),if_neg hk]
   rfl
 refine ⟨sz2,fun p5 hp5=>⟨_,rfl,zq,rfl,aT (by lia),_,_,rfl,rfl,.inr ⟨_,rfl,p5,_,_,_,rfl,rfl,SqL.of ac,ev2,rfl,?_⟩⟩⟩;have:=q _ (bK (u:=.lst [V.str (Str.ofString "value"),V.str (Str.ofString "read")]) (bP b10 g11) hp5);rw [decide_eq_true rfl];exact this
abbrev xF (K:PySem.W.Frag) (_:Ads):Sp:=Df K
theorem DW (T:Tx K mg ad) {f:Addr} {fd:FuncData} (F:Gn K mg "law" n8 ["script"] f fd):FnOk P w K mg base CX0 depth f fd ["script"] (xF K ad):=by
 obtain ⟨f1,d1,E7⟩:=T.law_own;have Fl:=m7 (P:=P) (w:=w) (base:=base) T E7;obtain ⟨f2,d2,Fg⟩:=T.law_deep;have FO:=lZ (P:=P) (w:=w) (base:=base) T Fg;obtain ⟨f3,d3,Ff⟩:=T.law_long;have FQ:=l5 (P:=P) (w:=w) (base:=base) T Ff;refine F.F.ok qX (fun vs H Q E h=>?_) (fun cdv A outer s H vs Q E hr h=>?_)
 ·obtain ⟨a,ns,rfl,_⟩:=h
  rfl
 obtain ⟨a,ns,rfl,hS,h63,q⟩:=h;refine ⟨_,(@pss_cons _ _ _ _ _ (fH PassesOwn.never rfl (fG rfl T.z_range (@pa1 _ _ _ (pe_callB (oq rfl) rfl T.z_min boot_min (@pa2 _ _ _ _ _ pe_int (@ah _ _ _ _ _ _ _ _ aQ pe_int (pe_callB (bo (K:=K) rfl) rfl T.z_len PySem.boot_len (@pa1 _ _ _ (pv 0) (by rfl)))) (by rfl) (by rfl))) (by rfl))) (aE (i:=1) qX.nd rfl (Or.inl rfl))
    (@pss_one _ _ _ (@ps_if _ _ _ _ _ _ _ _ (PW.pt (@kT _ _ _ _ _ _ _ (@pt_not _ _ _ _ (@pt_val _ _ _ (pcl Fg FO (hr.mono (by lia)) rfl (@pa1 _ _ _ (pcl E7 Fl (hr.mono (by lia)) rfl (@pa3 _ _ _ _ _ _ _ (pv 0) (pv 1) pe_int (by rfl) (by rfl) (by rfl))) (by rfl))) (by intro _;rfl))) (@pw_or1 _ _ _ _ (@pt_not _ _ _ _ (@pt_val _ _ _ (pcl Ff FQ (hr.mono (by lia)) rfl (@pa1 _ _ _ (pcl E7 Fl (hr.mono (by lia)) rfl (@pa3 _ _ _ _ _ _ _ (pv 0) (pv 1) pe_int (by rfl) (by rfl) (by rfl))) (by rfl))) (by intro _;rfl)))))) (@pss_one _ _ _ (@ps_ret _ _ _ _ pe_bl)) pss_nil))) (@pss_one _ _ _ (@ps_ret _ _ _ _ pe_bl))),?_⟩
 have hlen:(ns.map V.int).length=ns.length:=List.length_map _;refine ⟨_,rfl,a,_,rfl,.inl hS,_,_,rfl,rfl,_,_,rfl,?_⟩;rw [hlen]
 generalize hJ:(if (1+((ns.length:Nat):Int)) < 12 then 1+((ns.length:Nat):Int) else 12)=J
 have J1:0≤J∧J≤13:=by rw [← hJ];split <;> lia
 refine ⟨J,rfl,by lia,by lia,fI (lo:=0) (n:=J.toNat) (fun i σ H'=>Same H H'∧∃ v1,σ=[some (.ref a),v1]) ⟨Same.refl H,_,rfl⟩ ?_ ?_⟩
 ·rintro i σ H1 hi ⟨g1,v1,rfl⟩;refine ⟨_,rfl,_,rfl,a,ns,i,0,(by rw [Int.zero_add];rfl),g1.seq hS,h63,by lia,by decide,fun r n H2 hr2 s2 e2=>?_⟩;have keep:∀ {r:Addr} {H1 H2 H3:Hp},Same H H1→H1 r=none→Same H1 H2→But r H2 H3→Same H H3:=fun g hr s b c o e=>b c o (am (g c o e) hr) (s c o (g c o e));refine ⟨r,n,rfl,e2,fun H3 b3=>?_⟩;have g3:=keep g1 hr2 s2 b3;refine ⟨_,rfl,bx ?_⟩;refine ⟨_,rfl,_,rfl,a,ns,i,1,(by rw [Int.zero_add];rfl),g3.seq hS,h63,by lia,by decide,fun r' n' H4 hr4 s4 e4=>?_⟩;refine ⟨r',n',rfl,e4,fun H5 b5=>?_⟩;have g5:=keep g3 hr4 s4 b5;exact ⟨_,rfl,bx ⟨g5,_,rfl⟩⟩
 ·rintro σ H1 ⟨g1,v1,rfl⟩;exact q _
end
@[elab_as_elim] theorem sA {α:Type} {p:List α→Prop} {us:List α} (hl:us.length=0) (h:p []):p us:=by
 cases us with
 | nil=>exact h
 | cons a r=>cases hl
@[elab_as_elim] theorem sC {α:Type} {p:List α→Prop} {us:List α} (hl:us.length=1) (h:∀ x0,p [x0]):p us:=by
 cases us with
 | nil=>cases hl
 | cons a r=>exact sA (p:=fun r=>p (a :: r)) (Nat.succ.inj hl) (h a)
@[elab_as_elim] theorem sD {α:Type} {p:List α→Prop} {us:List α} (hl:us.length=2) (h:∀ x0 x1,p [x0,x1]):p us:=by
 cases us with
 | nil=>cases hl
 | cons a r=>exact sC (p:=fun r=>p (a :: r)) (Nat.succ.inj hl) (h a)
@[elab_as_elim] theorem sE {α:Type} {p:List α→Prop} {us:List α} (hl:us.length=3) (h:∀ x0 x1 x2,p [x0,x1,x2]):p us:=by
 cases us with
 | nil=>cases hl
 | cons a r=>exact sD (p:=fun r=>p (a :: r)) (Nat.succ.inj hl) (h a)
@[elab_as_elim] theorem sF {α:Type} {p:List α→Prop} {us:List α} (hl:us.length=4) (h:∀ x0 x1 x2 x3,p [x0,x1,x2,x3]):p us:=by
 cases us with
 | nil=>cases hl
 | cons a r=>exact sE (p:=fun r=>p (a :: r)) (Nat.succ.inj hl) (h a)
@[elab_as_elim] theorem sG {α:Type} {p:List α→Prop} {us:List α} (hl:us.length=5) (h:∀ x0 x1 x2 x3 x4,p [x0,x1,x2,x3,x4]):p us:=by
 cases us with
 | nil=>cases hl
 | cons a r=>exact sF (p:=fun r=>p (a :: r)) (Nat.succ.inj hl) (h a)
@[elab_as_elim] theorem Dn {α:Type} {p:List α→Prop} {us:List α} (hl:us.length=6) (h:∀ x0 x1 x2 x3 x4 x5,p [x0,x1,x2,x3,x4,x5]):p us:=by
 cases us with
 | nil=>cases hl
 | cons a r=>exact sG (p:=fun r=>p (a :: r)) (Nat.succ.inj hl) (h a)
theorem gnM {K:PySem.W.Frag} {h:Heap} {mg:Str→Option Value} (X:K.In h) (G:h.Ns mainGlobals mg) {x:Str} {st:Stmt} {ps:List Str} {f:Addr} {od an:Option Addr} {sl:Array (Option Value)} {oc kV dc pm cd ct:Value}
  (a:PySem.W.nsIn K mainGlobals x=some (some (.ref f))) (l:K.lookup f=some ⟨oc,od,.func (PySem.W.fnOf x x (br st) (aX st) (aa st) .none kV dc pm an cd ct),sl⟩) (c:PySem.W.codeIn K cd x=true) (k:PySem.W.keepIn K (.ref f)=true)
  (b:∀ (kV doc pm:Value) (an:Option Addr) (cdv ct:Value) (us:List Value),us.length=ps.length→bindArgs (PySem.W.fnOf x x (br st) (aX st) (aa st) .none kV doc pm an cdv ct) ⟨us,[]⟩=pure (ps.zip us)):∃ f fd,Gn K mg x st ps f fd :=
 ⟨f,_,fN (st:=st) l c k,(fN (st:=st) l c k).binds b,PySem.W.mg_of X G a⟩
theorem exM {K:PySem.W.Frag} {h:Heap} {mg:Str→Option Value} (X:K.In h) (G:h.Ns mainGlobals mg) {x:Str} {C:Addr} {d:ClassData} (xa:PySem.W.nsIn K mainGlobals x=some (some (.ref C))) (xq:PySem.W.excIn K C bmV "ValueError.__new__" = true) (xg:PySem.W.findIn K (.ref C) "__getattribute__" = some (some (.builtin "BaseException.__getattribute__"))) (xt:PySem.W.findIn K (.ref C) "__getattr__" = some none) (xc:PySem.W.findIn K (.ref C) "__class__" = some (some (.builtin "object.__class__"))) (xb:PySem.W.mroIn K C (.type "BaseException")=some true) (xo:PySem.W.mroIn K C (.type "object")=some true) (xd:PySem.W.clsIn K C=some d) (xk:PySem.W.keepIn K (.ref C)=true):ExC K mg x C:=⟨PySem.W.mg_of X G xa,xq,⟨xg,xt,xc,xb,xo,_,xd⟩,xk⟩
theorem csM {K:PySem.W.Frag} {h:Heap} {mg:Str→Option Value} (X:K.In h) (G:h.Ns mainGlobals mg) {x z:Str} {t:Tok} (g:PySem.W.nsIn K mainGlobals x=some (some (.str z t))):∃ t,mg x=some (.str z t):=⟨_,PySem.W.mg_of X G g⟩
theorem ciM {K:PySem.W.Frag} {h:Heap} {mg:Str→Option Value} (X:K.In h) (G:h.Ns mainGlobals mg) {x:Str} {i:Int} {t:Tok} (g:PySem.W.nsIn K mainGlobals x=some (some (.int i t))):∃ t,mg x=some (.int i t):=⟨_,PySem.W.mg_of X G g⟩
theorem txI {K:PySem.W.Frag} {mg:Str→Option Value} {a0 a1 a2 a3:Addr} (T:Tx K mg ⟨a0,a1,a2,a3⟩):∃ ad,Tx K mg ad:=⟨_,T⟩
theorem xI {K:PySem.W.Frag} {f:Addr} {fd:FuncData} (F:Fun K "law" "law" n8 f fd):∀ (s:Shared) (u:Value),BindsTo s fd ⟨[u],[]⟩ [("script",u)]:=by
 obtain ⟨oc,od,kV,doc,pm,an,cdv,ct,osl,rfl,lk,hcd⟩:=F.ex;exact fun s u=>.of_eq rfl
end K91
open PySem PySem.W PyProof.Rows
set_option maxRecDepth 100000 in
set_option maxHeartbeats 0 in
theorem PySem.Challenge.cw_oldhands_k91_as_great_as_may_be_holds : PySem.Challenge.rw_oldhands_k91_as_great_as_may_be.Holds := by
 w_on
 refine PySem.W.holds_law K91.said fun said=>?_;refine PySem.W.holds_open (q:=K91.hQ) (loose:=K91.hW) (Xt:=K91.hX) (XP:=fun _ _=>True) (Yf:=K91.hH.obs) (Ya:=K91.hH.val) (YP:=PySem.W.InK K91.hK) (N:=4461) K91.hl K91.hH.of K91.hH.keeps (fun _ _=>trivial) (fun _ _ _ _ _=>trivial) (by rfl) (by rfl) (by rfl) (fun s e=>PySem.W.recFacts_of e) (by rfl) said (by decide +kernel) ⟨rfl,rfl,rfl,rfl,rfl,by decide +kernel⟩ ?hw ?hc
 case hw=>w_witness2
 k_fill
 refine L2.CU (l:=PySem.Challenge.rw_oldhands_k91_as_great_as_may_be) (K:=K91.hK) (n:=63) (k:=K91.depth) (x:= "script") (CX:=L2.CX0) (sp:=K91.Df) rfl (by decide) rfl ⟨rfl,by decide,by decide⟩ (fun w h Y=>Y) ?F (fun _ _ a ns hl _ hS=>⟨a,ns,rfl,hS,hl,fun _=>rfl⟩) (fun _ _ _ _ z=>z)
 case F =>
  intro w mg fa h KX G hmg;have T:∃ ad,K91.Tx (L2.KOf KX) mg ad:=by
   dsimp only [L2.KOf];refine' K91.txI ⟨K91.gnM KX G ?_ ?_ ?_ ?_ ?_,K91.gnM KX G ?_ ?_ ?_ ?_ ?_,K91.gnM KX G ?_ ?_ ?_ ?_ ?_,K91.gnM KX G ?_ ?_ ?_ ?_ ?_,K91.gnM KX G ?_ ?_ ?_ ?_ ?_,K91.gnM KX G ?_ ?_ ?_ ?_ ?_,K91.gnM KX G ?_ ?_ ?_ ?_ ?_,K91.gnM KX G ?_ ?_ ?_ ?_ ?_,K91.gnM KX G ?_ ?_ ?_ ?_ ?_,K91.gnM KX G ?_ ?_ ?_ ?_ ?_,K91.gnM KX G ?_ ?_ ?_ ?_ ?_,K91.gnM KX G ?_ ?_ ?_ ?_ ?_,K91.gnM KX G ?_ ?_ ?_ ?_ ?_,K91.gnM KX G ?_ ?_ ?_ ?_ ?_,K91.gnM KX G ?_ ?_ ?_ ?_ ?_,K91.gnM KX G ?_ ?_ ?_ ?_ ?_,K91.gnM KX G ?_ ?_ ?_ ?_ ?_,K91.gnM KX G ?_ ?_ ?_ ?_ ?_,K91.gnM KX G ?_ ?_ ?_ ?_ ?_,K91.gnM KX G ?_ ?_ ?_ ?_ ?_,K91.gnM KX G ?_ ?_ ?_ ?_ ?_,K91.gnM KX G ?_ ?_ ?_ ?_ ?_,K91.gnM KX G ?_ ?_ ?_ ?_ ?_,K91.gnM KX G ?_ ?_ ?_ ?_ ?_,K91.gnM KX G ?_ ?_ ?_ ?_ ?_,K91.gnM KX G ?_ ?_ ?_ ?_ ?_,K91.gnM KX G ?_ ?_ ?_ ?_ ?_,K91.gnM KX G ?_ ?_ ?_ ?_ ?_,K91.gnM KX G ?_ ?_ ?_ ?_ ?_,K91.gnM KX G ?_ ?_ ?_ ?_ ?_,K91.gnM KX G ?_ ?_ ?_ ?_ ?_,K91.gnM KX G ?_ ?_ ?_ ?_ ?_,K91.gnM KX G ?_ ?_ ?_ ?_ ?_,K91.gnM KX G ?_ ?_ ?_ ?_ ?_,K91.gnM KX G ?_ ?_ ?_ ?_ ?_,K91.gnM KX G ?_ ?_ ?_ ?_ ?_,K91.gnM KX G ?_ ?_ ?_ ?_ ?_,K91.gnM KX G ?_ ?_ ?_ ?_ ?_,K91.gnM KX G ?_ ?_ ?_ ?_ ?_,K91.gnM KX G ?_ ?_ ?_ ?_ ?_,K91.gnM KX G ?_ ?_ ?_ ?_ ?_,K91.gnM KX G ?_ ?_ ?_ ?_ ?_,K91.gnM KX G ?_ ?_ ?_ ?_ ?_,K91.gnM KX G ?_ ?_ ?_ ?_ ?_,K91.gnM KX G ?_ ?_ ?_ ?_ ?_,K91.gnM KX G ?_ ?_ ?_ ?_ ?_,K91.gnM KX G ?_ ?_ ?_ ?_ ?_,K91.gnM KX G ?_ ?_ ?_ ?_ ?_,K91.gnM KX G ?_ ?_ ?_ ?_ ?_,K91.gnM KX G ?_ ?_ ?_ ?_ ?_,K91.gnM KX G ?_ ?_ ?_ ?_ ?_,K91.gnM KX G ?_ ?_ ?_ ?_ ?_,K91.gnM KX G ?_ ?_ ?_ ?_ ?_,K91.gnM KX G ?_ ?_ ?_ ?_ ?_,K91.gnM KX G ?_ ?_ ?_ ?_ ?_,K91.gnM KX G ?_ ?_ ?_ ?_ ?_,K91.gnM KX G ?_ ?_ ?_ ?_ ?_,K91.gnM KX G ?_ ?_ ?_ ?_ ?_,PySem.W.mg_of KX G ?_,⟨?_,?_,?_,?_⟩,(show PySem.W.findIn _ _ _=some none from ?_),(show PySem.W.findIn _ _ _=some none from ?_),L2.miM (f:=187) ?_ ?_ ?_ ?_ ?_ ?_ ?_ ?_,L2.mnM (f:=194) ?_ ?_ ?_ ?_ ?_ ?_,L2.mnM (f:=201) ?_ ?_ ?_ ?_ ?_ ?_,L2.mnM (f:=208) ?_ ?_ ?_ ?_ ?_ ?_,L2.mnM (f:=215) ?_ ?_ ?_ ?_ ?_ ?_,K91.exM KX G ?_ ?_ ?_ ?_ ?_ ?_ ?_ ?_ ?_,K91.exM KX G ?_ ?_ ?_ ?_ ?_ ?_ ?_ ?_ ?_,K91.exM KX G ?_ ?_ ?_ ?_ ?_ ?_ ?_ ?_ ?_,K91.csM KX G ?_,K91.ciM KX G ?_,K91.ciM KX G ?_,K91.csM KX G ?_,K91.csM KX G ?_,K91.csM KX G ?_,K91.csM KX G ?_,K91.csM KX G ?_,K91.csM KX G ?_,K91.csM KX G ?_,K91.ciM KX G ?_,K91.ciM KX G ?_,⟨PySem.W.mg_of KX G ?_,L2.C9 ?_⟩,⟨PySem.W.mg_of KX G ?_,L2.xG ?_,L2.C9 ?_⟩,⟨PySem.W.mg_of KX G ?_,L2.xG ?_,L2.C9 ?_⟩,⟨PySem.W.mg_of KX G ?_,L2.xG ?_,L2.C9 ?_⟩,⟨_,PySem.W.mg_of KX G ?_,L2.xH ?_⟩,⟨PySem.W.mg_of KX G ?_,L2.De ?_,L2.C9 ?_⟩,PySem.W.mg_none_of KX G ?_,PySem.W.mg_none_of KX G ?_,PySem.W.mg_none_of KX G ?_,PySem.W.mg_none_of KX G ?_,PySem.W.mg_none_of KX G ?_,PySem.W.mg_none_of KX G ?_,PySem.W.mg_none_of KX G ?_,PySem.W.mg_none_of KX G ?_,PySem.W.mg_none_of KX G ?_,PySem.W.mg_none_of KX G ?_,PySem.W.mg_none_of KX G ?_,PySem.W.mg_none_of KX G ?_,PySem.W.mg_none_of KX G ?_,PySem.W.mg_none_of KX G ?_,?_,?_,?_⟩
   any_goals (first | k_is | kernel_rfl | exact fun _ _ _ _ _ _ _ e=>K91.sA e rfl | exact fun _ _ _ _ _ _ _ e=>K91.sC e fun _=>rfl | exact fun _ _ _ _ _ _ _ e=>K91.sD e fun _ _=>rfl | exact fun _ _ _ _ _ _ _ e=>K91.sE e fun _ _ _=>rfl | exact fun _ _ _ _ _ _ _ e=>K91.sF e fun _ _ _ _=>rfl | exact fun _ _ _ _ _ _ _ e=>K91.sG e fun _ _ _ _ _=>rfl | exact fun _ _ _ _ _ _ _ e=>K91.Dn e fun _ _ _ _ _ _=>rfl)
  obtain ⟨ad,T⟩:=T;obtain ⟨fL,dL,L⟩:=T.law;have e:=hmg.symm.trans L.m
  cases e
  exact ⟨dL,K91.xI L.F,fun base _ _=>K91.DW T L⟩
#print axioms PySem.Challenge.cw_oldhands_k91_as_great_as_may_be_holds
