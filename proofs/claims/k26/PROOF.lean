import PyProof.Rows.All
import Wide.All
import OpenK.AllK
import Wide.FinOn
import Lean
import PyProof.EqAt
import PyProof.EqKinds
import PyProof.TupleCall
import PyProof.NeKinds
import KE.KIntText
import PyProof.StrCalls
import PyProof.ZipIter
import PyProof.Rows.SetFrom
import PyProof.SetRoads
import PyProof.CompUse
import PyProof.Rows.MinMaxN
import PyProof.Rows.SortStr
import PyProof.Rows.SortWalk
import PyProof.Rows.SeqMore2
import KE.KMinKey
import PyProof.Rows.CallKwBuiltin
import PyProof.TupleOfStr
import PyProof.Draws
import PyProof.Rows.TupIter
import KE.KxText
import PyProof.FString5
import PyProof.DictWalks
import PyProof.CollectStr
import PyProof.FactsAll.set_1
import KE.KDictLaws
import PyProof.MeetsStr
import PyProof.TupleKey
import PyProof.SetKind
import PyProof.IsRules
import PyProof.Rows.RuleDivmod
import PyProof.LongRange
import PyProof.ListRange
import PySem.Challenge.RW_oldhands_k26_numbers_parted
set_option Elab.async false
set_option linter.all false
set_option maxHeartbeats 4000000
set_option maxRecDepth 100000
namespace L2
open PySem PySem.Spec PyProof.Rows
def bK (s:Stmt):Arguments:=match s with
 | .FunctionDef _ a _ _ _ _ _ _ _ _=>a
 | _=>{ posonlyargs:=[],args:=[],vararg:=none,kwonlyargs:=[],kw_defaults:=[],kwarg:=none,defaults:=[] }
def bc (s:Stmt):List Stmt:=match s with
 | .FunctionDef _ _ b _ _ _ _ _ _ _=>b
 | _=>[]
def aa (s:Stmt):Scope:=match s with
 | .FunctionDef _ _ _ _ _ _ sc _ _ _=>sc
 | _=>{ kind:=.function,names:=[],isGenerator:=false,isCoroutine:=false }
end L2
namespace K26
open PySem L2 PyProof.Rows
def top (i:Nat):Stmt:=PySem.Challenge.pw_oldhands_k26_numbers_parted.main.body.getD i (.Pass ⟨0,0,0,0⟩)
noncomputable def hT (t:Nat):Value:=.str "/claim/cut.py" t
noncomputable def hE (P:Params) (x:Str) (t:Nat) (v:Value):DictEntry:={ hash:=PyData.keyHash P x,key:=.str x t,val:=v }
noncomputable def hF (x y m:Str) (st:Stmt) (t c:Nat):Obj:={ cls:=.type "function",data:=.func (PySem.W.fnOf x y (bK st) (bc st) (aa st) .none .none .none (.str m t) none (.ref c) .none) }
noncomputable def hU (x y:Str) (st:Stmt):Obj:={ cls:=.none,data:=.func { name:=x,qualname:=y,params:=bK st,body:=.stmts (bc st),scope:=aa st,globals:=builtinsNs,closure:=[],defaults:=.none,kwdefaults:=.none } }
noncomputable def hC (x y:Str) (t u v:Nat) (r:List Value):Obj:={ cls:=.type "code",data:=.fields (Array.mk (.str x t :: .str y u :: hT v :: r)) }
noncomputable def hS (r:List Value):Obj:={ cls:=.type "tuple",data:=.seq (Array.mk r) }
noncomputable def hN:Obj:={ cls:=.none,data:=.fields (Array.mk []) }
noncomputable def gE:Params→List DictEntry:=fun P =>
 hE P "__doc__" 166 (.none) ::
 hE P "__package__" 167 (.none) ::
 hE P "__loader__" 168 (.builtin "__main__.__loader__#opaque") ::
 hE P "__spec__" 169 (.none) ::
 hE P "__annotations__" 170 (.ref 6) ::
 hE P "__builtins__" 171 (.ref 4) ::
 hE P "__file__" 173 (.str ("/claim/cut.py") 172) ::
 hE P "__cached__" 174 (.none) ::
 hE P "HandError" 206 (.ref 24) ::
 hE P "BadKind" 222 (.ref 37) ::
 hE P "BadTurn" 238 (.ref 49) ::
 hE P "BadPiece" 254 (.ref 61) ::
 hE P "LETTERS" 258 (.str ("abcdefghijklmnopqrstuvwxyz") 257) ::
 hE P "LONGEST_NAME" 260 (.int 8 259) ::
 hE P "EACH" 262 (.str ("each") 261) ::
 hE P "MOST_SIGNS" 264 (.int 60 263) ::
 hE P "MOST_WORDS" 266 (.int 8 265) ::
 hE P "MOST_FIELDS" 268 (.int 8 267) ::
 hE P "MOST_ITEMS" 270 (.int 8 269) ::
 hE P "MOST_KINDS" 272 (.int 40 271) ::
 hE P "DEEPEST" 274 (.int 5 273) ::
 hE P "PART_COUNTS" 293 (.ref 64) ::
 hE P "is_name" 299 (.ref 69) ::
 hE P "is_whole" 306 (.ref 76) ::
 hE P "is_whole_within" 315 (.ref 83) ::
 hE P "made_kind" 322 (.ref 90) ::
 hE P "is_formed" 331 (.ref 97) ::
 hE P "has_parts" 338 (.ref 104) ::
 hE P "are_bounds" 346 (.ref 111) ::
 hE P "are_words" 352 (.ref 116) ::
 hE P "are_fields" 358 (.ref 121) ::
 hE P "is_field" 366 (.ref 128) ::
 hE P "are_rows" 376 (.ref 135) ::
 hE P "field_kind" 386 (.ref 142) ::
 hE P "item_kind" 393 (.ref 149) ::
 hE P "kinds_within" 399 (.ref 154) ::
 hE P "kind_many" 405 (.ref 159) ::
 hE P "PERCENT" 409 (.int 37 408) ::
 hE P "is_sign" 416 (.ref 166) ::
 hE P "is_of" 425 (.ref 173) ::
 hE P "is_text_of" 431 (.ref 178) ::
 hE P "holds_tuple" 439 (.ref 185) ::
 hE P "holds_items" 445 (.ref 190) ::
 hE P "is_record_of" 451 (.ref 195) ::
 hE P "is_pair_of" 459 (.ref 202) ::
 hE P "are_keyed" 465 (.ref 207) ::
 hE P "least_value" 471 (.ref 212) ::
 hE P "field_of" 481 (.ref 219) ::
 hE P "record_of" 487 (.ref 224) ::
 hE P "with_fields" 499 (.ref 231) ::
 hE P "without_fields" 505 (.ref 236) ::
 hE P "FIGURES" 509 (.str ("0123456789") 508) ::
 hE P "LEAST_FACTOR" 511 (.int 2 510) ::
 hE P "GREATEST_FACTOR" 513 (.int 1000 512) ::
 hE P "TURN_COUNTS" 547 (.ref 237) ::
 hE P "TURN_SORTS" 579 (.ref 238) ::
 hE P "figures_of" 586 (.ref 255) ::
 hE P "number_of" 592 (.ref 260) ::
 hE P "nearest" 601 (.ref 267) ::
 hE P "is_factor" 608 (.ref 274) ::
 hE P "kind_behind" 616 (.ref 281) ::
 hE P "is_turn_of" 625 (.ref 288) ::
 hE P "has_turn_parts" 632 (.ref 295) ::
 hE P "most_figures" 640 (.ref 302) ::
 hE P "are_led_words" 646 (.ref 307) ::
 hE P "words_behind" 652 (.ref 312) ::
 hE P "led_kind" 661 (.ref 319) ::
 hE P "turn_about" 669 (.ref 326) ::
 hE P "led_about" 675 (.ref 331) ::
 hE P "turned" 684 (.ref 338) ::
 hE P "led_value" 690 (.ref 343) ::
 hE P "read_number" 699 (.ref 350) ::
 hE P "PIECE_FORMS" 753 (.ref 351) ::
 hE P "taken_paths" 761 (.ref 368) ::
 hE P "made_paths" 769 (.ref 375) ::
 hE P "record_behind" 778 (.ref 382) ::
 hE P "has_piece_form" 784 (.ref 387) ::
 hE P "is_part" 792 (.ref 394) ::
 hE P "can_take" 798 (.ref 399) ::
 hE P "kind_down" 808 (.ref 406) ::
 hE P "takes_kinds" 817 (.ref 413) ::
 hE P "is_kind" 824 (.ref 420) ::
 hE P "is_separator" 831 (.ref 427) ::
 hE P "part_kinds" 840 (.ref 434) ::
 hE P "made_kinds" 849 (.ref 441) ::
 hE P "can_make" 855 (.ref 446) ::
 hE P "is_free" 864 (.ref 453) ::
 hE P "piece_about" 874 (.ref 460) ::
 hE P "old_values" 880 (.ref 465) ::
 hE P "value_down" 890 (.ref 472) ::
 hE P "made_values" 900 (.ref 479) ::
 hE P "halves" 909 (.ref 486) ::
 hE P "joined" 920 (.ref 493) ::
 hE P "with_new" 933 (.ref 500) ::
 hE P "without_taken" 943 (.ref 507) ::
 hE P "without_down" 952 (.ref 514) ::
 hE P "with_down" 962 (.ref 521) ::
 hE P "_law_mixed" 973 (.ref 528) ::
 hE P "_law_stream" 984 (.ref 535) ::
 hE P "_law_digit" 993 (.ref 542) ::
 hE P "law" 1017 (.ref 549) ::
 []
noncomputable def gD (P:Params) (x:Str) (t m k:Nat):Obj:={ cls:=.type "dict",data:=.dict (Array.mk (hE P "__name__" 165 (.str x t) :: (gE P).take m)) k }
noncomputable def tE:List Value:=.int 2 0 :: .int 0 0 :: .ref 20 :: .int 4 0 :: .int 0 0 :: .ref 33 :: .int 6 0 :: .int 0 0 :: .ref 45 :: .int 8 0 :: .int 0 0 :: .ref 57 :: .int 21 0 :: .int 0 0 :: .ref 68 :: .int 25 0 :: .int 0 0 :: .ref 75 :: .int 27 0 :: .int 0 0 :: .ref 82 :: .int 29 0 :: .int 0 0 :: .ref 89 :: .int 35 0 :: .int 0 0 :: .ref 96 :: .int 50 0 :: .int 0 0 :: .ref 103 :: .int 54 0 :: .int 0 0 :: .ref 110 :: .int 58 0 :: .int 0 0 :: .ref 115 :: .int 62 0 :: .int 0 0 :: .ref 120 :: .int 69 0 :: .int 0 0 :: .ref 127 :: .int 73 0 :: .int 0 0 :: .ref 134 :: .int 78 0 :: .int 0 0 :: .ref 141 :: .int 85 0 :: .int 0 0 :: .ref 148 :: .int 91 0 :: .int 0 0 :: .ref 153 :: .int 96 0 :: .int 0 0 :: .ref 158 :: .int 100 0 :: .int 0 0 :: .ref 165 :: .int 102 0 :: .int 0 0 :: .ref 172 :: .int 115 0 :: .int 0 0 :: .ref 177 :: .int 119 0 :: .int 0 0 :: .ref 184 :: .int 121 0 :: .int 0 0 :: .ref 189 :: .int 125 0 :: .int 0 0 :: .ref 194 :: .int 129 0 :: .int 0 0 :: .ref 201 :: .int 133 0 :: .int 0 0 :: .ref 206 :: .int 136 0 :: .int 0 0 :: .ref 211 :: .int 147 0 :: .int 0 0 :: .ref 218 :: .int 152 0 :: .int 0 0 :: .ref 223 :: .int 154 0 :: .int 0 0 :: .ref 230 :: .int 159 0 :: .int 0 0 :: .ref 235 :: .int 167 0 :: .int 0 0 :: .ref 254 :: .int 169 0 :: .int 0 0 :: .ref 259 :: .int 176 0 :: .int 0 0 :: .ref 266 :: .int 178 0 :: .int 0 0 :: .ref 273 :: .int 180 0 :: .int 0 0 :: .ref 280 :: .int 187 0 :: .int 0 0 :: .ref 287 :: .int 208 0 :: .int 0 0 :: .ref 294 :: .int 212 0 :: .int 0 0 :: .ref 301 :: .int 214 0 :: .int 0 0 :: .ref 306 :: .int 229 0 :: .int 0 0 :: .ref 311 :: .int 231 0 :: .int 0 0 :: .ref 318 :: .int 250 0 :: .int 0 0 :: .ref 325 :: .int 253 0 :: .int 0 0 :: .ref 330 :: .int 274 0 :: .int 0 0 :: .ref 337 :: .int 277 0 :: .int 0 0 :: .ref 342 :: .int 300 0 :: .int 0 0 :: .ref 349 :: .int 307 0 :: .int 0 0 :: .ref 367 :: .int 316 0 :: .int 0 0 :: .ref 374 :: .int 329 0 :: .int 0 0 :: .ref 381 :: .int 341 0 :: .int 0 0 :: .ref 386 :: .int 348 0 :: .int 0 0 :: .ref 393 :: .int 354 0 :: .int 0 0 :: .ref 398 :: .int 360 0 :: .int 0 0 :: .ref 405 :: .int 365 0 :: .int 0 0 :: .ref 412 :: .int 380 0 :: .int 0 0 :: .ref 419 :: .int 386 0 :: .int 0 0 :: .ref 426 :: .int 388 0 :: .int 0 0 :: .ref 433 :: .int 390 0 :: .int 0 0 :: .ref 440 :: .int 405 0 :: .int 0 0 :: .ref 445 :: .int 411 0 :: .int 0 0 :: .ref 452 :: .int 416 0 :: .int 0 0 :: .ref 459 :: .int 439 0 :: .int 0 0 :: .ref 464 :: .int 441 0 :: .int 0 0 :: .ref 471 :: .int 446 0 :: .int 0 0 :: .ref 478 :: .int 463 0 :: .int 0 0 :: .ref 485 :: .int 466 0 :: .int 0 0 :: .ref 492 :: .int 471 0 :: .int 0 0 :: .ref 499 :: .int 476 0 :: .int 0 0 :: .ref 506 :: .int 481 0 :: .int 0 0 :: .ref 513 :: .int 486 0 :: .int 0 0 :: .ref 520 :: .int 492 0 :: .int 0 0 :: .ref 527 :: .int 495 0 :: .int 0 0 :: .ref 534 :: .int 505 0 :: .int 0 0 :: .ref 541 :: .int 509 0 :: .int 0 0 :: .ref 548 :: []
noncomputable def tD (m:Nat):Obj:={ cls:=.none,data:=.fields (Array.mk (tE.take m)) }
noncomputable def o0 (P:Params):Obj:=PySem.W.boot_o_0 P
noncomputable def o1 (P:Params):Obj:=PySem.W.boot_o_1 P
noncomputable def o2 (P:Params):Obj:=PySem.W.boot_o_2 P
noncomputable def o3 (P:Params):Obj:={ cls:=.type "dict",data:=.dict (Array.mk (hE P "__name__" 165 (.str ("law_oldhands_k26_numbers_parted") 963) :: gE P)) 102 }
noncomputable def o4 (P:Params):Obj:=PySem.W.boot_o_4 P
noncomputable def o5 (P:Params):Obj:=PySem.W.boot_o_5 P
noncomputable def o6 (P:Params):Obj:=PySem.W.boot_o_6 P
noncomputable def o7 (P:Params):Obj:=PySem.W.boot_o_7 P
noncomputable def o8 (P:Params):Obj:=PySem.W.boot_o_8 P
noncomputable def o9 (P:Params):Obj:=PySem.W.boot_o_9 P
noncomputable def o10 (P:Params):Obj:=PySem.W.boot_o_10 P
noncomputable def o11 (P:Params):Obj:=hS []
noncomputable def o12 (P:Params):Obj:={ cls:=.none,data:=.fields (Array.mk tE) }
noncomputable def o13 (P:Params):Obj:=hC "<module>" "<module>" 182 183 184 [.int 1 0,.int 0 0,.int 0 0,.int 0 0,.int 0 0,.ref 11,.bool false,.int 181 0,.ref 12,.none,.none,.none,.none,.int 185 0,.int 1 0,hT 186]
noncomputable def o14 (P:Params):Obj:={ cls:=.type "frame",slots:=#[some (.ref 13),some (.ref 3),some (.ref 3),none,some (.str ("__main__") 164),none,some (.ref 0)] }
noncomputable def o15 (P:Params):Obj:=hS [.type "ValueError"]
noncomputable def o16 (P:Params):Obj:={ cls:=.type "builtin_function_or_method",data:=.fields #[.builtin "type.__prepare__",.type "type"] }
noncomputable def o17 (P:Params):Obj:={ cls:=.type "dict",data:=.dict #[hE P "__module__" 196 (.str ("oldhands.errors") 187),hE P "__qualname__" 198 (.str ("HandError") 197),hE P "__firstlineno__" 200 (.int 2 199),hE P "__static_attributes__" 201 (.ref 22)] 4 }
noncomputable def o18 (P:Params):Obj:=hS []
noncomputable def o19 (P:Params):Obj:=hN
noncomputable def o20 (P:Params):Obj:=hC "HandError" "HandError" 191 192 193 [.int 2 0,.int 0 0,.int 0 0,.int 0 0,.int 0 0,.ref 18,.bool false,.int 181 0,.ref 19,.none,.none,.none,.none,.int 194 0,.int 2 0,hT 195]
noncomputable def o21 (P:Params):Obj:={ cls:=.type "frame",slots:=#[some (.ref 20),some (.ref 3),some (.ref 17),none,some (.str ("oldhands.errors") 187),none,some (.ref 0)] }
noncomputable def o22 (P:Params):Obj:=hS []
noncomputable def o23 (P:Params):Obj:={ cls:=.type "dict",data:=.dict #[hE P "__module__" 196 (.str ("oldhands.errors") 187),hE P "__firstlineno__" 200 (.int 2 199),hE P "__static_attributes__" 201 (.ref 22),hE P "__weakref__" 203 (.ref 25),hE P "__doc__" 204 (.none)] 3 }
noncomputable def o24 (P:Params):Obj:={ cls:=.type "type",data:=.cls { name:= "HandError",bases:=[.type "ValueError"],mro:=[.ref 24,.type "ValueError",.type "Exception",.type "BaseException",.type "object"],ns:=23,qualname:= "HandError",subclasses:=[.ref 37,.ref 49,.ref 61] },slots:=#[some (.ref 15),none,some (.str ("HandError") 189),some (.str ("HandError") 197),some (.builtin "ValueError.__new__"),some (.bool true)] }
noncomputable def o25 (P:Params):Obj:={ cls:=.type "getset_descriptor",data:=.fields #[.str ("__weakref__") 202,.ref 24,.builtin "ExceptionGroup.__weakref__",.none] }
noncomputable def o26 (P:Params):Obj:={ cls:=.type "super",data:=.fields #[.ref 24,.ref 24,.ref 24] }
noncomputable def o27 (P:Params):Obj:={ cls:=.type "builtin_function_or_method",data:=.fields #[.builtin "object.__init_subclass__",.ref 24] }
noncomputable def o28 (P:Params):Obj:=hS [.ref 24]
noncomputable def o29 (P:Params):Obj:={ cls:=.type "builtin_function_or_method",data:=.fields #[.builtin "type.__prepare__",.type "type"] }
noncomputable def o30 (P:Params):Obj:={ cls:=.type "dict",data:=.dict #[hE P "__module__" 214 (.str ("oldhands.errors") 187),hE P "__qualname__" 216 (.str ("BadKind") 215),hE P "__firstlineno__" 218 (.int 4 217),hE P "__static_attributes__" 219 (.ref 35)] 4 }
noncomputable def o31 (P:Params):Obj:=hS []
noncomputable def o32 (P:Params):Obj:=hN
noncomputable def o33 (P:Params):Obj:=hC "BadKind" "BadKind" 209 210 211 [.int 4 0,.int 0 0,.int 0 0,.int 0 0,.int 0 0,.ref 31,.bool false,.int 181 0,.ref 32,.none,.none,.none,.none,.int 212 0,.int 4 0,hT 213]
noncomputable def o34 (P:Params):Obj:={ cls:=.type "frame",slots:=#[some (.ref 33),some (.ref 3),some (.ref 30),none,some (.str ("oldhands.errors") 187),none,some (.ref 0)] }
noncomputable def o35 (P:Params):Obj:=hS []
noncomputable def o36 (P:Params):Obj:={ cls:=.type "dict",data:=.dict #[hE P "__module__" 214 (.str ("oldhands.errors") 187),hE P "__firstlineno__" 218 (.int 4 217),hE P "__static_attributes__" 219 (.ref 35),hE P "__doc__" 220 (.none)] 2 }
noncomputable def o37 (P:Params):Obj:={ cls:=.type "type",data:=.cls { name:= "BadKind",bases:=[.ref 24],mro:=[.ref 37,.ref 24,.type "ValueError",.type "Exception",.type "BaseException",.type "object"],ns:=36,qualname:= "BadKind" },slots:=#[some (.ref 28),none,some (.str ("BadKind") 207),some (.str ("BadKind") 215),some (.builtin "ValueError.__new__"),some (.bool true)] }
noncomputable def o38 (P:Params):Obj:={ cls:=.type "super",data:=.fields #[.ref 37,.ref 37,.ref 37] }
noncomputable def o39 (P:Params):Obj:={ cls:=.type "builtin_function_or_method",data:=.fields #[.builtin "object.__init_subclass__",.ref 37] }
noncomputable def o40 (P:Params):Obj:=hS [.ref 24]
noncomputable def o41 (P:Params):Obj:={ cls:=.type "builtin_function_or_method",data:=.fields #[.builtin "type.__prepare__",.type "type"] }
noncomputable def o42 (P:Params):Obj:={ cls:=.type "dict",data:=.dict #[hE P "__module__" 230 (.str ("oldhands.errors") 187),hE P "__qualname__" 232 (.str ("BadTurn") 231),hE P "__firstlineno__" 234 (.int 6 233),hE P "__static_attributes__" 235 (.ref 47)] 4 }
noncomputable def o43 (P:Params):Obj:=hS []
noncomputable def o44 (P:Params):Obj:=hN
noncomputable def o45 (P:Params):Obj:=hC "BadTurn" "BadTurn" 225 226 227 [.int 6 0,.int 0 0,.int 0 0,.int 0 0,.int 0 0,.ref 43,.bool false,.int 181 0,.ref 44,.none,.none,.none,.none,.int 228 0,.int 6 0,hT 229]
noncomputable def o46 (P:Params):Obj:={ cls:=.type "frame",slots:=#[some (.ref 45),some (.ref 3),some (.ref 42),none,some (.str ("oldhands.errors") 187),none,some (.ref 0)] }
noncomputable def o47 (P:Params):Obj:=hS []
noncomputable def o48 (P:Params):Obj:={ cls:=.type "dict",data:=.dict #[hE P "__module__" 230 (.str ("oldhands.errors") 187),hE P "__firstlineno__" 234 (.int 6 233),hE P "__static_attributes__" 235 (.ref 47),hE P "__doc__" 236 (.none)] 2 }
noncomputable def o49 (P:Params):Obj:={ cls:=.type "type",data:=.cls { name:= "BadTurn",bases:=[.ref 24],mro:=[.ref 49,.ref 24,.type "ValueError",.type "Exception",.type "BaseException",.type "object"],ns:=48,qualname:= "BadTurn" },slots:=#[some (.ref 40),none,some (.str ("BadTurn") 223),some (.str ("BadTurn") 231),some (.builtin "ValueError.__new__"),some (.bool true)] }
noncomputable def o50 (P:Params):Obj:={ cls:=.type "super",data:=.fields #[.ref 49,.ref 49,.ref 49] }
noncomputable def o51 (P:Params):Obj:={ cls:=.type "builtin_function_or_method",data:=.fields #[.builtin "object.__init_subclass__",.ref 49] }
noncomputable def o52 (P:Params):Obj:=hS [.ref 24]
noncomputable def o53 (P:Params):Obj:={ cls:=.type "builtin_function_or_method",data:=.fields #[.builtin "type.__prepare__",.type "type"] }
noncomputable def o54 (P:Params):Obj:={ cls:=.type "dict",data:=.dict #[hE P "__module__" 246 (.str ("oldhands.errors") 187),hE P "__qualname__" 248 (.str ("BadPiece") 247),hE P "__firstlineno__" 250 (.int 8 249),hE P "__static_attributes__" 251 (.ref 59)] 4 }
noncomputable def o55 (P:Params):Obj:=hS []
noncomputable def o56 (P:Params):Obj:=hN
noncomputable def o57 (P:Params):Obj:=hC "BadPiece" "BadPiece" 241 242 243 [.int 8 0,.int 0 0,.int 0 0,.int 0 0,.int 0 0,.ref 55,.bool false,.int 181 0,.ref 56,.none,.none,.none,.none,.int 244 0,.int 8 0,hT 245]
noncomputable def o58 (P:Params):Obj:={ cls:=.type "frame",slots:=#[some (.ref 57),some (.ref 3),some (.ref 54),none,some (.str ("oldhands.errors") 187),none,some (.ref 0)] }
noncomputable def o59 (P:Params):Obj:=hS []
noncomputable def o60 (P:Params):Obj:={ cls:=.type "dict",data:=.dict #[hE P "__module__" 246 (.str ("oldhands.errors") 187),hE P "__firstlineno__" 250 (.int 8 249),hE P "__static_attributes__" 251 (.ref 59),hE P "__doc__" 252 (.none)] 2 }
noncomputable def o61 (P:Params):Obj:={ cls:=.type "type",data:=.cls { name:= "BadPiece",bases:=[.ref 24],mro:=[.ref 61,.ref 24,.type "ValueError",.type "Exception",.type "BaseException",.type "object"],ns:=60,qualname:= "BadPiece" },slots:=#[some (.ref 52),none,some (.str ("BadPiece") 239),some (.str ("BadPiece") 247),some (.builtin "ValueError.__new__"),some (.bool true)] }
noncomputable def o62 (P:Params):Obj:={ cls:=.type "super",data:=.fields #[.ref 61,.ref 61,.ref 61] }
noncomputable def o63 (P:Params):Obj:={ cls:=.type "builtin_function_or_method",data:=.fields #[.builtin "object.__init_subclass__",.ref 61] }
noncomputable def o64 (P:Params):Obj:={ cls:=.type "dict",data:=.dict #[hE P "number" 275 (.int 3 276),hE P "text" 277 (.int 2 278),hE P "choice" 279 (.int 2 280),hE P "list" 281 (.int 3 282),hE P "record" 283 (.int 2 284),hE P "rows" 285 (.int 4 286)] 6 }
noncomputable def o65 (P:Params):Obj:=hS []
noncomputable def o66 (P:Params):Obj:=hN
noncomputable def o67 (P:Params):Obj:=hU "is_name" "is_name" (top 16)
noncomputable def o68 (P:Params):Obj:=hC "is_name" "is_name" 294 295 296 [.int 21 0,.int 1 0,.int 0 0,.int 0 0,.int 3 0,.ref 65,.bool true,.int 181 0,.ref 66,.none,.none,.none,.ref 67,.int 297 0,.int 21 0,hT 298]
noncomputable def o69 (P:Params):Obj:=hF "is_name" "is_name" "oldhands.kinds" (top 16) 255 68
noncomputable def o70 (P:Params):Obj:=hS []
noncomputable def o71 (P:Params):Obj:=hN
noncomputable def o72 (P:Params):Obj:=hS [.str ("thing") 303]
noncomputable def o73 (P:Params):Obj:=hS []
noncomputable def o74 (P:Params):Obj:=hU "is_whole" "is_whole" (top 17)
noncomputable def o75 (P:Params):Obj:=hC "is_whole" "is_whole" 300 301 302 [.int 25 0,.int 1 0,.int 0 0,.int 0 0,.int 3 0,.ref 70,.bool true,.int 181 0,.ref 71,.none,.ref 72,.ref 73,.ref 74,.int 304 0,.int 25 0,hT 305]
noncomputable def o76 (P:Params):Obj:=hF "is_whole" "is_whole" "oldhands.kinds" (top 17) 255 75
noncomputable def o77 (P:Params):Obj:=hS []
noncomputable def o78 (P:Params):Obj:=hN
noncomputable def o79 (P:Params):Obj:=hS [.str ("thing") 310,.str ("low") 311,.str ("high") 312]
noncomputable def o80 (P:Params):Obj:=hS []
noncomputable def o81 (P:Params):Obj:=hU "is_whole_within" "is_whole_within" (top 18)
noncomputable def o82 (P:Params):Obj:=hC "is_whole_within" "is_whole_within" 307 308 309 [.int 27 0,.int 3 0,.int 0 0,.int 0 0,.int 3 0,.ref 77,.bool true,.int 181 0,.ref 78,.none,.ref 79,.ref 80,.ref 81,.int 313 0,.int 27 0,hT 314]
noncomputable def o83 (P:Params):Obj:=hF "is_whole_within" "is_whole_within" "oldhands.kinds" (top 18) 255 82
noncomputable def o84 (P:Params):Obj:=hS []
noncomputable def o85 (P:Params):Obj:=hN
noncomputable def o86 (P:Params):Obj:=hS [.str ("kind") 319]
noncomputable def o87 (P:Params):Obj:=hS []
noncomputable def o88 (P:Params):Obj:=hU "made_kind" "made_kind" (top 19)
noncomputable def o89 (P:Params):Obj:=hC "made_kind" "made_kind" 316 317 318 [.int 29 0,.int 1 0,.int 0 0,.int 0 0,.int 3 0,.ref 84,.bool true,.int 181 0,.ref 85,.none,.ref 86,.ref 87,.ref 88,.int 320 0,.int 29 0,hT 321]
noncomputable def o90 (P:Params):Obj:=hF "made_kind" "made_kind" "oldhands.kinds" (top 19) 255 89
noncomputable def o91 (P:Params):Obj:=hS []
noncomputable def o92 (P:Params):Obj:=hN
noncomputable def o93 (P:Params):Obj:=hS [.str ("thing") 326,.str ("room") 327,.str ("word") 328]
noncomputable def o94 (P:Params):Obj:=hS []
noncomputable def o95 (P:Params):Obj:=hU "is_formed" "is_formed" (top 20)
noncomputable def o96 (P:Params):Obj:=hC "is_formed" "is_formed" 323 324 325 [.int 35 0,.int 2 0,.int 0 0,.int 0 0,.int 3 0,.ref 91,.bool true,.int 181 0,.ref 92,.none,.ref 93,.ref 94,.ref 95,.int 329 0,.int 35 0,hT 330]
noncomputable def o97 (P:Params):Obj:=hF "is_formed" "is_formed" "oldhands.kinds" (top 20) 255 96
noncomputable def o98 (P:Params):Obj:=hS []
noncomputable def o99 (P:Params):Obj:=hN
noncomputable def xx (P:Params):Obj:=hS [.str ("thing") 335]
noncomputable def xz (P:Params):Obj:=hS []
noncomputable def xA (P:Params):Obj:=hU "has_parts" "has_parts" (top 21)
noncomputable def rD (P:Params):Obj:=hC "has_parts" "has_parts" 332 333 334 [.int 50 0,.int 1 0,.int 0 0,.int 0 0,.int 3 0,.ref 98,.bool true,.int 181 0,.ref 99,.none,.ref 100,.ref 101,.ref 102,.int 336 0,.int 50 0,hT 337]
noncomputable def rE (P:Params):Obj:=hF "has_parts" "has_parts" "oldhands.kinds" (top 21) 255 103
noncomputable def xB (P:Params):Obj:=hS []
noncomputable def xC (P:Params):Obj:=hN
noncomputable def xD (P:Params):Obj:=hS [.str ("low") 342,.str ("high") 343]
noncomputable def xE (P:Params):Obj:=hS []
noncomputable def xF (P:Params):Obj:=hU "are_bounds" "are_bounds" (top 22)
noncomputable def rF (P:Params):Obj:=hC "are_bounds" "are_bounds" 339 340 341 [.int 54 0,.int 2 0,.int 0 0,.int 0 0,.int 3 0,.ref 105,.bool true,.int 181 0,.ref 106,.none,.ref 107,.ref 108,.ref 109,.int 344 0,.int 54 0,hT 345]
noncomputable def rG (P:Params):Obj:=hF "are_bounds" "are_bounds" "oldhands.kinds" (top 22) 255 110
noncomputable def xG (P:Params):Obj:=hS []
noncomputable def xH (P:Params):Obj:=hN
noncomputable def xI (P:Params):Obj:=hU "are_words" "are_words" (top 23)
noncomputable def rH (P:Params):Obj:=hC "are_words" "are_words" 347 348 349 [.int 58 0,.int 1 0,.int 0 0,.int 0 0,.int 3 0,.ref 112,.bool true,.int 181 0,.ref 113,.none,.none,.none,.ref 114,.int 350 0,.int 58 0,hT 351]
noncomputable def rJ (P:Params):Obj:=hF "are_words" "are_words" "oldhands.kinds" (top 23) 255 115
noncomputable def xJ (P:Params):Obj:=hS []
noncomputable def xK (P:Params):Obj:=hN
noncomputable def xL (P:Params):Obj:=hU "are_fields" "are_fields" (top 24)
noncomputable def rK (P:Params):Obj:=hC "are_fields" "are_fields" 353 354 355 [.int 62 0,.int 2 0,.int 0 0,.int 0 0,.int 3 0,.ref 117,.bool true,.int 181 0,.ref 118,.none,.none,.none,.ref 119,.int 356 0,.int 62 0,hT 357]
noncomputable def rL (P:Params):Obj:=hF "are_fields" "are_fields" "oldhands.kinds" (top 24) 255 120
noncomputable def xM (P:Params):Obj:=hS []
noncomputable def xN (P:Params):Obj:=hN
noncomputable def xO (P:Params):Obj:=hS [.str ("field") 362,.str ("room") 363]
noncomputable def xP (P:Params):Obj:=hS []
noncomputable def xQ (P:Params):Obj:=hU "is_field" "is_field" (top 25)
noncomputable def rM (P:Params):Obj:=hC "is_field" "is_field" 359 360 361 [.int 69 0,.int 2 0,.int 0 0,.int 0 0,.int 3 0,.ref 122,.bool true,.int 181 0,.ref 123,.none,.ref 124,.ref 125,.ref 126,.int 364 0,.int 69 0,hT 365]
noncomputable def rN (P:Params):Obj:=hF "is_field" "is_field" "oldhands.kinds" (top 25) 255 127
noncomputable def xR (P:Params):Obj:=hS []
noncomputable def xS (P:Params):Obj:=hN
noncomputable def xT (P:Params):Obj:=hS [.str ("key") 370,.str ("items") 371,.str ("room") 372,.str ("key_kind") 373]
noncomputable def xU (P:Params):Obj:=hS []
noncomputable def xV (P:Params):Obj:=hU "are_rows" "are_rows" (top 26)
noncomputable def rO (P:Params):Obj:=hC "are_rows" "are_rows" 367 368 369 [.int 73 0,.int 3 0,.int 0 0,.int 0 0,.int 3 0,.ref 129,.bool true,.int 181 0,.ref 130,.none,.ref 131,.ref 132,.ref 133,.int 374 0,.int 73 0,hT 375]
noncomputable def rP (P:Params):Obj:=hF "are_rows" "are_rows" "oldhands.kinds" (top 26) 255 134
noncomputable def xW (P:Params):Obj:=hS []
noncomputable def xX (P:Params):Obj:=hN
noncomputable def xY (P:Params):Obj:=hS [.str ("kind") 380,.str ("name") 381,.str ("own") 382,.str ("inner") 383]
noncomputable def xZ (P:Params):Obj:=hS []
noncomputable def x6 (P:Params):Obj:=hU "field_kind" "field_kind" (top 27)
noncomputable def rQ (P:Params):Obj:=hC "field_kind" "field_kind" 377 378 379 [.int 78 0,.int 2 0,.int 0 0,.int 0 0,.int 3 0,.ref 136,.bool true,.int 181 0,.ref 137,.none,.ref 138,.ref 139,.ref 140,.int 384 0,.int 78 0,hT 385]
noncomputable def rR (P:Params):Obj:=hF "field_kind" "field_kind" "oldhands.kinds" (top 27) 255 141
noncomputable def x8 (P:Params):Obj:=hS []
noncomputable def x9 (P:Params):Obj:=hN
noncomputable def ya (P:Params):Obj:=hS [.str ("kind") 390]
noncomputable def yb (P:Params):Obj:=hS []
noncomputable def yc (P:Params):Obj:=hU "item_kind" "item_kind" (top 28)
noncomputable def rS (P:Params):Obj:=hC "item_kind" "item_kind" 387 388 389 [.int 85 0,.int 1 0,.int 0 0,.int 0 0,.int 3 0,.ref 143,.bool true,.int 181 0,.ref 144,.none,.ref 145,.ref 146,.ref 147,.int 391 0,.int 85 0,hT 392]
noncomputable def rV (P:Params):Obj:=hF "item_kind" "item_kind" "oldhands.kinds" (top 28) 255 148
noncomputable def yd (P:Params):Obj:=hS []
noncomputable def ye (P:Params):Obj:=hN
noncomputable def yf (P:Params):Obj:=hU "kinds_within" "kinds_within" (top 29)
noncomputable def rW (P:Params):Obj:=hC "kinds_within" "kinds_within" 394 395 396 [.int 91 0,.int 1 0,.int 0 0,.int 0 0,.int 3 0,.ref 150,.bool true,.int 181 0,.ref 151,.none,.none,.none,.ref 152,.int 397 0,.int 91 0,hT 398]
noncomputable def rX (P:Params):Obj:=hF "kinds_within" "kinds_within" "oldhands.kinds" (top 29) 255 153
noncomputable def yg (P:Params):Obj:=hS []
noncomputable def yh (P:Params):Obj:=hN
noncomputable def yi (P:Params):Obj:=hU "kind_many" "kind_many" (top 30)
noncomputable def rY (P:Params):Obj:=hC "kind_many" "kind_many" 400 401 402 [.int 96 0,.int 1 0,.int 0 0,.int 0 0,.int 3 0,.ref 155,.bool true,.int 181 0,.ref 156,.none,.none,.none,.ref 157,.int 403 0,.int 96 0,hT 404]
noncomputable def rZ (P:Params):Obj:=hF "kind_many" "kind_many" "oldhands.kinds" (top 30) 255 158
noncomputable def yj (P:Params):Obj:=hS []
noncomputable def yk (P:Params):Obj:=hN
noncomputable def yl (P:Params):Obj:=hS [.str ("letter") 413]
noncomputable def ym (P:Params):Obj:=hS []
noncomputable def yn (P:Params):Obj:=hU "is_sign" "is_sign" (top 33)
noncomputable def sh (P:Params):Obj:=hC "is_sign" "is_sign" 410 411 412 [.int 100 0,.int 1 0,.int 0 0,.int 0 0,.int 3 0,.ref 160,.bool true,.int 181 0,.ref 161,.none,.ref 162,.ref 163,.ref 164,.int 414 0,.int 100 0,hT 415]
noncomputable def sj (P:Params):Obj:=hF "is_sign" "is_sign" "oldhands.values" (top 33) 406 165
noncomputable def yo (P:Params):Obj:=hS []
noncomputable def yp (P:Params):Obj:=hN
noncomputable def yq (P:Params):Obj:=hS [.str ("value") 420,.str ("kind") 421,.str ("word") 422]
noncomputable def yr (P:Params):Obj:=hS []
noncomputable def yt (P:Params):Obj:=hU "is_of" "is_of" (top 34)
noncomputable def sk (P:Params):Obj:=hC "is_of" "is_of" 417 418 419 [.int 102 0,.int 2 0,.int 0 0,.int 0 0,.int 3 0,.ref 167,.bool true,.int 181 0,.ref 168,.none,.ref 169,.ref 170,.ref 171,.int 423 0,.int 102 0,hT 424]
noncomputable def sq (P:Params):Obj:=hF "is_of" "is_of" "oldhands.values" (top 34) 406 172
noncomputable def yu (P:Params):Obj:=hS []
noncomputable def yv (P:Params):Obj:=hN
noncomputable def yw (P:Params):Obj:=hU "is_text_of" "is_text_of" (top 35)
noncomputable def sr (P:Params):Obj:=hC "is_text_of" "is_text_of" 426 427 428 [.int 115 0,.int 2 0,.int 0 0,.int 0 0,.int 3 0,.ref 174,.bool true,.int 181 0,.ref 175,.none,.none,.none,.ref 176,.int 429 0,.int 115 0,hT 430]
noncomputable def su (P:Params):Obj:=hF "is_text_of" "is_text_of" "oldhands.values" (top 35) 406 177
noncomputable def yx (P:Params):Obj:=hS []
noncomputable def yy (P:Params):Obj:=hN
noncomputable def yz (P:Params):Obj:=hS [.str ("value") 435,.str ("word") 436]
noncomputable def yA (P:Params):Obj:=hS []
noncomputable def yB (P:Params):Obj:=hU "holds_tuple" "holds_tuple" (top 36)
noncomputable def sv (P:Params):Obj:=hC "holds_tuple" "holds_tuple" 432 433 434 [.int 119 0,.int 2 0,.int 0 0,.int 0 0,.int 3 0,.ref 179,.bool true,.int 181 0,.ref 180,.none,.ref 181,.ref 182,.ref 183,.int 437 0,.int 119 0,hT 438]
noncomputable def sw (P:Params):Obj:=hF "holds_tuple" "holds_tuple" "oldhands.values" (top 36) 406 184
noncomputable def yC (P:Params):Obj:=hS []
noncomputable def yD (P:Params):Obj:=hN
noncomputable def yE (P:Params):Obj:=hU "holds_items" "holds_items" (top 37)
noncomputable def sx (P:Params):Obj:=hC "holds_items" "holds_items" 440 441 442 [.int 121 0,.int 4 0,.int 0 0,.int 0 0,.int 3 0,.ref 186,.bool true,.int 181 0,.ref 187,.none,.none,.none,.ref 188,.int 443 0,.int 121 0,hT 444]
noncomputable def sy (P:Params):Obj:=hF "holds_items" "holds_items" "oldhands.values" (top 37) 406 189
noncomputable def yF (P:Params):Obj:=hS []
noncomputable def yG (P:Params):Obj:=hN
noncomputable def yH (P:Params):Obj:=hU "is_record_of" "is_record_of" (top 38)
noncomputable def sC (P:Params):Obj:=hC "is_record_of" "is_record_of" 446 447 448 [.int 125 0,.int 2 0,.int 0 0,.int 0 0,.int 3 0,.ref 191,.bool true,.int 181 0,.ref 192,.none,.none,.none,.ref 193,.int 449 0,.int 125 0,hT 450]
noncomputable def sD (P:Params):Obj:=hF "is_record_of" "is_record_of" "oldhands.values" (top 38) 406 194
noncomputable def yI (P:Params):Obj:=hS []
noncomputable def yJ (P:Params):Obj:=hN
noncomputable def yK (P:Params):Obj:=hS [.str ("pair") 455,.str ("field") 456]
noncomputable def yL (P:Params):Obj:=hS []
noncomputable def yM (P:Params):Obj:=hU "is_pair_of" "is_pair_of" (top 39)
noncomputable def sE (P:Params):Obj:=hC "is_pair_of" "is_pair_of" 452 453 454 [.int 129 0,.int 2 0,.int 0 0,.int 0 0,.int 3 0,.ref 196,.bool true,.int 181 0,.ref 197,.none,.ref 198,.ref 199,.ref 200,.int 457 0,.int 129 0,hT 458]
noncomputable def sF (P:Params):Obj:=hF "is_pair_of" "is_pair_of" "oldhands.values" (top 39) 406 201
noncomputable def yN (P:Params):Obj:=hS []
noncomputable def yO (P:Params):Obj:=hN
noncomputable def yP (P:Params):Obj:=hU "are_keyed" "are_keyed" (top 40)
noncomputable def sG (P:Params):Obj:=hC "are_keyed" "are_keyed" 460 461 462 [.int 133 0,.int 2 0,.int 0 0,.int 0 0,.int 3 0,.ref 203,.bool true,.int 181 0,.ref 204,.none,.none,.none,.ref 205,.int 463 0,.int 133 0,hT 464]
noncomputable def sH (P:Params):Obj:=hF "are_keyed" "are_keyed" "oldhands.values" (top 40) 406 206
noncomputable def yQ (P:Params):Obj:=hS []
noncomputable def yR (P:Params):Obj:=hN
noncomputable def yS (P:Params):Obj:=hU "least_value" "least_value" (top 41)
noncomputable def sI (P:Params):Obj:=hC "least_value" "least_value" 466 467 468 [.int 136 0,.int 1 0,.int 0 0,.int 0 0,.int 3 0,.ref 208,.bool true,.int 181 0,.ref 209,.none,.none,.none,.ref 210,.int 469 0,.int 136 0,hT 470]
noncomputable def sJ (P:Params):Obj:=hF "least_value" "least_value" "oldhands.values" (top 41) 406 211
noncomputable def yT (P:Params):Obj:=hS []
noncomputable def yU (P:Params):Obj:=hN
noncomputable def yV (P:Params):Obj:=hS [.str ("record") 475,.str ("name") 476,.str ("own") 477,.str ("value") 478]
noncomputable def yW (P:Params):Obj:=hS []
noncomputable def yX (P:Params):Obj:=hU "field_of" "field_of" (top 42)
noncomputable def sK (P:Params):Obj:=hC "field_of" "field_of" 472 473 474 [.int 147 0,.int 2 0,.int 0 0,.int 0 0,.int 3 0,.ref 213,.bool true,.int 181 0,.ref 214,.none,.ref 215,.ref 216,.ref 217,.int 479 0,.int 147 0,hT 480]
noncomputable def sL (P:Params):Obj:=hF "field_of" "field_of" "oldhands.values" (top 42) 406 218
noncomputable def yY (P:Params):Obj:=hS []
noncomputable def yZ (P:Params):Obj:=hN
noncomputable def y0 (P:Params):Obj:=hU "record_of" "record_of" (top 43)
noncomputable def sM (P:Params):Obj:=hC "record_of" "record_of" 482 483 484 [.int 152 0,.int 1 0,.int 0 0,.int 0 0,.int 3 0,.ref 220,.bool true,.int 181 0,.ref 221,.none,.none,.none,.ref 222,.int 485 0,.int 152 0,hT 486]
noncomputable def sN (P:Params):Obj:=hF "record_of" "record_of" "oldhands.values" (top 43) 406 223
noncomputable def y3 (P:Params):Obj:=hS []
noncomputable def y4 (P:Params):Obj:=hN
noncomputable def y6 (P:Params):Obj:=hS [.str ("record") 491,.str ("names") 492,.str ("values") 493,.str ("fields") 494,.str ("name") 495,.str ("value") 496]
noncomputable def y7 (P:Params):Obj:=hS []
noncomputable def y8 (P:Params):Obj:=hU "with_fields" "with_fields" (top 44)
noncomputable def sO (P:Params):Obj:=hC "with_fields" "with_fields" 488 489 490 [.int 154 0,.int 3 0,.int 0 0,.int 0 0,.int 3 0,.ref 225,.bool true,.int 181 0,.ref 226,.none,.ref 227,.ref 228,.ref 229,.int 497 0,.int 154 0,hT 498]
noncomputable def sP (P:Params):Obj:=hF "with_fields" "with_fields" "oldhands.values" (top 44) 406 230
noncomputable def y9 (P:Params):Obj:=hS []
noncomputable def za (P:Params):Obj:=hN
noncomputable def zb (P:Params):Obj:=hU "without_fields" "without_fields" (top 45)
noncomputable def sQ (P:Params):Obj:=hC "without_fields" "without_fields" 500 501 502 [.int 159 0,.int 2 0,.int 0 0,.int 0 0,.int 3 0,.ref 232,.bool true,.int 181 0,.ref 233,.none,.none,.none,.ref 234,.int 503 0,.int 159 0,hT 504]
noncomputable def sR (P:Params):Obj:=hF "without_fields" "without_fields" "oldhands.values" (top 45) 406 235
noncomputable def sS (P:Params):Obj:={ cls:=.type "dict",data:=.dict #[hE P "bounds" 514 (.int 3 515),hE P "scale" 516 (.int 2 517),hE P "shrink" 518 (.int 2 519),hE P "figures" 520 (.int 2 521),hE P "number" 522 (.int 3 523),hE P "words" 524 (.int 3 525),hE P "cut" 526 (.int 2 527),hE P "first" 528 (.int 2 529),hE P "one" 530 (.int 2 531),hE P "out" 532 (.int 1 533),hE P "items" 534 (.int 2 535)] 11 }
noncomputable def sT (P:Params):Obj:={ cls:=.type "dict",data:=.dict #[hE P "bounds" 548 (.ref 239),hE P "scale" 550 (.ref 240),hE P "shrink" 552 (.ref 241),hE P "figures" 554 (.ref 242),hE P "number" 556 (.ref 243),hE P "words" 558 (.ref 244),hE P "cut" 560 (.ref 245),hE P "first" 562 (.ref 246),hE P "out" 565 (.ref 247),hE P "items" 567 (.ref 248)] 10 }
noncomputable def sU (P:Params):Obj:=hS [.str ("number") 549]
noncomputable def sV (P:Params):Obj:=hS [.str ("number") 551]
noncomputable def sW (P:Params):Obj:=hS [.str ("number") 553]
noncomputable def sX (P:Params):Obj:=hS [.str ("number") 555]
noncomputable def sY (P:Params):Obj:=hS [.str ("text") 557]
noncomputable def sZ (P:Params):Obj:=hS [.str ("choice") 559]
noncomputable def tj (P:Params):Obj:=hS [.str ("text") 561]
noncomputable def tt (P:Params):Obj:=hS [.str ("list") 563,.str ("rows") 564]
noncomputable def tu (P:Params):Obj:=hS [.str ("list") 566]
noncomputable def tw (P:Params):Obj:=hS [.str ("list") 568]
noncomputable def zc (P:Params):Obj:=hS []
noncomputable def zd (P:Params):Obj:=hN
noncomputable def ze (P:Params):Obj:=hS [.str ("number") 583]
noncomputable def zf (P:Params):Obj:=hS []
noncomputable def zg (P:Params):Obj:=hU "figures_of" "figures_of" (top 52)
noncomputable def tz (P:Params):Obj:=hC "figures_of" "figures_of" 580 581 582 [.int 167 0,.int 1 0,.int 0 0,.int 0 0,.int 3 0,.ref 249,.bool true,.int 181 0,.ref 250,.none,.ref 251,.ref 252,.ref 253,.int 584 0,.int 167 0,hT 585]
noncomputable def tF (P:Params):Obj:=hF "figures_of" "figures_of" "oldhands.turns" (top 52) 506 254
noncomputable def zh (P:Params):Obj:=hS []
noncomputable def zi (P:Params):Obj:=hN
noncomputable def zj (P:Params):Obj:=hU "number_of" "number_of" (top 53)
noncomputable def tG (P:Params):Obj:=hC "number_of" "number_of" 587 588 589 [.int 169 0,.int 1 0,.int 0 0,.int 0 0,.int 3 0,.ref 256,.bool true,.int 181 0,.ref 257,.none,.none,.none,.ref 258,.int 590 0,.int 169 0,hT 591]
noncomputable def tH (P:Params):Obj:=hF "number_of" "number_of" "oldhands.turns" (top 53) 506 259
noncomputable def zk (P:Params):Obj:=hS []
noncomputable def zl (P:Params):Obj:=hN
noncomputable def zm (P:Params):Obj:=hS [.str ("number") 596,.str ("low") 597,.str ("high") 598]
noncomputable def zn (P:Params):Obj:=hS []
noncomputable def zo (P:Params):Obj:=hU "nearest" "nearest" (top 54)
noncomputable def tI (P:Params):Obj:=hC "nearest" "nearest" 593 594 595 [.int 176 0,.int 3 0,.int 0 0,.int 0 0,.int 3 0,.ref 261,.bool true,.int 181 0,.ref 262,.none,.ref 263,.ref 264,.ref 265,.int 599 0,.int 176 0,hT 600]
noncomputable def tJ (P:Params):Obj:=hF "nearest" "nearest" "oldhands.turns" (top 54) 506 266
noncomputable def zp (P:Params):Obj:=hS []
noncomputable def zq (P:Params):Obj:=hN
noncomputable def zr (P:Params):Obj:=hS [.str ("thing") 605]
noncomputable def zt (P:Params):Obj:=hS []
noncomputable def zu (P:Params):Obj:=hU "is_factor" "is_factor" (top 55)
noncomputable def tK (P:Params):Obj:=hC "is_factor" "is_factor" 602 603 604 [.int 178 0,.int 1 0,.int 0 0,.int 0 0,.int 3 0,.ref 268,.bool true,.int 181 0,.ref 269,.none,.ref 270,.ref 271,.ref 272,.int 606 0,.int 178 0,hT 607]
noncomputable def tL (P:Params):Obj:=hF "is_factor" "is_factor" "oldhands.turns" (top 55) 506 273
noncomputable def zv (P:Params):Obj:=hS []
noncomputable def zw (P:Params):Obj:=hN
noncomputable def zx (P:Params):Obj:=hS [.str ("turn") 612,.str ("kind") 613]
noncomputable def zy (P:Params):Obj:=hS []
noncomputable def zA (P:Params):Obj:=hU "kind_behind" "kind_behind" (top 56)
noncomputable def tM (P:Params):Obj:=hC "kind_behind" "kind_behind" 609 610 611 [.int 180 0,.int 2 0,.int 0 0,.int 0 0,.int 3 0,.ref 275,.bool true,.int 181 0,.ref 276,.none,.ref 277,.ref 278,.ref 279,.int 614 0,.int 180 0,hT 615]
noncomputable def tN (P:Params):Obj:=hF "kind_behind" "kind_behind" "oldhands.turns" (top 56) 506 280
noncomputable def zB (P:Params):Obj:=hS []
noncomputable def zC (P:Params):Obj:=hN
noncomputable def zD (P:Params):Obj:=hS [.str ("turn") 620,.str ("kind") 621,.str ("word") 622]
noncomputable def zE (P:Params):Obj:=hS []
noncomputable def zF (P:Params):Obj:=hU "is_turn_of" "is_turn_of" (top 57)
noncomputable def tO (P:Params):Obj:=hC "is_turn_of" "is_turn_of" 617 618 619 [.int 187 0,.int 2 0,.int 0 0,.int 0 0,.int 3 0,.ref 282,.bool true,.int 181 0,.ref 283,.none,.ref 284,.ref 285,.ref 286,.int 623 0,.int 187 0,hT 624]
noncomputable def tP (P:Params):Obj:=hF "is_turn_of" "is_turn_of" "oldhands.turns" (top 57) 506 287
noncomputable def zG (P:Params):Obj:=hS []
noncomputable def zH (P:Params):Obj:=hN
noncomputable def zJ (P:Params):Obj:=hS [.str ("thing") 629]
noncomputable def zK (P:Params):Obj:=hS []
noncomputable def zL (P:Params):Obj:=hU "has_turn_parts" "has_turn_parts" (top 58)
noncomputable def tQ (P:Params):Obj:=hC "has_turn_parts" "has_turn_parts" 626 627 628 [.int 208 0,.int 1 0,.int 0 0,.int 0 0,.int 3 0,.ref 289,.bool true,.int 181 0,.ref 290,.none,.ref 291,.ref 292,.ref 293,.int 630 0,.int 208 0,hT 631]
noncomputable def tR (P:Params):Obj:=hF "has_turn_parts" "has_turn_parts" "oldhands.turns" (top 58) 506 294
noncomputable def zM (P:Params):Obj:=hS []
noncomputable def zN (P:Params):Obj:=hN
noncomputable def zO (P:Params):Obj:=hS [.str ("low") 636,.str ("high") 637]
noncomputable def zP (P:Params):Obj:=hS []
noncomputable def zQ (P:Params):Obj:=hU "most_figures" "most_figures" (top 59)
noncomputable def tT (P:Params):Obj:=hC "most_figures" "most_figures" 633 634 635 [.int 212 0,.int 2 0,.int 0 0,.int 0 0,.int 3 0,.ref 296,.bool true,.int 181 0,.ref 297,.none,.ref 298,.ref 299,.ref 300,.int 638 0,.int 212 0,hT 639]
noncomputable def tU (P:Params):Obj:=hF "most_figures" "most_figures" "oldhands.turns" (top 59) 506 301
noncomputable def zR (P:Params):Obj:=hS []
noncomputable def zS (P:Params):Obj:=hN
noncomputable def zT (P:Params):Obj:=hU "are_led_words" "are_led_words" (top 60)
noncomputable def tV (P:Params):Obj:=hC "are_led_words" "are_led_words" 641 642 643 [.int 214 0,.int 3 0,.int 0 0,.int 0 0,.int 3 0,.ref 303,.bool true,.int 181 0,.ref 304,.none,.none,.none,.ref 305,.int 644 0,.int 214 0,hT 645]
noncomputable def tW (P:Params):Obj:=hF "are_led_words" "are_led_words" "oldhands.turns" (top 60) 506 306
noncomputable def zU (P:Params):Obj:=hS []
noncomputable def zV (P:Params):Obj:=hN
noncomputable def zW (P:Params):Obj:=hU "words_behind" "words_behind" (top 61)
noncomputable def tX (P:Params):Obj:=hC "words_behind" "words_behind" 647 648 649 [.int 229 0,.int 1 0,.int 0 0,.int 0 0,.int 3 0,.ref 308,.bool true,.int 181 0,.ref 309,.none,.none,.none,.ref 310,.int 650 0,.int 229 0,hT 651]
noncomputable def tY (P:Params):Obj:=hF "words_behind" "words_behind" "oldhands.turns" (top 61) 506 311
noncomputable def zX (P:Params):Obj:=hS []
noncomputable def zY (P:Params):Obj:=hN
noncomputable def zZ (P:Params):Obj:=hS [.str ("turn") 656,.str ("kind") 657,.str ("word") 658]
noncomputable def z6 (P:Params):Obj:=hS []
noncomputable def z7 (P:Params):Obj:=hU "led_kind" "led_kind" (top 62)
noncomputable def tZ (P:Params):Obj:=hC "led_kind" "led_kind" 653 654 655 [.int 231 0,.int 2 0,.int 0 0,.int 0 0,.int 3 0,.ref 313,.bool true,.int 181 0,.ref 314,.none,.ref 315,.ref 316,.ref 317,.int 659 0,.int 231 0,hT 660]
noncomputable def uc (P:Params):Obj:=hF "led_kind" "led_kind" "oldhands.turns" (top 62) 506 318
noncomputable def z8 (P:Params):Obj:=hS []
noncomputable def z9 (P:Params):Obj:=hN
noncomputable def Aa (P:Params):Obj:=hS [.str ("turn") 665,.str ("kind") 666]
noncomputable def Ab (P:Params):Obj:=hS []
noncomputable def Ac (P:Params):Obj:=hU "turn_about" "turn_about" (top 63)
noncomputable def ud (P:Params):Obj:=hC "turn_about" "turn_about" 662 663 664 [.int 250 0,.int 2 0,.int 0 0,.int 0 0,.int 3 0,.ref 320,.bool true,.int 181 0,.ref 321,.none,.ref 322,.ref 323,.ref 324,.int 667 0,.int 250 0,hT 668]
noncomputable def ue (P:Params):Obj:=hF "turn_about" "turn_about" "oldhands.turns" (top 63) 506 325
noncomputable def Ad (P:Params):Obj:=hS []
noncomputable def Ae (P:Params):Obj:=hN
noncomputable def Af (P:Params):Obj:=hU "led_about" "led_about" (top 64)
noncomputable def uf (P:Params):Obj:=hC "led_about" "led_about" 670 671 672 [.int 253 0,.int 2 0,.int 0 0,.int 0 0,.int 3 0,.ref 327,.bool true,.int 181 0,.ref 328,.none,.none,.none,.ref 329,.int 673 0,.int 253 0,hT 674]
noncomputable def ug (P:Params):Obj:=hF "led_about" "led_about" "oldhands.turns" (top 64) 506 330
noncomputable def Ag (P:Params):Obj:=hS []
noncomputable def Ah (P:Params):Obj:=hN
noncomputable def Ai (P:Params):Obj:=hS [.str ("turn") 679,.str ("kind") 680,.str ("value") 681]
noncomputable def Aj (P:Params):Obj:=hS []
noncomputable def Ak (P:Params):Obj:=hU "turned" "turned" (top 65)
noncomputable def uh (P:Params):Obj:=hC "turned" "turned" 676 677 678 [.int 274 0,.int 3 0,.int 0 0,.int 0 0,.int 3 0,.ref 332,.bool true,.int 181 0,.ref 333,.none,.ref 334,.ref 335,.ref 336,.int 682 0,.int 274 0,hT 683]
noncomputable def ui (P:Params):Obj:=hF "turned" "turned" "oldhands.turns" (top 65) 506 337
noncomputable def Al (P:Params):Obj:=hS []
noncomputable def Am (P:Params):Obj:=hN
noncomputable def An (P:Params):Obj:=hU "led_value" "led_value" (top 66)
noncomputable def uj (P:Params):Obj:=hC "led_value" "led_value" 685 686 687 [.int 277 0,.int 3 0,.int 0 0,.int 0 0,.int 3 0,.ref 339,.bool true,.int 181 0,.ref 340,.none,.none,.none,.ref 341,.int 688 0,.int 277 0,hT 689]
noncomputable def uk (P:Params):Obj:=hF "led_value" "led_value" "oldhands.turns" (top 66) 506 342
noncomputable def Ao (P:Params):Obj:=hS []
noncomputable def Ap (P:Params):Obj:=hN
noncomputable def Aq (P:Params):Obj:=hS [.str ("text") 694,.str ("kind") 695,.str ("number") 696]
noncomputable def Ar (P:Params):Obj:=hS []
noncomputable def As (P:Params):Obj:=hU "read_number" "read_number" (top 67)
noncomputable def ul (P:Params):Obj:=hC "read_number" "read_number" 691 692 693 [.int 300 0,.int 2 0,.int 0 0,.int 0 0,.int 3 0,.ref 344,.bool true,.int 181 0,.ref 345,.none,.ref 346,.ref 347,.ref 348,.int 697 0,.int 300 0,hT 698]
noncomputable def um (P:Params):Obj:=hF "read_number" "read_number" "oldhands.turns" (top 67) 506 349
noncomputable def uo (P:Params):Obj:={ cls:=.type "dict",data:=.dict #[hE P "put" 702 (.ref 352),hE P "drop" 706 (.ref 353),hE P "name" 709 (.ref 354),hE P "sink" 712 (.ref 355),hE P "lift" 715 (.ref 356),hE P "turn" 718 (.ref 357),hE P "split" 721 (.ref 358),hE P "join" 726 (.ref 359),hE P "part" 731 (.ref 360),hE P "whole" 736 (.ref 361)] 10 }
noncomputable def uq (P:Params):Obj:=hS [.str ("text") 703,.str ("tuple") 704,.str ("any") 705]
noncomputable def ur (P:Params):Obj:=hS [.str ("text") 707,.str ("any") 708]
noncomputable def ut (P:Params):Obj:=hS [.str ("text") 710,.str ("text") 711]
noncomputable def uu (P:Params):Obj:=hS [.str ("text") 713,.str ("text") 714]
noncomputable def uv (P:Params):Obj:=hS [.str ("text") 716,.str ("text") 717]
noncomputable def uw (P:Params):Obj:=hS [.str ("text") 719,.str ("tuple") 720]
noncomputable def ux (P:Params):Obj:=hS [.str ("text") 722,.str ("text") 723,.str ("text") 724,.str ("text") 725]
noncomputable def uy (P:Params):Obj:=hS [.str ("text") 727,.str ("text") 728,.str ("text") 729,.str ("text") 730]
noncomputable def uz (P:Params):Obj:=hS [.str ("text") 732,.str ("number") 733,.str ("text") 734,.str ("text") 735]
noncomputable def uA (P:Params):Obj:=hS [.str ("text") 737,.str ("text") 738,.str ("number") 739,.str ("text") 740,.str ("number") 741,.str ("number") 742]
noncomputable def At (P:Params):Obj:=hS []
noncomputable def Au (P:Params):Obj:=hN
noncomputable def Av (P:Params):Obj:=hS [.str ("piece") 757,.str ("word") 758]
noncomputable def Aw (P:Params):Obj:=hS []
noncomputable def Ax (P:Params):Obj:=hU "taken_paths" "taken_paths" (top 70)
noncomputable def uB (P:Params):Obj:=hC "taken_paths" "taken_paths" 754 755 756 [.int 307 0,.int 1 0,.int 0 0,.int 0 0,.int 3 0,.ref 362,.bool true,.int 181 0,.ref 363,.none,.ref 364,.ref 365,.ref 366,.int 759 0,.int 307 0,hT 760]
noncomputable def uC (P:Params):Obj:=hF "taken_paths" "taken_paths" "oldhands.pieces" (top 70) 700 367
noncomputable def Ay (P:Params):Obj:=hS []
noncomputable def Az (P:Params):Obj:=hN
noncomputable def AA (P:Params):Obj:=hS [.str ("piece") 765,.str ("word") 766]
noncomputable def AB (P:Params):Obj:=hS []
noncomputable def AC (P:Params):Obj:=hU "made_paths" "made_paths" (top 71)
noncomputable def uD (P:Params):Obj:=hC "made_paths" "made_paths" 762 763 764 [.int 316 0,.int 1 0,.int 0 0,.int 0 0,.int 3 0,.ref 369,.bool true,.int 181 0,.ref 370,.none,.ref 371,.ref 372,.ref 373,.int 767 0,.int 316 0,hT 768]
noncomputable def uE (P:Params):Obj:=hF "made_paths" "made_paths" "oldhands.pieces" (top 71) 700 374
noncomputable def AD (P:Params):Obj:=hS []
noncomputable def AE (P:Params):Obj:=hN
noncomputable def AF (P:Params):Obj:=hS [.str ("piece") 773,.str ("kind") 774,.str ("kinds") 775]
noncomputable def AG (P:Params):Obj:=hS []
noncomputable def AH (P:Params):Obj:=hU "record_behind" "record_behind" (top 72)
noncomputable def uF (P:Params):Obj:=hC "record_behind" "record_behind" 770 771 772 [.int 329 0,.int 2 0,.int 0 0,.int 0 0,.int 3 0,.ref 376,.bool true,.int 181 0,.ref 377,.none,.ref 378,.ref 379,.ref 380,.int 776 0,.int 329 0,hT 777]
noncomputable def uG (P:Params):Obj:=hF "record_behind" "record_behind" "oldhands.pieces" (top 72) 700 381
noncomputable def AI (P:Params):Obj:=hS []
noncomputable def AJ (P:Params):Obj:=hN
noncomputable def AK (P:Params):Obj:=hU "has_piece_form" "has_piece_form" (top 73)
noncomputable def uH (P:Params):Obj:=hC "has_piece_form" "has_piece_form" 779 780 781 [.int 341 0,.int 1 0,.int 0 0,.int 0 0,.int 3 0,.ref 383,.bool true,.int 181 0,.ref 384,.none,.none,.none,.ref 385,.int 782 0,.int 341 0,hT 783]
noncomputable def uI (P:Params):Obj:=hF "has_piece_form" "has_piece_form" "oldhands.pieces" (top 73) 700 386
noncomputable def AL (P:Params):Obj:=hS []
noncomputable def AM (P:Params):Obj:=hN
noncomputable def AN (P:Params):Obj:=hS [.str ("part") 788,.str ("sort") 789]
noncomputable def AO (P:Params):Obj:=hS []
noncomputable def AQ (P:Params):Obj:=hU "is_part" "is_part" (top 74)
noncomputable def uJ (P:Params):Obj:=hC "is_part" "is_part" 785 786 787 [.int 348 0,.int 2 0,.int 0 0,.int 0 0,.int 3 0,.ref 388,.bool true,.int 181 0,.ref 389,.none,.ref 390,.ref 391,.ref 392,.int 790 0,.int 348 0,hT 791]
noncomputable def uK (P:Params):Obj:=hF "is_part" "is_part" "oldhands.pieces" (top 74) 700 393
noncomputable def AR (P:Params):Obj:=hS []
noncomputable def AS (P:Params):Obj:=hN
noncomputable def AT (P:Params):Obj:=hU "can_take" "can_take" (top 75)
noncomputable def uL (P:Params):Obj:=hC "can_take" "can_take" 793 794 795 [.int 354 0,.int 2 0,.int 0 0,.int 0 0,.int 3 0,.ref 395,.bool true,.int 181 0,.ref 396,.none,.none,.none,.ref 397,.int 796 0,.int 354 0,hT 797]
noncomputable def uM (P:Params):Obj:=hF "can_take" "can_take" "oldhands.pieces" (top 75) 700 398
noncomputable def AU (P:Params):Obj:=hS []
noncomputable def AV (P:Params):Obj:=hN
noncomputable def AW (P:Params):Obj:=hS [.str ("kind") 802,.str ("path") 803,.str ("here") 804,.str ("name") 805]
noncomputable def AX (P:Params):Obj:=hS []
noncomputable def AY (P:Params):Obj:=hU "kind_down" "kind_down" (top 76)
noncomputable def uN (P:Params):Obj:=hC "kind_down" "kind_down" 799 800 801 [.int 360 0,.int 2 0,.int 0 0,.int 0 0,.int 3 0,.ref 400,.bool true,.int 181 0,.ref 401,.none,.ref 402,.ref 403,.ref 404,.int 806 0,.int 360 0,hT 807]
noncomputable def uO (P:Params):Obj:=hF "kind_down" "kind_down" "oldhands.pieces" (top 76) 700 405
noncomputable def AZ (P:Params):Obj:=hS []
noncomputable def A0 (P:Params):Obj:=hN
noncomputable def A1 (P:Params):Obj:=hS [.str ("piece") 812,.str ("kinds") 813,.str ("word") 814]
noncomputable def A2 (P:Params):Obj:=hS []
noncomputable def A3 (P:Params):Obj:=hU "takes_kinds" "takes_kinds" (top 77)
noncomputable def uP (P:Params):Obj:=hC "takes_kinds" "takes_kinds" 809 810 811 [.int 365 0,.int 2 0,.int 0 0,.int 0 0,.int 3 0,.ref 407,.bool true,.int 181 0,.ref 408,.none,.ref 409,.ref 410,.ref 411,.int 815 0,.int 365 0,hT 816]
noncomputable def uQ (P:Params):Obj:=hF "takes_kinds" "takes_kinds" "oldhands.pieces" (top 77) 700 412
noncomputable def A4 (P:Params):Obj:=hS []
noncomputable def A5 (P:Params):Obj:=hN
noncomputable def A6 (P:Params):Obj:=hS [.str ("thing") 821]
noncomputable def A7 (P:Params):Obj:=hS []
noncomputable def A8 (P:Params):Obj:=hU "is_kind" "is_kind" (top 78)
noncomputable def uR (P:Params):Obj:=hC "is_kind" "is_kind" 818 819 820 [.int 380 0,.int 1 0,.int 0 0,.int 0 0,.int 3 0,.ref 414,.bool true,.int 181 0,.ref 415,.none,.ref 416,.ref 417,.ref 418,.int 822 0,.int 380 0,hT 823]
noncomputable def uS (P:Params):Obj:=hF "is_kind" "is_kind" "oldhands.pieces" (top 78) 700 419
noncomputable def A9 (P:Params):Obj:=hS []
noncomputable def Ba (P:Params):Obj:=hN
noncomputable def Bb (P:Params):Obj:=hS [.str ("text") 828]
noncomputable def Bc (P:Params):Obj:=hS []
noncomputable def Bd (P:Params):Obj:=hU "is_separator" "is_separator" (top 79)
noncomputable def uT (P:Params):Obj:=hC "is_separator" "is_separator" 825 826 827 [.int 386 0,.int 1 0,.int 0 0,.int 0 0,.int 3 0,.ref 421,.bool true,.int 181 0,.ref 422,.none,.ref 423,.ref 424,.ref 425,.int 829 0,.int 386 0,hT 830]
noncomputable def uU (P:Params):Obj:=hF "is_separator" "is_separator" "oldhands.pieces" (top 79) 700 426
noncomputable def Be (P:Params):Obj:=hS []
noncomputable def Bf (P:Params):Obj:=hN
noncomputable def Bg (P:Params):Obj:=hS [.str ("low") 835,.str ("high") 836,.str ("factor") 837]
noncomputable def Bh (P:Params):Obj:=hS []
noncomputable def Bi (P:Params):Obj:=hU "part_kinds" "part_kinds" (top 80)
noncomputable def uV (P:Params):Obj:=hC "part_kinds" "part_kinds" 832 833 834 [.int 388 0,.int 3 0,.int 0 0,.int 0 0,.int 3 0,.ref 428,.bool true,.int 181 0,.ref 429,.none,.ref 430,.ref 431,.ref 432,.int 838 0,.int 388 0,hT 839]
noncomputable def uW (P:Params):Obj:=hF "part_kinds" "part_kinds" "oldhands.pieces" (top 80) 700 433
noncomputable def Bj (P:Params):Obj:=hS []
noncomputable def Bk (P:Params):Obj:=hN
noncomputable def Bl (P:Params):Obj:=hS [.str ("piece") 844,.str ("kinds") 845,.str ("word") 846]
noncomputable def Bm (P:Params):Obj:=hS []
noncomputable def Bn (P:Params):Obj:=hU "made_kinds" "made_kinds" (top 81)
noncomputable def uX (P:Params):Obj:=hC "made_kinds" "made_kinds" 841 842 843 [.int 390 0,.int 2 0,.int 0 0,.int 0 0,.int 3 0,.ref 435,.bool true,.int 181 0,.ref 436,.none,.ref 437,.ref 438,.ref 439,.int 847 0,.int 390 0,hT 848]
noncomputable def uY (P:Params):Obj:=hF "made_kinds" "made_kinds" "oldhands.pieces" (top 81) 700 440
noncomputable def Bo (P:Params):Obj:=hS []
noncomputable def Bp (P:Params):Obj:=hN
noncomputable def Bq (P:Params):Obj:=hU "can_make" "can_make" (top 82)
noncomputable def uZ (P:Params):Obj:=hC "can_make" "can_make" 850 851 852 [.int 405 0,.int 2 0,.int 0 0,.int 0 0,.int 3 0,.ref 442,.bool true,.int 181 0,.ref 443,.none,.none,.none,.ref 444,.int 853 0,.int 405 0,hT 854]
noncomputable def u0 (P:Params):Obj:=hF "can_make" "can_make" "oldhands.pieces" (top 82) 700 445
noncomputable def Br (P:Params):Obj:=hS []
noncomputable def Bs (P:Params):Obj:=hN
noncomputable def Bt (P:Params):Obj:=hS [.str ("kind") 859,.str ("path") 860,.str ("outer") 861]
noncomputable def Bu (P:Params):Obj:=hS []
noncomputable def Bv (P:Params):Obj:=hU "is_free" "is_free" (top 83)
noncomputable def u5 (P:Params):Obj:=hC "is_free" "is_free" 856 857 858 [.int 411 0,.int 2 0,.int 0 0,.int 0 0,.int 3 0,.ref 447,.bool true,.int 181 0,.ref 448,.none,.ref 449,.ref 450,.ref 451,.int 862 0,.int 411 0,hT 863]
noncomputable def u6 (P:Params):Obj:=hF "is_free" "is_free" "oldhands.pieces" (top 83) 700 452
noncomputable def Bw (P:Params):Obj:=hS []
noncomputable def Bx (P:Params):Obj:=hN
noncomputable def By (P:Params):Obj:=hS [.str ("piece") 868,.str ("kind") 869,.str ("word") 870,.str ("elder") 871]
noncomputable def Bz (P:Params):Obj:=hS []
noncomputable def BA (P:Params):Obj:=hU "piece_about" "piece_about" (top 84)
noncomputable def u7 (P:Params):Obj:=hC "piece_about" "piece_about" 865 866 867 [.int 416 0,.int 2 0,.int 0 0,.int 0 0,.int 3 0,.ref 454,.bool true,.int 181 0,.ref 455,.none,.ref 456,.ref 457,.ref 458,.int 872 0,.int 416 0,hT 873]
noncomputable def u8 (P:Params):Obj:=hF "piece_about" "piece_about" "oldhands.pieces" (top 84) 700 459
noncomputable def BB (P:Params):Obj:=hS []
noncomputable def BC (P:Params):Obj:=hN
noncomputable def BD (P:Params):Obj:=hU "old_values" "old_values" (top 85)
noncomputable def u9 (P:Params):Obj:=hC "old_values" "old_values" 875 876 877 [.int 439 0,.int 2 0,.int 0 0,.int 0 0,.int 3 0,.ref 461,.bool true,.int 181 0,.ref 462,.none,.none,.none,.ref 463,.int 878 0,.int 439 0,hT 879]
noncomputable def ve (P:Params):Obj:=hF "old_values" "old_values" "oldhands.pieces" (top 85) 700 464
noncomputable def BE (P:Params):Obj:=hS []
noncomputable def BF (P:Params):Obj:=hN
noncomputable def BG (P:Params):Obj:=hS [.str ("record") 884,.str ("path") 885,.str ("here") 886,.str ("name") 887]
noncomputable def BH (P:Params):Obj:=hS []
noncomputable def BI (P:Params):Obj:=hU "value_down" "value_down" (top 86)
noncomputable def vf (P:Params):Obj:=hC "value_down" "value_down" 881 882 883 [.int 441 0,.int 2 0,.int 0 0,.int 0 0,.int 3 0,.ref 466,.bool true,.int 181 0,.ref 467,.none,.ref 468,.ref 469,.ref 470,.int 888 0,.int 441 0,hT 889]
noncomputable def vg (P:Params):Obj:=hF "value_down" "value_down" "oldhands.pieces" (top 86) 700 471
noncomputable def BJ (P:Params):Obj:=hS []
noncomputable def BK (P:Params):Obj:=hN
noncomputable def BL (P:Params):Obj:=hS [.str ("piece") 894,.str ("kind") 895,.str ("values") 896,.str ("word") 897]
noncomputable def BM (P:Params):Obj:=hS []
noncomputable def BN (P:Params):Obj:=hU "made_values" "made_values" (top 87)
noncomputable def vh (P:Params):Obj:=hC "made_values" "made_values" 891 892 893 [.int 446 0,.int 3 0,.int 0 0,.int 0 0,.int 3 0,.ref 473,.bool true,.int 181 0,.ref 474,.none,.ref 475,.ref 476,.ref 477,.int 898 0,.int 446 0,hT 899]
noncomputable def vi (P:Params):Obj:=hF "made_values" "made_values" "oldhands.pieces" (top 87) 700 478
noncomputable def BO (P:Params):Obj:=hS []
noncomputable def BP (P:Params):Obj:=hN
noncomputable def BQ (P:Params):Obj:=hS [.str ("text") 904,.str ("separator") 905,.str ("found") 906]
noncomputable def BR (P:Params):Obj:=hS []
noncomputable def BS (P:Params):Obj:=hU "halves" "halves" (top 88)
noncomputable def vj (P:Params):Obj:=hC "halves" "halves" 901 902 903 [.int 463 0,.int 2 0,.int 0 0,.int 0 0,.int 3 0,.ref 480,.bool true,.int 181 0,.ref 481,.none,.ref 482,.ref 483,.ref 484,.int 907 0,.int 463 0,hT 908]
noncomputable def vo (P:Params):Obj:=hF "halves" "halves" "oldhands.pieces" (top 88) 700 485
noncomputable def BU (P:Params):Obj:=hS []
noncomputable def BV (P:Params):Obj:=hN
noncomputable def BW (P:Params):Obj:=hS [.str ("one") 913,.str ("two") 914,.str ("separator") 915,.str ("most") 916,.str ("text") 917]
noncomputable def BX (P:Params):Obj:=hS []
noncomputable def BY (P:Params):Obj:=hU "joined" "joined" (top 89)
noncomputable def vq (P:Params):Obj:=hC "joined" "joined" 910 911 912 [.int 466 0,.int 4 0,.int 0 0,.int 0 0,.int 3 0,.ref 487,.bool true,.int 181 0,.ref 488,.none,.ref 489,.ref 490,.ref 491,.int 918 0,.int 466 0,hT 919]
noncomputable def vv (P:Params):Obj:=hF "joined" "joined" "oldhands.pieces" (top 89) 700 492
noncomputable def BZ (P:Params):Obj:=hS []
noncomputable def B1 (P:Params):Obj:=hN
noncomputable def B2 (P:Params):Obj:=hS [.str ("piece") 924,.str ("kind") 925,.str ("record") 926,.str ("values") 927,.str ("told") 928,.str ("path") 929,.str ("value") 930]
noncomputable def B5 (P:Params):Obj:=hS []
noncomputable def B9 (P:Params):Obj:=hU "with_new" "with_new" (top 90)
noncomputable def vz (P:Params):Obj:=hC "with_new" "with_new" 921 922 923 [.int 471 0,.int 4 0,.int 0 0,.int 0 0,.int 3 0,.ref 494,.bool true,.int 181 0,.ref 495,.none,.ref 496,.ref 497,.ref 498,.int 931 0,.int 471 0,hT 932]
noncomputable def vA (P:Params):Obj:=hF "with_new" "with_new" "oldhands.pieces" (top 90) 700 499
noncomputable def Ca (P:Params):Obj:=hS []
noncomputable def Cb (P:Params):Obj:=hN
noncomputable def Cc (P:Params):Obj:=hS [.str ("piece") 937,.str ("record") 938,.str ("rest") 939,.str ("path") 940]
noncomputable def Cd (P:Params):Obj:=hS []
noncomputable def Ce (P:Params):Obj:=hU "without_taken" "without_taken" (top 91)
noncomputable def vB (P:Params):Obj:=hC "without_taken" "without_taken" 934 935 936 [.int 476 0,.int 2 0,.int 0 0,.int 0 0,.int 3 0,.ref 501,.bool true,.int 181 0,.ref 502,.none,.ref 503,.ref 504,.ref 505,.int 941 0,.int 476 0,hT 942]
noncomputable def vC (P:Params):Obj:=hF "without_taken" "without_taken" "oldhands.pieces" (top 91) 700 506
noncomputable def Cf (P:Params):Obj:=hS []
noncomputable def Cg (P:Params):Obj:=hN
noncomputable def Ch (P:Params):Obj:=hS [.str ("record") 947,.str ("path") 948,.str ("box") 949]
noncomputable def Ci (P:Params):Obj:=hS []
noncomputable def Cj (P:Params):Obj:=hU "without_down" "without_down" (top 92)
noncomputable def vD (P:Params):Obj:=hC "without_down" "without_down" 944 945 946 [.int 481 0,.int 2 0,.int 0 0,.int 0 0,.int 3 0,.ref 508,.bool true,.int 181 0,.ref 509,.none,.ref 510,.ref 511,.ref 512,.int 950 0,.int 481 0,hT 951]
noncomputable def vE (P:Params):Obj:=hF "without_down" "without_down" "oldhands.pieces" (top 92) 700 513
noncomputable def Ck (P:Params):Obj:=hS []
noncomputable def Cl (P:Params):Obj:=hN
noncomputable def Cm (P:Params):Obj:=hS [.str ("record") 956,.str ("path") 957,.str ("value") 958,.str ("box") 959]
noncomputable def Cn (P:Params):Obj:=hS []
noncomputable def Co (P:Params):Obj:=hU "with_down" "with_down" (top 93)
noncomputable def vF (P:Params):Obj:=hC "with_down" "with_down" 953 954 955 [.int 486 0,.int 3 0,.int 0 0,.int 0 0,.int 3 0,.ref 515,.bool true,.int 181 0,.ref 516,.none,.ref 517,.ref 518,.ref 519,.int 960 0,.int 486 0,hT 961]
noncomputable def vG (P:Params):Obj:=hF "with_down" "with_down" "oldhands.pieces" (top 93) 700 520
noncomputable def Cp (P:Params):Obj:=hS []
noncomputable def Cq (P:Params):Obj:=hN
noncomputable def Cr (P:Params):Obj:=hS [.str ("cell") 968,.str ("k") 969,.str ("stir") 970]
noncomputable def Cs (P:Params):Obj:=hS []
noncomputable def Ct (P:Params):Obj:=hU "_law_mixed" "_law_mixed" (top 95)
noncomputable def vH (P:Params):Obj:=hC "_law_mixed" "_law_mixed" 965 966 967 [.int 492 0,.int 2 0,.int 0 0,.int 0 0,.int 3 0,.ref 522,.bool true,.int 181 0,.ref 523,.none,.ref 524,.ref 525,.ref 526,.int 971 0,.int 492 0,hT 972]
noncomputable def vI (P:Params):Obj:=hF "_law_mixed" "_law_mixed" "law_oldhands_k26_numbers_parted" (top 95) 963 527
noncomputable def Cu (P:Params):Obj:=hS []
noncomputable def Cv (P:Params):Obj:=hN
noncomputable def Cw (P:Params):Obj:=hS [.str ("script") 977,.str ("k") 978,.str ("cell") 979,.str ("j") 980,.str ("found") 981]
noncomputable def Cy (P:Params):Obj:=hS []
noncomputable def Cz (P:Params):Obj:=hU "_law_stream" "_law_stream" (top 96)
noncomputable def vJ (P:Params):Obj:=hC "_law_stream" "_law_stream" 974 975 976 [.int 495 0,.int 2 0,.int 0 0,.int 0 0,.int 3 0,.ref 529,.bool true,.int 181 0,.ref 530,.none,.ref 531,.ref 532,.ref 533,.int 982 0,.int 495 0,hT 983]
noncomputable def vK (P:Params):Obj:=hF "_law_stream" "_law_stream" "law_oldhands_k26_numbers_parted" (top 96) 963 534
noncomputable def CA (P:Params):Obj:=hS []
noncomputable def CB (P:Params):Obj:=hN
noncomputable def CC (P:Params):Obj:=hS [.str ("row") 988,.str ("many") 989,.str ("digit") 990]
noncomputable def CD (P:Params):Obj:=hS []
noncomputable def CF (P:Params):Obj:=hU "_law_digit" "_law_digit" (top 97)
noncomputable def vL (P:Params):Obj:=hC "_law_digit" "_law_digit" 985 986 987 [.int 505 0,.int 2 0,.int 0 0,.int 0 0,.int 3 0,.ref 536,.bool true,.int 181 0,.ref 537,.none,.ref 538,.ref 539,.ref 540,.int 991 0,.int 505 0,hT 992]
noncomputable def vM (P:Params):Obj:=hF "_law_digit" "_law_digit" "law_oldhands_k26_numbers_parted" (top 97) 963 541
noncomputable def CG (P:Params):Obj:=hS []
noncomputable def CH (P:Params):Obj:=hN
noncomputable def CI (P:Params):Obj:=hS [.str ("script") 997,.str ("j") 998,.str ("row") 999,.str ("low") 1000,.str ("high") 1001,.str ("k") 1002,.str ("kind") 1003,.str ("part") 1004,.str ("behind") 1005,.str ("about") 1006,.str ("met") 1007,.str ("first") 1008,.str ("number") 1009,.str ("parts") 1010,.str ("turn") 1011,.str ("one") 1012,.str ("two") 1013,.str ("due") 1014]
noncomputable def CJ (P:Params):Obj:=hS []
noncomputable def CK (P:Params):Obj:=hU "law" "law" (top 98)
noncomputable def vN (P:Params):Obj:=hC "law" "law" 994 995 996 [.int 509 0,.int 1 0,.int 0 0,.int 0 0,.int 3 0,.ref 543,.bool true,.int 181 0,.ref 544,.none,.ref 545,.ref 546,.ref 547,.int 1015 0,.int 509 0,hT 1016]
noncomputable def vO (P:Params):Obj:=hF "law" "law" "law_oldhands_k26_numbers_parted" (top 98) 963 548
noncomputable abbrev N (v:Obj) (l r:PySem.W.BT):PySem.W.BT:=.node v l r
noncomputable abbrev E:PySem.W.BT:=.nil
noncomputable def fT (P:Params):PySem.W.BT:=N (o0 P) (N (o1 P) (N (o3 P) (N (o7 P) (N (o15 P) (N (o31 P) (N (o63 P) (N (rM P) (N (tF P) (N (Ci P) E E) E) (N (AI P) E E)) (N (yF P) (N (uc P) E E) (N (Br P) E E))) (N (o95 P) (N (rZ P) (N (tO P) (N (CG P) E E) E) (N (A5 P) E E)) (N (sM P) (N (uo P) E E) (N (vi P) E E)))) (N (o47 P) (N (o79 P) (N (x8 P) (N (zt P) (N (vH P) E E) E) (N (uM P) E E)) (N (sH P) (N (Aj P) E E) (N (BD P) E E))) (N (rG P) (N (yv P) (N (zR P) E E) (N (Bh P) E E)) (N (sU P) (N (uB P) E E) (N (B1 P) E E))))) (N (o23 P) (N (o39 P) (N (o71 P) (N (rP P) (N (zm P) (N (Co P) E E) E) (N (AO P) E E)) (N (yL P) (N (Ad P) E E) (N (Bx P) E E))) (N (rD P) (N (yo P) (N (tR P) E E) (N (Bb P) E E)) (N (sP P) (N (uy P) E E) (N (BU P) E E)))) (N (o55 P) (N (o87 P) (N (ye P) (N (zA P) (N (vK P) E E) E) (N (AZ P) E E)) (N (yV P) (N (uk P) E E) (N (vf P) E E))) (N (xL P) (N (yB P) (N (tX P) E E) (N (Bn P) E E)) (N (tu P) (N (uE P) E E) (N (Cc P) E E)))))) (N (o11 P) (N (o19 P) (N (o35 P) (N (o67 P) (N (xT P) (N (tG P) (N (Ck P) E E) E) (N (uI P) E E)) (N (sD P) (N (Ab P) E E) (N (Bv P) E E))) (N (o99 P) (N (ym P) (N (zJ P) (N (CK P) E E) E) (N (uR P) E E)) (N (y6 P) (N (uu P) E E) (N (BR P) E E)))) (N (o51 P) (N (o83 P) (N (yc P) (N (zv P) (N (Cw P) E E) E) (N (AX P) E E)) (N (sI P) (N (Al P) E E) (N (BF P) E E))) (N (rH P) (N (yx P) (N (tW P) E E) (N (Bj P) E E)) (N (sY P) (N (AA P) E E) (N (vz P) E E))))) (N (o27 P) (N (o43 P) (N (o75 P) (N (xZ P) (N (tJ P) (N (Cq P) E E) E) (N (AR P) E E)) (N (yN P) (N (ug P) E E) (N (u7 P) E E))) (N (xD P) (N (yt P) (N (zP P) E E) (N (uU P) E E)) (N (sQ P) (N (Au P) E E) (N (BY P) E E)))) (N (o59 P) (N (o91 P) (N (yg P) (N (zC P) (N (CD P) E E) E) (N (A3 P) E E)) (N (sL P) (N (Ar P) E E) (N (BL P) E E))) (N (xN P) (N (yD P) (N (zZ P) E E) (N (Bp P) E E)) (N (ze P) (N (AG P) E E) (N (vC P) E E))))))) (N (o5 P) (N (o9 P) (N (o17 P) (N (o33 P) (N (o65 P) (N (xR P) (N (zi P) (N (vD P) E E) E) (N (AK P) E E)) (N (yH P) (N (z9 P) E E) (N (Bt P) E E))) (N (o97 P) (N (yk P) (N (zG P) (N (CI P) E E) E) (N (A7 P) E E)) (N (y3 P) (N (ur P) E E) (N (BP P) E E)))) (N (o49 P) (N (o81 P) (N (ya P) (N (tK P) (N (Cu P) E E) E) (N (AV P) E E)) (N (yR P) (N (uh P) E E) (N (ve P) E E))) (N (xH P) (N (sr P) (N (zT P) E E) (N (uV P) E E)) (N (sW P) (N (Ay P) E E) (N (B5 P) E E))))) (N (o25 P) (N (o41 P) (N (o73 P) (N (xX P) (N (zo P) (N (vG P) E E) E) (N (uJ P) E E)) (N (sE P) (N (Af P) E E) (N (Bz P) E E))) (N (xB P) (N (yq P) (N (zN P) E E) (N (Bd P) E E)) (N (za P) (N (uA P) E E) (N (BW P) E E)))) (N (o57 P) (N (o89 P) (N (rW P) (N (tN P) (N (CB P) E E) E) (N (A1 P) E E)) (N (yX P) (N (Ap P) E E) (N (BJ P) E E))) (N (rL P) (N (sw P) (N (zX P) E E) (N (uY P) E E)) (N (zc P) (N (AE P) E E) (N (Ce P) E E)))))) (N (o13 P) (N (o21 P) (N (o37 P) (N (o69 P) (N (xV P) (N (zk P) (N (Cm P) E E) E) (N (AM P) E E)) (N (yJ P) (N (ud P) E E) (N (u6 P) E E))) (N (xz P) (N (sh P) (N (zL P) (N (vO P) E E) E) (N (A9 P) E E)) (N (y8 P) (N (uw P) E E) (N (vj P) E E)))) (N (o53 P) (N (o85 P) (N (rV P) (N (zx P) (N (Cz P) E E) E) (N (uN P) E E)) (N (yT P) (N (An P) E E) (N (BH P) E E))) (N (xJ P) (N (yz P) (N (zV P) E E) (N (Bl P) E E)) (N (tj P) (N (AC P) E E) (N (Ca P) E E))))) (N (o29 P) (N (o45 P) (N (o77 P) (N (rQ P) (N (zq P) (N (Cs P) E E) E) (N (AT P) E E)) (N (yP P) (N (Ah P) E E) (N (BB P) E E))) (N (xF P) (N (sq P) (N (tT P) E E) (N (Bf P) E E)) (N (sS P) (N (Aw P) E E) (N (vv P) E E)))) (N (o61 P) (N (o93 P) (N (yi P) (N (zE P) (N (vL P) E E) E) (N (uQ P) E E)) (N (yZ P) (N (ul P) E E) (N (BN P) E E))) (N (xP P) (N (sx P) (N (z7 P) E E) (N (uZ P) E E)) (N (zg P) (N (uF P) E E) (N (Cg P) E E)))))))) (N (o2 P) (N (o4 P) (N (o8 P) (N (o16 P) (N (o32 P) (N (o64 P) (N (rN P) (N (zh P) (N (Cj P) E E) E) (N (AJ P) E E)) (N (yG P) (N (z8 P) E E) (N (Bs P) E E))) (N (o96 P) (N (yj P) (N (tP P) (N (CH P) E E) E) (N (A6 P) E E)) (N (sN P) (N (uq P) E E) (N (BO P) E E)))) (N (o48 P) (N (o80 P) (N (x9 P) (N (zu P) (N (vI P) E E) E) (N (AU P) E E)) (N (yQ P) (N (Ak P) E E) (N (u9 P) E E))) (N (xG P) (N (yw P) (N (zS P) E E) (N (Bi P) E E)) (N (sV P) (N (uC P) E E) (N (B2 P) E E))))) (N (o24 P) (N (o40 P) (N (o72 P) (N (xW P) (N (zn P) (N (vF P) E E) E) (N (AQ P) E E)) (N (yM P) (N (Ae P) E E) (N (By P) E E))) (N (rE P) (N (yp P) (N (zM P) E E) (N (Bc P) E E)) (N (y9 P) (N (uz P) E E) (N (BV P) E E)))) (N (o56 P) (N (o88 P) (N (yf P) (N (tM P) (N (CA P) E E) E) (N (A0 P) E E)) (N (yW P) (N (Ao P) E E) (N (vg P) E E))) (N (rK P) (N (sv P) (N (tY P) E E) (N (uX P) E E)) (N (tw P) (N (AD P) E E) (N (Cd P) E E)))))) (N (o12 P) (N (o20 P) (N (o36 P) (N (o68 P) (N (xU P) (N (tH P) (N (Cl P) E E) E) (N (AL P) E E)) (N (yI P) (N (Ac P) E E) (N (u5 P) E E))) (N (xx P) (N (yn P) (N (zK P) (N (vN P) E E) E) (N (uS P) E E)) (N (y7 P) (N (uv P) E E) (N (BS P) E E)))) (N (o52 P) (N (o84 P) (N (rS P) (N (zw P) (N (Cy P) E E) E) (N (AY P) E E)) (N (sJ P) (N (Am P) E E) (N (BG P) E E))) (N (rJ P) (N (yy P) (N (zU P) E E) (N (Bk P) E E)) (N (sZ P) (N (AB P) E E) (N (vA P) E E))))) (N (o28 P) (N (o44 P) (N (o76 P) (N (x6 P) (N (zp P) (N (Cr P) E E) E) (N (AS P) E E)) (N (yO P) (N (Ag P) E E) (N (u8 P) E E))) (N (xE P) (N (sk P) (N (zQ P) E E) (N (Be P) E E)) (N (sR P) (N (Av P) E E) (N (vq P) E E)))) (N (o60 P) (N (o92 P) (N (yh P) (N (zD P) (N (CF P) E E) E) (N (uP P) E E)) (N (yY P) (N (As P) E E) (N (BM P) E E))) (N (xO P) (N (yE P) (N (z6 P) E E) (N (Bq P) E E)) (N (zf P) (N (AH P) E E) (N (Cf P) E E))))))) (N (o6 P) (N (o10 P) (N (o18 P) (N (o34 P) (N (o66 P) (N (xS P) (N (zj P) (N (vE P) E E) E) (N (uH P) E E)) (N (sC P) (N (Aa P) E E) (N (Bu P) E E))) (N (o98 P) (N (yl P) (N (zH P) (N (CJ P) E E) E) (N (A8 P) E E)) (N (y4 P) (N (ut P) E E) (N (BQ P) E E)))) (N (o50 P) (N (o82 P) (N (yb P) (N (tL P) (N (Cv P) E E) E) (N (AW P) E E)) (N (yS P) (N (ui P) E E) (N (BE P) E E))) (N (xI P) (N (su P) (N (tV P) E E) (N (uW P) E E)) (N (sX P) (N (Az P) E E) (N (B9 P) E E))))) (N (o26 P) (N (o42 P) (N (o74 P) (N (xY P) (N (tI P) (N (Cp P) E E) E) (N (uK P) E E)) (N (sF P) (N (uf P) E E) (N (BA P) E E))) (N (xC P) (N (yr P) (N (zO P) E E) (N (uT P) E E)) (N (zb P) (N (At P) E E) (N (BX P) E E)))) (N (o58 P) (N (o90 P) (N (rX P) (N (zB P) (N (CC P) E E) E) (N (A2 P) E E)) (N (sK P) (N (Aq P) E E) (N (BK P) E E))) (N (xM P) (N (yC P) (N (zY P) E E) (N (Bo P) E E)) (N (zd P) (N (AF P) E E) (N (vB P) E E)))))) (N (o14 P) (N (o22 P) (N (o38 P) (N (o70 P) (N (rO P) (N (zl P) (N (Cn P) E E) E) (N (AN P) E E)) (N (yK P) (N (ue P) E E) (N (Bw P) E E))) (N (xA P) (N (sj P) (N (tQ P) E E) (N (Ba P) E E)) (N (sO P) (N (ux P) E E) (N (vo P) E E)))) (N (o54 P) (N (o86 P) (N (yd P) (N (zy P) (N (vJ P) E E) E) (N (uO P) E E)) (N (yU P) (N (uj P) E E) (N (BI P) E E))) (N (xK P) (N (yA P) (N (zW P) E E) (N (Bm P) E E)) (N (tt P) (N (uD P) E E) (N (Cb P) E E))))) (N (o30 P) (N (o46 P) (N (o78 P) (N (rR P) (N (zr P) (N (Ct P) E E) E) (N (uL P) E E)) (N (sG P) (N (Ai P) E E) (N (BC P) E E))) (N (rF P) (N (yu P) (N (tU P) E E) (N (Bg P) E E)) (N (sT P) (N (Ax P) E E) (N (BZ P) E E)))) (N (o62 P) (N (o94 P) (N (rY P) (N (zF P) (N (vM P) E E) E) (N (A4 P) E E)) (N (y0 P) (N (um P) E E) (N (vh P) E E))) (N (xQ P) (N (sy P) (N (tZ P) E E) (N (u0 P) E E)) (N (tz P) (N (uG P) E E) (N (Ch P) E E))))))))
noncomputable def fO (P:Params) (i:Nat):Obj:=match (fT P).get i with | some v=>v | none=>hN
noncomputable def mT (P:Params) (n:Nat):Nat→Nat→Nat→PySem.W.BT
 | 0,_,_=>.nil
 | k+1,a,b=>match Nat.blt b n with
  | true=>.node (fO P b) (mT P n k (Nat.mul 2 a) (Nat.add a b)) (mT P n k (Nat.mul 2 a) (Nat.add (Nat.mul 2 a) b))
  | false=>.nil
noncomputable abbrev hA1:Option Value:=some (.ref 6)
noncomputable abbrev hB1:List Frame:=[PySem.W.topFrame ⟨0,0,0,0⟩]
noncomputable def aZ:Env:={ scope:=PySem.Challenge.pw_oldhands_k26_numbers_parted.main.scope,locals:=mainNs,globals:=mainNs,cells:=[],code:=.ref 13,frame:=some 14 }
noncomputable abbrev hCo:Code:=.body (PySem.W.behindTheImports PySem.Challenge.pw_oldhands_k26_numbers_parted) aZ
noncomputable def hp0 (P:Params):Heap:=⟨Array.mk (o0 P :: o1 P :: o2 P :: (gD P "__main__" 164 8 9) :: o4 P :: o5 P :: o6 P :: o7 P :: o8 P :: o9 P :: o10 P :: o11 P :: (tD 0) :: o13 P :: o14 P :: []),{}⟩
noncomputable def tB (P:Params):PySem.W.BT:=((mT P 15 11 1 0).set 3 (fun _=>gD P "__main__" 164 8 9)).set 12 (fun _=>tD 0)
noncomputable def sB (w:World) (os:OsState):PySem.W.SharedT:=⟨tB w.params,15,{},Array.mk [],{},187,os⟩
noncomputable def t0 (P:Params):PySem.W.BT:=(((mT P 28 11 1 0).set 3 (fun _=>gD P "oldhands.errors" 187 9 10)).set 12 (fun _=>tD 3)).set 24 (fun _=>{ cls:=.type "type",data:=.cls { name:= "HandError",bases:=[.type "ValueError"],mro:=[.ref 24,.type "ValueError",.type "Exception",.type "BaseException",.type "object"],ns:=23,qualname:= "HandError" },slots:=#[some (.ref 15),none,some (.str ("HandError") 189),some (.str ("HandError") 197),some (.builtin "ValueError.__new__"),some (.bool true)] })
noncomputable def s0 (w:World) (os:OsState):PySem.W.SharedT:=⟨t0 w.params,28,{},Array.mk [],{},207,os⟩
noncomputable def st0:List Stmt:=((PySem.W.behindTheImports PySem.Challenge.pw_oldhands_k26_numbers_parted).drop 0).take 2
noncomputable def t1 (P:Params):PySem.W.BT:=(((mT P 40 11 1 0).set 3 (fun _=>gD P "oldhands.errors" 187 10 11)).set 12 (fun _=>tD 6)).set 24 (fun _=>{ cls:=.type "type",data:=.cls { name:= "HandError",bases:=[.type "ValueError"],mro:=[.ref 24,.type "ValueError",.type "Exception",.type "BaseException",.type "object"],ns:=23,qualname:= "HandError",subclasses:=[.ref 37] },slots:=#[some (.ref 15),none,some (.str ("HandError") 189),some (.str ("HandError") 197),some (.builtin "ValueError.__new__"),some (.bool true)] })
noncomputable def s1 (w:World) (os:OsState):PySem.W.SharedT:=⟨t1 w.params,40,{},Array.mk [],{},223,os⟩
noncomputable def st1:List Stmt:=((PySem.W.behindTheImports PySem.Challenge.pw_oldhands_k26_numbers_parted).drop 2).take 1
noncomputable def t2 (P:Params):PySem.W.BT:=(((mT P 52 11 1 0).set 3 (fun _=>gD P "oldhands.errors" 187 11 12)).set 12 (fun _=>tD 9)).set 24 (fun _=>{ cls:=.type "type",data:=.cls { name:= "HandError",bases:=[.type "ValueError"],mro:=[.ref 24,.type "ValueError",.type "Exception",.type "BaseException",.type "object"],ns:=23,qualname:= "HandError",subclasses:=[.ref 37,.ref 49] },slots:=#[some (.ref 15),none,some (.str ("HandError") 189),some (.str ("HandError") 197),some (.builtin "ValueError.__new__"),some (.bool true)] })
noncomputable def s2 (w:World) (os:OsState):PySem.W.SharedT:=⟨t2 w.params,52,{},Array.mk [],{},239,os⟩
noncomputable def st2:List Stmt:=((PySem.W.behindTheImports PySem.Challenge.pw_oldhands_k26_numbers_parted).drop 3).take 1
noncomputable def t3 (P:Params):PySem.W.BT:=((mT P 64 11 1 0).set 3 (fun _=>gD P "oldhands.kinds" 255 21 22)).set 12 (fun _=>tD 12)
noncomputable def s3 (w:World) (os:OsState):PySem.W.SharedT:=⟨t3 w.params,64,{},Array.mk [],{},275,os⟩
noncomputable def st3:List Stmt:=((PySem.W.behindTheImports PySem.Challenge.pw_oldhands_k26_numbers_parted).drop 4).take 11
noncomputable def t4 (P:Params):PySem.W.BT:=((mT P 129 11 1 0).set 3 (fun _=>gD P "oldhands.kinds" 255 32 33)).set 12 (fun _=>tD 42)
noncomputable def s4 (w:World) (os:OsState):PySem.W.SharedT:=⟨t4 w.params,129,{},Array.mk [],{},367,os⟩
noncomputable def st4:List Stmt:=((PySem.W.behindTheImports PySem.Challenge.pw_oldhands_k26_numbers_parted).drop 15).take 11
noncomputable def t5 (P:Params):PySem.W.BT:=((mT P 208 11 1 0).set 3 (fun _=>gD P "oldhands.values" 406 46 47)).set 12 (fun _=>tD 81)
noncomputable def s5 (w:World) (os:OsState):PySem.W.SharedT:=⟨t5 w.params,208,{},Array.mk [],{},466,os⟩
noncomputable def st5:List Stmt:=((PySem.W.behindTheImports PySem.Challenge.pw_oldhands_k26_numbers_parted).drop 26).take 15
noncomputable def t6 (P:Params):PySem.W.BT:=((mT P 238 11 1 0).set 3 (fun _=>gD P "oldhands.turns" 506 55 56)).set 12 (fun _=>tD 96)
noncomputable def s6 (w:World) (os:OsState):PySem.W.SharedT:=⟨t6 w.params,238,{},Array.mk [],{},548,os⟩
noncomputable def st6:List Stmt:=((PySem.W.behindTheImports PySem.Challenge.pw_oldhands_k26_numbers_parted).drop 41).take 10
noncomputable def t7 (P:Params):PySem.W.BT:=((mT P 296 11 1 0).set 3 (fun _=>gD P "oldhands.turns" 506 63 64)).set 12 (fun _=>tD 117)
noncomputable def s7 (w:World) (os:OsState):PySem.W.SharedT:=⟨t7 w.params,296,{},Array.mk [],{},633,os⟩
noncomputable def st7:List Stmt:=((PySem.W.behindTheImports PySem.Challenge.pw_oldhands_k26_numbers_parted).drop 51).take 8
noncomputable def t8 (P:Params):PySem.W.BT:=((mT P 351 11 1 0).set 3 (fun _=>gD P "oldhands.pieces" 700 72 73)).set 12 (fun _=>tD 144)
noncomputable def s8 (w:World) (os:OsState):PySem.W.SharedT:=⟨t8 w.params,351,{},Array.mk [],{},702,os⟩
noncomputable def st8:List Stmt:=((PySem.W.behindTheImports PySem.Challenge.pw_oldhands_k26_numbers_parted).drop 59).take 10
noncomputable def t9 (P:Params):PySem.W.BT:=((mT P 400 11 1 0).set 3 (fun _=>gD P "oldhands.pieces" 700 79 80)).set 12 (fun _=>tD 162)
noncomputable def s9 (w:World) (os:OsState):PySem.W.SharedT:=⟨t9 w.params,400,{},Array.mk [],{},799,os⟩
noncomputable def st9:List Stmt:=((PySem.W.behindTheImports PySem.Challenge.pw_oldhands_k26_numbers_parted).drop 69).take 7
noncomputable def t10 (P:Params):PySem.W.BT:=((mT P 487 11 1 0).set 3 (fun _=>gD P "oldhands.pieces" 700 92 93)).set 12 (fun _=>tD 201)
noncomputable def s10 (w:World) (os:OsState):PySem.W.SharedT:=⟨t10 w.params,487,{},Array.mk [],{},910,os⟩
noncomputable def CL:List Stmt:=((PySem.W.behindTheImports PySem.Challenge.pw_oldhands_k26_numbers_parted).drop 76).take 13
noncomputable def t11 (P:Params):PySem.W.BT:=mT P 550 11 1 0
noncomputable def s11 (w:World) (os:OsState):PySem.W.SharedT:=⟨t11 w.params,550,{},Array.mk [],{},1018,os⟩
noncomputable def CM:List Stmt:=((PySem.W.behindTheImports PySem.Challenge.pw_oldhands_k26_numbers_parted).drop 89).take 10
noncomputable def hp1 (P:Params):Heap:=⟨Array.mk (o0 P :: o1 P :: o2 P :: o3 P :: o4 P :: o5 P :: o6 P :: o7 P :: o8 P :: o9 P :: o10 P :: o11 P :: o12 P :: o13 P :: o14 P :: o15 P :: o16 P :: o17 P :: o18 P :: o19 P :: o20 P :: o21 P :: o22 P :: o23 P :: o24 P :: o25 P :: o26 P :: o27 P :: o28 P :: o29 P :: o30 P :: o31 P :: o32 P :: o33 P :: o34 P :: o35 P :: o36 P :: o37 P :: o38 P :: o39 P :: o40 P :: o41 P :: o42 P :: o43 P :: o44 P :: o45 P :: o46 P :: o47 P :: o48 P :: o49 P :: o50 P :: o51 P :: o52 P :: o53 P :: o54 P :: o55 P :: o56 P :: o57 P :: o58 P :: o59 P :: o60 P :: o61 P :: o62 P :: o63 P :: o64 P :: o65 P :: o66 P :: o67 P :: o68 P :: o69 P :: o70 P :: o71 P :: o72 P :: o73 P :: o74 P :: o75 P :: o76 P :: o77 P :: o78 P :: o79 P :: o80 P :: o81 P :: o82 P :: o83 P :: o84 P :: o85 P :: o86 P :: o87 P :: o88 P :: o89 P :: o90 P :: o91 P :: o92 P :: o93 P :: o94 P :: o95 P :: o96 P :: o97 P :: o98 P :: o99 P :: xx P :: xz P :: xA P :: rD P :: rE P :: xB P :: xC P :: xD P :: xE P :: xF P :: rF P :: rG P :: xG P :: xH P :: xI P :: rH P :: rJ P :: xJ P :: xK P :: xL P :: rK P :: rL P :: xM P :: xN P :: xO P :: xP P :: xQ P :: rM P :: rN P :: xR P :: xS P :: xT P :: xU P :: xV P :: rO P :: rP P :: xW P :: xX P :: xY P :: xZ P :: x6 P :: rQ P :: rR P :: x8 P :: x9 P :: ya P :: yb P :: yc P :: rS P :: rV P :: yd P :: ye P :: yf P :: rW P :: rX P :: yg P :: yh P :: yi P :: rY P :: rZ P :: yj P :: yk P :: yl P :: ym P :: yn P :: sh P :: sj P :: yo P :: yp P :: yq P :: yr P :: yt P :: sk P :: sq P :: yu P :: yv P :: yw P :: sr P :: su P :: yx P :: yy P :: yz P :: yA P :: yB P :: sv P :: sw P :: yC P :: yD P :: yE P :: sx P :: sy P :: yF P :: yG P :: yH P :: sC P :: sD P :: yI P :: yJ P :: yK P :: yL P :: yM P :: sE P :: sF P :: yN P :: yO P :: yP P :: sG P :: sH P :: yQ P :: yR P :: yS P :: sI P :: sJ P :: yT P :: yU P :: yV P :: yW P :: yX P :: sK P :: sL P :: yY P :: yZ P :: y0 P :: sM P :: sN P :: y3 P :: y4 P :: y6 P :: y7 P :: y8 P :: sO P :: sP P :: y9 P :: za P :: zb P :: sQ P :: sR P :: sS P :: sT P :: sU P :: sV P :: sW P :: sX P :: sY P :: sZ P :: tj P :: tt P :: tu P :: tw P :: zc P :: zd P :: ze P :: zf P :: zg P :: tz P :: tF P :: zh P :: zi P :: zj P :: tG P :: tH P :: zk P :: zl P :: zm P :: zn P :: zo P :: tI P :: tJ P :: zp P :: zq P :: zr P :: zt P :: zu P :: tK P :: tL P :: zv P :: zw P :: zx P :: zy P :: zA P :: tM P :: tN P :: zB P :: zC P :: zD P :: zE P :: zF P :: tO P :: tP P :: zG P :: zH P :: zJ P :: zK P :: zL P :: tQ P :: tR P :: zM P :: zN P :: zO P :: zP P :: zQ P :: tT P :: tU P :: zR P :: zS P :: zT P :: tV P :: tW P :: zU P :: zV P :: zW P :: tX P :: tY P :: zX P :: zY P :: zZ P :: z6 P :: z7 P :: tZ P :: uc P :: z8 P :: z9 P :: Aa P :: Ab P :: Ac P :: ud P :: ue P :: Ad P :: Ae P :: Af P :: uf P :: ug P :: Ag P :: Ah P :: Ai P :: Aj P :: Ak P :: uh P :: ui P :: Al P :: Am P :: An P :: uj P :: uk P :: Ao P :: Ap P :: Aq P :: Ar P :: As P :: ul P :: um P :: uo P :: uq P :: ur P :: ut P :: uu P :: uv P :: uw P :: ux P :: uy P :: uz P :: uA P :: At P :: Au P :: Av P :: Aw P :: Ax P :: uB P :: uC P :: Ay P :: Az P :: AA P :: AB P :: AC P :: uD P :: uE P :: AD P :: AE P :: AF P :: AG P :: AH P :: uF P :: uG P :: AI P :: AJ P :: AK P :: uH P :: uI P :: AL P :: AM P :: AN P :: AO P :: AQ P :: uJ P :: uK P :: AR P :: AS P :: AT P :: uL P :: uM P :: AU P :: AV P :: AW P :: AX P :: AY P :: uN P :: uO P :: AZ P :: A0 P :: A1 P :: A2 P :: A3 P :: uP P :: uQ P :: A4 P :: A5 P :: A6 P :: A7 P :: A8 P :: uR P :: uS P :: A9 P :: Ba P :: Bb P :: Bc P :: Bd P :: uT P :: uU P :: Be P :: Bf P :: Bg P :: Bh P :: Bi P :: uV P :: uW P :: Bj P :: Bk P :: Bl P :: Bm P :: Bn P :: uX P :: uY P :: Bo P :: Bp P :: Bq P :: uZ P :: u0 P :: Br P :: Bs P :: Bt P :: Bu P :: Bv P :: u5 P :: u6 P :: Bw P :: Bx P :: By P :: Bz P :: BA P :: u7 P :: u8 P :: BB P :: BC P :: BD P :: u9 P :: ve P :: BE P :: BF P :: BG P :: BH P :: BI P :: vf P :: vg P :: BJ P :: BK P :: BL P :: BM P :: BN P :: vh P :: vi P :: BO P :: BP P :: BQ P :: BR P :: BS P :: vj P :: vo P :: BU P :: BV P :: BW P :: BX P :: BY P :: vq P :: vv P :: BZ P :: B1 P :: B2 P :: B5 P :: B9 P :: vz P :: vA P :: Ca P :: Cb P :: Cc P :: Cd P :: Ce P :: vB P :: vC P :: Cf P :: Cg P :: Ch P :: Ci P :: Cj P :: vD P :: vE P :: Ck P :: Cl P :: Cm P :: Cn P :: Co P :: vF P :: vG P :: Cp P :: Cq P :: Cr P :: Cs P :: Ct P :: vH P :: vI P :: Cu P :: Cv P :: Cw P :: Cy P :: Cz P :: vJ P :: vK P :: CA P :: CB P :: CC P :: CD P :: CF P :: vL P :: vM P :: CG P :: CH P :: CI P :: CJ P :: CK P :: vN P :: vO P :: []),{}⟩
theorem DG:∀ w:World,(fun os=>PySem.W.topGo treeTable PySem.Challenge.pw_oldhands_k26_numbers_parted w 11 hA1 12 ⟨PySem.W.boot_heap w.params,Array.mk [],PySem.W.boot_drawn,PySem.W.boot_toks,os⟩ (PySem.W.topStub PySem.Challenge.pw_oldhands_k26_numbers_parted))=fun os=>some (⟨hp0 w.params,Array.mk [],{},187,os⟩,⟨denote treeTable hCo,hCo,⟨0,0,0,0⟩,hB1⟩):=fun w=>by kernel_rfl
theorem vP:∀ w:World,(fun os=>PySem.W.segRun treeTable PySem.Challenge.pw_oldhands_k26_numbers_parted w 11 hA1 1 1 ⟨hp0 w.params,Array.mk [],{},187,os⟩ (PySem.W.blockOf (PySem.W.behindTheImports PySem.Challenge.pw_oldhands_k26_numbers_parted) aZ hCo ⟨0,0,0,0⟩ hB1))=fun os=>some (.next,(sB w os).abs,hCo,⟨0,0,0,0⟩):=fun w=>by kernel_rfl
theorem r0:∀ w:World,(fun os=>PySem.W.segRunT treeTable PySem.Challenge.pw_oldhands_k26_numbers_parted w 11 hA1 1 196 (sB w os) (PySem.W.piecesOf st0 aZ hCo ⟨0,0,0,0⟩ hB1))=fun os=>some (.next,s0 w os,hCo,⟨2,0,3,8⟩):=fun w=>by kernel_rfl
theorem r1:∀ w:World,(fun os=>PySem.W.segRunT treeTable PySem.Challenge.pw_oldhands_k26_numbers_parted w 11 hA1 1 214 (s0 w os) (PySem.W.piecesOf st1 aZ hCo ⟨2,0,3,8⟩ hB1))=fun os=>some (.next,s1 w os,hCo,⟨4,0,5,8⟩):=fun w=>by kernel_rfl
theorem r2:∀ w:World,(fun os=>PySem.W.segRunT treeTable PySem.Challenge.pw_oldhands_k26_numbers_parted w 11 hA1 1 214 (s1 w os) (PySem.W.piecesOf st2 aZ hCo ⟨4,0,5,8⟩ hB1))=fun os=>some (.next,s2 w os,hCo,⟨6,0,7,8⟩):=fun w=>by kernel_rfl
theorem r3:∀ w:World,(fun os=>PySem.W.segRunT treeTable PySem.Challenge.pw_oldhands_k26_numbers_parted w 11 hA1 1 304 (s2 w os) (PySem.W.piecesOf st3 aZ hCo ⟨6,0,7,8⟩ hB1))=fun os=>some (.next,s3 w os,hCo,⟨19,0,19,7⟩):=fun w=>by kernel_rfl
theorem r4f:∀ w:World,(fun os=>PySem.W.segRunT treeTable PySem.Challenge.pw_oldhands_k26_numbers_parted (w.withFollow "special-get-raises" false) 11 hA1 1 388 (s3 (w.withFollow "special-get-raises" false) os) (PySem.W.piecesOf st4 aZ hCo ⟨19,0,19,7⟩ hB1))=fun os=>some (.next,s4 (w.withFollow "special-get-raises" false) os,hCo,⟨69,0,72,58⟩):=fun w=>by kernel_rfl
theorem r4t:∀ w:World,(fun os=>PySem.W.segRunT treeTable PySem.Challenge.pw_oldhands_k26_numbers_parted (w.withFollow "special-get-raises" true) 11 hA1 1 388 (s3 (w.withFollow "special-get-raises" true) os) (PySem.W.piecesOf st4 aZ hCo ⟨19,0,19,7⟩ hB1))=fun os=>some (.next,s4 (w.withFollow "special-get-raises" true) os,hCo,⟨69,0,72,58⟩):=fun w=>by kernel_rfl
theorem r4:∀ w:World,(fun os=>PySem.W.segRunT treeTable PySem.Challenge.pw_oldhands_k26_numbers_parted w 11 hA1 1 388 (s3 w os) (PySem.W.piecesOf st4 aZ hCo ⟨19,0,19,7⟩ hB1))=fun os=>some (.next,s4 w os,hCo,⟨69,0,72,58⟩):=PySem.W.byRow2 "special-get-raises" (P:=fun w=>(fun os=>PySem.W.segRunT treeTable PySem.Challenge.pw_oldhands_k26_numbers_parted w 11 hA1 1 388 (s3 w os) (PySem.W.piecesOf st4 aZ hCo ⟨19,0,19,7⟩ hB1))=fun os=>some (.next,s4 w os,hCo,⟨69,0,72,58⟩)) r4f r4t
theorem r5:∀ w:World,(fun os=>PySem.W.segRunT treeTable PySem.Challenge.pw_oldhands_k26_numbers_parted w 11 hA1 1 388 (s4 w os) (PySem.W.piecesOf st5 aZ hCo ⟨69,0,72,58⟩ hB1))=fun os=>some (.next,s5 w os,hCo,⟨133,0,135,73⟩):=fun w=>by kernel_rfl
theorem r6f:∀ w:World,(fun os=>PySem.W.segRunT treeTable PySem.Challenge.pw_oldhands_k26_numbers_parted (w.withFollow "special-get-raises" false) 11 hA1 1 356 (s5 (w.withFollow "special-get-raises" false) os) (PySem.W.piecesOf st6 aZ hCo ⟨133,0,135,73⟩ hB1))=fun os=>some (.next,s6 (w.withFollow "special-get-raises" false) os,hCo,⟨165,0,165,11⟩):=fun w=>by kernel_rfl
theorem r6t:∀ w:World,(fun os=>PySem.W.segRunT treeTable PySem.Challenge.pw_oldhands_k26_numbers_parted (w.withFollow "special-get-raises" true) 11 hA1 1 356 (s5 (w.withFollow "special-get-raises" true) os) (PySem.W.piecesOf st6 aZ hCo ⟨133,0,135,73⟩ hB1))=fun os=>some (.next,s6 (w.withFollow "special-get-raises" true) os,hCo,⟨165,0,165,11⟩):=fun w=>by kernel_rfl
theorem r6:∀ w:World,(fun os=>PySem.W.segRunT treeTable PySem.Challenge.pw_oldhands_k26_numbers_parted w 11 hA1 1 356 (s5 w os) (PySem.W.piecesOf st6 aZ hCo ⟨133,0,135,73⟩ hB1))=fun os=>some (.next,s6 w os,hCo,⟨165,0,165,11⟩):=PySem.W.byRow2 "special-get-raises" (P:=fun w=>(fun os=>PySem.W.segRunT treeTable PySem.Challenge.pw_oldhands_k26_numbers_parted w 11 hA1 1 356 (s5 w os) (PySem.W.piecesOf st6 aZ hCo ⟨133,0,135,73⟩ hB1))=fun os=>some (.next,s6 w os,hCo,⟨165,0,165,11⟩)) r6f r6t
theorem r7f:∀ w:World,(fun os=>PySem.W.segRunT treeTable PySem.Challenge.pw_oldhands_k26_numbers_parted (w.withFollow "special-get-raises" false) 11 hA1 1 387 (s6 (w.withFollow "special-get-raises" false) os) (PySem.W.piecesOf st7 aZ hCo ⟨165,0,165,11⟩ hB1))=fun os=>some (.next,s7 (w.withFollow "special-get-raises" false) os,hCo,⟨208,0,211,50⟩):=fun w=>by kernel_rfl
theorem r7t:∀ w:World,(fun os=>PySem.W.segRunT treeTable PySem.Challenge.pw_oldhands_k26_numbers_parted (w.withFollow "special-get-raises" true) 11 hA1 1 387 (s6 (w.withFollow "special-get-raises" true) os) (PySem.W.piecesOf st7 aZ hCo ⟨165,0,165,11⟩ hB1))=fun os=>some (.next,s7 (w.withFollow "special-get-raises" true) os,hCo,⟨208,0,211,50⟩):=fun w=>by kernel_rfl
theorem r7:∀ w:World,(fun os=>PySem.W.segRunT treeTable PySem.Challenge.pw_oldhands_k26_numbers_parted w 11 hA1 1 387 (s6 w os) (PySem.W.piecesOf st7 aZ hCo ⟨165,0,165,11⟩ hB1))=fun os=>some (.next,s7 w os,hCo,⟨208,0,211,50⟩):=PySem.W.byRow2 "special-get-raises" (P:=fun w=>(fun os=>PySem.W.segRunT treeTable PySem.Challenge.pw_oldhands_k26_numbers_parted w 11 hA1 1 387 (s6 w os) (PySem.W.piecesOf st7 aZ hCo ⟨165,0,165,11⟩ hB1))=fun os=>some (.next,s7 w os,hCo,⟨208,0,211,50⟩)) r7f r7t
theorem r8:∀ w:World,(fun os=>PySem.W.segRunT treeTable PySem.Challenge.pw_oldhands_k26_numbers_parted w 11 hA1 1 267 (s7 w os) (PySem.W.piecesOf st8 aZ hCo ⟨208,0,211,50⟩ hB1))=fun os=>some (.next,s8 w os,hCo,⟨305,0,305,8⟩):=fun w=>by kernel_rfl
theorem r9f:∀ w:World,(fun os=>PySem.W.segRunT treeTable PySem.Challenge.pw_oldhands_k26_numbers_parted (w.withFollow "special-get-raises" false) 11 hA1 1 375 (s8 (w.withFollow "special-get-raises" false) os) (PySem.W.piecesOf st9 aZ hCo ⟨305,0,305,8⟩ hB1))=fun os=>some (.next,s9 (w.withFollow "special-get-raises" false) os,hCo,⟨354,0,359,36⟩):=fun w=>by kernel_rfl
theorem r9t:∀ w:World,(fun os=>PySem.W.segRunT treeTable PySem.Challenge.pw_oldhands_k26_numbers_parted (w.withFollow "special-get-raises" true) 11 hA1 1 375 (s8 (w.withFollow "special-get-raises" true) os) (PySem.W.piecesOf st9 aZ hCo ⟨305,0,305,8⟩ hB1))=fun os=>some (.next,s9 (w.withFollow "special-get-raises" true) os,hCo,⟨354,0,359,36⟩):=fun w=>by kernel_rfl
theorem r9:∀ w:World,(fun os=>PySem.W.segRunT treeTable PySem.Challenge.pw_oldhands_k26_numbers_parted w 11 hA1 1 375 (s8 w os) (PySem.W.piecesOf st9 aZ hCo ⟨305,0,305,8⟩ hB1))=fun os=>some (.next,s9 w os,hCo,⟨354,0,359,36⟩):=PySem.W.byRow2 "special-get-raises" (P:=fun w=>(fun os=>PySem.W.segRunT treeTable PySem.Challenge.pw_oldhands_k26_numbers_parted w 11 hA1 1 375 (s8 w os) (PySem.W.piecesOf st9 aZ hCo ⟨305,0,305,8⟩ hB1))=fun os=>some (.next,s9 w os,hCo,⟨354,0,359,36⟩)) r9f r9t
theorem r10:∀ w:World,(fun os=>PySem.W.segRunT treeTable PySem.Challenge.pw_oldhands_k26_numbers_parted w 11 hA1 1 394 (s9 w os) (PySem.W.piecesOf CL aZ hCo ⟨354,0,359,36⟩ hB1))=fun os=>some (.next,s10 w os,hCo,⟨463,0,465,31⟩):=fun w=>by kernel_rfl
theorem r11:∀ w:World,(fun os=>PySem.W.segRunT treeTable PySem.Challenge.pw_oldhands_k26_numbers_parted w 11 hA1 1 314 (s10 w os) (PySem.W.piecesOf CM aZ hCo ⟨463,0,465,31⟩ hB1))=fun os=>some (.next,s11 w os,hCo,⟨509,0,536,15⟩):=fun w=>by kernel_rfl
theorem DH:∀ w:World,(fun os=>PySem.W.topRun treeTable PySem.Challenge.pw_oldhands_k26_numbers_parted w 11 hA1 2 (s11 w os).abs ⟨PySem.W.doneF .next,hCo,⟨509,0,536,15⟩,hB1⟩)=fun os=>some (⟨hp1 w.params,Array.mk [],{},1018,os⟩:Shared):=fun w=>by kernel_rfl
theorem DI:PySem.W.behindTheImports PySem.Challenge.pw_oldhands_k26_numbers_parted=st0++(st1++(st2++(st3++(st4++(st5++(st6++(st7++(st8++(st9++(CL++(CM++[]))))))))))):=by kernel_rfl
theorem DJ (w:World) (os:OsState):PySem.W.topRun treeTable PySem.Challenge.pw_oldhands_k26_numbers_parted w 11 hA1 (12+(1+(196+(214+(214+(304+(388+(388+(356+(387+(267+(375+(394+(314+(2))))))))))))))) ⟨PySem.W.boot_heap w.params,Array.mk [],PySem.W.boot_drawn,PySem.W.boot_toks,os⟩ (PySem.W.topStub PySem.Challenge.pw_oldhands_k26_numbers_parted)=some ⟨hp1 w.params,Array.mk [],{},1018,os⟩:=by
 refine PySem.W.go_top (congrFun (DG w) os) (PySem.W.piece_block (congrFun (vP w) os) ?_);rw [DI];exact (PySem.W.piece_app (PySem.W.segRun_of (congrFun (r0 w) os)) (PySem.W.piece_app (PySem.W.segRun_of (congrFun (r1 w) os)) (PySem.W.piece_app (PySem.W.segRun_of (congrFun (r2 w) os)) (PySem.W.piece_app (PySem.W.segRun_of (congrFun (r3 w) os)) (PySem.W.piece_app (PySem.W.segRun_of (congrFun (r4 w) os)) (PySem.W.piece_app (PySem.W.segRun_of (congrFun (r5 w) os)) (PySem.W.piece_app (PySem.W.segRun_of (congrFun (r6 w) os)) (PySem.W.piece_app (PySem.W.segRun_of (congrFun (r7 w) os)) (PySem.W.piece_app (PySem.W.segRun_of (congrFun (r8 w) os)) (PySem.W.piece_app (PySem.W.segRun_of (congrFun (r9 w) os)) (PySem.W.piece_app (PySem.W.segRun_of (congrFun (r10 w) os)) (PySem.W.piece_app (PySem.W.segRun_of (congrFun (r11 w) os)) (show PySem.W.topRun treeTable PySem.Challenge.pw_oldhands_k26_numbers_parted w 11 hA1 2 _ (PySem.W.restOf [] aZ hCo ⟨509,0,536,15⟩ hB1)=_ from congrFun (DH w) os)))))))))))))
noncomputable def hK:Params→PySem.W.Frag:=fun P =>
 (nat_lit 3,o3 P) :: (nat_lit 4,o4 P) :: (nat_lit 6,o6 P) :: (nat_lit 15,o15 P) :: (nat_lit 22,o22 P) :: (nat_lit 23,o23 P) :: (nat_lit 24,o24 P) :: (nat_lit 25,o25 P) :: (nat_lit 28,o28 P) :: (nat_lit 35,o35 P) :: (nat_lit 36,o36 P) :: (nat_lit 37,o37 P) :: (nat_lit 40,o40 P) :: (nat_lit 47,o47 P) :: (nat_lit 48,o48 P) :: (nat_lit 49,o49 P) :: (nat_lit 52,o52 P) :: (nat_lit 59,o59 P) :: (nat_lit 60,o60 P) :: (nat_lit 61,o61 P) :: (nat_lit 64,o64 P) :: (nat_lit 68,o68 P) :: (nat_lit 69,o69 P) :: (nat_lit 75,o75 P) :: (nat_lit 76,o76 P) :: (nat_lit 82,o82 P) :: (nat_lit 83,o83 P) :: (nat_lit 89,o89 P) :: (nat_lit 90,o90 P) :: (nat_lit 96,o96 P) :: (nat_lit 97,o97 P) :: (nat_lit 103,rD P) :: (nat_lit 104,rE P) :: (nat_lit 110,rF P) :: (nat_lit 111,rG P) :: (nat_lit 115,rH P) :: (nat_lit 116,rJ P) :: (nat_lit 120,rK P) :: (nat_lit 121,rL P) :: (nat_lit 127,rM P) :: (nat_lit 128,rN P) :: (nat_lit 134,rO P) :: (nat_lit 135,rP P) :: (nat_lit 141,rQ P) :: (nat_lit 142,rR P) :: (nat_lit 148,rS P) :: (nat_lit 149,rV P) :: (nat_lit 153,rW P) :: (nat_lit 154,rX P) :: (nat_lit 158,rY P) :: (nat_lit 159,rZ P) :: (nat_lit 165,sh P) :: (nat_lit 166,sj P) :: (nat_lit 172,sk P) :: (nat_lit 173,sq P) :: (nat_lit 177,sr P) :: (nat_lit 178,su P) :: (nat_lit 184,sv P) :: (nat_lit 185,sw P) :: (nat_lit 189,sx P) :: (nat_lit 190,sy P) :: (nat_lit 194,sC P) :: (nat_lit 195,sD P) :: (nat_lit 201,sE P) :: (nat_lit 202,sF P) :: (nat_lit 206,sG P) :: (nat_lit 207,sH P) :: (nat_lit 211,sI P) :: (nat_lit 212,sJ P) :: (nat_lit 218,sK P) :: (nat_lit 219,sL P) :: (nat_lit 223,sM P) :: (nat_lit 224,sN P) :: (nat_lit 230,sO P) :: (nat_lit 231,sP P) :: (nat_lit 235,sQ P) :: (nat_lit 236,sR P) :: (nat_lit 237,sS P) :: (nat_lit 238,sT P) :: (nat_lit 239,sU P) :: (nat_lit 240,sV P) :: (nat_lit 241,sW P) :: (nat_lit 242,sX P) :: (nat_lit 243,sY P) :: (nat_lit 244,sZ P) :: (nat_lit 245,tj P) :: (nat_lit 246,tt P) :: (nat_lit 247,tu P) :: (nat_lit 248,tw P) :: (nat_lit 254,tz P) :: (nat_lit 255,tF P) :: (nat_lit 259,tG P) :: (nat_lit 260,tH P) :: (nat_lit 266,tI P) :: (nat_lit 267,tJ P) :: (nat_lit 273,tK P) :: (nat_lit 274,tL P) :: (nat_lit 280,tM P) :: (nat_lit 281,tN P) :: (nat_lit 287,tO P) :: (nat_lit 288,tP P) :: (nat_lit 294,tQ P) :: (nat_lit 295,tR P) :: (nat_lit 301,tT P) :: (nat_lit 302,tU P) :: (nat_lit 306,tV P) :: (nat_lit 307,tW P) :: (nat_lit 311,tX P) :: (nat_lit 312,tY P) :: (nat_lit 318,tZ P) :: (nat_lit 319,uc P) :: (nat_lit 325,ud P) :: (nat_lit 326,ue P) :: (nat_lit 330,uf P) :: (nat_lit 331,ug P) :: (nat_lit 337,uh P) :: (nat_lit 338,ui P) :: (nat_lit 342,uj P) :: (nat_lit 343,uk P) :: (nat_lit 349,ul P) :: (nat_lit 350,um P) :: (nat_lit 351,uo P) :: (nat_lit 352,uq P) :: (nat_lit 353,ur P) :: (nat_lit 354,ut P) :: (nat_lit 355,uu P) :: (nat_lit 356,uv P) :: (nat_lit 357,uw P) :: (nat_lit 358,ux P) :: (nat_lit 359,uy P) :: (nat_lit 360,uz P) :: (nat_lit 361,uA P) :: (nat_lit 367,uB P) :: (nat_lit 368,uC P) :: (nat_lit 374,uD P) :: (nat_lit 375,uE P) :: (nat_lit 381,uF P) :: (nat_lit 382,uG P) :: (nat_lit 386,uH P) :: (nat_lit 387,uI P) :: (nat_lit 393,uJ P) :: (nat_lit 394,uK P) :: (nat_lit 398,uL P) :: (nat_lit 399,uM P) :: (nat_lit 405,uN P) :: (nat_lit 406,uO P) :: (nat_lit 412,uP P) :: (nat_lit 413,uQ P) :: (nat_lit 419,uR P) :: (nat_lit 420,uS P) :: (nat_lit 426,uT P) :: (nat_lit 427,uU P) :: (nat_lit 433,uV P) :: (nat_lit 434,uW P) :: (nat_lit 440,uX P) :: (nat_lit 441,uY P) :: (nat_lit 445,uZ P) :: (nat_lit 446,u0 P) :: (nat_lit 452,u5 P) :: (nat_lit 453,u6 P) :: (nat_lit 459,u7 P) :: (nat_lit 460,u8 P) :: (nat_lit 464,u9 P) :: (nat_lit 465,ve P) :: (nat_lit 471,vf P) :: (nat_lit 472,vg P) :: (nat_lit 478,vh P) :: (nat_lit 479,vi P) :: (nat_lit 485,vj P) :: (nat_lit 486,vo P) :: (nat_lit 492,vq P) :: (nat_lit 493,vv P) :: (nat_lit 499,vz P) :: (nat_lit 500,vA P) :: (nat_lit 506,vB P) :: (nat_lit 507,vC P) :: (nat_lit 513,vD P) :: (nat_lit 514,vE P) :: (nat_lit 520,vF P) :: (nat_lit 521,vG P) :: (nat_lit 527,vH P) :: (nat_lit 528,vI P) :: (nat_lit 534,vJ P) :: (nat_lit 535,vK P) :: (nat_lit 541,vL P) :: (nat_lit 542,vM P) :: (nat_lit 548,vN P) :: (nat_lit 549,vO P) :: []
noncomputable def hA:List Addr:=[3,4,6,15,22,23,24,25,28,35,36,37,40,47,48,49,52,59,60,61,64,68,69,75,76,82,83,89,90,96,97,103,104,110,111,115,116,120,121,127,128,134,135,141,142,148,149,153,154,158,159,165,166,172,173,177,178,184,185,189,190,194,195,201,202,206,207,211,212,218,219,223,224,230,231,235,236,237,238,239,240,241,242,243,244,245,246,247,248,254,255,259,260,266,267,273,274,280,281,287,288,294,295,301,302,306,307,311,312,318,319,325,326,330,331,337,338,342,343,349,350,351,352,353,354,355,356,357,358,359,360,361,367,368,374,375,381,382,386,387,393,394,398,399,405,406,412,413,419,420,426,427,433,434,440,441,445,446,452,453,459,460,464,465,471,472,478,479,485,486,492,493,499,500,506,507,513,514,520,521,527,528,534,535,541,542,548,549]
theorem hKA:∀ P,hA=(hK P).map (·.1):=fun _=>by kernel_rfl
noncomputable abbrev hH:PySem.W.Hook:=PySem.W.kHook hK hA hKA
noncomputable abbrev hQ:Program:=PySem.W.view PySem.Challenge.pw_oldhands_k26_numbers_parted [98]
def hW:List Str:= "HandError" :: "BadKind" :: "BadTurn" :: "BadPiece" :: "LETTERS" :: "LONGEST_NAME" :: "EACH" :: "MOST_SIGNS" :: "MOST_WORDS" :: "MOST_FIELDS" :: "MOST_ITEMS" :: "MOST_KINDS" :: "DEEPEST" :: "PART_COUNTS" :: "is_name" :: "is_whole" :: "is_whole_within" :: "made_kind" :: "is_formed" :: "has_parts" :: "are_bounds" :: "are_words" :: "are_fields" :: "is_field" :: "are_rows" :: "field_kind" :: "item_kind" :: "kinds_within" :: "kind_many" :: "PERCENT" :: "is_sign" :: "is_of" :: "is_text_of" :: "holds_tuple" :: "holds_items" :: "is_record_of" :: "is_pair_of" :: "are_keyed" :: "least_value" :: "field_of" :: "record_of" :: "with_fields" :: "without_fields" :: "FIGURES" :: "LEAST_FACTOR" :: "GREATEST_FACTOR" :: "TURN_COUNTS" :: "TURN_SORTS" :: "figures_of" :: "number_of" :: "nearest" :: "is_factor" :: "kind_behind" :: "is_turn_of" :: "has_turn_parts" :: "most_figures" :: "are_led_words" :: "words_behind" :: "led_kind" :: "turn_about" :: "led_about" :: "turned" :: "led_value" :: "read_number" :: "PIECE_FORMS" :: "taken_paths" :: "made_paths" :: "record_behind" :: "has_piece_form" :: "is_part" :: "can_take" :: "kind_down" :: "takes_kinds" :: "is_kind" :: "is_separator" :: "part_kinds" :: "made_kinds" :: "can_make" :: "is_free" :: "piece_about" :: "old_values" :: "value_down" :: "made_values" :: "halves" :: "joined" :: "with_new" :: "without_taken" :: "without_down" :: "with_down" :: "_law_mixed" :: "_law_stream" :: "_law_digit" :: []
noncomputable abbrev hX (s:Shared):Bool:=PySem.W.recOk (PySem.W.RowW.records (PySem.W.OpenRow.toRowW PySem.Challenge.rw_oldhands_k26_numbers_parted.row)) s
theorem CN:∀ w:World,((PySem.W.boot_heap w.params).isNs mainGlobals && (Array.mk []:Array GenState).size == 0,(PySem.W.boot_heap w.params).objs.size,(PySem.W.boot_heap w.params).nsMap mainGlobals "__annotations__")=(true,11,hA1):=fun w=>by kernel_rfl
theorem rL1:∀ w:World,(fun os=>(PySem.W.staticsOk (importedModules PySem.Challenge.pw_oldhands_k26_numbers_parted.main.body) (PySem.W.boot_heap w.params) (hp1 w.params) && PySem.W.namesBound PySem.Challenge.pw_oldhands_k26_numbers_parted (hp1 w.params) && PySem.W.gensDone ⟨hp1 w.params,Array.mk [],{},1018,os⟩ && PySem.W.laidKept (PySem.W.boot_heap w.params) (hp1 w.params)))=fun _=>true:=fun w=>by kernel_rfl
theorem rL2:∀ w:World,(fun os=>PySem.W.openSeen hQ hW (importedModules PySem.Challenge.pw_oldhands_k26_numbers_parted.main.body) hX true ⟨hp1 w.params,Array.mk [],{},1018,os⟩)=fun _=>PySem.W.openGood hQ hW:=fun w=>by kernel_rfl
theorem rL3:∀ w:World,(fun os=>hH.obs ⟨hp1 w.params,Array.mk [],{},1018,os⟩)=fun _=>hH.val w:=fun w=>by kernel_rfl
theorem hl:PySem.W.LeftO PySem.Challenge.pw_oldhands_k26_numbers_parted hQ hW hX hH.obs hH.val 4812 :=
 PySem.W.LeftO.of_pieces (H₀:=PySem.W.boot_heap) (H₁:=hp1) (gs₀:=Array.mk []) (gs₁:=Array.mk []) (d₀:=PySem.W.boot_drawn) (d₁:={}) (k₀:=PySem.W.boot_toks) (k₁:=1018) (m₀:=11) (ann:=hA1) (M:=12+(1+(196+(214+(214+(304+(388+(388+(356+(387+(267+(375+(394+(314+(2)))))))))))))))
  (PySem.W.boot_open (by kernel_rfl) (by rfl) (fun s=>by rfl)) CN DJ (by rfl) (fun w=>funext fun os=>PySem.W.looks_pair (congrFun (rL1 w) os) (PySem.W.looks_pair (congrFun (rL2 w) os) (congrFun (rL3 w) os)))
theorem said:PySem.Challenge.rw_oldhands_k26_numbers_parted.wellSaid=true:=by
 unfold PySem.W.OpenLaw.wellSaid PySem.W.OpenRow.wellSaid PySem.W.OpenRow.partSaid PySem.W.looksOpen
 repeat' (with_reducible refine PySem.W.look_both ?_ ?_)
 all_goals decide +kernel
end K26
namespace L2
open PySem PySem.Spec PyProof.Rows
abbrev Key:=Sum Int Str
def fv:Key→Value→Bool
 | .inl k,v=>Value.isInt k v
 | .inr x,v=>Value.isStrOf x v
def DK (w:World):Key→Int
 | .inl k=>hashInt k
 | .inr x=>hashStr w x
theorem ax:∀ {k:Key} {v:Value},fv k v=true→(∃ i t,k=Sum.inl i∧v=Value.int i t)∨(∃ x t,k=Sum.inr x∧v=Value.str x t)
 | .inl i,v,h=>by
  obtain ⟨t,e⟩:=Value.isInt_shape (k:=i) (v:=v) h;exact .inl ⟨i,t,rfl,e⟩
 | .inr x,v,h=>by
  obtain ⟨t,e⟩:=Value.isStrOf_shape (x:=x) (v:=v) h;exact .inr ⟨x,t,rfl,e⟩
theorem mH (i:Int) (t:Tok):fv (.inl i) (.int i t)=true:=by simp [fv,Value.isInt]
theorem mI (x:Str) (t:Tok):fv (.inr x) (.str x t)=true:=by simp [fv,Value.isStrOf]
theorem vQ (a b:Int):decide ((Sum.inl a:Key)=Sum.inl b)=(a == b):=by
 by_cases e:a=b
 ·subst e;simp
 ·have h:¬ (Sum.inl a:Key)=Sum.inl b:=fun q=>e (Sum.inl.inj q);rw [decide_eq_false h];exact (beq_eq_false_iff_ne.mpr e).symm
theorem vR (a b:Str):decide ((Sum.inr a:Key)=Sum.inr b)=decide (a=b):=by
 by_cases e:a=b
 ·subst e;simp
 ·have h:¬ (Sum.inr a:Key)=Sum.inr b:=fun q=>e (Sum.inr.inj q);rw [decide_eq_false h,decide_eq_false e]
theorem vS (a:Int) (b:Str):decide ((Sum.inl a:Key)=Sum.inr b)=false:=decide_eq_false (fun q=>nomatch q)
theorem vT (a:Str) (b:Int):decide ((Sum.inr a:Key)=Sum.inl b)=false:=decide_eq_false (fun q=>nomatch q)
def ag (prog:Program) (w:World):PySem.KeyKind prog w Key where
 is:=fv
 hash:=DK w
 inj:=fun v a b ha hb=>by
  rcases ax ha with ⟨i,t,rfl,rfl⟩ | ⟨x,t,rfl,rfl⟩
  ·rcases ax hb with ⟨j,u,rfl,e⟩ | ⟨y,u,rfl,e⟩
   ·injection e with e1 _;rw [e1]
   ·exact nomatch e
  ·rcases ax hb with ⟨j,u,rfl,e⟩ | ⟨y,u,rfl,e⟩
   ·exact nomatch e
   ·injection e with e1 _;rw [e1]
 byValue:=fun k v h=>by
  rcases ax h with ⟨i,t,rfl,rfl⟩ | ⟨x,t,rfl,rfl⟩ <;> rfl
 pyHash:=fun hv h=>by
  rcases ax hv with ⟨i,t,rfl,rfl⟩ | ⟨x,t,rfl,rfl⟩
  ·exact wpAny_pyHash_int h
  ·exact wpAny_pyHash_str h
 eqBool:=fun hu hv h=>by
  rcases ax hu with ⟨i,t,rfl,rfl⟩ | ⟨x,t,rfl,rfl⟩
  ·rcases ax hv with ⟨j,u,rfl,rfl⟩ | ⟨y,u,rfl,rfl⟩
   ·rw [vQ] at h;exact wpAny_eqBool_int h
   ·rw [vS] at h;exact SeqAt.EqAt.int_str i t y u _ _ _ _ h
  ·rcases ax hv with ⟨j,u,rfl,rfl⟩ | ⟨y,u,rfl,rfl⟩
   ·rw [vT] at h;exact SeqAt.EqAt.str_int x t j u _ _ _ _ h
   ·rw [vR] at h;exact wpAny_eqBool_str h
 «strs»:=fun k x t v h=>by
  rcases ax h with ⟨i,u,rfl,e⟩ | ⟨y,u,rfl,e⟩
  ·exact nomatch e
  ·injection e with e1 _
   subst e1
   cases v <;> rfl
theorem jz (prog:Program) (w:World) (i:Int) (t:Tok):(ag prog w).is (.inl i) (.int i t)=true:=mH i t
theorem jA (prog:Program) (w:World) (x:Str) (t:Tok):(ag prog w).is (.inr x) (.str x t)=true:=mI x t
inductive V where
 | non | bl (b:Bool) | int (i:Int) | str (x:Str) | byt (b:Array UInt8) | flt (b:UInt64) | ref (a:Addr) | ty (n:String)
 deriving DecidableEq
def RelV:V→Value→Prop
 | .non,u=>u=Value.none
 | .bl b,u=>u=Value.bool b
 | .int i,u=>∃ t,u=Value.int i t
 | .str x,u=>∃ t,u=Value.str x t
 | .byt b,u=>∃ t,u=Value.bytes b t
 | .flt b,u=>∃ t,u=Value.float b t
 | .ref a,u=>u=Value.ref a
 | .ty n,u=>u=Value.type n
abbrev Vals:List V→List Value→Prop:=Paired RelV
theorem Vals.length {xs:List V} {us:List Value} (r:Vals xs us):xs.length=us.length:=Paired.length r
theorem Vals.get:∀ {xs:List V} {us:List Value} {i:Nat} {x:V},Vals xs us→xs[i]?=some x→∃ u,us[i]?=some u∧RelV x u
 | _,_,_,_,.nil,e=>by simp at e
 | _,_,0,_,.cons r _,e=>by simp at e;subst e;exact ⟨_,rfl,r⟩
 | _,_,i+1,x,.cons _ t,e=>by
  obtain ⟨u,h1,h2⟩:=Vals.get (i:=i) (x:=x) t (by simpa using e);exact ⟨u,by simpa using h1,h2⟩
theorem Vals.set {x:V} {u:Value} (r:RelV x u):∀ {xs:List V} {us:List Value} (i:Nat),Vals xs us→Vals (xs.set i x) (us.set i u)
 | _,_,_,.nil=>.nil
 | _,_,0,.cons _ t=>.cons r t
 | _,_,i+1,.cons q t=>.cons q (Vals.set r i t)
theorem Vals.append:∀ {xs ys:List V} {us ws:List Value},Vals xs us→Vals ys ws→Vals (xs++ys) (us++ws)
 | _,_,_,_,.nil,s=>s
 | _,_,_,_,.cons r t,s=>.cons r (Vals.append t s)
theorem Vals.take:∀ {xs:List V} {us:List Value} (n:Nat),Vals xs us→Vals (xs.take n) (us.take n)
 | _,_,0,_=>.nil
 | _,_,_+1,.nil=>.nil
 | _,_,n+1,.cons r t=>.cons r (Vals.take n t)
theorem Vals.drop:∀ {xs:List V} {us:List Value} (n:Nat),Vals xs us→Vals (xs.drop n) (us.drop n)
 | _,_,0,r=>r
 | _,_,_+1,.nil=>.nil
 | _,_,n+1,.cons _ t=>Vals.drop n t
def RelO:Option V→Option Value→Prop
 | some v,some u=>RelV v u
 | none,none=>True
 | _,_=>False
def KV {κ:Type}:List (κ×V)→List (κ×Value)→Prop:=Paired fun (p:κ×V) (q:κ×Value)=>p.1=q.1∧RelV p.2 q.2
def kV:Key→V
 | .inl i=>.int i
 | .inr x=>.str x
inductive HO where
 | lst (xs:List V)
 | tup (xs:List V)
 | dK (kvs:List (Key×V)) | dT (kvs:List (List Key×V))
 | set (S:Int→Bool) (n:Nat)
 | ins (C dx:Addr) (fs:List (Str×V))
 | own (x:Addr)
 | xd (fs:List (Str×V))
 | met (f x:Addr)
 | rng (lo hi:Int)
 | frz (o:Obj) (u:HO)
 | tbl (ps:Array Value)
 | ext (φ:Heap→Prop)
abbrev Hp:=Addr→Option HO
def upd (H:Hp) (a:Addr) (o:HO):Hp:=fun b=>if b=a then some o else H b
theorem ac {H:Hp} {a:Addr} {o:HO}:upd H a o a=some o:=by unfold upd;rw [if_pos rfl]
theorem ah {H:Hp} {a b:Addr} {o:HO} (h:b≠a):upd H a o b=H b:=by unfold upd;rw [if_neg h]
theorem pY {H:Hp} {a:Addr} {o u:HO}:upd (upd H a o) a u=upd H a u:=by
 funext b;unfold upd;split <;> rfl
theorem cX {H:Hp} {a b:Addr} {o u:HO} (h:H a=some o) (h':H b=some u) (d:o≠u):a≠b:=by
 intro e;subst e;rw [h] at h';exact d (Option.some.inj h')
theorem aq {H:Hp} {a b:Addr} {o:HO} (h:H a=some o) (h':H b=none):a≠b:=by
 intro e;subst e;rw [h] at h';cases h'
section
variable (P:Program) (w:World)
def ObjOk (H:Hp) (h:Heap) (a:Addr):HO→Prop
 | .lst xs=>xs.length≤sizeLine∧∃ (its:List Value) (n:Nat),Vals xs its∧h.get? a=some { cls:=.type "list",data:=.seq its.toArray n }
 | .tup xs=>xs.length≤sizeLine∧∃ its:List Value,Vals xs its∧IsTup h a its.toArray
 | .dK kvs=>kvs.length≤sizeLine∧(a == sysModules)=false∧∃ vs,KV kvs vs∧h.DictOf (ag P w) a vs
 | .dT kvs=>kvs.length≤sizeLine∧(a == sysModules)=false∧∃ xs:List (List Key×Addr×Value),
   Paired (fun (p:List Key×V) (q:List Key×Addr×Value)=>p.1=q.1∧H q.2.1=some (.tup (p.1.map kV))∧RelV p.2 q.2.2) kvs xs ∧
   ∃ o es ep,h.get? a=some o∧o.ExactDict∧o.data=.dict es ep∧es.toList=xs.map (entryOfKey (tupleKind (ag P w)))∧(xs.map (·.1)).Nodup
 | .set S n=>h.SetOf (intKind P w) a S n
 | .ins C dx fs=>H dx=some (.own a)∧fs.length≤1000∧dx≠a∧h.get? a=some (PySem.W.instObj C dx) ∧
   ∃ mA,h.Ns1 dx mA∧(∀ f,RelO (fs.lookup f) (mA f))∧PySem.Within mA (fs.map (·.1))
 | .own _=>∃ o,h.get? a=some o
 | .xd fs=>∃ mA,h.Ns1 a mA∧∀ f,RelO (fs.lookup f) (mA f)
 | .rng lo hi=>∃ t u v,h.get? a=some { cls:=.type "range",data:=.fields #[.int lo t,.int hi u,.int 1 v] }
 | .frz o u=>h.get? a=some o∧ObjOk H h a u
 | .tbl ps=>h.get? a=some { cls:=.none,data:=.fields ps }
 | .met f x=>h.get? a=some (PySem.W.methodObj (.ref f) (.ref x))
 | .ext φ=>φ h∧(∃ o,h.get? a=some o)∧∀ h1 h2:Heap,φ h1→(∀ o,h1.get? a=some o→h2.get? a=some o)→φ h2
def HOk (H:Hp) (h:Heap):Prop:=∀ a o,H a=some o→ObjOk P w H h a o
end
section
variable {P:Program} {w:World} {H H':Hp} {h h':Heap} {a:Addr} {o:HO}
theorem ObjOk.lt (x:ObjOk P w H h a o):a < h.objs.size:=by
 cases o with
 | lst xs=>obtain ⟨_,_,_,_,e⟩:=x;exact Heap.lt_size e
 | tup xs=>obtain ⟨_,_,_,p⟩:=x;exact p.lt
 | dK kvs=>obtain ⟨_,_,_,_,o,_,_,e,_⟩:=x;exact Heap.lt_size e
 | dT kvs=>obtain ⟨_,_,_,_,o,_,_,e,_⟩:=x;exact Heap.lt_size e
 | set S n=>obtain ⟨o,_,_,_,e,_⟩:=x;exact Heap.lt_size e
 | ins C dx fs=>obtain ⟨_,_,_,e,_⟩:=x;exact Heap.lt_size e
 | own y=>obtain ⟨_,e⟩:=x;exact Heap.lt_size e
 | xd fs=>obtain ⟨_,⟨_,_,_,e,_⟩,_⟩:=x;exact Heap.lt_size e
 | rng lo hi=>obtain ⟨_,_,_,e⟩:=x;exact Heap.lt_size e
 | frz ob u=>obtain ⟨e,_⟩:=x;exact Heap.lt_size e
 | tbl ps=>exact Heap.lt_size (show h.get? a=some _ from x)
 | met f y=>exact Heap.lt_size (show h.get? a=some _ from x)
 | ext φ=>obtain ⟨_,⟨_,e⟩,_⟩:=x;exact Heap.lt_size e
theorem Paired.mapP {α β:Type} {F G:α→β→Prop}:∀ {l₁:List α} {l₂:List β},Paired F l₁ l₂→(∀ a b,F a b→G a b)→Paired G l₁ l₂
 | _,_,.nil,_=>.nil
 | _,_,.cons r t,f=>.cons (f _ _ r) (Paired.mapP t f)
theorem ObjOk.stay (x:ObjOk P w H h a o) (k:∀ b u,(b=a∨H b=some (.own a))→h.get? b=some u→h'.get? b=some u)
  (ho:∀ b,H b=some (.own a)→H' b=some (.own a)) (ht:∀ b xs,H b=some (.tup xs)→H' b=some (.tup xs)):ObjOk P w H' h' a o:=by
 induction o with
 | lst xs=>obtain ⟨z,its,n,r,e⟩:=x;exact ⟨z,its,n,r,k _ _ (.inl rfl) e⟩
 | tup xs=>obtain ⟨z,its,r,ob,e,c⟩:=x;exact ⟨z,its,r,ob,k _ _ (.inl rfl) e,c⟩
 | dK kvs=>obtain ⟨z,y,vs,r,ob,es,ep,e,c⟩:=x;exact ⟨z,y,vs,r,ob,es,ep,k _ _ (.inl rfl) e,c⟩
 | dT kvs =>
  obtain ⟨z,y,xs,r,ob,es,ep,e,c⟩:=x;exact ⟨z,y,xs,Paired.mapP r fun p q z=>⟨z.1,ht _ _ z.2.1,z.2.2⟩,ob,es,ep,k _ _ (.inl rfl) e,c⟩
 | set S n=>obtain ⟨ob,es,ep,t,e,c⟩:=x;exact ⟨ob,es,ep,t,k _ _ (.inl rfl) e,c⟩
 | ins C dx fs =>
  obtain ⟨d,z,ne,e,mA,⟨od,es,ep,e2,c⟩,r⟩:=x;exact ⟨ho _ d,z,ne,k _ _ (.inl rfl) e,mA,⟨od,es,ep,k _ _ (.inr d) e2,c⟩,r⟩
 | own y=>obtain ⟨ob,e⟩:=x;exact ⟨ob,k _ _ (.inl rfl) e⟩
 | xd fs=>obtain ⟨mA,⟨od,es,ep,e,c⟩,r⟩:=x;exact ⟨mA,⟨od,es,ep,k _ _ (.inl rfl) e,c⟩,r⟩
 | rng lo hi=>obtain ⟨t,u,v,e⟩:=x;exact ⟨t,u,v,k _ _ (.inl rfl) e⟩
 | frz ob u ih=>obtain ⟨e,q⟩:=x;exact ⟨k _ _ (.inl rfl) e,ih q⟩
 | tbl ps =>
  have e:h.get? a=some { cls:=.none,data:=.fields ps }:=x;show h'.get? a=some { cls:=.none,data:=.fields ps };exact k a _ (.inl rfl) e
 | met f y =>
  have e:h.get? a=some (PySem.W.methodObj (.ref f) (.ref y)):=x;show h'.get? a=some (PySem.W.methodObj (.ref f) (.ref y));exact k a _ (.inl rfl) e
 | ext φ=>obtain ⟨p,⟨o,e⟩,st⟩:=x;exact ⟨st _ _ p fun o q=>k _ _ (.inl rfl) q,⟨o,k _ _ (.inl rfl) e⟩,st⟩
theorem HOk.lt (x:HOk P w H h) (e:H a=some o):a < h.objs.size:=(x a o e).lt
theorem HOk.fresh (x:HOk P w H h) (e:h.objs.size≤a):H a=none:=by
 cases q:H a with
 | none=>rfl
 | some u=>exact absurd (Nat.lt_of_lt_of_le (x.lt q) e) (Nat.lt_irrefl _)
theorem HOk.kept (x:HOk P w H h) (k:∀ b u,h.get? b=some u→h'.get? b=some u):HOk P w H h':=fun a o e =>
 (x a o e).stay (fun b u _ q=>k b u q) (fun _ q=>q) fun _ _ q=>q
theorem HOk.laid (x:HOk P w H h) (k:∀ b u,h.get? b=some u→h'.get? b=some u) (hp:h.objs.size≤a) (new:ObjOk P w (upd H a o) h' a o):HOk P w (upd H a o) h':=fun b u e=>by
 have hn:=x.fresh hp
 by_cases hb:b=a
 ·subst hb;rw [ac] at e;cases e;exact new
 ·rw [ah hb] at e;exact (x b u e).stay (fun c v _ q=>k c v q) (fun c q=>by rw [ah (aq q hn)];exact q) fun c xs q=>by rw [ah (aq q hn)];exact q
end
def Rd (H:Hp) (a:Addr) (u:HO):Prop:=H a=some u∨∃ o,H a=some (.frz o u)
theorem Rd.ok {P:Program} {w:World} {H:Hp} {h:Heap} {a:Addr} {u:HO} (r:Rd H a u) (x:HOk P w H h):ObjOk P w H h a u:=by
 rcases r with r | ⟨o,r⟩
 ·exact x a u r
 ·obtain ⟨_,q⟩:=x a _ r;exact q
def Mut:Option HO→Prop
 | some (.lst _)=>True
 | some (.dK _)=>True
 | some (.dT _)=>True
 | some (.set _ _)=>True
 | some (.ins _ _ _)=>True
 | some (.ext _)=>True
 | _=>False
section
variable {P:Program} {w:World} {H:Hp} {h h':Heap} {x e:Addr} {o':HO}
theorem HOk.write (ok:HOk P w H h) (mu:Mut (H x)) (he:e=x∨H e=some (.own x)) (k:∀ b u,b≠e→h.get? b=some u→h'.get? b=some u) (heo:∃ u,h'.get? e=some u)
  (new:ObjOk P w (upd H x o') h' x o'):HOk P w (upd H x o') h':=fun b u q=>by
 have nown:∀ c y,H c=some (.own y)→c≠x:=fun c y r z=>by subst z;rw [r] at mu;exact mu
 have ntup:∀ c xs,H c=some (.tup xs)→c≠x:=fun c xs r z=>by subst z;rw [r] at mu;exact mu
 by_cases hb:b=x
 ·subst hb;rw [ac] at q;cases q;exact new
 ·rw [ah hb] at q
  by_cases hbe:b=e
  ·have q':H b=some (.own x):=by
    rcases he with z | z
    ·exact absurd (hbe.trans z) hb
    ·rw [hbe];exact z
   rw [q] at q';cases q';obtain ⟨v,hv⟩:=heo;exact ⟨v,by rw [hbe];exact hv⟩
  ·refine (ok b u q).stay (fun c v hc r=>k c v ?_ r) (fun c r=>by rw [ah (nown c b r)];exact r) fun c xs r=>by rw [ah (ntup c xs r)];exact r
   rcases hc with rfl | hc
   ·exact hbe
   ·rintro rfl;rcases he with z | z
    ·exact nown c b hc z
    ·rw [hc] at z;cases z;exact hb rfl
end
structure Un (fs ex:List Addr) (H H':Hp) (h h':Heap):Prop where
 keep:∀ b o,h.get? b=some o→H b=none→b∉fs→b∉ex→h'.get? b=some o
 slot:∀ b o,h.get? b=some o→H b=none→b∈fs→b∉ex→∃ sl,h'.get? b=some { o with slots:=sl }
 free:∀ b o,h.get? b=some o→H b=none→b∉ex→H' b=none
 there:∀ b o,h.get? b=some o→b∉ex→∃ o',h'.get? b=some o'
 tups:∀ b xs,H b=some (.tup xs)→H' b=some (.tup xs)
 frzs:∀ b o u,H b=some (.frz o u)→H' b=some (.frz o u)
 tbls:∀ b ps,H b=some (.tbl ps)→∃ more,H' b=some (.tbl (ps++more))
section
variable {fs fs' ex ex':List Addr} {H H1 H2:Hp} {h h1 h2 h':Heap} {a x e:Addr} {o:HO}
theorem Un.any (u:Un fs ex H H1 h h1) {b:Addr} {ob:Obj} (q:h.get? b=some ob) (n:H b=none) (hx:b∉ex):∃ sl,h1.get? b=some { ob with slots:=sl }:=by
 by_cases hb:b∈fs
 ·exact u.slot b ob q n hb hx
 ·exact ⟨ob.slots,u.keep b ob q n hb hx⟩
theorem Un.trans (a:Un fs ex H H1 h h1) (b:Un fs ex H1 H2 h1 h2):Un fs ex H H2 h h2 where
 keep:=fun c ob q n hc hx=>b.keep c ob (a.keep c ob q n hc hx) (a.free c ob q n hx) hc hx
 slot:=fun c ob q n hc hx=>by
  obtain ⟨sl,e1⟩:=a.slot c ob q n hc hx;obtain ⟨sl',e2⟩:=b.slot c _ e1 (a.free c ob q n hx) hc hx;exact ⟨sl',e2⟩
 free:=fun c ob q n hx=>by
  obtain ⟨o',e1⟩:=a.there c ob q hx;exact b.free c o' e1 (a.free c ob q n hx) hx
 there:=fun c ob q hx=>by
  obtain ⟨o',e1⟩:=a.there c ob q hx;exact b.there c o' e1 hx
 tups:=fun c xs q=>b.tups c xs (a.tups c xs q)
 frzs:=fun c ob xs q=>b.frzs c ob xs (a.frzs c ob xs q)
 tbls:=fun c ps q=>by
  obtain ⟨m1,e1⟩:=a.tbls c ps q;obtain ⟨m2,e2⟩:=b.tbls c _ e1;exact ⟨m1++m2,by rw [e2,Array.append_assoc]⟩
theorem Un.kept (k:∀ b u,h.get? b=some u→h'.get? b=some u):Un fs ex H H h h' :=
 ⟨fun b ob q _ _ _=>k b ob q,fun b ob q _ _ _=>⟨ob.slots,k b ob q⟩,fun _ _ _ n _=>n,fun b ob q _=>⟨ob,k b ob q⟩,fun _ _ q=>q,fun _ _ _ q=>q,fun _ ps q=>⟨#[],by rw [q];simp⟩⟩
theorem Un.refl:Un fs ex H H h h:=Un.kept fun _ _ q=>q
theorem Un.laid (k:∀ b u,h.get? b=some u→h'.get? b=some u) (hp:h.objs.size≤a) (hn:H a=none):Un fs ex H (upd H a o) h h' where
 keep:=fun b u q _ _ _=>k b u q
 slot:=fun b u q _ _ _=>⟨u.slots,k b u q⟩
 free:=fun b u q n _=>by rw [ah (Nat.ne_of_lt (Nat.lt_of_lt_of_le (Heap.lt_size q) hp))];exact n
 there:=fun b u q _=>⟨u,k b u q⟩
 tups:=fun b xs q=>by rw [ah (aq q hn)];exact q
 frzs:=fun b u xs q=>by rw [ah (aq q hn)];exact q
 tbls:=fun b ps q=>⟨#[],by rw [ah (aq q hn),q];simp⟩
theorem Un.write (mu:Mut (H x)) (he:e=x∨H e=some (.own x)) (k:∀ b u,b≠e→h.get? b=some u→h'.get? b=some u) (heo:∃ u,h'.get? e=some u):Un fs ex H (upd H x o) h h':=by
 have hx:∀ b,H b=none→b≠x:=fun b n z=>by subst z;rw [n] at mu;exact mu
 have hb:∀ b,H b=none→b≠e:=fun b n z=>by
  subst z;rcases he with r | r
  ·exact hx b n r
  ·rw [n] at r;cases r
 have hm:∀ b u,H b=some u→¬ Mut (some u)→b≠x:=fun b u q nm z=>by subst z;rw [q] at mu;exact nm mu
 refine ⟨fun b u q n _ _=>k b u (hb b n) q,fun b u q n _ _=>⟨u.slots,k b u (hb b n) q⟩,fun b u q n _=>by rw [ah (hx b n)];exact n,fun b u q _=>?_,
  fun b xs q=>by rw [ah (hm b _ q fun z=>z)];exact q,fun b u xs q=>by rw [ah (hm b _ q fun z=>z)];exact q,fun b ps q=>⟨#[],by rw [ah (hm b _ q fun z=>z),q];simp⟩⟩
 by_cases hbe:b=e
 ·subst hbe;exact heo
 ·exact ⟨u,k b u hbe q⟩
end
def trk (h:Heap) (H:Hp):List Addr:=(List.range h.objs.size).filter fun a=>(H a).isSome
def iy (h:Heap) (H:Hp):Heap:=PySem.W.hideAll h (trk h H)
theorem mJ (h:Heap) (H:Hp):(iy h H).objs.size=h.objs.size:=PySem.W.hideAll_size _ _
theorem nU {h:Heap} {H:Hp} {b:Addr} {o:Obj} (e:h.get? b=some o) (n:H b=none):(iy h H).get? b=some o :=
 PySem.W.hideAll_get _ e fun hm=>by
  have q:(H b).isSome=true:=(List.mem_filter.mp hm).2;rw [n] at q;simp at q
theorem pZ {h:Heap} {H:Hp} {b:Addr} {o:Obj} (e:(iy h H).get? b=some o):h.get? b=some o∧H b=none:=by
 have e':h.get? b=some o:=PySem.W.of_hideAll (trk h H) e;refine ⟨e',?_⟩
 cases q:H b with
 | none=>rfl
 | some x =>
  have hm:b∈trk h H:=List.mem_filter.mpr ⟨List.mem_range.mpr (Heap.lt_size e'),by simp [q]⟩;have z:(iy h H).get? b=none:=PySem.W.hideAll_none (trk h H) hm;rw [z] at e;cases e
def p6 (g h:Heap) (L:Addr):List (Addr×Obj):=(List.range h.objs.size).filterMap fun a=>if a=L∨(g.get? a).isSome=true then none else (h.get? a).map fun o=>(a,o)
def rest (g h:Heap) (L d:Addr):List (Addr×Obj):=(p6 g h L).filter fun p=>decide (p.1≠d)
structure Mod (K:PySem.W.Frag) (mg:Str→Option Value) (base:Heap):Prop where
 kin:K.In base
 glob:base.Ns mainGlobals mg
 blt:∃ mb,base.Ns builtinsNs mb∧∀ x:Str,x≠ "__name__" →mb x=bootBuiltins x
 nolimit:base.NoLimit
structure Cx where
 prog:Program
 w:World
 K:PySem.W.Frag
 mg:Str→Option Value
 base:Heap
 A:Around
 N:List Str
 s₀:Shared
 H₀:Hp
 env:Env
 outer:List Env
 stack:List Env
 ex:List Addr
 fn:Str→Bool
 calm:Bool
 pn:List (Addr×Obj)
 xe:Value→Shared→Prop
def frs (l:List Env):List Addr:=l.filterMap (·.frame)
abbrev Cx.fs (X:Cx):List Addr:=frs X.outer
def Vis (sc:Scope) (x:Str):Prop:=sc.names.lookup x=some .local∨sc.names.lookup x=some .cell∨sc.names.lookup x=some .free
def Loc (sc:Scope) (x:Str):Prop:=sc.names.lookup x=some .local∨sc.names.lookup x=some .cell
def DL (env:Env) (h:Heap) (m:Str→Option Value) (x:Str) (u:Value):Prop :=
 (env.kindOf x=some .local∧m x=some u)∨((env.kindOf x=some .cell∨env.kindOf x=some .free)∧∃ c,env.cells.lookup x=some c∧h.IsCell c (some u))
structure Cx.Ok (X:Cx):Prop where
 mod:Mod X.K X.mg X.base
 kind:X.env.scope.kind=.function
 glob:X.env.globals=mainGlobals
 blt:X.env.builtins=builtinsNs
 above:X.s₀.heap.objs.size≤X.env.locals
 inj:∀ x y c,X.env.cells.lookup x=some c→X.env.cells.lookup y=some c→x=y
 has:∀ x,(X.env.kindOf x=some .cell∨X.env.kindOf x=some .free)→∃ c,X.env.cells.lookup x=some c
 cab:∀ x c,X.fn x=true→X.env.cells.lookup x=some c→X.s₀.heap.objs.size≤c
 hd:X.calm=true→X.A.handled=none
 frames:X.A.frames=some X.stack
 stk:X.stack=X.outer∨(X.stack=X.env :: X.outer∧X.env.frame=some X.env.locals)
 exf:∀ b∈X.ex,b≠X.env.locals∧∀ x c,X.env.cells.lookup x=some c→c≠b
 bs:∀ b o,X.base.get? b=some o→X.s₀.heap.get? b=some o∧X.H₀ b=none
 bsz:X.base.objs.size≤X.s₀.heap.objs.size
 noex:∀ b o,X.base.get? b=some o→b∉X.ex
 exfs:∀ b∈X.ex,b∉X.fs
 funs:X.s₀.heap.FunFrames X.base X.outer
 frf:∀ b∈X.fs,X.H₀ b=none
structure Inv (X:Cx) (pins:List (Addr×Obj)) (σ:List (Option V)) (H:Hp) (s:Shared):Prop where
 ok:X.Ok
 os:s.os=X.s₀.os
 bare:AllBare s.gens
 base:Un X.fs X.ex X.H₀ H X.s₀.heap s.heap
 loc:∃ m,s.heap.Ns X.env.locals m∧∀ (i:Nat) (x:Str) (v:V),X.N[i]?=some x→σ[i]?=some (some v)→Vis X.env.scope x→∃ u,RelV v u∧DL X.env s.heap m x u
 cell:∀ x c,X.env.cells.lookup x=some c→∃ v,s.heap.IsCell c v
 free:H X.env.locals=none
 freeC:∀ x c,X.env.cells.lookup x=some c→H c=none
 pin:∀ p∈X.pn++pins,s.heap.get? p.1=some p.2∧H p.1=none∧p.1≠X.env.locals∧p.1∉X.fs∧∀ v,p.2.data≠.cell v
 hok:HOk X.prog X.w H s.heap
 len:σ.length=X.N.length
section
variable {X:Cx} {pins:List (Addr×Obj)} {σ:List (Option V)} {H H':Hp} {s:Shared} {h':Heap}
theorem Cx.Ok.nofr (ok:X.Ok) {b:Addr} {o:Obj} (e:X.base.get? b=some o):b∉X.fs:=fun hb=>by
 have:=(ok.funs.mem hb).1;rw [e] at this;cases this
theorem Inv.bs (I:Inv X pins σ H s):∀ b o,X.base.get? b=some o→s.heap.get? b=some o∧H b=none:=fun b o e =>
 ⟨I.base.keep b o (I.ok.bs b o e).1 (I.ok.bs b o e).2 (I.ok.nofr e) (I.ok.noex b o e),I.base.free b o (I.ok.bs b o e).1 (I.ok.bs b o e).2 (I.ok.noex b o e)⟩
theorem Inv.bk (I:Inv X pins σ H s):∀ b o,X.base.get? b=some o→s.heap.get? b=some o:=fun b o e=>(I.bs b o e).1
theorem Inv.mod (I:Inv X pins σ H s):Mod X.K X.mg X.base:=I.ok.mod
theorem Inv.kIn (I:Inv X pins σ H s):X.K.In s.heap:=I.ok.mod.kin.keeps I.bk
theorem Inv.lt (I:Inv X pins σ H s):X.env.locals < s.heap.objs.size:=let ⟨_,hn,_⟩:=I.loc;hn.lt
theorem Inv.sz (I:Inv X pins σ H s):X.s₀.heap.objs.size≤s.heap.objs.size:=Nat.le_trans I.ok.above (Nat.le_of_lt I.lt)
theorem Inv.nofs (I:Inv X pins σ H s) {a:Addr} (h:s.heap.objs.size≤a):a∉X.fs:=fun hb=>by
 obtain ⟨_,o,ho,_⟩:=I.ok.funs.mem hb;exact absurd (Nat.lt_of_lt_of_le (Heap.lt_size ho) (Nat.le_trans I.sz h)) (Nat.lt_irrefl _)
theorem Inv.cne (I:Inv X pins σ H s):∀ x c,X.env.cells.lookup x=some c→c≠X.env.locals:=fun x c e z=>by
 obtain ⟨v,o,ho,hd⟩:=I.cell x c e;obtain ⟨m,⟨o',es,ep,ho',hd',_⟩,_⟩:=I.loc;rw [z,ho'] at ho;cases ho;rw [hd'] at hd;cases hd
theorem Inv.funs (I:Inv X pins σ H s):s.heap.FunFrames X.base X.outer:=by
 have all:∀ (l:List Env),(∀ b∈frs l,b∈X.fs)→X.s₀.heap.FunFrames X.base l→s.heap.FunFrames X.base l:=by
  intro l
  induction l with
  | nil=>intro _ _;trivial
  | cons env r ih =>
   intro hs hl;obtain ⟨hk,⟨L,o,hf,hn,ho,hd⟩,hr⟩:=hl;have hL:L∈X.fs:=hs L (by unfold frs;rw [List.filterMap_cons,hf];exact List.mem_cons_self);obtain ⟨sl,e⟩:=I.base.slot L o ho (I.ok.frf L hL) hL fun z=>I.ok.exfs L z hL;exact ⟨hk,⟨L,_,hf,hn,e,hd⟩,ih (fun b hb=>hs b (by unfold frs;rw [List.filterMap_cons,hf];exact List.mem_cons_of_mem _ hb)) hr⟩
 exact all X.outer (fun _ hb=>hb) I.ok.funs
theorem Inv.stack (I:Inv X pins σ H s):s.heap.FunFrames X.base X.stack:=by
 rcases I.ok.stk with e | ⟨e,hf⟩
 ·rw [e];exact I.funs
 ·rw [e];obtain ⟨m,hn,_⟩:=I.loc;refine .cons (by rw [I.ok.kind];decide) hf hn ?_ I.funs;exact Heap.get?_none_of_le (Nat.le_trans I.ok.bsz I.ok.above)
theorem Inv.stkSub (I:Inv X pins σ H s):∀ b∈frs X.stack,b∈X.env.locals :: X.fs:=fun b hb=>by
 rcases I.ok.stk with e | ⟨e,hf⟩
 ·rw [e] at hb;exact List.mem_cons_of_mem _ hb
 ·rw [e] at hb;unfold frs at hb;rw [List.filterMap_cons,hf] at hb;exact hb
theorem Inv.stkFree (I:Inv X pins σ H s):∀ b∈frs X.stack,H b=none:=fun b hb=>by
 rcases List.mem_cons.mp (I.stkSub b hb) with e | hb
 ·rw [e];exact I.free
 ·obtain ⟨_,o,ho,_⟩:=I.ok.funs.mem hb;exact I.base.free b o ho (I.ok.frf b hb) fun z=>I.ok.exfs b z hb
theorem Inv.step {g':Array GenState} {t':Nat} {d':Drawn} {ch:List Addr} (I:Inv X pins σ H s)
  (hch:∀ b∈ch,(b∈X.ex∨X.s₀.heap.objs.size≤b)∧b≠X.env.locals∧(∀ x c,X.env.cells.lookup x=some c→c≠b)∧∀ p∈X.pn++pins,p.1≠b)
  (keep:∀ b o,b≠X.env.locals→b∉X.fs→b∉ch→s.heap.get? b=some o→H b=none→h'.get? b=some o)
  (slot:∀ b o,b≠X.env.locals→b∈X.fs→b∉ch→s.heap.get? b=some o→H b=none→∃ sl,h'.get? b=some { o with slots:=sl }) (free:∀ b o,b∉ch→s.heap.get? b=some o→H b=none→H' b=none)
  (there:∀ b o,b∉ch→s.heap.get? b=some o→∃ o',h'.get? b=some o')
  (tups:∀ b xs,H b=some (.tup xs)→H' b=some (.tup xs)) (frzs:∀ b o u,H b=some (.frz o u)→H' b=some (.frz o u)) (tbls:∀ b ps,H b=some (.tbl ps)→∃ more,H' b=some (.tbl (ps++more)))
  (ns:∀ m,s.heap.Ns X.env.locals m→h'.Ns X.env.locals m) (hok:HOk X.prog X.w H' h') (hg:AllBare g') :
  Inv X pins σ H' { s with heap:=h',gens:=g',drawn:=d',toks:=t' }:=by
 have neL:∀ b o,X.s₀.heap.get? b=some o→b≠X.env.locals:=fun b o e=>Nat.ne_of_lt (Nat.lt_of_lt_of_le (Heap.lt_size e) I.ok.above);have neC:∀ b o,X.s₀.heap.get? b=some o→b∉X.ex→b∉ch:=fun b o e hx hb=>by
  rcases (hch b hb).1 with z | z
  ·exact hx z
  ·exact absurd (Nat.lt_of_lt_of_le (Heap.lt_size e) z) (Nat.lt_irrefl _)
 have cellK:∀ x c,X.env.cells.lookup x=some c→∀ v,s.heap.IsCell c v→h'.IsCell c v:=fun x c e v ⟨o,ho,hd⟩=>by
  have nch:c∉ch:=fun z=>(hch c z).2.2.1 x c e rfl
  by_cases hc:c∈X.fs
  ·obtain ⟨sl,q⟩:=slot c o (I.cne x c e) hc nch ho (I.freeC x c e);exact ⟨_,q,hd⟩
  ·exact ⟨o,keep c o (I.cne x c e) hc nch ho (I.freeC x c e),hd⟩
 refine ⟨I.ok,I.os,hg,⟨fun b o e n hb hx=>?_,fun b o e n hb hx=>?_,fun b o e n hx=>?_,fun b o e hx=>?_,fun b xs e=>tups b xs (I.base.tups b xs e),fun b o xs e=>frzs b o xs (I.base.frzs b o xs e),fun b ps e=>?_⟩,?_,fun x c e=>?_,?_,fun x c e=>?_,fun p hp=>?_,hok,I.len⟩
 ·exact keep b o (neL b o e) hb (neC b o e hx) (I.base.keep b o e n hb hx) (I.base.free b o e n hx)
 ·obtain ⟨sl,e1⟩:=I.base.slot b o e n hb hx;obtain ⟨sl',e2⟩:=slot b _ (neL b o e) hb (neC b o e hx) e1 (I.base.free b o e n hx);exact ⟨sl',e2⟩
 ·obtain ⟨o',e1⟩:=I.base.there b o e hx;exact free b o' (neC b o e hx) e1 (I.base.free b o e n hx)
 ·obtain ⟨o',e1⟩:=I.base.there b o e hx;exact there b o' (neC b o e hx) e1
 ·obtain ⟨m1,e1⟩:=I.base.tbls b ps e;obtain ⟨m2,e2⟩:=tbls b _ e1;exact ⟨m1++m2,by rw [e2,Array.append_assoc]⟩
 ·obtain ⟨m,hn,hl⟩:=I.loc;refine ⟨m,ns m hn,fun i x v e1 e2 e3=>?_⟩;obtain ⟨u,r,l⟩:=hl i x v e1 e2 e3;refine ⟨u,r,?_⟩;rcases l with l | ⟨k,c,e,z⟩
  ·exact .inl l
  ·exact .inr ⟨k,c,e,cellK x c e _ z⟩
 ·obtain ⟨v,z⟩:=I.cell x c e;exact ⟨v,cellK x c e v z⟩
 ·obtain ⟨m,⟨o,_,_,ho,_⟩,_⟩:=I.loc;exact free _ o (fun z=>(hch _ z).2.1 rfl) ho I.free
 ·obtain ⟨v,o,ho,hd⟩:=I.cell x c e;exact free c o (fun z=>(hch c z).2.2.1 x c e rfl) ho (I.freeC x c e)
 ·obtain ⟨e,n,ne,nf,d⟩:=I.pin p hp;have nch:p.1∉ch:=fun z=>(hch p.1 z).2.2.2 p hp rfl;exact ⟨keep p.1 p.2 ne nf nch e n,free p.1 p.2 nch e n,ne,nf,d⟩
theorem Inv.un {t':Nat} (I:Inv X pins σ H s) (u:Un X.fs [] H H' s.heap h') (hok:HOk X.prog X.w H' h'):Inv X pins σ H' { s with heap:=h',toks:=t' }:=by
 obtain ⟨m,⟨o,es,ep,ho,r⟩,_⟩:=id I.loc;obtain ⟨sl,hL⟩:=u.any ho I.free (by simp);exact I.step (g':=s.gens) (d':=s.drawn) (ch:=[]) (fun _ z=>nomatch z) (fun b o _ hb _ e n=>u.keep b o e n hb (by simp)) (fun b o _ hb _ e n=>u.slot b o e n hb (by simp)) (fun b o _ e n=>u.free b o e n (by simp)) (fun b o _ e=>u.there b o e (by simp)) u.tups u.frzs u.tbls (fun m' hm=>by
  obtain ⟨o',es',ep',ho',r'⟩:=hm;rw [ho] at ho';cases ho';exact ⟨_,es',ep',hL,r'⟩) hok I.bare
theorem Inv.call {g':Array GenState} {t':Nat} {d':Drawn} {ch:List Addr} (I:Inv X pins σ H s) (u:Un (frs X.stack) ch H H' s.heap h') (hok:HOk X.prog X.w H' h') (hg:AllBare g')
  (hch:∀ b∈ch,(b∈X.ex∨X.s₀.heap.objs.size≤b)∧b≠X.env.locals∧(∀ x c,X.env.cells.lookup x=some c→c≠b)∧∀ p∈X.pn++pins,p.1≠b) :
  Inv X pins σ H' { s with heap:=h',gens:=g',drawn:=d',toks:=t' }:=by
 obtain ⟨m,⟨o,es,ep,ho,r⟩,_⟩:=id I.loc;obtain ⟨sl,hL⟩:=u.any ho I.free fun z=>(hch _ z).2.1 rfl;exact I.step (ch:=ch) hch (fun b o hL hb hc e n=>u.keep b o e n (fun z=>(List.mem_cons.mp (I.stkSub b z)).elim hL hb) hc) (fun b o _ _ hc e n=>u.any e n hc) (fun b o hc e n=>u.free b o e n hc) (fun b o hc e=>u.there b o e hc) u.tups u.frzs u.tbls (fun m' hm=>by
  obtain ⟨o',es',ep',ho',r'⟩:=hm;rw [ho] at ho';cases ho';exact ⟨_,es',ep',hL,r'⟩) hok hg
theorem Inv.turned {t':Nat} {it:Addr} (I:Inv X pins σ H s) (k:∀ b o,b≠it→s.heap.get? b=some o→h'.get? b=some o) (hn:H it=none) (hL:it≠X.env.locals)
  (h1:it∈X.ex∨X.s₀.heap.objs.size≤it) (h2:∀ x c,X.env.cells.lookup x=some c→c≠it) (h3:∀ p∈X.pn++pins,p.1≠it):Inv X pins σ H { s with heap:=h',toks:=t' }:=by
 have nit:∀ b u,H b=some u→b≠it:=fun b u e z=>by rw [z,hn] at e;cases e
 refine I.step (g':=s.gens) (d':=s.drawn) (ch:=[it]) (fun b hb=>?_) (fun b o _ _ hc e _=>k b o (fun z=>hc (by simp [z])) e) (fun b o _ _ hc e _=>⟨o.slots,k b o (fun z=>hc (by simp [z])) e⟩) (fun _ _ _ _ n=>n)
  (fun b o hc e=>⟨o,k b o (fun z=>hc (by simp [z])) e⟩) (fun _ _ e=>e) (fun _ _ _ e=>e) (fun b ps e=>⟨#[],by rw [e];simp⟩) (fun m hm=>?_) (fun b u e=>?_) I.bare
 ·have e:b=it:=by simpa using hb
  subst e;exact ⟨h1,hL,h2,h3⟩
 ·obtain ⟨o,es,ep,ho,r⟩:=hm;exact ⟨o,es,ep,k _ o (Ne.symm hL) ho,r⟩
 ·refine (I.hok b u e).stay (fun c v hc q=>k c v ?_ q) (fun _ q=>q) fun _ _ q=>q;rcases hc with z | z
  ·rw [z];exact nit b u e
  ·exact nit c _ z
theorem Inv.tok (I:Inv X pins σ H s) (t:Nat):Inv X pins σ H { s with toks:=t }:=I.un (h':=s.heap) (t':=t) Un.refl I.hok
theorem Inv.kept {t':Nat} (I:Inv X pins σ H s) (k:∀ b u,s.heap.get? b=some u→h'.get? b=some u):Inv X pins σ H { s with heap:=h',toks:=t' }:=I.un (Un.kept k) (I.hok.kept k)
theorem Inv.laid {a:Addr} {o:HO} {t':Nat} (I:Inv X pins σ H s) (k:∀ b u,s.heap.get? b=some u→h'.get? b=some u) (hp:s.heap.objs.size≤a) (new:ObjOk X.prog X.w (upd H a o) h' a o) :
  Inv X pins σ (upd H a o) { s with heap:=h',toks:=t' }:=I.un (Un.laid k hp (I.hok.fresh hp)) (I.hok.laid k hp new)
theorem Inv.write {x e:Addr} {o:HO} {t':Nat} (I:Inv X pins σ H s) (mu:Mut (H x)) (he:e=x∨H e=some (.own x)) (k:∀ b u,b≠e→s.heap.get? b=some u→h'.get? b=some u) (heo:∃ u,h'.get? e=some u)
  (new:ObjOk X.prog X.w (upd H x o) h' x o):Inv X pins σ (upd H x o) { s with heap:=h',toks:=t' }:=I.un (Un.write mu he k heo) (I.hok.write mu he k heo new)
theorem Inv.pins_of {pins':List (Addr×Obj)} (I:Inv X pins σ H s) (h:∀ p∈pins',s.heap.get? p.1=some p.2∧H p.1=none∧p.1≠X.env.locals∧p.1∉X.fs∧∀ v,p.2.data≠.cell v):Inv X pins' σ H s :=
 ⟨I.ok,I.os,I.bare,I.base,I.loc,I.cell,I.free,I.freeC,fun p hp=>(List.mem_append.mp hp).elim (fun z=>I.pin p (List.mem_append_left _ z)) (h p),I.hok,I.len⟩
theorem jB {N:List Str} (hN:N.Nodup) {i j:Nat} {x:Str} (a:N[i]?=some x) (b:N[j]?=some x):i=j:=by
 obtain ⟨h1,e1⟩:=List.getElem?_eq_some_iff.mp a;obtain ⟨h2,e2⟩:=List.getElem?_eq_some_iff.mp b;exact (List.getElem_inj hN).mp (e1.trans e2.symm)
theorem gP {M:Model} {A:Around} {E:Value→Shared→Prop} {i:Nat} {x:Str} {v:V} {u:Value} {Q:Unit→Shared→Prop} (I:Inv X pins σ H s) (hN:X.N.Nodup) (hi:X.N[i]?=some x) (hx:Loc X.env.scope x) (r:RelV v u)
  (h:∀ s',Inv X pins (σ.set i (some v)) H s'→(∃ a,Heap.SameBut a s.heap s'.heap∧(a=X.env.locals∨X.env.cells.lookup x=some a))→Q () s') (hf:X.fn x=true∨X.env.scope.names.lookup x=some .local:=by first | exact .inl rfl | exact .inr rfl | assumption):wpAny M A (storeName X.env x u) Q E s:=by
 obtain ⟨m,hn,hl⟩:=id I.loc;have hcls:(X.env.scope.kind == .class || (X.env.scope.kind == .module && X.env.locals != X.env.globals))=false:=by rw [I.ok.kind];rfl
 have hiσ:i < σ.length:=by rw [I.len];exact (List.getElem?_eq_some_iff.mp hi).1
 have cne:=I.cne;have tracked:∀ {a:Addr} {h':Heap},(∃ o,s.heap.get? a=some o∧H a=none)→Heap.SameBut a s.heap h'→HOk X.prog X.w H h':=fun {a h'} ha hs b ob e=>by
  obtain ⟨_,_,hfree⟩:=ha;refine (I.hok b ob e).stay (fun c w' hc q=>(hs.2 c ?_).trans q) (fun _ q=>q) fun _ _ q=>q;rintro rfl;rcases hc with rfl | hc
  ·rw [hfree] at e;cases e
  ·rw [hfree] at hc;cases hc
 rcases hx with hk | hk
 ·refine wpAny_storeName_local hk hn (fun h' hn' hs=>?_) hcls;obtain ⟨oL,_,_,hoL,_⟩:=id hn;refine h _ ⟨I.ok,I.os,I.bare,⟨fun b o e n hb hx=>?_,fun b o e n hb hx=>?_,I.base.free,fun b o e hx=>?_,I.base.tups,I.base.frzs,I.base.tbls⟩,⟨_,hn',fun j y v' e1 e2 e3=>?_⟩,fun y c e=>?_,I.free,I.freeC,fun p hp=>?_,tracked ⟨oL,hoL,I.free⟩ hs,by simpa using I.len⟩ ⟨_,hs,.inl rfl⟩
  ·exact (hs.2 b (Nat.ne_of_lt (Nat.lt_of_lt_of_le (Heap.lt_size e) I.ok.above))).trans (I.base.keep b o e n hb hx)
  ·obtain ⟨sl,e1⟩:=I.base.slot b o e n hb hx;exact ⟨sl,(hs.2 b (Nat.ne_of_lt (Nat.lt_of_lt_of_le (Heap.lt_size e) I.ok.above))).trans e1⟩
  ·obtain ⟨o',e1⟩:=I.base.there b o e hx;exact ⟨o',(hs.2 b (Nat.ne_of_lt (Nat.lt_of_lt_of_le (Heap.lt_size e) I.ok.above))).trans e1⟩
  ·by_cases hj:j=i
   ·subst hj;rw [hi] at e1;cases e1;rw [List.getElem?_set_self hiσ] at e2
    cases e2
    exact ⟨u,r,.inl ⟨hk,by simp⟩⟩
   ·rw [List.getElem?_set_ne (Ne.symm hj)] at e2;obtain ⟨u',r',q⟩:=hl j y v' e1 e2 e3;refine ⟨u',r',?_⟩;rcases q with ⟨k,e⟩ | ⟨k,c,e,z⟩
    ·refine .inl ⟨k,?_⟩;have:y≠x:=fun e=>hj (jB hN e1 (e ▸ hi));simp [this,e]
    ·exact .inr ⟨k,c,e,z.sameBut hs (cne y c e)⟩
  ·obtain ⟨w',z⟩:=I.cell y c e;exact ⟨w',z.sameBut hs (cne y c e)⟩
  ·obtain ⟨e,n,ne,nf,d⟩:=I.pin p hp;exact ⟨(hs.2 p.1 ne).trans e,n,ne,nf,d⟩
 ·have hfn:X.fn x=true:=by
   rcases hf with z | z
   ·exact z
   ·rw [z] at hk;cases hk
  obtain ⟨c,hc⟩:=I.ok.has x (.inl hk);obtain ⟨w',z⟩:=I.cell x c hc;refine wpAny_storeName_cell I.ok.kind hk hc z (fun h' hc' hs=>?_);obtain ⟨oc,hoc,hocd⟩:=id z;refine h { s with heap:=h' } ⟨I.ok,I.os,I.bare,⟨fun b o e n hb hx=>?_,fun b o e n hb hx=>?_,I.base.free,fun b o e hx=>?_,I.base.tups,I.base.frzs,I.base.tbls⟩,⟨m,hn.sameBut hs (Ne.symm (cne x c hc)),fun j y v' e1 e2 e3=>?_⟩,fun y c' e=>?_,I.free,I.freeC,fun p hp=>?_,tracked ⟨oc,hoc,I.freeC x c hc⟩ hs,by simpa using I.len⟩ ⟨c,hs,.inr hc⟩
  ·exact (hs.2 b (Nat.ne_of_lt (Nat.lt_of_lt_of_le (Heap.lt_size e) (I.ok.cab x c hfn hc)))).trans (I.base.keep b o e n hb hx)
  ·obtain ⟨sl,e1⟩:=I.base.slot b o e n hb hx;exact ⟨sl,(hs.2 b (Nat.ne_of_lt (Nat.lt_of_lt_of_le (Heap.lt_size e) (I.ok.cab x c hfn hc)))).trans e1⟩
  ·obtain ⟨o',e1⟩:=I.base.there b o e hx;exact ⟨o',(hs.2 b (Nat.ne_of_lt (Nat.lt_of_lt_of_le (Heap.lt_size e) (I.ok.cab x c hfn hc)))).trans e1⟩
  ·by_cases hj:j=i
   ·subst hj;rw [hi] at e1;cases e1;rw [List.getElem?_set_self hiσ] at e2
    cases e2
    exact ⟨u,r,.inr ⟨.inl hk,c,hc,hc'⟩⟩
   ·rw [List.getElem?_set_ne (Ne.symm hj)] at e2;obtain ⟨u',r',q⟩:=hl j y v' e1 e2 e3;refine ⟨u',r',?_⟩;rcases q with q | ⟨k,c',e,z'⟩
    ·exact .inl q
    ·refine .inr ⟨k,c',e,z'.sameBut hs ?_⟩;rintro rfl;exact hj (jB hN e1 (I.ok.inj _ _ _ e hc ▸ hi))
  ·by_cases hcc:c'=c
   ·subst hcc;exact ⟨_,hc'⟩
   ·obtain ⟨w2,z2⟩:=I.cell y c' e;exact ⟨w2,z2.sameBut hs hcc⟩
  ·obtain ⟨e,n,ne,nf,d⟩:=I.pin p hp;refine ⟨(hs.2 p.1 ?_).trans e,n,ne,nf,d⟩;intro q;rw [q,hoc] at e;have q':oc=p.2:=Option.some.inj e;exact d w' (by rw [← q'];exact hocd)
theorem jC {M:Model} {A:Around} {E:Value→Shared→Prop} {i:Nat} {x:Str} {v:V} {u:Value} {Q:Unit→Shared→Prop} (I:Inv X pins σ H s) (hN:X.N.Nodup) (hi:X.N[i]?=some x) (hx:Loc X.env.scope x) (r:RelV v u)
  (h:∀ s',Inv X pins (σ.set i (some v)) H s'→Q () s') (hf:X.fn x=true∨X.env.scope.names.lookup x=some .local:=by first | exact .inl rfl | exact .inr rfl | assumption):wpAny M A (storeName X.env x u) Q E s :=
 gP I hN hi hx r (fun s' I' _=>h s' I') hf
theorem Inv.call' {s':Shared} {ch:List Addr} (I:Inv X pins σ H s) (ho:s'.os=s.os) (u:Un (frs X.stack) ch H H' s.heap s'.heap) (hok:HOk X.prog X.w H' s'.heap) (hg:AllBare s'.gens)
  (hch:∀ b∈ch,(b∈X.ex∨X.s₀.heap.objs.size≤b)∧b≠X.env.locals∧(∀ x c,X.env.cells.lookup x=some c→c≠b)∧∀ p∈X.pn++pins,p.1≠b):Inv X pins σ H' s':=by
 obtain ⟨h',g',d',t',o'⟩:=s';have e:o'=s.os:=ho;subst e;exact I.call (g':=g') (t':=t') (d':=d') u hok hg hch
end
abbrev XK:=Value→Option Addr→Hp→Prop
abbrev St:=List (Option V)
abbrev VK:=V→Hp→Prop
abbrev TE:=St→Hp→VK→Prop
abbrev TT:=St→Hp→(Bool→Hp→Prop)→Prop
abbrev TA:=St→Hp→(List V→Hp→Prop)→Prop
structure Ends where
 nx:St→Hp→Prop
 rt:VK
 bk:St→Hp→Prop:=fun _ _=>False
 ct:St→Hp→Prop:=fun _ _=>False
abbrev TS:=Ends→St→Hp→Prop
def EP (X:Cx) (pins:List (Addr×Obj)) (σ:St) (Q:VK) (u:Value) (s':Shared):Prop:=∃ v H',Inv X pins σ H' s'∧RelV v u∧Q v H'
def TP (X:Cx) (pins:List (Addr×Obj)) (σ:St) (Q:Bool→Hp→Prop) (b:Bool) (s':Shared):Prop:=∃ H',Inv X pins σ H' s'∧Q b H'
def AP (X:Cx) (pins:List (Addr×Obj)) (σ:St) (Q:List V→Hp→Prop) (us:List Value) (s':Shared):Prop:=∃ vs H',Inv X pins σ H' s'∧Vals vs us∧Q vs H'
def SP (X:Cx) (pins:List (Addr×Obj)) (D:Ends) (f:Flow) (s':Shared):Prop :=
 match f with
 | .next=>∃ σ' H',Inv X pins σ' H' s'∧D.nx σ' H'
 | .brk=>∃ σ' H',Inv X pins σ' H' s'∧D.bk σ' H'
 | .cont=>∃ σ' H',Inv X pins σ' H' s'∧D.ct σ' H'
 | .ret u=>∃ v σ' H',Inv X pins σ' H' s'∧RelV v u∧D.rt v H'
def PE (X:Cx) (e:Expr) (t:TE):Prop :=
 ∀ (pins:List (Addr×Obj)) (s:Shared) (σ:St) (H:Hp) (Q:VK),Inv X pins σ H s→t σ H Q→wpAny (model X.prog X.w) X.A (eval e X.env) (EP X pins σ Q) X.xe s
def PT (X:Cx) (e:Expr) (t:TT):Prop :=
 ∀ (pins:List (Addr×Obj)) (s:Shared) (σ:St) (H:Hp) (Q:Bool→Hp→Prop),Inv X pins σ H s→t σ H Q→wpAny (model X.prog X.w) X.A (isTrue e X.env (eval e X.env)) (TP X pins σ Q) X.xe s
def PW (X:Cx) (e:Expr) (t:TT):Prop :=
 ∀ (whole:Sem Value) (pins:List (Addr×Obj)) (s:Shared) (σ:St) (H:Hp) (Q:Bool→Hp→Prop),Inv X pins σ H s→t σ H Q→wpAny (model X.prog X.w) X.A (isTrue e X.env whole) (TP X pins σ Q) X.xe s
theorem PW.pt {X:Cx} {e:Expr} {t:TT} (h:PW X e t):PT X e t:=h _
def PA (X:Cx) (es:List Expr) (t:TA):Prop :=
 ∀ (pos:Pos) (pins:List (Addr×Obj)) (s:Shared) (σ:St) (H:Hp) (Q:List V→Hp→Prop),Inv X pins σ H s→t σ H Q→wpAny (model X.prog X.w) X.A (spliced (backTo pos (starEach es X.env))) (AP X pins σ Q) X.xe s
def PS (X:Cx) (st:Stmt) (t:TS):Prop :=
 ∀ (pins:List (Addr×Obj)) (s:Shared) (σ:St) (H:Hp) (D:Ends),Inv X pins σ H s→t D σ H→wpAny (model X.prog X.w) X.A (exec st X.env) (SP X pins D) X.xe s
def PSs (X:Cx) (st:List Stmt) (t:TS):Prop :=
 ∀ (pins:List (Addr×Obj)) (s:Shared) (σ:St) (H:Hp) (D:Ends),Inv X pins σ H s→t D σ H→wpAny (model X.prog X.w) X.A (execs st X.env) (SP X pins D) X.xe s
theorem thn {α:Type} {t:Sem α} {Q Q':α→Shared→Prop} {M:Model} {A:Around} {E:Value→Shared→Prop} {s:Shared} (h:wpAny M A t Q E s) (hQ:∀ a s,Q a s→Q' a s):wpAny M A t Q' E s:=wpAny_mono h hQ fun _ _ x=>x
section
variable {X:Cx}
inductive IVar (i:Nat) (σ:St) (H:Hp) (Q:VK):Prop
 | mk (v:V):(σ[i]?=some (some v))→(Q v H)→IVar i σ H Q
def kT (i:Nat):TE:=fun σ H Q=>IVar i σ H Q
def tC (v:V):TE:=fun _ H Q=>Q v H
theorem vU {i:Nat} {x:Str} {pos:Pos} (hN:X.N[i]?=some x) (hv:Vis X.env.scope x) (hd:(x == ("__debug__" : Str))=false:=by decide) (hcd:(x == ("__classdict__" : Str))=false:=by decide):PE X (.Name x pos) (kT i):=by
 intro pins s σ H Q I h;obtain ⟨v,e,h⟩:=h;obtain ⟨m,hn,hl⟩:=I.loc;obtain ⟨u,r,l⟩:=hl i x v hN e hv;have fin:EP X pins σ Q u s:=⟨v,H,I,r,h⟩;rcases l with ⟨hk,hm⟩ | ⟨hk,c,hc,hcell⟩
 ·exact wpAny_Name (wpAny_loadName_local I.ok.kind hk hn hm fin) hd
 ·rcases hk with hk | hk
  ·exact wpAny_Name (wpAny_loadName_cell I.ok.kind hk hc hcell fin) hd
  ·exact wpAny_Name (wpAny_loadName_free I.ok.kind hk hc hcell fin hcd) hd
theorem pe_int {i j pos}:PE X (.Constant (.int i) j pos) (tC (.int i)):=fun _ _ _ H _ I h=>wpAny_Constant_int ⟨.int i,H,I.tok _,⟨_,rfl⟩,h⟩
theorem pe_bl {b j pos}:PE X (.Constant (.bool b) j pos) (tC (.bl b)):=fun _ _ _ H _ I h=>Constant_bool ⟨.bl b,H,I,rfl,h⟩
theorem pe_non {j pos}:PE X (.Constant .none j pos) (tC .non):=fun _ _ _ H _ I h=>Constant_none ⟨.non,H,I,rfl,h⟩
theorem pe_str {x j pos}:PE X (.Constant (.str x) j pos) (tC (.str x)):=fun _ _ _ H _ I h=>Calls.Constant_str ⟨.str x,H,I.tok _,⟨_,rfl⟩,h⟩
def Gl (X:Cx) (x:Str):Prop:=X.env.kindOf x=some .globalImplicit
theorem dA {E:Value→Shared→Prop} {pins:List (Addr×Obj)} {s:Shared} {σ:St} {H:Hp} {x:Str} {u:Value} {pos:Pos} {Q:Value→Shared→Prop} (I:Inv X pins σ H s) (hg:Gl X x) (hm:X.mg x=some u) (h:Q u s)
  (hd:(x == ("__debug__" : Str))=false:=by decide):wpAny (model X.prog X.w) X.A (eval (.Name x pos) X.env) Q E s :=
 Calls.Name_function_global I.ok.kind hg (Calls.loadGlobal_global (by rw [I.ok.glob];exact I.mod.glob.keeps I.bk) hm h) hd
theorem bP {E:Value→Shared→Prop} {pins:List (Addr×Obj)} {s:Shared} {σ:St} {H:Hp} {x:Str} {u:Value} {pos:Pos} {Q:Value→Shared→Prop} (I:Inv X pins σ H s) (hg:Gl X x) (hm:X.mg x=none) (hv:bootBuiltins x=some u) (h:Q u s)
  (hn:x≠ "__name__" :=by decide) (hd:(x == ("__debug__" : Str))=false:=by decide):wpAny (model X.prog X.w) X.A (eval (.Name x pos) X.env) Q E s:=by
 obtain ⟨mb,h1,h2⟩:=I.mod.blt;exact Calls.Name_function_global I.ok.kind hg (Calls.loadGlobal_builtin (by rw [I.ok.glob];exact I.mod.glob.keeps I.bk) hm (by rw [I.ok.blt];exact h1.keeps I.bk) ((h2 x hn).trans hv) h) hd
theorem lZ {x:Str} {v:V} {u:Value} {pos:Pos} (hg:Gl X x) (hm:X.mg x=some u) (r:RelV v u) (hd:(x == ("__debug__" : Str))=false:=by decide):PE X (.Name x pos) (tC v) :=
 fun _ _ _ H _ I h=>dA I hg hm ⟨v,H,I,r,h⟩ hd
theorem p7 {x:Str} {v:V} {u:Value} {pos:Pos} (hg:Gl X x) (hm:X.mg x=none) (hv:bootBuiltins x=some u) (r:RelV v u) (hn:x≠ "__name__" :=by decide) (hd:(x == ("__debug__" : Str))=false:=by decide):PE X (.Name x pos) (tC v) :=
 fun _ _ _ H _ I h=>bP I hg hm hv ⟨v,H,I,r,h⟩ hn hd
variable {a b:Expr} {ta tb:TE} {pos:Pos}
def PC (X:Cx) (op:CmpOp) (a b:Expr) (t:TE):Prop :=
 ∀ (pins:List (Addr×Obj)) (s:Shared) (σ:St) (H:Hp) (Q:VK),Inv X pins σ H s→t σ H Q →
  wpAny (model X.prog X.w) X.A (eval a X.env) (fun v s₁=>wpAny (model X.prog X.w) X.A (eval b X.env) (fun u s₂=>wpAny (model X.prog X.w) X.A (compareOp op v u) (EP X pins σ Q) X.xe s₂) X.xe s₁) X.xe s
theorem nV (b:Expr) {op:CmpOp} (h:op≠.In) (h2:op≠.NotIn):behindInMarks op b=false:=by
 have e1:(op == CmpOp.In)=false:=by cases op <;> first | rfl | exact absurd rfl h
 have e2:(op == CmpOp.NotIn)=false:=by cases op <;> first | rfl | exact absurd rfl h2
 cases b <;> simp [behindInMarks,e1,e2]
def tB (t:TE):TT:=fun σ H Q=>t σ H fun x H1=>∃ c,x=.bl c∧Q c H1
theorem vV {op:CmpOp} {t:TE} (h:PC X op a b t) (h1:behindInMarks op b=false:=by first | exact nV _ (by decide) (by decide) | rfl):PT X (.Compare a [op] [b] pos) (tB t):=by
 intro pins s σ H Q I hw;refine wpAny_isTrue_Compare1 (thn (h pins s σ H _ I hw) fun v s1 h1=>thn h1 fun u s2 h2=>thn h2 fun c s3 ⟨x,H1,I1,r1,q1⟩=>?_) h1;obtain ⟨d,rfl,q⟩:=q1
 cases r1
 exact wpAny_truthy_bool ⟨H1,I1,q⟩
theorem pt_val {e:Expr} {t:TE} (h:PE X e t) (he:∀ whole,isTrue e X.env whole=(do let v ← whole;standAt e.pos;holding [v] (truthy v)):=by intro _;rfl):PT X e (tB t):=by
 intro pins s σ H Q I hw;refine isTrue_plain (thn (h pins s σ H _ I hw) fun v s1 ⟨x,H1,I1,r1,q1⟩=>?_) (he _);obtain ⟨d,rfl,q⟩:=q1
 cases r1
 exact wpAny_truthy_bool ⟨H1,I1,q⟩
variable {tA tB':TT} {rest:List Expr}
def tOr (t u:TT):TT:=fun σ H Q=>t σ H fun c H1=>if c=true then Q true H1 else u σ H1 Q
def DM (t:TT):TT:=fun σ H Q=>t σ H fun c H1=>Q (!c) H1
theorem pw_or1 (ha:PT X a tA):PW X (.BoolOp .Or [a] pos) tA:=by
 intro wh pins s σ H Q I h;refine isTrue_or (thn (ha pins s σ H Q I h) fun c s1 e=>?_)
 cases c with
 | false=>exact isTrue_or_nil e
 | true=>exact e
theorem pw_or (ha:PT X a tA) (hb:PW X (.BoolOp .Or (b :: rest) pos) tB'):PW X (.BoolOp .Or (a :: b :: rest) pos) (tOr tA tB'):=by
 intro wh pins s σ H Q I h;refine isTrue_or (thn (ha pins s σ H _ I h) fun c s1 ⟨H1,I1,q1⟩=>?_)
 cases c with
 | true=>exact ⟨H1,I1,q1⟩
 | false=>exact hb wh pins s1 σ H1 Q I1 q1
theorem pt_not (ha:PT X a tA):PT X (.UnaryOp .Not a pos) (DM tA):=by
 intro pins s σ H Q I h;exact isTrue_not (ha pins s σ H (fun c H1=>Q (!c) H1) I h)
def CO (ta tb:TE):TE:=fun σ H Q=>ta σ H fun x H1=>∃ c,x=.bl c∧if c=true then tb σ H1 Q else Q (.bl false) H1
def DN (ta tb:TE):TE:=fun σ H Q=>ta σ H fun x H1=>∃ c,x=.bl c∧if c=true then Q (.bl true) H1 else tb σ H1 Q
def CP (ta:TE):TE:=fun σ H Q=>ta σ H fun x H1=>∃ c,x=.bl c∧Q (.bl (!c)) H1
theorem pe_one {op} {t:TE} (h:PE X a t):PE X (.BoolOp op [a] pos) t:=fun pins s σ H Q I hw=>BoolOp_one (h pins s σ H Q I hw)
theorem pe_and (ha:PE X a ta) (hb:PE X (.BoolOp .And (b :: rest) pos) tb):PE X (.BoolOp .And (a :: b :: rest) pos) (CO ta tb):=by
 intro pins s σ H Q I h;refine BoolOp_and (thn (ha pins s σ H _ I h) fun v s1 ⟨x,H1,I1,r1,q1⟩=>?_);obtain ⟨c,rfl,q1⟩:=q1
 cases r1
 refine wpAny_truthy_bool ?_
 cases c with
 | true=>exact hb pins s1 σ H1 Q I1 q1
 | false=>exact ⟨.bl false,H1,I1,rfl,q1⟩
theorem rh (ha:PE X a ta) (hb:PE X (.BoolOp .Or (b :: rest) pos) tb):PE X (.BoolOp .Or (a :: b :: rest) pos) (DN ta tb):=by
 intro pins s σ H Q I h;refine BoolOp_or (thn (ha pins s σ H _ I h) fun v s1 ⟨x,H1,I1,r1,q1⟩=>?_);obtain ⟨c,rfl,q1⟩:=q1
 cases r1
 refine wpAny_truthy_bool ?_
 cases c with
 | false=>exact hb pins s1 σ H1 Q I1 q1
 | true=>exact ⟨.bl true,H1,I1,rfl,q1⟩
theorem vW (ha:PE X a ta):PE X (.UnaryOp .Not a pos) (CP ta):=by
 intro pins s σ H Q I h;refine UnaryOp_ (thn (ha pins s σ H _ I h) fun v s1 ⟨x,H1,I1,r1,q1⟩=>?_);obtain ⟨c,rfl,q1⟩:=q1
 cases r1
 exact not_of (wpAny_truthy_bool ⟨.bl (!c),H1,I1,rfl,q1⟩)
def tIf (t:TT) (ta tb:TE):TE:=fun σ H Q=>t σ H fun c H1=>if c=true then ta σ H1 Q else tb σ H1 Q
theorem jD {c:Expr} (hc:PT X c tA) (ha:PE X a ta) (hb:PE X b tb):PE X (.IfExp c a b pos) (tIf tA ta tb):=by
 intro pins s σ H Q I h;refine wpAny_IfExp (thn (hc pins s σ H _ I h) fun d s1 ⟨H1,I1,q1⟩=>?_)
 cases d with
 | true=>exact ha pins s1 σ H1 Q I1 q1
 | false=>exact hb pins s1 σ H1 Q I1 q1
end
def SqL (K:PySem.W.Frag) (H:Hp) (a:Addr) (xs:List V):Prop :=
 Rd H a (.lst xs) ∨
  ∃ (o:Obj) (its:Array Value) (n:Nat),K.lookup a=some o∧o.cls=.type "list" ∧o.dict=none∧o.data=.seq its n∧its.size≤sizeLine∧Vals xs its.toList
def SqT (K:PySem.W.Frag) (H:Hp) (a:Addr) (xs:List V):Prop :=
 Rd H a (.tup xs) ∨
  ∃ (o:Obj) (its:Array Value) (n:Nat),K.lookup a=some o∧o.cls=.type "tuple" ∧o.data=.seq its n∧its.size≤sizeLine∧Vals xs its.toList
def DO:Value→Option V
 | .none=>some .non
 | .bool b=>some (.bl b)
 | .int i _=>some (.int i)
 | .str x _=>some (.str x)
 | .bytes b _=>some (.byt b)
 | .float b _=>some (.flt b)
 | .ref a=>some (.ref a)
 | .type n=>some (.ty n)
 | _=>none
theorem RelV.abs {x:V} {u:Value} (r:RelV x u):DO u=some x:=by
 cases x with
 | non=>cases r;rfl
 | bl _=>cases r;rfl
 | int _=>obtain ⟨t,rfl⟩:=r;rfl
 | str _=>obtain ⟨t,rfl⟩:=r;rfl
 | byt _=>obtain ⟨t,rfl⟩:=r;rfl
 | flt _=>obtain ⟨t,rfl⟩:=r;rfl
 | ref _=>cases r;rfl
 | ty _=>cases r;rfl
theorem RelV.inj {x y:V} {u:Value} (r:RelV x u) (q:RelV y u):x=y:=Option.some.inj (r.abs.symm.trans q.abs)
theorem Vals.inj:∀ {xs ys:List V} {us:List Value},Vals xs us→Vals ys us→xs=ys
 | _,_,_,.nil,.nil=>rfl
 | _,_,_,.cons r t,.cons r' t'=>by rw [r.inj r',Vals.inj t t']
section
variable {X:Cx} {pins:List (Addr×Obj)} {σ:St} {H:Hp} {s:Shared} {a:Addr} {xs ys:List V}
theorem SqL.of {K:PySem.W.Frag} (h:H a=some (.lst xs)):SqL K H a xs:=.inl (.inl h)
theorem Inv.list (I:Inv X pins σ H s) (h:SqL X.K H a xs):∃ its:List Value,Vals xs its∧PlainL s.heap a its.toArray∧xs.length≤sizeLine:=by
 rcases h with h | ⟨o,its,n,hk,hc,hd,hs,hz,r⟩
 ·obtain ⟨z,its,n,r,e⟩:=h.ok I.hok;exact ⟨its,r,⟨_,n,e,rfl,rfl,rfl⟩,z⟩
 ·refine ⟨its.toList,r,⟨o,n,I.kIn a o hk,hc,hd,by simpa using hs⟩,?_⟩;have e:=r.length;simp only [Array.length_toList] at e;lia
theorem Inv.tuple (I:Inv X pins σ H s) (h:SqT X.K H a xs):∃ its:List Value,Vals xs its∧IsTup s.heap a its.toArray∧xs.length≤sizeLine:=by
 rcases h with h | ⟨o,its,n,hk,hc,hs,hz,r⟩
 ·obtain ⟨z,its,r,p⟩:=h.ok I.hok;exact ⟨its,r,p,z⟩
 ·refine ⟨its.toList,r,⟨o,I.kIn a o hk,hc,n,by simpa using hs⟩,?_⟩;have e:=r.length;simp only [Array.length_toList] at e;lia
theorem Inv.list_inj (I:Inv X pins σ H s) (h:SqL X.K H a xs) (h':SqL X.K H a ys):xs=ys:=by
 obtain ⟨its,r,⟨o,n,e,_,_,d⟩,_⟩:=I.list h;obtain ⟨its',r',⟨o',n',e',_,_,d'⟩,_⟩:=I.list h';rw [e] at e';cases e';rw [d] at d';injection d' with d1 _
 have:its=its':=by simpa using congrArg Array.toList d1
 subst this;exact r.inj r'
theorem Inv.tuple_inj (I:Inv X pins σ H s) (h:SqT X.K H a xs) (h':SqT X.K H a ys):xs=ys:=by
 obtain ⟨its,r,⟨o,e,_,n,d⟩,_⟩:=I.tuple h;obtain ⟨its',r',⟨o',e',_,n',d'⟩,_⟩:=I.tuple h';rw [e] at e';cases e';rw [d] at d';injection d' with d1 _
 have:its=its':=by simpa using congrArg Array.toList d1
 subst this;exact r.inj r'
end
abbrev Cx.wish (X:Cx) (E:Value→Shared→Prop):Cx:={ X with xe:=E }
abbrev Cx.nox (X:Cx):Cx:=X.wish fun _ _=>False
theorem Cx.Ok.wish {X:Cx} (ok:X.Ok) (E:Value→Shared→Prop):(X.wish E).Ok :=
 ⟨ok.mod,ok.kind,ok.glob,ok.blt,ok.above,ok.inj,ok.has,ok.cab,ok.hd,ok.frames,ok.stk,ok.exf,ok.bs,ok.bsz,ok.noex,ok.exfs,ok.funs,ok.frf⟩
theorem Cx.Ok.unwish {X:Cx} {E:Value→Shared→Prop} (ok:(X.wish E).Ok):X.Ok :=
 ⟨ok.mod,ok.kind,ok.glob,ok.blt,ok.above,ok.inj,ok.has,ok.cab,ok.hd,ok.frames,ok.stk,ok.exf,ok.bs,ok.bsz,ok.noex,ok.exfs,ok.funs,ok.frf⟩
section
variable {X:Cx} {pins:List (Addr×Obj)} {σ:St} {H:Hp} {s:Shared} {E:Value→Shared→Prop}
theorem Inv.wish (I:Inv X pins σ H s) (E:Value→Shared→Prop):Inv (X.wish E) pins σ H s:=⟨I.ok.wish E,I.os,I.bare,I.base,I.loc,I.cell,I.free,I.freeC,I.pin,I.hok,I.len⟩
theorem Inv.unwish (I:Inv (X.wish E) pins σ H s):Inv X pins σ H s:=⟨I.ok.unwish,I.os,I.bare,I.base,I.loc,I.cell,I.free,I.freeC,I.pin,I.hok,I.len⟩
theorem SP.unwish {D:Ends} {f:Flow} {s':Shared} (h:SP (X.wish E) pins D f s'):SP X pins D f s':=by
 cases f with
 | next=>obtain ⟨σ',H',I,q⟩:=h;exact ⟨σ',H',I.unwish,q⟩
 | brk=>obtain ⟨σ',H',I,q⟩:=h;exact ⟨σ',H',I.unwish,q⟩
 | cont=>obtain ⟨σ',H',I,q⟩:=h;exact ⟨σ',H',I.unwish,q⟩
 | ret u=>obtain ⟨v,σ',H',I,r,q⟩:=h;exact ⟨v,σ',H',I.unwish,r,q⟩
theorem PSs.nox {st:List Stmt} {t:TS} (h:PSs X.nox st t):PSs X st t:=fun pins s σ H D I hw =>
 wpAny_mono (h pins s σ H D (I.wish _) hw) (fun _ _ q=>q.unwish) fun _ _ z=>False.elim z
end
section
variable {X:Cx} {st:Stmt} {rest:List Stmt} {t u:TS} {e:Expr} {te:TE} {pos:Pos}
def jE:TS:=fun D σ H=>D.nx σ H
def nW (t u:TS):TS:=fun D σ H=>t { D with nx:=u D } σ H
theorem pss_nil:PSs X [] jE:=fun _ _ σ H _ I h=>wpAny_execs_nil ⟨σ,H,I,h⟩
theorem pss_cons (h1:PS X st t) (h2:PSs X rest u):PSs X (st :: rest) (nW t u):=by
 intro pins s σ H D I h;refine wpAny_execs_cons (thn (h1 pins s σ H { D with nx:=u D } I h) fun f s1 q=>?_)
 cases f with
 | next =>
  obtain ⟨σ',H',I',q⟩:=q;exact h2 pins s1 σ' H' D I' q
 | ret v=>exact q
 | brk=>exact q
 | cont=>exact q
theorem pss_one (h1:PS X st t):PSs X [st] t:=by
 intro pins s σ H D I h;refine wpAny_execs_cons (thn (h1 pins s σ H D I h) fun f s1 q=>?_)
 cases f with
 | next=>exact wpAny_execs_nil q
 | ret v=>exact q
 | brk=>exact q
 | cont=>exact q
theorem Inv.quiet {pins:List (Addr×Obj)} {σ:St} {H:Hp} {s:Shared} (I:Inv X pins σ H s):interactive X.env=false:=by simp [interactive,I.ok.kind]
def CQ (te:TE):TS:=fun D σ H=>te σ H fun _ H1=>D.nx σ H1
theorem p8 (he:PE X e te) (hs:swapsWith e none pos.line X.env=pure false:=by rfl):PS X (.Expr e pos) (CQ te):=by
 intro pins s σ H D I h;exact wpAny_Expr_any (thn (he pins s σ H _ I h) fun v s1 ⟨x,H1,I1,r1,q1⟩=>⟨σ,H1,I1,q1⟩) I.quiet hs
def DP (te:TE):TS:=fun D σ H=>te σ H D.rt
theorem ps_ret (he:PE X e te):PS X (.Return (some e) pos) (DP te):=by
 intro pins s σ H D I h;exact wpAny_Return_some (thn (he pins s σ H _ I h) fun v s1 ⟨x,H1,I1,r1,q1⟩=>⟨x,σ,H1,I1,r1,q1⟩)
def nX (c:TT) (t u:TS):TS:=fun D σ H=>c σ H fun b H1=>if b=true then t D σ H1 else u D σ H1
theorem ps_if {c:Expr} {a b:List Stmt} {tc:TT} (hc:PT X c tc) (ha:PSs X a t) (hb:PSs X b u):PS X (.If c a b pos) (nX tc t u):=by
 intro pins s σ H D I h;refine wpAny_If (thn (hc pins s σ H _ I h) fun d s1 ⟨H1,I1,q1⟩=>?_)
 cases d with
 | true=>exact ha pins s1 σ H1 D I1 q1
 | false=>exact hb pins s1 σ H1 D I1 q1
def nY:TS:=fun _ _ _=>False
theorem ps_never:PS X st nY:=fun _ _ _ _ _ _ h=>h.elim
theorem af {sts:List Stmt}:PSs X sts nY:=fun _ _ _ _ _ _ h=>h.elim
end
abbrev TG:=V→St→Hp→(St→Hp→Prop)→Prop
abbrev TGs:=List V→St→Hp→(St→Hp→Prop)→Prop
def PG (X:Cx) (target:Expr) (t:TG):Prop :=
 ∀ (pins:List (Addr×Obj)) (s:Shared) (σ:St) (H:Hp) (v:V) (u:Value) (Q:St→Hp→Prop),Inv X pins σ H s→RelV v u→t v σ H Q →
  wpAny (model X.prog X.w) X.A (assign target X.env u) (fun _ s'=>∃ σ' H',Inv X pins σ' H' s'∧Q σ' H') X.xe s
def PGs (X:Cx) (ts:List Expr) (t:TGs):Prop :=
 ∀ (pins:List (Addr×Obj)) (s:Shared) (σ:St) (H:Hp) (vs:List V) (us:List Value) (Q:St→Hp→Prop),Inv X pins σ H s→Vals vs us→t vs σ H Q →
  wpAny (model X.prog X.w) X.A (assignInOrder ((assignEach ts X.env).map (·.2)) us) (fun _ s'=>∃ σ' H',Inv X pins σ' H' s'∧Q σ' H') X.xe s
abbrev vX:=V→V→V→Hp→(Hp→Prop)→Prop
def CS (X:Cx) (t:vX):Prop :=
 ∀ (pins:List (Addr×Obj)) (s:Shared) (σ:St) (H:Hp) (o i v:V) (ov iv u:Value) (Q:Hp→Prop),Inv X pins σ H s→RelV o ov→RelV i iv→RelV v u→t o i v H Q →
  wpAny (model X.prog X.w) X.A (setItem ov iv u) (fun _ s'=>∃ H',Inv X pins σ H' s'∧Q H') X.xe s
section
variable {X:Cx} {pos:Pos}
def jF (i:Nat):TG:=fun v σ H Q=>Q (σ.set i (some v)) H
theorem ai {i:Nat} {x:Str} (hN:X.N.Nodup) (hi:X.N[i]?=some x) (hx:Loc X.env.scope x) (hf:X.fn x=true∨X.env.scope.names.lookup x=some .local:=by first | exact .inl rfl | exact .inr rfl | assumption):PG X (.Name x pos) (jF i):=by
 intro pins s σ H v u Q I r h;exact wpAny_assign_Name (jC I hN hi hx r (fun s' I'=>⟨_,H,I',h⟩) hf)
def DQ:TGs:=fun vs σ H Q=>vs=[]∧Q σ H
def CT (t:TG) (u:TGs):TGs:=fun vs σ H Q=>∃ v r,vs=v :: r∧t v σ H fun σ' H'=>u r σ' H' Q
theorem bL:PGs X [] DQ:=by
 intro pins s σ H vs us Q I r h;obtain ⟨e,h⟩:=h;subst e
 cases r
 exact assignInOrder_nil ⟨σ,H,I,h⟩
theorem aw {e:Expr} {es:List Expr} {t:TG} {u:TGs} (h1:PG X e t) (h2:PGs X es u)
  (hs:(assignEach (e :: es) X.env).map (·.2)=assign e X.env :: (assignEach es X.env).map (·.2):=by rfl):PGs X (e :: es) (CT t u):=by
 intro pins s σ H vs us Q I r h;obtain ⟨v,vr,e1,h⟩:=h;subst e1
 cases r with
 | cons r rr =>
  rw [hs];refine assignInOrder_cons (thn (h1 pins s σ H _ _ _ I r h) fun _ s1 ⟨σ1,H1,I1,q1⟩=>?_);exact h2 pins s1 σ1 H1 _ _ Q I1 rr q1
def CU (K:PySem.W.Frag) (n:Nat) (t:TGs):TG:=fun v σ H Q=>∃ a xs,v=.ref a∧SqT K H a xs∧xs.length=n∧t xs σ H Q
theorem fw {es:List Expr} {k:Nat} {t:TGs} {n:Nat} (hc:X.calm=true) (h:PGs X es t)
  (hn:(assignEach es X.env).length=n:=by rfl) (hst:(assignEach es X.env).findIdx? (·.1)=none:=by rfl):PG X (.Tuple es k pos) (CU X.K n t):=by
 intro pins s σ H v u Q I r hw;obtain ⟨a,xs,e1,hq,hl,hw⟩:=hw;subst e1
 cases r
 obtain ⟨its,rv,ht,hz⟩:=I.tuple hq;refine assign_Tuple_tuple (I.ok.hd hc) ht (by simp [hn,← hl,rv.length]) hst fun h' hx=>?_;have I1:Inv X pins σ H { s with heap:=h' }:=I.kept (t':=s.toks) fun b o e=>hx b o (Nat.ne_of_lt (Heap.lt_size e)) e;exact h pins _ σ H xs _ Q I1 (by simpa using rv) hw
def gSub (to ti:TE) (t:vX):TG:=fun v σ H Q=>to σ H fun o H1=>ti σ H1 fun i H2=>t o i v H2 fun H3=>Q σ H3
theorem vY {o i:Expr} {to ti:TE} {t:vX} (ho:PE X o to) (hi:PE X i ti) (hs:CS X t)
  (ha:∀ v,assign (.Subscript o i pos) X.env v=(do
   let ov ← holding [v] (eval o X.env)
   let iv ← holding [v,ov] (eval i X.env)
   standAt pos
   holding [v,ov,iv] (setItem ov iv v)
   release [v,ov,iv] []):=by intro _;rfl):PG X (.Subscript o i pos) (gSub to ti t):=by
 intro pins s σ H v u Q I r h;rw [ha];refine wpAny_bind (wpAny_holding (thn (ho pins s σ H _ I h) fun ov s1 ⟨x,H1,I1,r1,q1⟩=>?_));refine wpAny_bind (wpAny_holding (thn (hi pins s1 σ H1 _ I1 q1) fun iv s2 ⟨y,H2,I2,r2,q2⟩=>?_));refine wpAny_bind (wpAny_standAt (wpAny_bind (wpAny_holding (thn (hs pins s2 σ H2 x y v ov iv u _ I2 r1 r2 r q2) fun _ s3 ⟨H3,I3,q3⟩=>?_))));exact wpAny_release ⟨σ,H3,I3,q3⟩
def p9 (te:TE) (g:TG):TS:=fun D σ H=>te σ H fun x H1=>g x σ H1 D.nx
theorem vZ {tg e:Expr} {te:TE} {g:TG} (he:PE X e te) (hg:PG X tg g) (hs:swapsWithSole [tg] e pos.line X.env=pure false:=by rfl) (hw:swappedStores [tg] e X.env=pure none:=by rfl)
  (h1:(assignEach [tg] X.env).map (·.2)=[assign tg X.env]:=by rfl):PS X (.Assign [tg] e pos) (p9 te g):=by
 intro pins s σ H D I h;refine wpAny_Assign_stores (thn (he pins s σ H _ I h) fun v s1 ⟨x,H1,I1,r1,q1⟩=>?_) hs hw;rw [h1];exact thn (hg pins s1 σ H1 x v _ I1 r1 q1) fun _ s2 q=>q
theorem ps_set {i:Nat} {x:Str} {e:Expr} {te:TE} {pos':Pos} (hN:X.N.Nodup) (hi:X.N[i]?=some x) (hx:Loc X.env.scope x) (he:PE X e te) (hs:swapsWith e (some (.Name x pos')) pos.line X.env=pure false:=by rfl) (hf:X.fn x=true∨X.env.scope.names.lookup x=some .local:=by first | exact .inl rfl | exact .inr rfl | assumption) :
  PS X (.Assign [.Name x pos'] e pos) (p9 te (jF i)):=by
 intro pins s σ H D I h;refine wpAny_Assign_Name (thn (he pins s σ H _ I h) fun v s1 ⟨y,H1,I1,r1,q1⟩=>?_) hs;exact jC I1 hN hi hx r1 (fun s2 I2=>⟨_,H1,I2,q1⟩) hf
end
section
variable {X:Cx} {pos:Pos}
end
structure It where
 go:Nat→Hp→Prop
 yld:Nat→Hp→V→Hp→Prop
 stop:Nat→Hp→Prop
def cw (X:Cx) (pins:List (Addr×Obj)) (H:Hp) (b:Addr):Prop :=
 H b=none∧b≠X.env.locals∧b∉X.fs∧(b∈X.ex∨X.s₀.heap.objs.size≤b)∧(∀ x c,X.env.cells.lookup x=some c→c≠b)∧∀ p∈X.pn++pins,p.1≠b
theorem Inv.fpOk {X:Cx} {pins:List (Addr×Obj)} {σ:St} {H H':Hp} {s:Shared} {b:Addr} (I:Inv X pins σ H s) (hb:s.heap.objs.size≤b) (hn:H' b=none):cw X pins H' b:=by
 refine ⟨hn,Nat.ne_of_gt (Nat.lt_of_lt_of_le I.lt hb),I.nofs hb,.inr (Nat.le_trans I.sz hb),fun x c e z=>?_,fun p hp z=>?_⟩
 ·obtain ⟨v,q⟩:=I.cell x c e;exact absurd (Nat.lt_of_lt_of_le q.lt (by rw [z];exact hb)) (Nat.lt_irrefl _)
 ·exact absurd (Nat.lt_of_lt_of_le (Heap.lt_size (I.pin p hp).1) (by rw [z];exact hb)) (Nat.lt_irrefl _)
structure Turn (P:Program) (w:World) (K:PySem.W.Frag) (tg:Expr) (J:It) (fp:List Addr) (it:Addr) (tn:Nat→Heap→Prop):Prop where
 mem:it∈fp
 obj:∀ i h,tn i h→∀ b∈fp,∃ o,h.get? b=some o∧∀ v,o.data≠.cell v
 keep:∀ i h h',tn i h→(∀ b∈fp,∀ o,h.get? b=some o→h'.get? b=some o)→tn i h'
 item:∀ (X:Cx),X.prog=P→X.w=w→X.K=K→X.calm=true→∀ (i:Nat) (pins:List (Addr×Obj)) (s:Shared) (σ:St) (H:Hp) (E:Value→Shared→Prop),Inv X pins σ H s→(∀ b∈fp,cw X pins H b)→tn i s.heap→J.go i H →
  wpAny (model P w) X.A (pyNext (.ref it)) (fun r s1=>∃ u,r=some u ∧
   wpAny (model P w) X.A (letOwnedTupleGo tg (.ref it) u) (fun _ s2=>∃ x H',Inv X pins σ H' s2∧RelV x u∧J.yld i H x H'∧tn (i+1) s2.heap∧∀ b∈fp,H' b=none) E s1) E s
 done:∀ (X:Cx),X.prog=P→X.w=w→X.K=K→X.calm=true→∀ (i:Nat) (pins:List (Addr×Obj)) (s:Shared) (σ:St) (H:Hp) (E:Value→Shared→Prop),Inv X pins σ H s→(∀ b∈fp,cw X pins H b)→tn i s.heap→J.stop i H →
  wpAny (model P w) X.A (pyNext (.ref it)) (fun r s1=>r=none∧Inv X pins σ H s1) E s
 self:∀ (A:Around) (i:Nat) (s:Shared) (Q:Value→Shared→Prop) (E:Value→Shared→Prop),tn i s.heap→Q (.ref it) s→wpAny (model P w) A (pyIter (.ref it)) Q E s
abbrev TI:=St→Hp→(It→Hp→Prop)→Prop
def PIE (X:Cx) (pins:List (Addr×Obj)) (σ:St) (tg:Expr) (R:It→Hp→Prop) (itv:Value) (s2:Shared):Prop :=
 ∃ (it:Addr) (fp:List Addr) (tn:Nat→Heap→Prop) (J:It) (H':Hp),itv=.ref it∧Inv X pins σ H' s2∧Turn X.prog X.w X.K tg J fp it tn∧tn 0 s2.heap∧(∀ b∈fp,cw X pins H' b)∧R J H'
def PI (X:Cx) (tg iter:Expr) (wi:TI):Prop :=
 ∀ (pins:List (Addr×Obj)) (s:Shared) (σ:St) (H:Hp) (R:It→Hp→Prop),Inv X pins σ H s→wi σ H R →
  wpAny (model X.prog X.w) X.A (eval iter X.env) (fun v s1=>wpAny (model X.prog X.w) X.A (pyIter v) (PIE X pins σ tg R) X.xe s1) X.xe s
theorem jG {M:Model} {A:Around} {E:Value→Shared→Prop} {s:Shared} {tg:Expr} {it:Addr} {u:Value} {o:Obj} {n:String} {vs:Array Value} {Q:Unit→Shared→Prop} (ho:s.heap.get? it=some o) (hc:o.cls=.type n) (hd:o.data=.fields vs)
    (hn:["enumerate","zip","dict_itemiterator","dict_reverseitemiterator","odict_iterator","itertools.zip_longest","itertools.pairwise"].contains n=false) (hQ:Q () s):wpAny M A (letOwnedTupleGo tg (.ref it) u) Q E s:=by
  unfold letOwnedTupleGo
  cases tg <;> first
    | exact wpAny_pure hQ
    | (cases u <;> first
        | exact wpAny_pure hQ
        | (refine wpAny_bind (wpAny_load ho ?_)
           rw [hc,hd];show wpAny M A (if (["enumerate","zip","dict_itemiterator","dict_reverseitemiterator","odict_iterator","itertools.zip_longest","itertools.pairwise"].contains n && vs[0]? == some (rawInt _))=true then _ else _) Q E s;rw [if_neg (by intro h;rw [hn,Bool.false_and] at h;cases h)];exact wpAny_pure hQ))
def Itl (K:PySem.W.Frag) (a:Addr):It :=
 ⟨fun i H=>∃ xs x,SqL K H a xs∧xs[i]?=some x,fun i H x H'=>H'=H∧∀ xs,SqL K H a xs→xs[i]?=some x,fun i H=>∃ xs,SqL K H a xs∧xs.length≤i⟩
def Itt (K:PySem.W.Frag) (a:Addr):It :=
 ⟨fun i H=>∃ xs x,SqT K H a xs∧xs[i]?=some x,fun i H x H'=>H'=H∧∀ xs,SqT K H a xs→xs[i]?=some x,fun i H=>∃ xs,SqT K H a xs∧xs.length≤i⟩
def Itr (lo:Int) (n:Nat):It:=⟨fun i _=>i < n,fun i H x H'=>H'=H∧x=.int (lo+i),fun i _=>n≤i⟩
theorem mK {P:Program} {w:World} {K:PySem.W.Frag} {tg:Expr} (a it:Addr):Turn P w K tg (Itl K a) [it] it (fun i h=>h.IsListIter it a i) where
 mem:=by simp
 obj:=fun i h st b hb=>by
  have e:b=it:=by simpa using hb
  subst e;obtain ⟨o,e,c,d⟩:=st;exact ⟨o,e,fun v z=>by rw [d] at z;cases z⟩
 keep:=fun i h h' st k=>st.at fun o e=>k it (by simp) o e
 item:=by
  intro X hP hw hK hc i pins s σ H E I hf st hg;subst hP hw hK;obtain ⟨xs,x,hq,hx⟩:=hg;obtain ⟨its,rv,p,hz⟩:=I.list hq;obtain ⟨u,hu,ru⟩:=rv.get hx;obtain ⟨f0,f1,f2,f3,f4,f5⟩:=hf it (by simp);refine wpAny_pyNext_list_item st p.isList (x:=u) (by simpa using hu) fun h' st' sb=>?_;have I1:Inv X pins σ H { s with heap:=h' }:=I.turned (t':=s.toks) (fun b o hb e=>(sb.2 b hb).trans e) f0 f1 f3 f4 f5;obtain ⟨o,e,c,d⟩:=id st';exact ⟨u,rfl,jG (s:={ s with heap:=h' }) e c d (by decide) ⟨x,H,I1,ru,⟨rfl,fun ys hy=>by rw [I.list_inj hy hq];exact hx⟩,st',fun b hb=>(hf b hb).1⟩⟩
 done:=by
  intro X hP hw hK hc i pins s σ H E I hf st hg;subst hP hw hK;obtain ⟨xs,hq,hx⟩:=hg;obtain ⟨its,rv,p,hz⟩:=I.list hq;obtain ⟨f0,f1,f2,f3,f4,f5⟩:=hf it (by simp);have hl:=rv.length;exact wpAny_pyNext_list_end (I.ok.hd hc) st p.isList (by simp;lia) fun h' eb=>⟨rfl,I.turned (t':=s.toks) (fun b o hb e=>eb b o hb e) f0 f1 f3 f4 f5⟩
 self:=fun _ _ _ _ _ st h=>wpAny_pyIter_listiter st h
theorem kU {P:Program} {w:World} {K:PySem.W.Frag} {tg:Expr} (a it:Addr):Turn P w K tg (Itt K a) [it] it (fun i h=>h.IsTupleIter it a i) where
 mem:=by simp
 obj:=fun i h st b hb=>by
  have e:b=it:=by simpa using hb
  subst e;obtain ⟨o,e,c,d⟩:=st;exact ⟨o,e,fun v z=>by rw [d] at z;cases z⟩
 keep:=fun i h h' st k=>st.at fun o e=>k it (by simp) o e
 item:=by
  intro X hP hw hK hc i pins s σ H E I hf st hg;subst hP hw hK;obtain ⟨xs,x,hq,hx⟩:=hg;obtain ⟨its,rv,p,hz⟩:=I.tuple hq;obtain ⟨u,hu,ru⟩:=rv.get hx;obtain ⟨f0,f1,f2,f3,f4,f5⟩:=hf it (by simp);refine wpAny_pyNext_tuple_item st (show s.heap.IsTuple a its.toArray from p) (x:=u) (by simpa using hu) fun h' st' sb=>?_;have I1:Inv X pins σ H { s with heap:=h' }:=I.turned (t':=s.toks) (fun b o hb e=>(sb.2 b hb).trans e) f0 f1 f3 f4 f5;obtain ⟨o,e,c,d⟩:=id st';exact ⟨u,rfl,jG (s:={ s with heap:=h' }) e c d (by decide) ⟨x,H,I1,ru,⟨rfl,fun ys hy=>by rw [I.tuple_inj hy hq];exact hx⟩,st',fun b hb=>(hf b hb).1⟩⟩
 done:=by
  intro X hP hw hK hc i pins s σ H E I hf st hg;subst hP hw hK;obtain ⟨xs,hq,hx⟩:=hg;obtain ⟨its,rv,p,hz⟩:=I.tuple hq;obtain ⟨f0,f1,f2,f3,f4,f5⟩:=hf it (by simp);have hl:=rv.length;exact wpAny_pyNext_tuple_end (I.ok.hd hc) st (show s.heap.IsTuple a its.toArray from p) (by simp;lia) fun h' eb=>⟨rfl,I.turned (t':=s.toks) (fun b o hb e=>eb b o hb e) f0 f1 f3 f4 f5⟩
 self:=fun _ _ _ _ _ st h=>wpAny_pyIter_tupleiter st h
theorem kW {P:Program} {w:World} {K:PySem.W.Frag} {tg:Expr} (it:Addr) (lo:Int) (n:Nat):Turn P w K tg (Itr lo n) [it] it (fun i h=>IsRangeIter h it (lo+(i:Nat)*1) ((n:Int) - (i:Nat)) 1) where
 mem:=by simp
 obj:=fun i h st b hb=>by
  have e:b=it:=by simpa using hb
  subst e;exact ⟨_,st,fun v z=>by
   have z':Data.fields _=Data.cell v:=z
   cases z'⟩
 keep:=fun i h h' st k=>k it (by simp) _ st
 item:=by
  intro X hP hw hK hc i pins s σ H E I hf st hg;subst hP hw hK;obtain ⟨f0,f1,f2,f3,f4,f5⟩:=hf it (by simp);have W:=Walks.range (prog:=X.prog) (w:=X.w) (I.ok.hd hc) it lo 1 n;refine W.item i s _ _ hg st fun v h' tk hv st' kk=>?_;obtain ⟨t,rfl⟩:=hv;have I1:Inv X pins σ H { s with heap:=h',toks:=tk }:=I.turned (fun b o hb e=>kk b o (by simpa using hb) e) f0 f1 f3 f4 f5;refine ⟨_,rfl,jG (s:={ s with heap:=h',toks:=tk }) (n:= "range_iterator") st' rfl rfl (by decide) ⟨.int (lo+i),H,I1,⟨t,?_⟩,⟨rfl,rfl⟩,st',fun b hb=>(hf b hb).1⟩⟩;rw [Int.mul_one]
 done:=by
  intro X hP hw hK hc i pins s σ H E I hf st hg;subst hP hw hK;obtain ⟨f0,f1,f2,f3,f4,f5⟩:=hf it (by simp);exact wpAny_pyNext_range_end (I.ok.hd hc) st (by have:n≤i:=hg;lia) fun h' eb=>⟨rfl,I.turned (t':=s.toks) (fun b o hb e=>eb b o hb e) f0 f1 f3 f4 f5⟩
 self:=fun _ _ _ _ _ st h=>wpAny_pyIter_rangeiter st h
section
variable {X:Cx} {tg:Expr}
def rj (K:PySem.W.Frag) (tl:TE):TI:=fun σ H R=>tl σ H fun x H1=>∃ a,x=.ref a∧(∃ xs,SqL K H1 a xs)∧R (Itl K a) H1
def CV (K:PySem.W.Frag) (tl:TE):TI:=fun σ H R=>tl σ H fun x H1=>∃ a,x=.ref a∧(∃ xs,SqT K H1 a xs)∧R (Itt K a) H1
theorem qa {l:Expr} {tl:TE} (hl:PE X l tl):PI X tg l (rj X.K tl):=by
 intro pins s σ H R I h;refine thn (hl pins s σ H _ I h) fun v s1 ⟨x,H1,I1,r1,q1⟩=>?_;obtain ⟨a,e,⟨xs,hq⟩,q⟩:=q1;subst e
 cases r1
 obtain ⟨its,rv,p,hz⟩:=I1.list hq;refine wpAny_pyIter_list p.isList ?_;refine ⟨s1.heap.objs.size,[s1.heap.objs.size],_,_,H1,rfl,I1.kept (t':=s1.toks) fun b o e=>Heap.get?_push_of_some _ e,mK a _,⟨_,Heap.get?_push_size _ rfl,rfl,rfl⟩,fun b hb=>?_,q⟩;have e:b=s1.heap.objs.size:=by simpa using hb
 subst e;exact I1.fpOk (Nat.le_refl _) (I1.hok.fresh (Nat.le_refl _))
theorem wa {l:Expr} {tl:TE} (hl:PE X l tl):PI X tg l (CV X.K tl):=by
 intro pins s σ H R I h;refine thn (hl pins s σ H _ I h) fun v s1 ⟨x,H1,I1,r1,q1⟩=>?_;obtain ⟨a,e,⟨xs,hq⟩,q⟩:=q1;subst e
 cases r1
 obtain ⟨its,rv,p,hz⟩:=I1.tuple hq;refine wpAny_pyIter_tuple (show s1.heap.IsTuple a its.toArray from p) ?_;refine ⟨s1.heap.objs.size,[s1.heap.objs.size],_,_,H1,rfl,I1.kept (t':=s1.toks) fun b o e=>Heap.get?_push_of_some _ e,kU a _,⟨_,Heap.get?_push_size _ rfl,rfl,rfl⟩,fun b hb=>?_,q⟩;have e:b=s1.heap.objs.size:=by simpa using hb
 subst e;exact I1.fpOk (Nat.le_refl _) (I1.hok.fresh (Nat.le_refl _))
theorem nZ {pins:List (Addr×Obj)} {σ:St} {H:Hp} {s:Shared} {R:It→Hp→Prop} {E:Value→Shared→Prop} {lo hi:Int} {t u v:Tok} {tk:Nat} (I:Inv X pins σ H s) (h1:-(2 ^ 62)≤lo) (h2:lo < 2 ^ 62) (h3:-(2 ^ 62)≤hi) (h4:hi < 2 ^ 62)
  (q:R (Itr lo (hi - lo).toNat) H):wpAny (model X.prog X.w) X.A (pyIter (.ref s.heap.objs.size)) (PIE X pins σ tg R) E { s with heap:=s.heap.push { cls:=.type "range",data:=.fields #[.int lo t,.int hi u,.int 1 v] },toks:=tk }:=by
 refine wpAny_pyIter_range (IsRange.new ..) (small_one h1 h2 h3 h4) ?_;have I1:Inv X pins σ H { s with heap:=s.heap.push { cls:=.type "range",data:=.fields #[.int lo t,.int hi u,.int 1 v] },toks:=tk }:=I.kept fun b o e=>Heap.get?_push_of_some _ e;refine ⟨(s.heap.push { cls:=.type "range",data:=.fields #[.int lo t,.int hi u,.int 1 v] }).objs.size,[(s.heap.push { cls:=.type "range",data:=.fields #[.int lo t,.int hi u,.int 1 v] }).objs.size],_,_,H,rfl,
  I1.kept (t':=tk) fun b o e=>Heap.get?_push_of_some _ e,kW _ lo (hi - lo).toNat,?_,fun b hb=>?_,q⟩
 ·have e1:lo+((0:Nat):Int)*1=lo:=by simp
  have e2:(((hi - lo).toNat:Nat):Int) - ((0:Nat):Int)=Builtin.Range.rangeSize lo hi 1:=by rw [rangeSize_one];split <;> lia
  show IsRangeIter _ _ (lo+((0:Nat):Int)*1) ((((hi - lo).toNat:Nat):Int) - ((0:Nat):Int)) 1;rw [e1,e2];exact Heap.get?_push_size _ rfl
 ·have e:b=(s.heap.push { cls:=.type "range",data:=.fields #[.int lo t,.int hi u,.int 1 v] }).objs.size:=by simpa using hb
  subst e;exact I1.fpOk (Nat.le_refl _) (I1.hok.fresh (Nat.le_refl _))
def CW (ta:TA):TI:=fun σ H R=>ta σ H fun vs H1=>∃ j:Int,vs=[.int j]∧-(2 ^ 62)≤j∧j < 2 ^ 62∧R (Itr 0 j.toNat) H1
theorem ee {a:Expr} {ta:TA} {p pos:Pos} (hg:Gl X "range") (hm:X.mg "range" = none) (ha:PA X [a] ta) (hs:starEach [a] X.env=[(false,eval a X.env)]:=by rfl):PI X tg (.Call (.Name "range" p) [a] [] pos) (CW ta):=by
 intro pins s σ H R I h;refine Call_ (bP I hg hm boot_range (PyProof.Rows.callWith_type1 (thn (ha pos pins s σ H _ I h) fun us s1 ⟨vs,H1,I1,r1,q1⟩=>?_) hs rfl));obtain ⟨j,e,q1,q2,q⟩:=q1;subst e
 cases r1 with
 | cons r rr =>
  cases rr
  obtain ⟨t,rfl⟩:=r;exact call_range_1 (nZ I1 (by lia) (by lia) q1 q2 (by simpa using q))
def tFor (wi:TI) (g:TG) (tb:TS):TS:=fun D σ H=>wi σ H fun J H1=>∃ W:Nat→Nat→St→Hp→Prop,(∃ m,W 0 m σ H1)∧∀ i m σ H,W i m σ H →
 (J.stop i H∧D.nx σ H)∨(J.go i H∧∃ N:St→Hp→Prop,(∀ σ' H',N σ' H'→∃ m',m' < m∧W (i+1) m' σ' H')∧∀ x H',J.yld i H x H'→g x σ H' fun σ2 H2=>tb { D with nx:=N,ct:=N,bk:=D.nx } σ2 H2)
def iz (fp:List Addr) (h:Heap):List (Addr×Obj):=fp.filterMap fun b=>(h.get? b).map fun o=>(b,o)
theorem a7 {fp:List Addr} {h:Heap} {b:Addr} {o:Obj} (hb:b∈fp) (e:h.get? b=some o):(b,o)∈iz fp h:=List.mem_filterMap.mpr ⟨b,hb,by rw [e];rfl⟩
theorem mL {fp:List Addr} {h:Heap} {p:Addr×Obj} (hp:p∈iz fp h):p.1∈fp∧h.get? p.1=some p.2:=by
 obtain ⟨b,hb,e⟩:=List.mem_filterMap.mp hp
 cases q:h.get? b with
 | none=>rw [q] at e;cases e
 | some o =>
  rw [q] at e;have e':(b,o)=p:=Option.some.inj e;subst e';exact ⟨hb,q⟩
theorem Inv.pinned {pins:List (Addr×Obj)} {σ:St} {H:Hp} {s:Shared} {fp:List Addr} (I:Inv X pins σ H s) (hf:∀ b∈fp,cw X pins H b) (ho:∀ b∈fp,∃ o,s.heap.get? b=some o∧∀ v,o.data≠.cell v):Inv X (pins++iz fp s.heap) σ H s :=
 I.pins_of fun p hp=>(List.mem_append.mp hp).elim (fun z=>I.pin p (List.mem_append_right _ z)) fun z=>by
  obtain ⟨hb,e⟩:=mL z;obtain ⟨f0,f1,f2,_⟩:=hf p.1 hb;obtain ⟨o,e',d⟩:=ho p.1 hb;rw [e] at e';cases e';exact ⟨e,f0,f1,f2,d⟩
theorem Inv.unpinned {pins pl:List (Addr×Obj)} {σ:St} {H:Hp} {s:Shared} (I:Inv X (pins++pl) σ H s):Inv X pins σ H s:=I.pins_of fun p hp=>I.pin p (List.mem_append_right _ (List.mem_append_left _ hp))
theorem bj {iter:Expr} {body:List Stmt} {wi:TI} {g:TG} {tb:TS} {pos:Pos} (hp:PassesOwn (model X.prog X.w) X.A X.env X.xe) (hc:X.calm=true) (hi:PI X tg iter wi) (hg:PG X tg g) (hb:PSs X body tb)
  (hs:∀ x,foldedSetIterable iter X.env x=pure x:=by intro _;rfl):PS X (.For tg iter body [] pos) (tFor wi g tb):=by
 intro pins s σ H D I h;refine wpAny_For (thn (hi pins s σ H _ I h) fun v s1 h1=>thn h1 fun itv s2 h2=>?_) hs;obtain ⟨it,fp,tn,J,H2,e,I2,T,st2,f2,W,⟨m0,w0⟩,turn⟩:=h2;subst e;have stat:∀ {H':Hp},(∀ b∈fp,H' b=none)→∀ b∈fp,cw X pins H' b:=fun hn b hb=>⟨hn b hb,(f2 b hb).2⟩;refine codeAny_forLoop_any (fun n s'=>∃ i σ' H',Inv X pins σ' H' s'∧tn i s'.heap∧(∀ b∈fp,H' b=none)∧W i n σ' H') ?_ m0 ⟨0,σ,H2,I2,st2,fun b hb=>(f2 b hb).1,w0⟩;rintro n s3 ⟨i,σ3,H3,I3,st3,fr3,w3⟩;rcases turn i n σ3 H3 w3 with ⟨stop,qn⟩ | ⟨go,N,hN,step⟩
 ·refine wpAny_passesOwn hp (thn (T.done X rfl rfl rfl hc i pins s3 σ3 H3 X.xe I3 (stat fr3) st3 stop) fun r s4 ⟨hr,I4⟩=>?_);subst hr;exact wpAny_execs_nil ⟨σ3,H3,I4,qn⟩
 ·refine wpAny_passesOwn hp (thn (T.item X rfl rfl rfl hc i pins s3 σ3 H3 X.xe I3 (stat fr3) st3 go) fun r s4 ⟨u,hr,h4⟩=>?_);subst hr;refine wpAny_passesOwn hp (thn h4 fun _ s5 ⟨x,H5,I5,r5,y5,st5,fr5⟩=>?_);have I5':=I5.pinned (stat fr5) (T.obj _ _ st5);refine wpAny_passesOwn hp (thn (hg _ s5 σ3 H5 x u _ I5' r5 (step x H5 y5)) fun _ s6 ⟨σ6,H6,I6,q6⟩=>?_);refine wpAny_passesOwn hp (thn (hb _ s6 σ6 H6 _ I6 q6) fun f s7 q7=>?_);have again:∀ {σ7:St} {H7:Hp},Inv X (pins++iz fp s5.heap) σ7 H7 s7→N σ7 H7→∃ m,m < n∧∃ i σ' H',Inv X pins σ' H' s7∧tn i s7.heap∧(∀ b∈fp,H' b=none)∧W i m σ' H':=fun {σ7 H7} I7 n7=>by
   obtain ⟨m',hm,w7⟩:=hN σ7 H7 n7;refine ⟨m',hm,i+1,σ7,H7,I7.unpinned,T.keep _ _ _ st5 fun b hb o e=>(I7.pin (b,o) (List.mem_append_right _ (List.mem_append_right _ (a7 hb e)))).1,fun b hb=>?_,w7⟩;obtain ⟨o,e,d⟩:=T.obj _ _ st5 b hb;exact (I7.pin (b,o) (List.mem_append_right _ (List.mem_append_right _ (a7 hb e)))).2.1
  cases f with
  | next=>obtain ⟨σ7,H7,I7,n7⟩:=q7;exact again I7 n7
  | cont=>obtain ⟨σ7,H7,I7,n7⟩:=q7;exact again I7 n7
  | brk=>obtain ⟨σ7,H7,I7,q7⟩:=q7;exact ⟨σ7,H7,I7.unpinned,q7⟩
  | ret v=>obtain ⟨x7,σ7,H7,I7,r7,q7⟩:=q7;exact ⟨x7,σ7,H7,I7.unpinned,r7,q7⟩
end
theorem jH {K:PySem.W.Frag} {a:Addr} {xs:List V} {g:TG} {tb:TS} {D:Ends} {σ:St} {H:Hp} (Pv:Nat→St→Hp→Prop) (h0:Pv 0 σ H) (hl:∀ i σ H,i≤xs.length→Pv i σ H→SqL K H a xs)
  (hs:∀ i x σ H,xs[i]?=some x→Pv i σ H→g x σ H fun σ2 H2=>tb { D with nx:=Pv (i+1),ct:=Pv (i+1),bk:=D.nx } σ2 H2) (hd:∀ σ H,Pv xs.length σ H→D.nx σ H) :
  ∃ W:Nat→Nat→St→Hp→Prop,(∃ m,W 0 m σ H)∧∀ i m σ H,W i m σ H →
   ((Itl K a).stop i H∧D.nx σ H)∨((Itl K a).go i H∧∃ N:St→Hp→Prop,(∀ σ' H',N σ' H'→∃ m',m' < m∧W (i+1) m' σ' H')∧∀ x H',(Itl K a).yld i H x H'→g x σ H' fun σ2 H2=>tb { D with nx:=N,ct:=N,bk:=D.nx } σ2 H2):=by
 refine ⟨fun i m σ H=>m=xs.length - i∧i≤xs.length∧Pv i σ H,⟨xs.length,by simp,Nat.zero_le _,h0⟩,?_⟩;rintro i m σ H ⟨rfl,hi,p⟩;have q:=hl i σ H hi p
 by_cases hlt:i < xs.length
 ·refine .inr ⟨⟨xs,xs[i],q,by simp [hlt]⟩,Pv (i+1),fun σ' H' p'=>⟨xs.length - (i+1),by lia,rfl,hlt,p'⟩,fun x H' y=>?_⟩;obtain ⟨e,y⟩:=y;subst e;exact hs i x σ _ (y xs q) p
 ·have e:i=xs.length:=by lia
  subst e;exact .inl ⟨⟨xs,q,Nat.le_refl _⟩,hd σ H p⟩
theorem dB {K:PySem.W.Frag} {a:Addr} {xs:List V} {g:TG} {tb:TS} {D:Ends} {σ:St} {H:Hp} (Pv:Nat→St→Hp→Prop) (h0:Pv 0 σ H) (hl:∀ i σ H,i≤xs.length→Pv i σ H→SqT K H a xs)
  (hs:∀ i x σ H,xs[i]?=some x→Pv i σ H→g x σ H fun σ2 H2=>tb { D with nx:=Pv (i+1),ct:=Pv (i+1),bk:=D.nx } σ2 H2) (hd:∀ σ H,Pv xs.length σ H→D.nx σ H) :
  ∃ W:Nat→Nat→St→Hp→Prop,(∃ m,W 0 m σ H)∧∀ i m σ H,W i m σ H →
   ((Itt K a).stop i H∧D.nx σ H)∨((Itt K a).go i H∧∃ N:St→Hp→Prop,(∀ σ' H',N σ' H'→∃ m',m' < m∧W (i+1) m' σ' H')∧∀ x H',(Itt K a).yld i H x H'→g x σ H' fun σ2 H2=>tb { D with nx:=N,ct:=N,bk:=D.nx } σ2 H2):=by
 refine ⟨fun i m σ H=>m=xs.length - i∧i≤xs.length∧Pv i σ H,⟨xs.length,by simp,Nat.zero_le _,h0⟩,?_⟩;rintro i m σ H ⟨rfl,hi,p⟩;have q:=hl i σ H hi p
 by_cases hlt:i < xs.length
 ·refine .inr ⟨⟨xs,xs[i],q,by simp [hlt]⟩,Pv (i+1),fun σ' H' p'=>⟨xs.length - (i+1),by lia,rfl,hlt,p'⟩,fun x H' y=>?_⟩;obtain ⟨e,y⟩:=y;subst e;exact hs i x σ _ (y xs q) p
 ·have e:i=xs.length:=by lia
  subst e;exact .inl ⟨⟨xs,q,Nat.le_refl _⟩,hd σ H p⟩
theorem eg {lo:Int} {n:Nat} {g:TG} {tb:TS} {D:Ends} {σ:St} {H:Hp} (Pv:Nat→St→Hp→Prop) (h0:Pv 0 σ H)
  (hs:∀ i σ H,i < n→Pv i σ H→g (.int (lo+i)) σ H fun σ2 H2=>tb { D with nx:=Pv (i+1),ct:=Pv (i+1),bk:=D.nx } σ2 H2) (hd:∀ σ H,Pv n σ H→D.nx σ H) :
  ∃ W:Nat→Nat→St→Hp→Prop,(∃ m,W 0 m σ H)∧∀ i m σ H,W i m σ H →
   ((Itr lo n).stop i H∧D.nx σ H)∨((Itr lo n).go i H∧∃ N:St→Hp→Prop,(∀ σ' H',N σ' H'→∃ m',m' < m∧W (i+1) m' σ' H')∧∀ x H',(Itr lo n).yld i H x H'→g x σ H' fun σ2 H2=>tb { D with nx:=N,ct:=N,bk:=D.nx } σ2 H2):=by
 refine ⟨fun i m σ H=>m=n - i∧i≤n∧Pv i σ H,⟨n,by simp,Nat.zero_le _,h0⟩,?_⟩;rintro i m σ H ⟨rfl,hi,p⟩
 by_cases hlt:i < n
 ·refine .inr ⟨hlt,Pv (i+1),fun σ' H' p'=>⟨n - (i+1),by lia,rfl,hlt,p'⟩,fun x H' y=>?_⟩;obtain ⟨e,y⟩:=y;subst e y;exact hs i σ _ hlt p
 ·have e:i=n:=by lia
  subst e;exact .inl ⟨Nat.le_refl _,hd σ H p⟩
abbrev R2:=V→V→Hp→VK→Prop
def OpR (X:Cx) (f:Value→Value→Sem Value) (r:R2):Prop :=
 ∀ (pins:List (Addr×Obj)) (s:Shared) (σ:St) (H:Hp) (x y:V) (v u:Value) (Q:VK),Inv X pins σ H s→RelV x v→RelV y u→r x y H Q →
  wpAny (model X.prog X.w) X.A (f v u) (EP X pins σ Q) X.xe s
def UnR (X:Cx) (f:Value→Sem Value) (r:V→Hp→VK→Prop):Prop :=
 ∀ (pins:List (Addr×Obj)) (s:Shared) (σ:St) (H:Hp) (x:V) (v:Value) (Q:VK),Inv X pins σ H s→RelV x v→r x H Q →
  wpAny (model X.prog X.w) X.A (f v) (EP X pins σ Q) X.xe s
def aG (X:Cx) (f:Value) (r:List V→Hp→VK→Prop):Prop :=
 ∀ (pins:List (Addr×Obj)) (s:Shared) (σ:St) (H:Hp) (xs:List V) (us:List Value) (Q:VK),Inv X pins σ H s→Vals xs us→r xs H Q →
  wpAny (model X.prog X.w) X.A (call f us) (EP X pins σ Q) X.xe s
def tOp (r:R2) (ta tb:TE):TE:=fun σ H Q=>ta σ H fun x H1=>tb σ H1 fun y H2=>r x y H2 Q
def tUn (r:V→Hp→VK→Prop) (ta:TE):TE:=fun σ H Q=>ta σ H fun x H1=>r x H1 Q
inductive IRI (C:Int→Int→Prop) (g:Int→Int→V) (x y:V) (H:Hp) (Q:VK):Prop
 | mk (i j:Int):(x=.int i)→(y=.int j)→(C i j)→(Q (g i j) H)→IRI C g x y H Q
def rI (C:Int→Int→Prop) (g:Int→Int→V):R2:=fun x y H Q=>IRI C g x y H Q
inductive IRI0 (g:Int→Int→V) (x y:V) (H:Hp) (Q:VK):Prop
 | mk (i j:Int):(x=.int i)→(y=.int j)→(Q (g i j) H)→IRI0 g x y H Q
def rI0 (g:Int→Int→V):R2:=fun x y H Q=>IRI0 g x y H Q
def rU (g:Int→V):V→Hp→VK→Prop:=fun x H Q=>∃ i,x=.int i∧Q (g i) H
section
variable {X:Cx} {a b c:Expr} {ta tb tc:TE} {pos:Pos}
theorem wc (ha:PE X a ta) (hb:PE X b tb) {pins:List (Addr×Obj)} {s:Shared} {σ:St} {H:Hp} {R:V→V→Hp→Prop} (I:Inv X pins σ H s)
  (h:ta σ H fun x H1=>tb σ H1 fun y H2=>R x y H2) {Q:Value→Shared→Prop} {f:Value→Value→Sem Value}
  (hf:∀ v u s2 x y H2,Inv X pins σ H2 s2→RelV x v→RelV y u→R x y H2→wpAny (model X.prog X.w) X.A (f v u) Q X.xe s2) :
  wpAny (model X.prog X.w) X.A (eval a X.env) (fun v s₁=>wpAny (model X.prog X.w) X.A (eval b X.env) (fun u s₂=>wpAny (model X.prog X.w) X.A (f v u) Q X.xe s₂) X.xe s₁) X.xe s:=by
 refine thn (ha pins s σ H _ I h) fun v s1 ⟨x,H1,I1,r1,q1⟩=>?_;refine thn (hb pins s1 σ H1 _ I1 q1) fun u s2 ⟨y,H2,I2,r2,q2⟩=>?_;exact hf v u s2 x y H2 I2 r1 r2 q2
theorem pe_op {op:Operator} {r:R2} (ho:OpR X (binaryOp op) r) (ha:PE X a ta) (hb:PE X b tb):PE X (.BinOp a op b pos) (tOp r ta tb):=by
 intro pins s σ H Q I h;exact wpAny_BinOp (wc ha hb I h fun v u s2 x y H2 I2 rx ry q=>ho pins s2 σ H2 x y v u Q I2 rx ry q)
theorem pe_un {op:UnaryOp} {r:V→Hp→VK→Prop} (ho:UnR X (unaryOp op) r) (ha:PE X a ta):PE X (.UnaryOp op a pos) (tUn r ta):=by
 intro pins s σ H Q I h;exact UnaryOp_ (thn (ha pins s σ H _ I h) fun v s1 ⟨x,H1,I1,r1,q1⟩=>ho pins s1 σ H1 x v Q I1 r1 q1)
theorem opI {f:Value→Value→Sem Value} {C:Int→Int→Prop} {g:Int→Int→Int}
  (rule:∀ (i j:Int) (t u:Tok) (s:Shared) (Q:Value→Shared→Prop) (E:Value→Shared→Prop),C i j→Q (.int (g i j) s.toks) { s with toks:=s.toks+1 }→wpAny (model X.prog X.w) X.A (f (.int i t) (.int j u)) Q E s) :
  OpR X f (rI C fun i j=>.int (g i j)):=by
 intro pins s σ H x y v u Q I rx ry h;obtain ⟨i,j,rfl,rfl,hc,q⟩:=h;obtain ⟨t,rfl⟩:=rx;obtain ⟨t',rfl⟩:=ry;exact rule i j t t' s _ _ hc ⟨.int (g i j),H,I.tok _,⟨_,rfl⟩,q⟩
theorem CY {f:Value→Value→Sem Value} {g:Int→Int→Int}
  (rule:∀ (i j:Int) (t u:Tok) (s:Shared) (Q:Value→Shared→Prop) (E:Value→Shared→Prop),Q (.int (g i j) s.toks) { s with toks:=s.toks+1 }→wpAny (model X.prog X.w) X.A (f (.int i t) (.int j u)) Q E s) :
  OpR X f (rI0 fun i j=>.int (g i j)):=by
 intro pins s σ H x y v u Q I rx ry h;obtain ⟨i,j,rfl,rfl,q⟩:=h;obtain ⟨t,rfl⟩:=rx;obtain ⟨t',rfl⟩:=ry;exact rule i j t t' s _ _ ⟨.int (g i j),H,I.tok _,⟨_,rfl⟩,q⟩
theorem wf {f:Value→Value→Sem Value} {g:Int→Int→Bool}
  (rule:∀ (i j:Int) (t u:Tok) (s:Shared) (Q:Value→Shared→Prop) (E:Value→Shared→Prop),Q (.bool (g i j)) s→wpAny (model X.prog X.w) X.A (f (.int i t) (.int j u)) Q E s) :
  OpR X f (rI0 fun i j=>.bl (g i j)):=by
 intro pins s σ H x y v u Q I rx ry h;obtain ⟨i,j,rfl,rfl,q⟩:=h;obtain ⟨t,rfl⟩:=rx;obtain ⟨t',rfl⟩:=ry;exact rule i j t t' s _ _ ⟨.bl (g i j),H,I,rfl,q⟩
def DR (i j:Int):Prop:=0≤j∧j≤1000000∧i.natAbs < 2 ^ 64
def CMul (i j:Int):Prop:=(-(2 ^ 64) < i∧i < 2 ^ 64)∨(-(2 ^ 64) < j∧j < 2 ^ 64)
theorem CMul.ok {i j:Int} (h:CMul i j):IntMulOk i j:=by
 rcases h with ⟨h1,h2⟩ | ⟨h1,h2⟩
 ·exact .of_left (intBits_le_64 h1 h2)
 ·exact .of_right (intBits_le_64 h1 h2)
theorem aC:OpR X (binaryOp .Add) (rI0 fun i j=>.int (i+j)):=CY fun _ _ _ _ _ _ _ q=>add_int q
theorem op_sub:OpR X (binaryOp .Sub) (rI0 fun i j=>.int (i - j)):=CY fun _ _ _ _ _ _ _ q=>sub_int q
theorem b8:OpR X (binaryOp .Mult) (rI CMul fun i j=>.int (i*j)):=opI fun _ _ _ _ _ _ _ hc q=>mul_int q hc.ok
theorem eh:OpR X (binaryOp .Mod) (rI (fun _ j=>0 < j) fun i j=>.int (i % j)):=opI fun i j _ _ _ _ _ hc q=>by
 have h1:(0:Int) < j:=hc;exact mod_int' (by lia) (by rw [Int.fmod_eq_emod_of_nonneg i (by lia)];exact q)
theorem op_pow:OpR X (binaryOp .Pow) (rI DR fun i j=>.int (i ^ j.toNat)):=opI fun _ _ _ _ _ _ _ hc q=>pow_int_small hc.1 hc.2.1 hc.2.2 q
theorem unI {f:Value→Sem Value} {g:Int→Int}
  (rule:∀ (i:Int) (t:Tok) (s:Shared) (Q:Value→Shared→Prop) (E:Value→Shared→Prop),Q (.int (g i) s.toks) { s with toks:=s.toks+1 }→wpAny (model X.prog X.w) X.A (f (.int i t)) Q E s) :
  UnR X f (rU fun i=>.int (g i)):=by
 intro pins s σ H x v Q I rx h;obtain ⟨i,rfl,q⟩:=h;obtain ⟨t,rfl⟩:=rx;exact rule i t s _ _ ⟨.int (g i),H,I.tok _,⟨_,rfl⟩,q⟩
theorem un_neg:UnR X (unaryOp .USub) (rU fun i=>.int (-i)):=unI fun _ _ _ _ _ q=>neg_int q
end
def wg:V→V→Bool
 | .non,.non=>true | .non,.int _=>true | .int _,.non=>true | .non,.bl _=>true | .bl _,.non=>true | .non,.str _=>true | .str _,.non=>true
 | .int _,.int _=>true | .bl _,.bl _=>true | .str _,.str _=>true | .byt _,.byt _=>true
 | .int _,.str _=>true | .str _,.int _=>true | .bl _,.str _=>true | .str _,.bl _=>true
 | _,_=>false
def rEq:R2:=fun x y H Q=>wg x y=true∧Q (.bl (decide (x=y))) H
def rNe:R2:=fun x y H Q=>wg x y=true∧Q (.bl (!decide (x=y))) H
theorem l0 {i j:Int}:decide (V.int i=V.int j)=(i == j):=by
 rw [Bool.eq_iff_iff];simp
theorem n6 {i j:Bool}:decide (V.bl i=V.bl j)=(i == j):=by
 rw [Bool.eq_iff_iff];simp
theorem l5 {i j:Str}:decide (V.str i=V.str j)=(i == j):=by
 rw [Bool.eq_iff_iff];simp
theorem l6 {i j:Array UInt8}:decide (V.byt i=V.byt j)=(i.toList == j.toList):=by
 rw [Bool.eq_iff_iff]
 cases i
 cases j
 simp
section
variable {X:Cx} {a b c:Expr} {ta tb tc:TE} {pos:Pos}
theorem ao {pins:List (Addr×Obj)} {σ:St} {H:Hp} {s:Shared} {Q:VK} {k k':Bool} (I:Inv X pins σ H s) (q:Q (.bl k) H) (e:k=k'):EP X pins σ Q (.bool k') s:=by
 subst e;exact ⟨.bl k,H,I,rfl,q⟩
theorem op_eq:OpR X (compareOp .Eq) rEq:=by
 intro pins s σ H x y v u Q I rx ry h;obtain ⟨hs,q⟩:=h
 cases x with
 | non =>
  cases rx
  cases y with
  | non=>cases ry;exact PySem.EqNone.eq_none_none (ao I q (by simp))
  | bl j=>cases ry;exact PySem.EqNone.eq_none_bool (ao I q (by simp))
  | int j=>obtain ⟨t',rfl⟩:=ry;exact PySem.EqNone.eq_none_int (ao I q (by simp))
  | str j=>obtain ⟨t',rfl⟩:=ry;exact PySem.EqNone.eq_none_str (ao I q (by simp))
  | _=>exact absurd (show false=true from hs) Bool.false_ne_true
 | bl i =>
  cases rx
  cases y with
  | non=>cases ry;exact PySem.EqNone.eq_bool_none (ao I q (by simp))
  | bl j=>cases ry;exact eq_bool (ao I q n6)
  | str j=>obtain ⟨t',rfl⟩:=ry;exact PySem.EqMixed.eq_bool_str (ao I q (by simp))
  | _=>exact absurd (show false=true from hs) Bool.false_ne_true
 | int i =>
  obtain ⟨t,rfl⟩:=rx
  cases y with
  | non=>cases ry;exact PySem.EqNone.eq_int_none (ao I q (by simp))
  | int j=>obtain ⟨t',rfl⟩:=ry;exact eq_int (ao I q l0)
  | str j=>obtain ⟨t',rfl⟩:=ry;exact PySem.EqMixed.eq_int_str (ao I q (by simp))
  | _=>exact absurd (show false=true from hs) Bool.false_ne_true
 | str i =>
  obtain ⟨t,rfl⟩:=rx
  cases y with
  | non=>cases ry;exact PySem.EqNone.eq_str_none (ao I q (by simp))
  | bl j=>cases ry;exact PySem.EqMixed.eq_str_bool (ao I q (by simp))
  | int j=>obtain ⟨t',rfl⟩:=ry;exact PySem.EqMixed.eq_str_int (ao I q (by simp))
  | str j=>obtain ⟨t',rfl⟩:=ry;exact eq_str (ao I q l5)
  | _=>exact absurd (show false=true from hs) Bool.false_ne_true
 | byt i =>
  obtain ⟨t,rfl⟩:=rx
  cases y with
  | byt j=>obtain ⟨t',rfl⟩:=ry;exact PySem.W.eq_bytes (ao I q l6)
  | _=>exact absurd (show false=true from hs) Bool.false_ne_true
 | _=>cases y <;> exact absurd (show false=true from hs) Bool.false_ne_true
theorem op_ne:OpR X (compareOp .NotEq) rNe:=by
 intro pins s σ H x y v u Q I rx ry h;obtain ⟨hs,q⟩:=h
 cases x with
 | non =>
  cases rx
  cases y with
  | non=>cases ry;exact PySem.EqNone.ne_none_none (ao I q (by simp))
  | bl j=>cases ry;exact PySem.EqNone.ne_none_bool (ao I q (by simp))
  | int j=>obtain ⟨t',rfl⟩:=ry;exact PySem.EqNone.ne_none_int (ao I q (by simp))
  | str j=>obtain ⟨t',rfl⟩:=ry;exact PySem.EqNone.ne_none_str (ao I q (by simp))
  | _=>exact absurd (show false=true from hs) Bool.false_ne_true
 | bl i =>
  cases rx
  cases y with
  | non=>cases ry;exact PySem.EqNone.ne_bool_none (ao I q (by simp))
  | bl j=>cases ry;exact ne_bool (ao I q (congrArg not n6))
  | str j=>obtain ⟨t',rfl⟩:=ry;exact PySem.EqMixed.ne_bool_str (ao I q (by simp))
  | _=>exact absurd (show false=true from hs) Bool.false_ne_true
 | int i =>
  obtain ⟨t,rfl⟩:=rx
  cases y with
  | non=>cases ry;exact PySem.EqNone.ne_int_none (ao I q (by simp))
  | int j=>obtain ⟨t',rfl⟩:=ry;exact ne_int (ao I q (congrArg not l0))
  | str j=>obtain ⟨t',rfl⟩:=ry;exact PySem.EqMixed.ne_int_str (ao I q (by simp))
  | _=>exact absurd (show false=true from hs) Bool.false_ne_true
 | str i =>
  obtain ⟨t,rfl⟩:=rx
  cases y with
  | non=>cases ry;exact PySem.EqNone.ne_str_none (ao I q (by simp))
  | bl j=>cases ry;exact PySem.EqMixed.ne_str_bool (ao I q (by simp))
  | int j=>obtain ⟨t',rfl⟩:=ry;exact PySem.EqMixed.ne_str_int (ao I q (by simp))
  | str j=>obtain ⟨t',rfl⟩:=ry;exact ne_str (ao I q (congrArg not l5))
  | _=>exact absurd (show false=true from hs) Bool.false_ne_true
 | byt i =>
  obtain ⟨t,rfl⟩:=rx
  cases y with
  | byt j=>obtain ⟨t',rfl⟩:=ry;exact PySem.W.ne_bytes (ao I q (congrArg not l6))
  | _=>exact absurd (show false=true from hs) Bool.false_ne_true
 | _=>cases y <;> exact absurd (show false=true from hs) Bool.false_ne_true
theorem op_le:OpR X (compareOp .LtE) (rI0 fun i j=>.bl (decide (i≤j))):=wf fun _ _ _ _ _ _ _ q=>le_int q
theorem op_gt:OpR X (compareOp .Gt) (rI0 fun i j=>.bl (decide (j < i))):=wf fun _ _ _ _ _ _ _ q=>gt_int q
theorem CZ:OpR X (compareOp .GtE) (rI0 fun i j=>.bl (decide (j≤i))):=wf fun _ _ _ _ _ _ _ q=>ge_int q
theorem mM:OpR X (compareOp .Lt) (fun x y H Q=>∃ i j,x=.str i∧y=.str j∧Q (.bl (decide (i.cps.toList < j.cps.toList))) H):=by
 intro pins s σ H x y v u Q I rx ry h;obtain ⟨i,j,rfl,rfl,q⟩:=h;obtain ⟨t,rfl⟩:=rx;obtain ⟨t',rfl⟩:=ry;exact lt_str (ao I q rfl)
theorem mO:OpR X (compareOp .In) (fun x y H Q=>∃ i j,x=.str i∧y=.str j∧Q (.bl (!(Builtin.Str.occurrences j i 0 j.length 1).isEmpty)) H):=by
 intro pins s σ H x y v u Q I rx ry h;obtain ⟨i,j,rfl,rfl,q⟩:=h;obtain ⟨t,rfl⟩:=rx;obtain ⟨t',rfl⟩:=ry;exact in_str (ao I q rfl)
theorem op_isN:OpR X (compareOp .Is) (fun x y H Q=>y=.non∧Q (.bl (decide (x=.non))) H):=by
 intro pins s σ H x y v u Q I rx ry h;obtain ⟨rfl,q⟩:=h
 cases ry
 refine is_none_gen (ao I q ?_)
 cases x <;> first
  | (cases rx;rfl)
  | (obtain ⟨t,rfl⟩:=rx;rfl)
theorem op_notN:OpR X (compareOp .IsNot) (fun x y H Q=>y=.non∧Q (.bl (!decide (x=.non))) H):=by
 intro pins s σ H x y v u Q I rx ry h;obtain ⟨rfl,q⟩:=h
 cases ry
 refine isnot_none_gen (ao I q ?_)
 cases x <;> first
  | (cases rx;rfl)
  | (obtain ⟨t,rfl⟩:=rx;rfl)
theorem nomark (b:Expr) {op:CmpOp} (h:op≠.In:=by decide) (h2:op≠.NotIn:=by decide):behindInMarks op b=false:=by
 have e1:(op == CmpOp.In)=false:=by cases op <;> first | rfl | exact absurd rfl h
 have e2:(op == CmpOp.NotIn)=false:=by cases op <;> first | rfl | exact absurd rfl h2
 cases b <;> simp [behindInMarks,e1,e2]
theorem pe_cmpR {op:CmpOp} {r:R2} (ho:OpR X (compareOp op) r) (ha:PE X a ta) (hb:PE X b tb) (hm:behindInMarks op b=false):PE X (.Compare a [op] [b] pos) (tOp r ta tb):=by
 intro pins s σ H Q I h;exact wpAny_Compare1 (wc ha hb I h fun v u s2 x y H2 I2 rx ry q=>ho pins s2 σ H2 x y v u Q I2 rx ry q) hm
inductive IBl (x:V) (H':Hp) (Q:Bool→Hp→Prop):Prop
 | mk (k:Bool):(x=.bl k)→(Q k H')→IBl x H' Q
def gQ (t:TE):TT:=fun σ H Q=>t σ H fun x H'=>IBl x H' Q
theorem pt_cmpR {op:CmpOp} {r:R2} (ho:OpR X (compareOp op) r) (ha:PE X a ta) (hb:PE X b tb) (hm:behindInMarks op b=false):PT X (.Compare a [op] [b] pos) (gQ (tOp r ta tb)):=by
 intro pins s σ H Q I h;refine wpAny_isTrue_Compare1 (thn (ha pins s σ H _ I h) fun v s1 ⟨x,H1,I1,r1,q1⟩=>thn (hb pins s1 σ H1 _ I1 q1) fun u s2 ⟨y,H2,I2,r2,q2⟩ =>
  thn (ho pins s2 σ H2 x y v u _ I2 r1 r2 q2) fun c s3 ⟨z,H3,I3,r3,k,e,q3⟩=>?_) hm
 subst e
 cases r3
 exact wpAny_truthy_bool ⟨H3,I3,q3⟩
def n9 (r r':R2) (ta tb tc:TE):TE:=fun σ H Q=>ta σ H fun x H1=>tb σ H1 fun y H2=>r x y H2 fun z H3=>∃ k,z=.bl k ∧
 (if k=true then tc σ H3 fun w' H4=>r' y w' H4 Q else Q (.bl false) H3)
theorem oe {op op':CmpOp} {r r':R2} (ho:OpR X (compareOp op) r) (ho':OpR X (compareOp op') r') (ha:PE X a ta) (hb:PE X b tb) (hc:PE X c tc)
  (hm:lastMarks [op,op'] [b,c]=false:=by with_unfolding_all rfl):PE X (.Compare a [op,op'] [b,c] pos) (n9 r r' ta tb tc):=by
 intro pins s σ H Q I h;refine Compare_chain (thn (ha pins s σ H _ I h) fun v s1 ⟨x,H1,I1,r1,q1⟩=>chain_link (thn (hb pins s1 σ H1 _ I1 q1) fun u s2 ⟨y,H2,I2,r2,q2⟩ =>
  thn (ho pins s2 σ H2 x y v u _ I2 r1 r2 q2) fun d s3 ⟨z,H3,I3,r3,k,e,q3⟩=>?_)) hm
 subst e
 cases r3
 refine wpAny_truthy_bool ?_
 cases k with
 | false=>exact ite_ff ⟨.bl false,H3,I3,rfl,q3⟩
 | true=>exact ite_tt (chain_last (thn (hc pins s3 σ H3 _ I3 q3) fun w' s4 ⟨z',H4,I4,r4,q4⟩=>ho' pins s4 σ H4 y z' u w' Q I4 r2 r4 q4))
theorem pt_chain {op op':CmpOp} {r r':R2} (ho:OpR X (compareOp op) r) (ho':OpR X (compareOp op') r') (ha:PE X a ta) (hb:PE X b tb) (hc:PE X c tc)
  (hm:lastMarks [op,op'] [b,c]=false:=by with_unfolding_all rfl):PT X (.Compare a [op,op'] [b,c] pos) (gQ (n9 r r' ta tb tc)):=by
 intro pins s σ H Q I h;refine isTrue_chain (thn (ha pins s σ H _ I h) fun v s1 ⟨x,H1,I1,r1,q1⟩=>test_link (thn (hb pins s1 σ H1 _ I1 q1) fun u s2 ⟨y,H2,I2,r2,q2⟩ =>
  thn (ho pins s2 σ H2 x y v u _ I2 r1 r2 q2) fun d s3 ⟨z,H3,I3,r3,k,e,q3⟩=>?_)) hm
 subst e
 cases r3
 refine wpAny_truthy_bool ?_
 cases k with
 | false =>
  obtain ⟨k',e',q'⟩:=q3
  cases e'
  exact ite_ff ⟨H3,I3,q'⟩
 | true =>
  refine ite_tt (test_last (thn (hc pins s3 σ H3 _ I3 q3) fun w' s4 ⟨z',H4,I4,r4,q4⟩=>thn (ho' pins s4 σ H4 y z' u w' _ I4 r2 r4 q4) fun d' s5 ⟨z2,H5,I5,r5,k2,e2,q5⟩=>?_));subst e2
  cases r5
  exact wpAny_truthy_bool ⟨H5,I5,q5⟩
theorem fz:(sizeLine:Nat) < 2 ^ 63:=by rw [sizeLine_eq];decide
theorem bX {x:V} {us:List Value} (r:Vals [x] us):∃ u,us=[u]∧RelV x u:=by
 cases r with
 | cons r1 r2=>cases r2;exact ⟨_,rfl,r1⟩
theorem jI {x y:V} {us:List Value} (r:Vals [x,y] us):∃ u w',us=[u,w']∧RelV x u∧RelV y w':=by
 cases r with
 | cons r1 r2 =>
  cases r2 with
  | cons r3 r4=>cases r4;exact ⟨_,_,rfl,r1,r3⟩
theorem gR (hc:X.calm=true):aG X (.builtin "max") (fun xs H Q=>∃ i j,xs=[.int i,.int j]∧Q (.int (if j > i then j else i)) H):=by
 intro pins s σ H xs us Q I r h;obtain ⟨i,j,rfl,q⟩:=h;obtain ⟨u,w',rfl,⟨t,rfl⟩,⟨t',rfl⟩⟩:=jI r;refine max_two_ints (I.ok.hd hc) fun h' tk k=>⟨_,H,I.kept k,?_,q⟩
 by_cases hj:j > i
 ·rw [if_pos hj,if_pos hj];exact ⟨_,rfl⟩
 ·rw [if_neg hj,if_neg hj];exact ⟨_,rfl⟩
theorem cS (hc:X.calm=true):aG X (.builtin "min") (fun xs H Q=>∃ i j,xs=[.int i,.int j]∧Q (.int (if j < i then j else i)) H):=by
 intro pins s σ H xs us Q I r h;obtain ⟨i,j,rfl,q⟩:=h;obtain ⟨u,w',rfl,⟨t,rfl⟩,⟨t',rfl⟩⟩:=jI r;refine min_two_ints (I.ok.hd hc) fun h' tk k=>⟨_,H,I.kept k,?_,q⟩
 by_cases hj:j < i
 ·rw [if_pos hj,if_pos hj];exact ⟨_,rfl⟩
 ·rw [if_neg hj,if_neg hj];exact ⟨_,rfl⟩
end
structure ObjM (h:Heap) (x dx C:Addr) (mA:Str→Option Value):Prop where
 obj:h.get? x=some (PySem.W.instObj C dx)
 ns:h.Ns1 dx mA
 ne:dx≠x
section
variable {prog:Program} {w:World} {A:Around} {E:Value→Shared→Prop} {s:Shared} {K:PySem.W.Frag} {x dx C f:Addr} {mA:Str→Option Value} {name:Str} {v:Value}
end
theorem RelO.some_of {v:V} {o:Option Value} (r:RelO (some v) o):∃ u,o=some u∧RelV v u:=by
 cases o with
 | none=>exact (show False from r).elim
 | some u=>exact ⟨u,rfl,r⟩
section
variable {P:Program} {w:World} {H H':Hp} {h h':Heap} {a C dx:Addr} {fs fs':List (Str×V)}
end
structure Cls (K:PySem.W.Frag) (C:Addr):Prop where
 pg:PySem.W.plainGet K C Str.empty=true
 hd:PySem.W.hasDictIn K C=true
 po:PySem.W.plainOver K C=true
 sa:PySem.W.findIn K (.ref C) "__setattr__" = some (some (.builtin "object.__setattr__"))
section
variable {X:Cx} {pins:List (Addr×Obj)} {σ:St} {H:Hp} {s:Shared} {a C dx:Addr} {fs:List (Str×V)} {f:Str} {v:V} {A:Around} {E:Value→Shared→Prop}
end
section
variable {X:Cx} {o e value:Expr} {f:Str} {pos pos' tpos:Pos} {ta tv:TE}
end
section
variable {X:Cx} {pins:List (Addr×Obj)} {σ:St} {H:Hp} {s:Shared} {A:Around} {E:Value→Shared→Prop} {Q:Value→Shared→Prop} {c:Value} {b:Bool}
end
structure Room (k:Nat) (A:Around):Prop where
 hd:A.handled=none
 dp:A.depth+3*k+5 < recursionLimit
 un:A.units+16*k+200 < cLine
theorem Room.mono {j k:Nat} {A:Around} (r:Room k A) (h:j≤k):Room j A:=⟨r.hd,by have:=r.dp;lia,by have:=r.un;lia⟩
theorem Room.deeper {k:Nat} {A:Around} (r:Room (k+1) A) (env:Env):Room k (A.deeper env) :=
 ⟨r.hd,by have:=r.dp;show A.depth+1+3*k+5 < _;lia,by have:=r.un;show A.units+3+16*k+200 < _;lia⟩
theorem Room.depth {k:Nat} {A:Around} (r:Room k A):A.depth < recursionLimit:=by have:=r.dp;lia
theorem Room.units {k:Nat} {A:Around} (r:Room k A):A.units+64 < cLine:=by have:=r.un;lia
def mP:TA:=fun _ H Q=>Q [] H
def cx (ta:TE) (tr:TA):TA:=fun σ H Q=>ta σ H fun x H1=>tr σ H1 fun xs H2=>Q (x :: xs) H2
section
variable {X:Cx} {e:Expr} {es:List Expr} {te:TE} {t:TA} {pos:Pos}
theorem iA:PA X [] mP:=fun _ _ _ _ H Q I h=>Calls.spliced_nil ⟨[],H,I,.nil,h⟩
theorem pa_cons (ha:PE X e te) (hr:PA X es t) (hs:starEach (e :: es) X.env=(false,eval e X.env) :: starEach es X.env:=by rfl):PA X (e :: es) (cx te t):=by
 intro pos pins s σ H Q I h;rw [hs];show wpAny _ _ (spliced ((false,eval e X.env) :: backTo pos (starEach es X.env))) _ _ s;refine Calls.spliced_cons (thn (ha pins s σ H _ I h) fun u s1 ⟨x,H1,I1,r1,q1⟩=>?_);exact thn (hr pos pins s1 σ H1 _ I1 q1) fun us s2 ⟨xs,H2,I2,r2,q2⟩=>⟨x :: xs,H2,I2,.cons r1 r2,q2⟩
def DS (t:TA):TE:=fun σ H Q=>t σ H fun xs H1=>xs.length≤sizeLine∧∀ p,H1 p=none→Q (.ref p) (upd H1 p (.lst xs))
theorem bu (h:PA X es t):PE X (.List es pos) (DS t):=by
 intro pins s σ H Q I hq;refine wpAny_List_spliced (thn (h pos pins s σ H _ I hq) fun us s1 ⟨xs,H1,I1,r,z,q⟩=>⟨by rw [← r.length];exact z,?_⟩);have hf:H1 s1.heap.objs.size=none:=I1.hok.fresh (Nat.le_refl _);refine ⟨.ref s1.heap.objs.size,upd H1 s1.heap.objs.size (.lst xs),I1.laid (t':=s1.toks) (fun b u e=>Heap.get?_push_of_some _ e) (Nat.le_refl _) ?_,rfl,q _ hf⟩;exact ⟨z,us,0,r,Heap.get?_push_size _ rfl⟩
end
abbrev Sp:=List V→Hp→VK→XK→Prop
abbrev CXT:=List Env→Hp→Shared→XK→Value→Shared→Prop
structure Env0 (P:Program) (w:World) (K:PySem.W.Frag) (mg:Str→Option Value) (base:Heap) (A:Around) (outer:List Env) (s:Shared) (H:Hp):Prop where
 frames:A.frames=some outer
 mod:Mod K mg base
 bs:∀ b o,base.get? b=some o→s.heap.get? b=some o∧H b=none
 bsz:base.objs.size≤s.heap.objs.size
 funs:s.heap.FunFrames base outer
 frf:∀ b∈frs outer,H b=none
 hok:HOk P w H s.heap
 bare:AllBare s.gens
def CE (outer:List Env) (P:Program) (w:World) (H:Hp) (s:Shared) (Q:VK) (u:Value) (s':Shared):Prop :=
 ∃ v H',s'.os=s.os∧AllBare s'.gens∧Un (frs outer) [] H H' s.heap s'.heap∧HOk P w H' s'.heap∧RelV v u∧Q v H'
def CR (CX:CXT) (outer:List Env) (P:Program) (w:World) (H:Hp) (s:Shared) (Q:VK) (E:XK) (r:Result) (s':Shared):Prop :=
 match r with
 | .ok (.ret u)=>CE outer P w H s Q u s'
 | .ok _=>False
 | .error e=>CX outer H s E e s'
structure FnOk (P:Program) (w:World) (K:PySem.W.Frag) (mg:Str→Option Value) (base:Heap) (CX:CXT) (k:Nat) (f:Addr) (fd:FuncData) (ps:List Str) (sp:Sp):Prop where
 len:∀ vs H Q E,sp vs H Q E→vs.length=ps.length
 run:∀ (A:Around) (outer:List Env) (s:Shared) (H:Hp) (args:Args) (us:List Value) (vs:List V) (Q:VK) (E:XK),Room k A→Env0 P w K mg base A outer s H→BindsTo s fd args (ps.zip us)→Vals vs us→sp vs H Q E →
  codeAny (model P w) A (.call (.ref f) args) (CR CX outer P w H s Q E) s
theorem FnOk.imp {P:Program} {w:World} {K:PySem.W.Frag} {mg:Str→Option Value} {base:Heap} {CX:CXT} {k:Nat} {f:Addr} {fd:FuncData} {ps:List Str} {sp sp':Sp} (F:FnOk P w K mg base CX k f fd ps sp)
  (h:∀ vs H Q E,sp' vs H Q E→sp vs H Q E):FnOk P w K mg base CX k f fd ps sp' :=
 ⟨fun vs H Q E q=>F.len vs H Q E (h _ _ _ _ q),fun A outer s H args us vs Q E hr he hb hv hs=>F.run A outer s H args us vs Q E hr he hb hv (h _ _ _ _ hs)⟩
section
variable {X:Cx} {pins:List (Addr×Obj)} {σ:St} {H:Hp} {s s':Shared}
theorem Inv.env0 (I:Inv X pins σ H s):Env0 X.prog X.w X.K X.mg X.base X.A X.stack s H :=
 ⟨I.ok.frames,I.ok.mod,I.bs,Nat.le_trans I.ok.bsz I.sz,I.stack,I.stkFree,I.hok,I.bare⟩
theorem Inv.after {Q:VK} {u:Value} (I:Inv X pins σ H s) (h:CE X.stack X.prog X.w H s Q u s'):EP X pins σ Q u s':=by
 obtain ⟨v,H',os,bare,un,hok,r,q⟩:=h;obtain ⟨hh,g,d,t,os'⟩:=s';obtain rfl:os'=s.os:=os;exact ⟨v,H',I.call (h':=hh) (g':=g) (d':=d) (t':=t) (ch:=[]) un hok bare (fun b z=>absurd z (by simp)),r,q⟩
end
def rl (sp:Sp) (dvs:List V) (E:XK) (t:TA):TE:=fun σ H Q=>t σ H fun vs H1=>sp (vs++dvs) H1 Q E
def Binds (K:PySem.W.Frag) (fd:FuncData) (ps:List Str) (ds:List Value):Prop :=
 ∀ (s:Shared) (us:List Value),K.In s.heap→(us++ds).length=ps.length→BindsTo s fd ⟨us,[]⟩ (ps.zip (us++ds))
theorem Binds.all {K:PySem.W.Frag} {fd:FuncData} {ps:List Str} (h:∀ us:List Value,us.length=ps.length→bindArgs fd ⟨us,[]⟩=pure (ps.zip us)):Binds K fd ps []:=fun s us _ hl=>by
 rw [List.append_nil] at hl ⊢;exact .of_eq (h us hl)
def iB (CX:CXT) (X:Cx) (E:XK):Prop:=∀ (pins:List (Addr×Obj)) (σ:St) (H:Hp) (s:Shared) (e:Value) (s':Shared),Inv X pins σ H s→CX X.stack H s E e s'→X.xe e s'
section
variable {X:Cx} {CX:CXT} {k:Nat} {f C:Addr} {fd:FuncData} {ps:List Str} {sp:Sp} {dvs:List V} {ds:List Value} {E:XK} {x m:Str} {p pos apos:Pos} {e o:Expr} {es:List Expr} {ta:TE} {t:TA}
theorem wj {pins:List (Addr×Obj)} {σ:St} {H:Hp} {s:Shared} {Q:VK} {us:List Value} {vs:List V} (F:FnOk X.prog X.w X.K X.mg X.base CX k f fd ps sp) (hr:Room k X.A) (hb:Binds X.K fd ps ds) (hd:Vals dvs ds) (hx:iB CX X E)
  (I:Inv X pins σ H s) (r:Vals vs us) (h:sp (vs++dvs) H Q E):wpAny (model X.prog X.w) X.A (call (.ref f) us) (EP X pins σ Q) X.xe s:=by
 have r2:Vals (vs++dvs) (us++ds):=r.append hd;have hl:(us++ds).length=ps.length:=by rw [← r2.length];exact F.len _ _ _ _ h
 refine wpAny_call (codeAny_mono (F.run X.A X.stack s H ⟨us,[]⟩ (us++ds) (vs++dvs) Q E hr I.env0 (hb s us I.kIn hl) r2 h) fun r s' hq=>?_)
 cases r with
 | error e=>exact hx pins σ H s e s' I hq
 | ok fl =>
  cases fl with
  | ret u=>exact I.after hq
  | next=>exact False.elim hq
  | brk=>exact False.elim hq
  | cont=>exact False.elim hq
theorem pe_call (F:FnOk X.prog X.w X.K X.mg X.base CX k f fd ps sp) (hr:Room k X.A) (hg:Gl X x) (hm:X.mg x=some (.ref f)) (hk:PySem.W.keepIn X.K (.ref f)=true) (hb:Binds X.K fd ps ds) (hd:Vals dvs ds) (hx:iB CX X E)
  (ha:PA X (e :: es) t) (hdb:(x == ("__debug__" : Str))=false:=by decide) (he:starEach (e :: es) X.env=(false,eval e X.env) :: starEach es X.env:=by rfl) (hpl:(backTo pos (starEach es X.env)).any (·.1)=false:=by rfl) :
  PE X (.Call (.Name x p) (e :: es) [] pos) (rl sp dvs E t):=by
 intro pins s σ H Q I h;refine wpAny_Call_Name_kw (dA I hg hm ?_ hdb);refine PySem.W.callWith_K (h₀:=X.base) I.ok.mod.kin hk (thn (ha pos pins s σ H _ I h) fun us s1 ⟨vs,H1,I1,r,q⟩=>⟨I1.kIn,?_⟩) he hpl;exact wj F hr hb hd hx I1 r q
end
section
variable {X:Cx} {CX:CXT} {k:Nat} {f C:Addr} {fd:FuncData} {ps ks:List Str} {sp:Sp} {E:XK} {x m:Str} {p pos apos kpos:Pos} {e o:Expr} {es:List Expr} {kws:List Keyword} {te ta:TE} {t tk:TA} {nm:Option Str}
variable {g:List Value→List Value→List Value} {gV:List V→List V→List V}
end
structure FnScope (N P:List Str) (sc:Scope):Prop where
 kind:sc.kind=.function
 co:sc.isCoroutine=false
 gen:sc.isGenerator=false
 nd:N.Nodup
 pre:N.take P.length=P
 par:∀ x∈P,sc.names.lookup x=some .local∨sc.names.lookup x=some .cell
 nofree:∀ y∈sc.names,y.2≠.free
theorem gS {kindOf:Str→Option NameKind} {x:Str}:∀ {binds:List (Str×Value)} {m:Str→Option Value},(∀ v,(x,v)∉binds)→bindL kindOf binds m x=m x
 | [],_,_=>rfl
 | (n,v) :: r,m,h=>by
  unfold bindL;rw [gS fun w hw=>h w (List.mem_cons_of_mem _ hw)]
  split
  ·have:x≠n:=by rintro rfl;exact h v List.mem_cons_self
   simp [this]
  ·rfl
theorem gU {kindOf:Str→Option NameKind} {x:Str}:∀ {binds:List (Str×Value)} {m:Str→Option Value},(∀ v,(x,v)∉binds)→bindC kindOf binds m x=m x
 | [],_,_=>rfl
 | (n,v) :: r,m,h=>by
  unfold bindC;rw [gU fun w hw=>h w (List.mem_cons_of_mem _ hw)]
  split
  ·rfl
  ·have:x≠n:=by rintro rfl;exact h v List.mem_cons_self
   simp [this]
theorem gW {kindOf:Str→Option NameKind} {x:Str} {v:Value}:∀ {P:List Str} {vs:List Value} {i:Nat} {m:Str→Option Value},P.Nodup→P[i]?=some x→vs[i]?=some v→kindOf x=some .local →
  bindL kindOf (P.zip vs) m x=some v
 | [],_,_,_,_,h,_,_=>by simp at h
 | _ :: _,[],_,_,_,_,h,_=>by simp at h
 | p :: P,w :: vs,0,m,nd,h1,h2,hk=>by
  simp at h1 h2;subst h1;subst h2;show bindL kindOf ((p,w) :: P.zip vs) m p=_;unfold bindL;rw [gS fun v hv=>(List.nodup_cons.mp nd).1 (List.of_mem_zip hv).1,if_pos hk];simp
 | p :: P,w :: vs,i+1,m,nd,h1,h2,hk=>by
  show bindL kindOf ((p,w) :: P.zip vs) m x=_;unfold bindL;exact gW (i:=i) (List.nodup_cons.mp nd).2 (by simpa using h1) (by simpa using h2) hk
theorem gX {kindOf:Str→Option NameKind} {x:Str} {v:Value}:∀ {P:List Str} {vs:List Value} {i:Nat} {m:Str→Option Value},P.Nodup→P[i]?=some x→vs[i]?=some v→kindOf x≠some .local →
  bindC kindOf (P.zip vs) m x=some v
 | [],_,_,_,_,h,_,_=>by simp at h
 | _ :: _,[],_,_,_,_,h,_=>by simp at h
 | p :: P,w :: vs,0,m,nd,h1,h2,hk=>by
  simp at h1 h2;subst h1;subst h2;show bindC kindOf ((p,w) :: P.zip vs) m p=_;unfold bindC;rw [gU fun v hv=>(List.nodup_cons.mp nd).1 (List.of_mem_zip hv).1,if_neg hk];simp
 | p :: P,w :: vs,i+1,m,nd,h1,h2,hk=>by
  show bindC kindOf ((p,w) :: P.zip vs) m x=_;unfold bindC;exact gX (i:=i) (List.nodup_cons.mp nd).2 (by simpa using h1) (by simpa using h2) hk
def dC (N:List Str) (vs:List V):St:=vs.map some++List.replicate (N.length - vs.length) none
def jJ (CX:CXT) (P:Program) (w:World) (K:PySem.W.Frag) (mg:Str→Option Value) (base:Heap) (N:List Str) (qual:Str) (scope:Scope) (f:Addr) (cd:Value) (A:Around) (outer:List Env) (s:Shared) (H:Hp) (E:XK):Cx where
 prog:=P
 w:=w
 K:=K
 mg:=mg
 base:=base
 A:=A.deeper (envOfC qual scope s.heap.objs.size f cd)
 N:=N
 s₀:=s
 H₀:=H
 env:=envOfC qual scope s.heap.objs.size f cd
 outer:=outer
 stack:=envOfC qual scope s.heap.objs.size f cd :: outer
 ex:=[]
 calm:=true
 fn:=fun _=>true
 pn:=[]
 xe:=fun e s'=>wpAny (model P w) (A.deeper (envOfC qual scope s.heap.objs.size f cd)) (leaving (envOfC qual scope s.heap.objs.size f cd) e) (fun _ s''=>CX outer H s E e s'') (fun e' s''=>CX outer H s E e' s'') s'
theorem jK {sc:Scope} {n:Nat} {x:Str} (h:sc.names.lookup x=some .cell):∃ c,(cellsFrom n sc.names []).lookup x=some c:=by
 have q:=PySem.W.cellsFrom_some sc.names n [] (.inl h);exact Option.isSome_iff_exists.mp q
theorem mQ {CX:CXT} {P:Program} {w:World} {K:PySem.W.Frag} {mg:Str→Option Value} {base:Heap} {N ps:List Str} {qual:Str} {scope:Scope} {f:Addr} {cd:Value} {A:Around} {outer:List Env} {s s1:Shared} {H:Hp} {E:XK} {us:List Value} {vs:List V}
  (S:FnScope N ps scope) (hd:A.handled=none) (e0:Env0 P w K mg base A outer s H) (hl:vs.length=ps.length) (r:Vals vs us)
  (x:InCallC s s.heap.objs.size (bindL (envOfC qual scope s.heap.objs.size f cd).kindOf (ps.zip us) fun _=>none) (cellsFrom (s.heap.objs.size+1) scope.names []) (bindC (envOfC qual scope s.heap.objs.size f cd).kindOf (ps.zip us) fun _=>none) s1) :
  Inv (jJ CX P w K mg base N qual scope f cd A outer s H E) [] (dC N vs) H s1:=by
 have hpl:ps.length≤N.length:=by have:=congrArg List.length S.pre;rw [List.length_take] at this;lia
 obtain ⟨h1,tk,rfl,hk⟩:=x.done;have noA:∀ b:Addr,b∉(jJ CX P w K mg base N qual scope f cd A outer s H E).ex:=fun b z=>absurd (show b∈([]:List Addr) from z) (by simp);refine ⟨⟨e0.mod,S.kind,rfl,rfl,Nat.le_refl _,fun y z c h1 h2=>?_,fun y hy=>?_,fun y c _ h=>?_,fun _=>hd,Around.frames_deeper e0.frames,.inr ⟨rfl,rfl⟩,fun b z=>absurd z (noA b),e0.bs,e0.bsz,fun b _ _=>noA b,fun b z=>absurd z (noA b),e0.funs,e0.frf⟩,
  rfl,e0.bare,Un.kept hk,⟨_,x.toInCall.ns,fun i y v h1 h2 h3=>?_⟩,fun y c h=>⟨_,x.cell y c h⟩,e0.hok.fresh (Nat.le_refl _),fun y c h=>?_,fun p hp=>absurd (show p∈([]:List (Addr×Obj)) from hp) (by simp),e0.hok.kept hk,?_⟩
 ·exact name_of_addr x.apart (PySem.mem_of_lookup h1) (PySem.mem_of_lookup h2)
 ·have hy:scope.names.lookup y=some .cell∨scope.names.lookup y=some .free:=hy;rcases hy with hy | hy
  ·exact jK hy
  ·exact absurd rfl (S.nofree _ (PySem.mem_of_lookup hy))
 ·exact Nat.le_of_lt (x.above y c (PySem.mem_of_lookup h))
 ·have hi:i < vs.length:=by
   unfold dC at h2
   by_cases hi:i < vs.length
   ·exact hi
   ·rw [List.getElem?_append_right (by simpa using hi)] at h2;rw [List.getElem?_replicate] at h2
    split at h2 <;> cases h2
  have ha:vs[i]?=some v:=by
   unfold dC at h2;rw [List.getElem?_append_left (by simpa using hi),List.getElem?_map] at h2
   cases e:vs[i]? with
   | none=>rw [e] at h2;cases h2
   | some a=>rw [e] at h2;cases h2;rfl
  obtain ⟨u,hu,rv⟩:=r.get ha;have hp:ps[i]?=some y:=by
   rw [← S.pre,List.getElem?_take_of_lt (by lia)];exact h1
  have ndP:ps.Nodup:=by rw [← S.pre];exact S.nd.sublist (List.take_sublist _ _)
  refine ⟨u,rv,?_⟩;rcases S.par y (List.mem_of_getElem? hp) with k | k
  ·exact .inl ⟨k,gW ndP hp hu k⟩
  ·obtain ⟨c,e⟩:=jK (n:=s.heap.objs.size+1) k;refine .inr ⟨.inl k,c,e,?_⟩;have q:=x.cell y c e;rw [gX ndP hp hu (by show scope.names.lookup y≠_;rw [k];decide)] at q;exact q
 ·exact e0.hok.fresh (Nat.le_of_lt (x.above y c (PySem.mem_of_lookup h)))
 ·unfold dC;show _=N.length;rw [List.length_append,List.length_map,List.length_replicate];lia
theorem rm {CX:CXT} {P:Program} {w:World} {K:PySem.W.Frag} {mg:Str→Option Value} {base:Heap} {k:Nat} {f:Addr} {name qual:Str} {params:Arguments} {body:List Stmt} {scope:Scope} {dV kV doc pm cdv ct oc:Value} {an od:Option Addr}
  {osl:Array (Option Value)} {N ps:List Str} {sp:Sp} (lk:K.lookup f=some ⟨oc,od,.func (PySem.W.fnOf name qual params body scope dV kV doc pm an cdv ct),osl⟩) (hcd:PySem.W.codeIn K cdv qual=true) (S:FnScope N ps scope)
  (len:∀ vs H Q E,sp vs H Q E→vs.length=ps.length)
  (hbody:∀ (A:Around) (outer:List Env) (s:Shared) (H:Hp) (vs:List V) (Q:VK) (E:XK),Room k (A.deeper (envOfC qual scope s.heap.objs.size f cdv))→sp vs H Q E →
   ∃ t,PSs (jJ CX P w K mg base N qual scope f cdv A outer s H E) body t∧t { nx:=fun _ H'=>Q .non H',rt:=Q } (dC N vs) H) :
  FnOk P w K mg base CX (k+1) f (PySem.W.fnOf name qual params body scope dV kV doc pm an cdv ct) ps sp:=by
 refine ⟨len,fun A outer s H args us vs Q E hr e0 hb r hsp=>?_⟩;have hl:=len _ _ _ _ hsp;have KX:K.In s.heap:=e0.mod.kin.keeps fun b o e=>(e0.bs b o e).1;have lim:s.heap.NoLimit:=e0.mod.nolimit.keeps fun b o e=>(e0.bs b o e).1;have hkind:∀ y∈ps.zip us,scope.names.lookup y.1=some .local∨(scope.names.lookup y.1=some .cell∧((cellsFrom (s.heap.objs.size+1) scope.names []).lookup y.1).isSome=true):=fun ⟨n,v⟩ hy=>by
  rcases S.par n (List.of_mem_zip hy).1 with q | q
  ·exact .inl q
  ·exact .inr ⟨q,PySem.W.cellsFrom_some _ _ _ (.inl q)⟩
 refine codeAny_call_function hr.depth (KX _ _ lk) rfl S.co S.gen rfl (PySem.W.codeRec_of KX hcd) (hb _ _ _ _ ?_);refine wpAny_newFunctionEnv_cells S.kind hkind fun env he s1 x=>?_;subst he;refine ⟨lim.keeps x.toInCall.keep,codeAny_func ?_⟩;obtain ⟨t,ht,hq⟩:=hbody A outer s H vs Q E (hr.deeper _) hsp;have I:Inv (jJ CX P w K mg base N qual scope f cdv A outer s H E) [] (dC N vs) H s1:=mQ S hr.hd e0 hl r x;refine wpAny_mono (ht [] s1 (dC N vs) H _ I hq) (fun fl s' hs=>?_) fun e s' hs=>hs;have fin:∀ {σ':St} {H':Hp} {v:V} {u:Value},Inv (jJ CX P w K mg base N qual scope f cdv A outer s H E) [] σ' H' s'→RelV v u→Q v H'→CE outer P w H s Q u s' :=
  fun {σ' H' v u} J rv q=>⟨v,H',J.os,J.bare,J.base,J.hok,rv,q⟩
 cases fl with
 | ret u =>
  obtain ⟨v,σ',H',J,rv,q⟩:=hs;exact fin J rv q
 | next =>
  obtain ⟨σ',H',J,q⟩:=hs;exact fin (v:=V.non) (u:=Value.none) J rfl q
 | brk =>
  obtain ⟨_,_,_,q⟩:=hs;exact False.elim q
 | cont =>
  obtain ⟨_,_,_,q⟩:=hs;exact False.elim q
section
variable {X:Cx} {x:Str} {p pos:Pos} {e:Expr} {es:List Expr} {t:TA} {id T:String} {r:List V→Hp→VK→Prop}
def tCB (r:List V→Hp→VK→Prop) (t:TA):TE:=fun σ H Q=>t σ H fun vs H1=>r vs H1 Q
theorem pe_callB (hc:aG X (.builtin id) r) (hg:Gl X x) (hm:X.mg x=none) (hv:bootBuiltins x=some (.builtin id)) (ha:PA X (e :: es) t) (hn:x≠ "__name__" :=by decide) (hdb:(x == ("__debug__" : Str))=false:=by decide)
  (he:starEach (e :: es) X.env=(false,eval e X.env) :: starEach es X.env:=by rfl) (hpl:(backTo pos (starEach es X.env)).any (·.1)=false:=by rfl):PE X (.Call (.Name x p) (e :: es) [] pos) (tCB r t):=by
 intro pins s σ H Q I h;refine wpAny_Call_Name_kw (bP I hg hm hv ?_ hn hdb);exact PyProof.Rows.callWith_builtin1 (thn (ha pos pins s σ H _ I h) fun us s1 ⟨vs,H1,I1,r1,q1⟩=>hc pins s1 σ H1 vs us Q I1 r1 q1) he hpl
theorem a8 (hc:aG X (.type T) r) (hg:Gl X x) (hm:X.mg x=none) (hv:bootBuiltins x=some (.type T)) (ha:PA X (e :: es) t) (hn:x≠ "__name__" :=by decide) (hdb:(x == ("__debug__" : Str))=false:=by decide)
  (he:starEach (e :: es) X.env=(false,eval e X.env) :: starEach es X.env:=by rfl) (hpl:(backTo pos (starEach es X.env)).any (·.1)=false:=by rfl):PE X (.Call (.Name x p) (e :: es) [] pos) (tCB r t):=by
 intro pins s σ H Q I h;refine wpAny_Call_Name_kw (bP I hg hm hv ?_ hn hdb);exact PyProof.Rows.callWith_type1 (thn (ha pos pins s σ H _ I h) fun us s1 ⟨vs,H1,I1,r1,q1⟩=>hc pins s1 σ H1 vs us Q I1 r1 q1) he hpl
end
end L2
namespace HT
open PySem PyProof.Rows
section
open PySem.SeqAt
open PySem.AutoSeq1 (wpAny_loadPart')
open PySem.MeetsSeq PySem.MeetsSeq2 PySem.MeetsSeq3
end
section
variable {prog:Program} {w:World} {A:Around} {E:Value→Shared→Prop} {s:Shared}
def sIx (n d:Nat):Option Int→Nat
 | none=>d
 | some v=>if v < 0 then (v+(n:Int)).toNat else min v.toNat n
theorem sIx_nat (n d k:Nat):sIx n d (some (k:Int))=min k n:=by
 show (if (k:Int) < 0 then ((k:Int)+(n:Int)).toNat else min (k:Int).toNat n)=min k n;rw [if_neg (by lia),Int.toNat_natCast]
theorem wk (n d:Nat) (hd:d≤n) (o:Option Int):sIx n d o≤n:=by
 cases o with
 | none=>exact hd
 | some v =>
  show (if v < 0 then (v+(n:Int)).toNat else min v.toNat n)≤n
  by_cases hv:v < 0
  ·rw [if_pos hv];lia
  ·rw [if_neg hv];exact Nat.min_le_right _ _
theorem l9 (v:Int) (n d:Nat):(if v < 0 then max (v+(n:Int)) 0 else min v (n:Int))=((sIx n d (some v):Nat):Int):=by
 show (if v < 0 then max (v+(n:Int)) 0 else min v (n:Int))=(((if v < 0 then (v+(n:Int)).toNat else min v.toNat n):Nat):Int)
 by_cases hv:v < 0
 ·simp only [if_pos hv];lia
 ·simp only [if_neg hv];lia
theorem kX (lo hi:Option Int) (n:Nat):Builtin.Slice.sliceAdjust lo hi 1 (n:Int)=(((sIx n 0 lo:Nat):Int),((sIx n n hi:Nat):Int)):=by
 have h1:¬ ((1:Int) < 0):=by lia
 unfold Builtin.Slice.sliceAdjust;simp only [h1,if_false];refine Prod.ext ?_ ?_
 ·cases lo with
  | none=>rfl
  | some v=>exact l9 v n 0
 ·cases hi with
  | none=>rfl
  | some v=>exact l9 v n n
theorem kY (i j:Nat):Builtin.Slice.slicePlaces (i:Int) (j:Int) 1=j - i:=by
 unfold Builtin.Slice.slicePlaces;have h1:(1:Int) > 0:=by lia
 simp only [h1,if_true,Int.ediv_one]
 split <;> lia
theorem fA {v:Value} {o:Option Int} {Q:Option Int→Shared→Prop} (p:IsPart v o) (h:Q o s):wpAny (model prog w) A (Builtin.Slice.slicePartIndex v) Q E s:=by
 cases p with
 | none=>exact slicePart_none h
 | int i t=>exact slicePart_int h
theorem bY {sl:Addr} {vl vu:Value} {lo hi:Option Int} {n:Nat} {Q:Int×Int×Nat→Shared→Prop} (hs:s.heap.IsSliceOf sl vl vu .none) (pl:IsPart vl lo) (pu:IsPart vu hi)
  (h:Q (((sIx n 0 lo:Nat):Int),1,sIx n n hi - sIx n 0 lo) s):wpAny (model prog w) A (Builtin.Slice.sliceApplied (.ref sl) (pure (n:Int))) Q E s:=by
 obtain ⟨os,hos,hcs,hds⟩:=id hs;unfold Builtin.Slice.sliceApplied Builtin.Slice.sliceFields;refine wpAny_bind (wpAny_bind (wpAny_field hos hds (x:=vl) rfl (wpAny_bind (wpAny_field hos hds (x:=vu) rfl (wpAny_bind (wpAny_field hos hds (x:=.none) rfl (wpAny_pure ?_)))))));refine wpAny_bind (slicePart_none ?_);show wpAny _ _ (if ((1:Int) == 0)=true then _ else _) _ _ s;rw [if_neg (by decide)];refine wpAny_bind (fA pl (wpAny_bind (fA pu (wpAny_bind (wpAny_pure ?_)))));show wpAny _ _ (match Builtin.Slice.sliceAdjust lo hi 1 (n:Int) with | (lo,hi)=>pure (lo,(1:Int),Builtin.Slice.slicePlaces lo hi 1)) _ _ s;rw [kX lo hi n];show wpAny _ _ (pure (((sIx n 0 lo:Nat):Int),(1:Int),Builtin.Slice.slicePlaces ((sIx n 0 lo:Nat):Int) ((sIx n n hi:Nat):Int) 1)) _ _ s;rw [kY];exact wpAny_pure h
theorem og (xs:Array Value) (i k:Nat):((List.range k).filterMap fun (m:Nat)=>xs[((i:Int)+(m:Int)*1).toNat]?).toArray=((xs.toList.drop i).take k).toArray:=by
 have e:(fun (m:Nat)=>xs[((i:Int)+(m:Int)*1).toNat]?)=fun m=>xs[i+m]?:=by
  funext m
  have:((i:Int)+(m:Int)*1).toNat=i+m:=by lia
  rw [this]
 rw [e];have:=pick_run xs i k;rw [List.filterMap_map] at this;have e2:((fun x=>xs[x]?) ∘ fun x=>i+x)=fun m=>xs[i+m]?:=rfl;rw [e2] at this;rw [this]
theorem getItem_tuple_cut {t sl:Addr} {items:Array Value} {vl vu:Value} {lo hi:Option Int} {Q:Value→Shared→Prop} (ht:IsTup s.heap t items) (hs:s.heap.IsSliceOf sl vl vu .none) (pl:IsPart vl lo) (pu:IsPart vu hi)
  (hw:¬ (sIx items.size 0 lo=0∧sIx items.size items.size hi=items.size))
  (h:Q (.ref s.heap.objs.size) { s with heap:=s.heap.push { cls:=.type "tuple",data:=.seq ((items.toList.drop (sIx items.size 0 lo)).take (sIx items.size items.size hi - sIx items.size 0 lo)).toArray } })
  (hsz:items.size≤sizeLine):wpAny (model prog w) A (getItem (.ref t) (.ref sl)) Q E s:=by
 have htake:sizeOk (.seq ((items.toList.drop (sIx items.size 0 lo)).take (sIx items.size items.size hi - sIx items.size 0 lo)).toArray):=by
  show ((items.toList.drop (sIx items.size 0 lo)).take (sIx items.size items.size hi - sIx items.size 0 lo)).toArray.size≤sizeLine;rw [List.size_toArray,List.length_take,List.length_drop,Array.length_toList];lia
 have hj:sIx items.size items.size hi≤items.size:=wk _ _ (Nat.le_refl _) hi;obtain ⟨os,hos,hcs,hds⟩:=id hs;have hTs:s.TypeIs (.ref sl) "slice" :=⟨os,hos,hcs⟩;unfold getItem
 try with_reducible refine wpAny_holding ?_
 first | refine wpAny_bind (wpAny_pure ?_) | skip
 refine wpAny_bind (wpAny_sequenceKey ht.typeIs (by decide) ?_);refine wpAny_bind (wpAny_callSpecial?_slot (name:=Str.ofString "__getitem__") ht.typeIs PyProof.Rows.slot_tuple_getitem
  (wpAny_call_entry PyProof.Rows.slot_tuple_getitem ht.typeIs entry_tuple_getitem ?_ (args_tuple_getitem _ _)))
 show wpAny _ _ (Builtin.Tuple.tupleItemsOf (.ref t) >>= _) _ _ s;refine wpAny_bind (tupleItemsOf_ ht ?_);refine wpAny_bind (wpAny_typeOf hTs ?_);rw [if_pos (by decide)];refine wpAny_bind (bY hs pl pu ?_);have hno:¬ ((((sIx items.size 0 lo:Nat):Int) == 0 && (1:Int) == 1 && (sIx items.size items.size hi - sIx items.size 0 lo) == items.size)=true):=by
  intro q;rw [Bool.and_eq_true,Bool.and_eq_true] at q;have q1:((sIx items.size 0 lo:Nat):Int)=0:=eq_of_beq q.1.1;have q2:sIx items.size items.size hi - sIx items.size 0 lo=items.size:=eq_of_beq q.2;exact hw ⟨by lia,by lia⟩
 show wpAny _ _ (if (((sIx items.size 0 lo:Nat):Int) == 0 && (1:Int) == 1 && (sIx items.size items.size hi - sIx items.size 0 lo) == items.size)=true then _ else _) _ _ s;rw [if_neg hno,og]
 first
  | exact wpAny_bind (m:=Builtin.Tuple.tupleExact _) (wpAny_newObj_type (wpAny_pure ⟨_,rfl,wpAny_pure h⟩) htake)
  | exact wpAny_bind (m:=Builtin.Tuple.tupleExact _) (wpAny_newObj_type (wpAny_bind (wpAny_pure (wpAny_pure ⟨_,rfl,wpAny_pure h⟩))) htake)
  | exact wpAny_bind (wpAny_bind (m:=Builtin.Tuple.tupleExact _) (wpAny_newObj_type (wpAny_pure (wpAny_pure ⟨_,rfl,wpAny_pure h⟩)) htake))
  | exact wpAny_bind (wpAny_bind (m:=Builtin.Tuple.tupleExact _) (wpAny_newObj_type (wpAny_pure ⟨_,rfl,wpAny_pure h⟩) htake))
end
end HT
namespace L2
open PySem PySem.Spec PyProof.Rows
abbrev TO:=St→Hp→(Option Int→Hp→Prop)→Prop
def PO (X:Cx) (e:Option Expr) (t:TO):Prop :=
 ∀ (pins:List (Addr×Obj)) (s:Shared) (σ:St) (H:Hp) (Q:Option Int→Hp→Prop),Inv X pins σ H s→t σ H Q →
  wpAny (model X.prog X.w) X.A (evalPart e X.env) (fun u s'=>∃ o H',Inv X pins σ H' s'∧IsPart u o∧Q o H') X.xe s
def qb:TO:=fun _ H Q=>Q none H
inductive IPrt (x:V) (H1:Hp) (Q:Option Int→Hp→Prop):Prop
 | mk (i:Int):(x=.int i)→(Q (some i) H1)→IPrt x H1 Q
def C0 (t:TE):TO:=fun σ H Q=>t σ H fun x H1=>IPrt x H1 Q
section
variable {X:Cx} {e:Expr} {te:TE} {lo hi:Option Expr} {tl th:TO} {pos p2:Pos}
theorem iC:PO X none qb:=by
 intro pins s σ H Q I h;rw [evalPart_none];exact wpAny_pure ⟨none,H,I,.none,h⟩
theorem dD (h:PE X e te):PO X (some e) (C0 te):=by
 intro pins s σ H Q I hw;rw [evalPart_some];refine thn (h pins s σ H _ I hw) fun u s1 ⟨x,H1,I1,r1,q1⟩=>?_;obtain ⟨i,rfl,q⟩:=q1;obtain ⟨t,rfl⟩:=r1;exact ⟨some i,H1,I1,.int i t,q⟩
def SlR (X:Cx) (r:V→Option Int→Option Int→Hp→VK→Prop):Prop :=
 ∀ (pins:List (Addr×Obj)) (s:Shared) (σ:St) (H:Hp) (x:V) (v vl vu:Value) (lo hi:Option Int) (sl:Addr) (Q:VK),Inv X pins σ H s→RelV x v→s.heap.IsSliceOf sl vl vu .none→IsPart vl lo→IsPart vu hi→r x lo hi H Q →
  ∃ T id,typeLookup (.type T) "__getitem__" = pure (some (.builtin id))∧s.TypeIs v T∧wpAny (model X.prog X.w) X.A (getItem v (.ref sl)) (EP X pins σ Q) X.xe s
def tSl (r:V→Option Int→Option Int→Hp→VK→Prop) (te:TE) (tl th:TO):TE:=fun σ H Q=>te σ H fun x H1=>tl σ H1 fun l H2=>th σ H2 fun u H3=>r x l u H3 Q
theorem dE {r:V→Option Int→Option Int→Hp→VK→Prop} (hr:SlR X r) (he:PE X e te) (hl:PO X lo tl) (hu:PO X hi th):PE X (.Subscript e (.Slice lo hi none p2) pos) (tSl r te tl th):=by
 intro pins s σ H Q I h;refine Subscript_ (thn (he pins s σ H _ I h) fun v s1 ⟨x,H1,I1,r1,q1⟩=>?_);refine wpAny_Slice (thn (hl pins s1 σ H1 _ I1 q1) fun vl s2 ⟨l,H2,I2,pl,q2⟩=>thn (hu pins s2 σ H2 _ I2 q2) fun vu s3 ⟨u,H3,I3,pu,q3⟩=>?_);rw [evalPart_none];refine wpAny_pure ?_;have I4:Inv X pins σ H3 { s3 with heap:=s3.heap.push { cls:=.type "slice",data:=.fields #[vl,vu,.none] } }:=I3.kept (t':=s3.toks) fun b ob q=>Heap.get?_push_of_some _ q;obtain ⟨T,id,hT,ht,hg⟩:=hr pins { s3 with heap:=s3.heap.push { cls:=.type "slice",data:=.fields #[vl,vu,.none] } } σ H3 x v vl vu l u s3.heap.objs.size Q I4 r1 (Heap.IsSliceOf.new ..) pl pu q3;show wpAny (model X.prog X.w) X.A (subscriptTail e (.Slice lo hi none p2) v (.ref s3.heap.objs.size)) (EP X pins σ Q) X.xe { s3 with heap:=s3.heap.push { cls:=.type "slice",data:=.fields #[vl,vu,.none] } };exact tail_any (ops:=[.ref s3.heap.objs.size,v]) ht hT hg (by with_unfolding_all rfl)
def eW (xs:List V) (lo hi:Option Int):List V:=(xs.drop (HT.sIx xs.length 0 lo)).take (HT.sIx xs.length xs.length hi - HT.sIx xs.length 0 lo)
theorem eP (xs:List V) (lo hi:Option Int):(eW xs lo hi).length≤xs.length:=by
 unfold eW;rw [List.length_take,List.length_drop];lia
end
def ixN (n:Nat) (i:Int):Option Nat:=if 0≤i then (if i < n then some i.toNat else none) else if -(n:Int)≤i then some (i+n).toNat else none
def atI {α:Type} (xs:List α) (i:Int):Option α:=(ixN xs.length i).bind fun j=>xs[j]?
theorem iD {n:Nat} {i:Int} {j:Nat} (h:ixN n i=some j):seqIndex? i n=some j∧j < n∧-(n:Int)≤i∧i < n:=by
 unfold ixN at h
 by_cases h0:0≤i
 ·rw [if_pos h0] at h
  by_cases h1:i < n
  ·rw [if_pos h1] at h;have e:i.toNat=j:=Option.some.inj h;exact ⟨by rw [seqIndex_of h0 h1,e],by lia,by lia,h1⟩
  ·rw [if_neg h1] at h;cases h
 ·rw [if_neg h0] at h
  by_cases h1:-(n:Int)≤i
  ·rw [if_pos h1] at h;have e:(i+n).toNat=j:=Option.some.inj h;exact ⟨by rw [seqIndex_neg (by lia) h1,e],by lia,h1,by lia⟩
  ·rw [if_neg h1] at h;cases h
theorem iE {α:Type} {xs:List α} {i:Int} {v:α} (h:atI xs i=some v):∃ j,seqIndex? i xs.length=some j∧xs[j]?=some v∧j < xs.length∧-(xs.length:Int)≤i∧i < xs.length:=by
 unfold atI at h
 cases e:ixN xs.length i with
 | none=>rw [e] at h;cases h
 | some j =>
  rw [e] at h;obtain ⟨h1,h2,h3,h4⟩:=iD e;exact ⟨j,h1,h,h2,h3,h4⟩
theorem iF {α:Type} {xs:List α} {j:Nat} {v:α} (h:xs[j]?=some v):atI xs (j:Int)=some v:=by
 have hj:j < xs.length:=(List.getElem?_eq_some_iff.mp h).1;have e:ixN xs.length (j:Int)=some j:=by
  unfold ixN;rw [if_pos (by lia),if_pos (by lia)];simp
 unfold atI;rw [e];exact h
def qc (b:Expr):Prop:=∀ o i,subscripted b false o i=operate [o,i] (getItem o i)
def IxR (X:Cx) (r:R2):Prop :=
 ∀ (value slice:Expr) (pins:List (Addr×Obj)) (s:Shared) (σ:St) (H:Hp) (x y:V) (v u:Value) (Q:VK),Inv X pins σ H s→RelV x v→RelV y u→r x y H Q →
  subscripted slice false v u=operate [v,u] (getItem v u)→wpAny (model X.prog X.w) X.A (subscriptTail value slice v u) (EP X pins σ Q) X.xe s
section
variable {X:Cx} {a b:Expr} {ta tb:TE} {pos:Pos}
theorem cY {r:R2} (hr:IxR X r) (ha:PE X a ta) (hb:PE X b tb) (hs:qc b):PE X (.Subscript a b pos) (tOp r ta tb):=by
 intro pins s σ H Q I h;exact Subscript_ (wc ha hb I h fun v u s2 x y H2 I2 rx ry q=>hr a b pins s2 σ H2 x y v u Q I2 rx ry q (hs _ _))
inductive IIxL (K:PySem.W.Frag) (x y:V) (H:Hp) (Q:VK):Prop
 | mk (p:Addr) (xs:List V) (i:Int) (v:V):(x=.ref p)→(y=.int i)→(SqL K H p xs)→(atI xs i=some v)→(Q v H)→IIxL K x y H Q
def C1 (K:PySem.W.Frag):R2:=fun x y H Q=>IIxL K x y H Q
def DT (K:PySem.W.Frag):R2:=fun x y H Q=>∃ p xs i v,x=.ref p∧y=.int i∧SqT K H p xs∧atI xs i=some v∧Q v H
theorem qe:IxR X (C1 X.K):=by
 intro value slice pins s σ H x y v u Q I rx ry h hs;obtain ⟨p,xs,i,z,rfl,rfl,hq,he,q⟩:=h
 cases rx
 obtain ⟨t,rfl⟩:=ry;obtain ⟨its,r,pl,hz⟩:=I.list hq;obtain ⟨j,h1,h2,h3,h4,h5⟩:=iE he;obtain ⟨w,ew,rw'⟩:=r.get h2;have hl:=r.length;have hn:=fz;have fin:EP X pins σ Q w s:=⟨z,H,I,rw',q⟩
 by_cases h0:0≤i
 ·have hj:i.toNat=j:=by
   rw [seqIndex_of h0 h5] at h1;exact Option.some.inj h1
  exact item_listR pl.isList h0 (by lia) (by rw [hj];simpa using ew) fin hs
 ·have hj:(i+(its.toArray.size:Int)).toNat=j:=by
   rw [seqIndex_neg (by lia) h4] at h1;rw [List.size_toArray,← hl];exact Option.some.inj h1
  exact subscriptTail_builtinR (x:=w) pl.isList.typeIs slot_list_getitem.lookup
   (wpAny_getItem_list_neg (Q:=fun r s'=>r=w∧EP X pins σ Q r s') pl.isList (by lia) (by rw [List.size_toArray] <;> lia) (by lia) (by rw [hj];simpa using ew) ⟨rfl,fin⟩) hs
theorem wl:IxR X (DT X.K):=by
 intro value slice pins s σ H x y v u Q I rx ry h hs;obtain ⟨p,xs,i,z,rfl,rfl,hq,he,q⟩:=h
 cases rx
 obtain ⟨t,rfl⟩:=ry;obtain ⟨its,r,pl,hz⟩:=I.tuple hq;obtain ⟨j,h1,h2,h3,h4,h5⟩:=iE he;obtain ⟨w,ew,rw'⟩:=r.get h2;have hl:=r.length;have hn:=fz;have fin:EP X pins σ Q w s:=⟨z,H,I,rw',q⟩;exact subscriptTail_builtinR (x:=w) pl.typeIs slot_tuple_getitem.lookup
  (getItem_tuple (j:=j) (Q:=fun r s'=>r=w∧EP X pins σ Q r s') pl (by lia) (by lia) (by rw [List.size_toArray,← hl];exact h1) (by simpa using ew) ⟨rfl,fin⟩) hs
theorem kZ (its:List Value) (n j:Nat) (u:Value):Obj.mapSeq (·.setIfInBounds j u) { cls:=.type "list",data:=.seq its.toArray n }={ cls:=.type "list",data:=.seq (its.set j u).toArray n }:=by
 simp [Obj.mapSeq]
theorem Inv.lst {pins:List (Addr×Obj)} {σ:St} {H:Hp} {s:Shared} {p:Addr} {xs:List V} (I:Inv X pins σ H s) (h:H p=some (.lst xs)) :
  ∃ (its:List Value) (n:Nat),Vals xs its∧s.heap.get? p=some { cls:=.type "list",data:=.seq its.toArray n }∧xs.length≤sizeLine:=by
 obtain ⟨z,its,n,r,e⟩:=I.hok p _ h;exact ⟨its,n,r,e,z⟩
theorem Inv.lstUpd {pins:List (Addr×Obj)} {σ:St} {H:Hp} {s:Shared} {p:Addr} {xs ys:List V} {its its':List Value} {n n':Nat} {f:Obj→Obj} (I:Inv X pins σ H s) (h:H p=some (.lst xs))
  (ho:s.heap.get? p=some { cls:=.type "list",data:=.seq its.toArray n }) (hf:f { cls:=.type "list",data:=.seq its.toArray n }={ cls:=.type "list",data:=.seq its'.toArray n' }) (r:Vals ys its') (hz:ys.length≤sizeLine) (t:Nat) :
  Inv X pins σ (upd H p (.lst ys)) { s with heap:=s.heap.update p f,toks:=t }:=by
 have e:(s.heap.update p f).get? p=some { cls:=.type "list",data:=.seq its'.toArray n' }:=by
  rw [Heap.get?_update_self f ho (by rw [hf] <;> rfl),hf]
 refine I.write (x:=p) (e:=p) (by rw [h];trivial) (.inl rfl) (fun b u hb q=>(Heap.get?_update_other _ _ (Ne.symm hb)).trans q) ⟨_,e⟩ ?_;exact ⟨hz,its',n',r,e⟩
inductive ISetL (o i v:V) (H:Hp) (Q:Hp→Prop):Prop
 | mk (p:Addr) (xs:List V) (k:Int) (j:Nat):(o=.ref p)→(i=.int k)→(H p=some (.lst xs))→(ixN xs.length k=some j)→(Q (upd H p (.lst (xs.set j v))))→ISetL o i v H Q
def C2:V→V→V→Hp→(Hp→Prop)→Prop:=fun o i v H Q=>ISetL o i v H Q
theorem oh:CS X C2:=by
 intro pins s σ H o i v ov iv u Q I ro ri rv h;obtain ⟨p,xs,k,j,rfl,rfl,hp,hj,q⟩:=h
 cases ro
 obtain ⟨t,rfl⟩:=ri;obtain ⟨its,n,r,ho,hz⟩:=I.lst hp;obtain ⟨h1,h2,h3,h4⟩:=iD hj;have hl:=r.length;have hn:=fz;have I':Inv X pins σ (upd H p (.lst (xs.set j v))) { s with heap:=s.heap.update p (Obj.mapSeq (·.setIfInBounds j u)) } :=
  I.lstUpd hp ho (kZ its n j u) (r.set rv j) (by rw [List.length_set];exact hz) s.toks
 by_cases h0:0≤k
 ·have hk:k.toNat=j:=by
   rw [seqIndex_of h0 h4] at h1;exact Option.some.inj h1
  exact PySem.W.ki_setAt ho h0 (by lia) (by rw [List.size_toArray,← hl];exact h4) (by rw [hk];exact ⟨_,I',q⟩)
 ·have hk:(k+(its.toArray.size:Int)).toNat=j:=by
   rw [seqIndex_neg (by lia) h3] at h1;rw [List.size_toArray,← hl];exact Option.some.inj h1
  exact PySem.W.ki_setBack ho (by lia) (by rw [List.size_toArray,← hl];exact h3) (by lia) (by rw [hk];exact ⟨_,I',q⟩)
theorem iG (lo hi:Option Int) (n:Nat):(sliceBounds lo hi none n).1=((HT.sIx n 0 lo:Nat):Int)∧(sliceBounds lo hi none n).2.1=((HT.sIx n n hi:Nat):Int)∧(sliceBounds lo hi none n).2.2=1:=by
 refine ⟨?_,?_,rfl⟩
 ·cases lo with
  | none=>simp [sliceBounds,HT.sIx]
  | some i =>
   simp only [sliceBounds,HT.sIx,Option.getD_none,show (1:Int) > 0 by decide,if_true]
   by_cases h:i < 0
   ·simp only [h,if_true] <;> lia
   ·simp only [h,if_false] <;> lia
 ·cases hi with
  | none=>simp [sliceBounds,HT.sIx]
  | some i =>
   simp only [sliceBounds,HT.sIx,Option.getD_none,show (1:Int) > 0 by decide,if_true]
   by_cases h:i < 0
   ·simp only [h,if_true] <;> lia
   ·simp only [h,if_false] <;> lia
theorem gg (its:List Value) (lo hi:Option Int):slicePick its.toArray lo hi none=((its.drop (HT.sIx its.length 0 lo)).take (HT.sIx its.length its.length hi - HT.sIx its.length 0 lo)).toArray:=by
 obtain ⟨h1,h2,h3⟩:=iG lo hi its.toArray.size;unfold slicePick;rw [h1,h2,h3];simp only [sliceRange_one,pick_run,List.size_toArray] <;> rfl
def C3 (K:PySem.W.Frag):V→Option Int→Option Int→Hp→VK→Prop:=fun x lo hi H Q=>∃ a xs,x=.ref a∧SqL K H a xs∧∀ p,H p=none→Q (.ref p) (upd H p (.lst (eW xs lo hi)))
theorem qf:SlR X (C3 X.K):=by
 intro pins s σ H x v vl vu lo hi sl Q I rx hs pl pu h;obtain ⟨a,xs,rfl,hx,q⟩:=h
 cases rx
 obtain ⟨its,r,ht,hz⟩:=I.list hx;have hlen:=r.length;refine ⟨"list",_,slot_list_getitem.lookup,ht.isList.typeIs,?_⟩;refine wpAny_getItem_list_slice ht.isList hs pl pu .none (by simp) ?_ (by rw [List.size_toArray] <;> lia);rw [gg,← hlen];refine ⟨.ref s.heap.objs.size,_,I.laid (t':=s.toks) (o:=.lst (eW xs lo hi)) (fun b ob q=>Heap.get?_push_of_some _ q) (Nat.le_refl _) ?_,rfl,q _ (I.hok.fresh (Nat.le_refl _))⟩;exact ⟨Nat.le_trans (eP xs lo hi) hz,_,0,(r.drop (HT.sIx xs.length 0 lo)).take (HT.sIx xs.length xs.length hi - HT.sIx xs.length 0 lo),Heap.get?_push_size _ rfl⟩
def dF:V→Bool
 | .non=>true
 | .bl _=>true
 | .int _=>true
 | .str _=>true
 | _=>false
def eqV:V→V→Bool
 | .non,.non=>true
 | .bl a,.bl b=>a == b
 | .bl a,.int b=>(if a then 1 else 0) == b
 | .int a,.bl b=>a == (if b then 1 else 0)
 | .int a,.int b=>a == b
 | .str a,.str b=>a == b
 | _,_=>false
theorem wm {A:Around} {s:Shared} {y x:V} {u v:Value} (ry:RelV y u) (rx:RelV x v) (fy:dF y=true) (fx:dF x=true):SeqAt.EqAt A s u v (eqV y x):=by
 cases y with
 | non =>
  cases ry
  cases x with
  | non=>cases rx;exact SeqAt.EqAt.same _
  | bl b=>cases rx;exact SeqAt.EqAt.none_bool b
  | int b=>obtain ⟨t,rfl⟩:=rx;exact SeqAt.EqAt.none_int b t
  | str b=>obtain ⟨t,rfl⟩:=rx;exact SeqAt.EqAt.none_str b t
  | _=>exact absurd (show false=true from fx) Bool.false_ne_true
 | bl a =>
  cases ry
  cases x with
  | non=>cases rx;exact SeqAt.EqAt.bool_none a
  | bl b=>cases rx;exact SeqAt.EqAt.bool_bool a b
  | int b=>obtain ⟨t,rfl⟩:=rx;exact SeqAt.EqAt.bool_int a b t
  | str b=>obtain ⟨t,rfl⟩:=rx;exact SeqAt.EqAt.bool_str a b t
  | _=>exact absurd (show false=true from fx) Bool.false_ne_true
 | int a =>
  obtain ⟨t',rfl⟩:=ry
  cases x with
  | non=>cases rx;exact SeqAt.EqAt.int_none a t'
  | bl b=>cases rx;exact SeqAt.EqAt.int_bool a t' b
  | int b=>obtain ⟨t,rfl⟩:=rx;exact SeqAt.EqAt.int_int a t' b t
  | str b=>obtain ⟨t,rfl⟩:=rx;exact SeqAt.EqAt.int_str a t' b t
  | _=>exact absurd (show false=true from fx) Bool.false_ne_true
 | str a =>
  obtain ⟨t',rfl⟩:=ry
  cases x with
  | non=>cases rx;exact SeqAt.EqAt.str_none a t'
  | bl b=>cases rx;exact SeqAt.EqAt.str_bool a t' b
  | int b=>obtain ⟨t,rfl⟩:=rx;exact SeqAt.EqAt.str_int a t' b t
  | str b=>obtain ⟨t,rfl⟩:=rx;exact SeqAt.EqAt.str_str a t' b t
  | _=>exact absurd (show false=true from fx) Bool.false_ne_true
 | _=>exact absurd (show false=true from fy) Bool.false_ne_true
def eqU (x:V) (u:Value):Bool:=match u with
 | .none=>eqV .non x
 | .bool b=>eqV (.bl b) x
 | .int i _=>eqV (.int i) x
 | .str z _=>eqV (.str z) x
 | _=>false
theorem oi {x y:V} {u:Value} (r:RelV y u) (f:dF y=true):eqU x u=eqV y x:=by
 cases y with
 | non=>cases r;rfl
 | bl b=>cases r;rfl
 | int i=>obtain ⟨t,rfl⟩:=r;rfl
 | str z=>obtain ⟨t,rfl⟩:=r;rfl
 | _=>exact absurd (show false=true from f) Bool.false_ne_true
theorem dG {x:V}:∀ {xs:List V} {us:List Value},Vals xs us→xs.all dF=true→us.any (eqU x)=xs.any fun y=>eqV y x
 | _,_,.nil,_=>rfl
 | y :: xs,u :: us,.cons r t,f=>by
  rw [List.all_cons,Bool.and_eq_true] at f;rw [List.any_cons,List.any_cons,oi r f.1,dG t f.2]
theorem cy {A:Around} {s:Shared} {x:V} {v:Value} (rx:RelV x v) (fx:dF x=true):∀ {xs:List V} {us:List Value},Vals xs us→xs.all dF=true→∀ u∈us,SeqAt.EqAt A s u v (eqU x u)
 | _,_,.nil,_=>fun u hu=>by cases hu
 | y :: xs,u :: us,.cons r t,f=>fun u' hu=>by
  rw [List.all_cons,Bool.and_eq_true] at f;rcases List.mem_cons.mp hu with rfl | hu
  ·rw [oi r f.1];exact wm r rx f.1 fx
  ·exact cy rx fx t f.2 u' hu
def inV (x:V) (xs:List V):Bool:=xs.any fun y=>eqV y x
def rIn (K:PySem.W.Frag) (neg:Bool):R2:=fun x y H Q=>∃ p xs,y=.ref p∧(SqL K H p xs∨SqT K H p xs)∧dF x=true∧xs.all dF=true∧Q (.bl (if neg then !inV x xs else inV x xs)) H
theorem mR:OpR X (compareOp .In) (rIn X.K false):=by
 intro pins s σ H x y v u Q I rx ry h;obtain ⟨p,xs,rfl,hq,fx,fs,q⟩:=h
 cases ry
 rcases hq with hq | hq
 ·obtain ⟨its,r,pl,hz⟩:=I.list hq;refine SeqAt.in_listAt (eqU x) pl.isList (fun w hw=>cy rx fx r fs w (by simpa using hw)) ⟨.bl _,H,I,rfl,?_⟩;rw [show its.toArray.any (eqU x)=its.any (eqU x) by simp,dG r fs];exact q
 ·obtain ⟨its,r,pl,hz⟩:=I.tuple hq;refine SeqAt.in_tupleAt (eqU x) pl (fun w hw=>cy rx fx r fs w (by simpa using hw)) ⟨.bl _,H,I,rfl,?_⟩;rw [show its.toArray.any (eqU x)=its.any (eqU x) by simp,dG r fs];exact q
theorem iH:OpR X (compareOp .NotIn) (rIn X.K true):=by
 intro pins s σ H x y v u Q I rx ry h;obtain ⟨p,xs,rfl,hq,fx,fs,q⟩:=h
 cases ry
 rcases hq with hq | hq
 ·obtain ⟨its,r,pl,hz⟩:=I.list hq;refine SeqAt.notIn_listAt (eqU x) pl.isList (fun w hw=>cy rx fx r fs w (by simpa using hw)) ⟨.bl _,H,I,rfl,?_⟩;rw [show its.toArray.any (eqU x)=its.any (eqU x) by simp,dG r fs];exact q
 ·obtain ⟨its,r,pl,hz⟩:=I.tuple hq;refine SeqAt.notIn_tupleAt (eqU x) pl (fun w hw=>cy rx fx r fs w (by simpa using hw)) ⟨.bl _,H,I,rfl,?_⟩;rw [show its.toArray.any (eqU x)=its.any (eqU x) by simp,dG r fs];exact q
theorem dH:aG X (.builtin "len") (fun xs H Q=>∃ p ys,xs=[.ref p]∧(SqL X.K H p ys∨SqT X.K H p ys)∧Q (.int ys.length) H):=by
 intro pins s σ H xs us Q I r h;obtain ⟨p,ys,rfl,hq,q⟩:=h;obtain ⟨u,rfl,rx⟩:=bX r
 cases rx
 have hn:=fz;rcases hq with hq | hq
 ·obtain ⟨its,r',pl,hz⟩:=I.list hq;have hlen:=r'.length;exact Calls.call_len_list pl.isList (by simp only [List.size_toArray] <;> lia) ⟨.int ys.length,H,I.tok _,⟨s.toks+1,by rw [List.size_toArray,hlen]⟩,q⟩
 ·obtain ⟨its,r',pl,hz⟩:=I.tuple hq;have hlen:=r'.length;exact len_tuple pl (by simp only [List.size_toArray] <;> lia) ⟨.int ys.length,H,I.tok _,⟨s.toks+1,by rw [List.size_toArray,hlen]⟩,q⟩
theorem call_len_str:aG X (.builtin "len") (fun xs H Q=>∃ z,xs=[.str z]∧z.length≤sizeLine∧Q (.int z.length) H):=by
 intro pins s σ H xs us Q I r h;obtain ⟨z,rfl,hz,q⟩:=h;obtain ⟨u,rfl,t,rfl⟩:=bX r;have hn:=fz;exact len_str (by lia) ⟨.int z.length,H,I.tok _,⟨_,rfl⟩,q⟩
variable {o e:Expr} {es:List Expr} {to:TE} {t:TA} {name:Str} {apos cpos:Pos} {T id:String} {r:V→List V→Hp→VK→Prop}
end
def MtM (X:Cx) (id:String) (r:V→List V→Hp→VK→Prop):Prop :=
 ∀ (pins:List (Addr×Obj)) (s:Shared) (σ:St) (H:Hp) (x:V) (xs:List V) (v:Value) (us:List Value) (Q:VK),Inv X pins σ H s→RelV x v→Vals xs us→r x xs H Q →
  wpAny (model X.prog X.w) X.A (call (.builtin id) (v :: us)) (EP X pins σ Q) X.xe s
theorem Vals.one:∀ {x:V} {us:List Value},Vals [x] us→∃ u,us=[u]∧RelV x u:=by
 intro x us h
 cases h with
 | cons r t =>
  cases t
  exact ⟨_,rfl,r⟩
theorem Vals.two:∀ {x y:V} {us:List Value},Vals [x,y] us→∃ u v,us=[u,v]∧RelV x u∧RelV y v:=by
 intro x y us h
 cases h with
 | cons r t =>
  cases t with
  | cons q t =>
   cases t
   exact ⟨_,_,rfl,r,q⟩
section
variable {X:Cx} {pins:List (Addr×Obj)} {σ:St} {H:Hp} {s:Shared} {l b:Addr} {xs ys zs:List V}
theorem Inv.lset {its its':List Value} {n:Nat} {f:Array Value→Array Value} {t':Nat} (I:Inv X pins σ H s) (hH:H l=some (.lst xs))
  (e:s.heap.get? l=some { cls:=.type "list",data:=.seq its.toArray n }) (hf:f its.toArray=its'.toArray) (hv:Vals ys its') (hz:ys.length≤sizeLine) :
  Inv X pins σ (upd H l (.lst ys)) { s with heap:=s.heap.update l (Obj.mapSeq f),toks:=t' }:=by
 have q:=PySem.IsL.update e f;rw [hf] at q;refine I.write (x:=l) (e:=l) (by rw [hH];exact trivial) (.inl rfl) (fun b' u hb hu=>(Heap.get?_update_other s.heap (Obj.mapSeq f) (Ne.symm hb)).trans hu) ⟨_,q⟩ ?_;exact ⟨hz,its',_,hv,q⟩
theorem Inv.lnew {its:List Value} {t':Nat} (I:Inv X pins σ H s) (hv:Vals ys its) (hz:ys.length≤sizeLine) :
  Inv X pins σ (upd H s.heap.objs.size (.lst ys)) { s with heap:=s.heap.push { cls:=.type "list",data:=.seq its.toArray },toks:=t' } :=
 I.laid (fun _ _ q=>Heap.get?_push_of_some _ q) (Nat.le_refl _) ⟨hz,its,0,hv,Heap.get?_push_size _ rfl⟩
theorem Inv.fresh (I:Inv X pins σ H s):H s.heap.objs.size=none:=I.hok.fresh (Nat.le_refl _)
theorem Inv.lstM (I:Inv X pins σ H s) (hH:H l=some (.lst xs)):xs.length≤sizeLine∧∃ (its:List Value) (n:Nat),Vals xs its∧xs.length=its.length∧s.heap.get? l=some { cls:=.type "list",data:=.seq its.toArray n }:=by
 obtain ⟨z,its,n,r,e⟩:=I.hok l _ hH;exact ⟨z,its,n,r,r.length,e⟩
end
section
variable {X:Cx}
inductive IApp (x:V) (vs:List V) (H:Hp) (Q:VK):Prop
 | mk (l:Addr) (xs:List V) (y:V):(x=.ref l)→(vs=[y])→(H l=some (.lst xs))→(xs.length < sizeLine)→(Q .non (upd H l (.lst (xs++[y]))))→IApp x vs H Q
def qg:V→List V→Hp→VK→Prop:=fun x vs H Q=>IApp x vs H Q
theorem mS:MtM X "list.append" qg:=by
 intro pins s σ H x vs v us Q I rx rv h;obtain ⟨l,xs,y,rfl,rfl,hH,hz,q⟩:=h
 cases rx
 obtain ⟨u,rfl,ru⟩:=rv.one;obtain ⟨z,its,n,r,hl,e⟩:=I.lstM hH;refine call_meets F.slot_list_append ⟨_,e,rfl⟩ F.entry_list_append (F.args_list_append_2 _ _) (PySem.list_append l its.toArray n u (by rw [List.size_toArray];lia)) ⟨e,?_⟩;refine ⟨.non,_,I.lset (its':=its++[u]) hH e (by simp) (r.append (.cons ru .nil)) ?_,rfl,q⟩;rw [List.length_append,List.length_singleton];lia
end
section
variable {prog:Program} {w:World} {A:Around} {E:Value→Shared→Prop} {s:Shared}
end
section
variable {X:Cx}
end
end L2
namespace Att
open PySem PySem.W PySem.Calls PyProof.Rows
theorem eX {P:Params} {h:Heap}:∀ (ns:List Int) (vs:List Value),WellAll P h vs (ns.map WData.int)→IntsAre vs ns:=by
 intro ns
 induction ns with
 | nil =>
  intro vs w;rw [List.map_nil] at w
  cases w
  exact .nil
 | cons n ns ih =>
  intro vs w;rw [List.map_cons] at w
  cases w with
  | cons a b =>
   cases a
   exact .cons _ _ (ih _ b)
theorem mU {l:OpenLaw} {n:Nat} (hn:l.most=some n) {P:Params} {h:Heap} {args:List WData} {vals:List Value}
  (hpre:l.row.toRowW.claim.pre args=true) (hwl:WellAll P h vals args) :
  ∃ a vs ns,vals=[Value.ref a]∧args=[WData.list (ns.map WData.int)]∧h.get? a=some { cls:=.type "list",data:=.seq vs.toArray }∧IntsAre vs ns∧ns.length≤n:=by
 have hsh:WShape.hasAll [] args [.list .int]=true:=(pre_splitW hpre).1;have hc:l.pre.holds [] { args:=args }=true:=(pre_splitW hpre).2;obtain ⟨d,r,rfl,h1,h2⟩:=hasAllW_cons hsh;obtain rfl:=hasAllW_nil h2;obtain ⟨xs,rfl,h3⟩:=hasW_list h1;obtain ⟨ns,rfl⟩:=items_int h3;have hlen:ns.length≤n:=by
  unfold OpenLaw.pre at hc;have h4:(WTm.not (.lt (.lit (.int (n:Int))) (.len (.arg 0)))).holds [] { args:=[.list (ns.map .int)] }=true:=by
   have h4:=(holds_andW hc).1;rw [hn] at h4;exact h4
  have h5:=condW_of h4 (w_not (w_lt w_lit (w_len_list (w_arg rfl))));rw [List.length_map] at h5;refine Nat.le_of_not_lt fun q=>?_;have q':(n:Int) < ((ns.length:Nat):Int):=by lia
  first
   | (rw [decide_eq_true q'] at h5;exact absurd h5 (by decide))
   | (simp at h5;lia)
 cases hwl with
 | cons w1 w2 =>
  cases w2
  cases w1 with
  | list ho hall=>exact ⟨_,_,ns,rfl,rfl,ho,eX ns _ hall,hlen⟩
theorem mV (l:OpenLaw) (args:List WData):l.row.toRowW.claim.post args (.bool true) args=true :=
 postW_of (r:=l.row.toRowW) (X:=(true == true))
  (show WShape.has [] (.bool true) .bool=true by first | rfl | decide | simp [WShape.has,WShape.arms,WShape.armsAll])
  (show (WTm.eq .res (.lit (.bool true))).value [] { args:=args,res:=some (.bool true),after:=args }=some (.bool (true == true)) from w_eq_bool (w_res rfl) w_lit) rfl
theorem attach_call {l:OpenLaw} {n:Nat} {q:Program} {loose:List Str} {XP:(Str→Option Value)→Heap→Prop} {YP:World→Heap→Prop} {d:DefRec}
  (hn:l.most=some n) (hdf:d.params.defaults=[])
  (call:∀ (w:World) (s₀ s₁:Shared) (mg mb:Str→Option Value) (fa:Addr) (o:Obj) (pm cd doc:Value) (a:Addr) (vs:List Value) (ns:List Int),
   Ground q loose [] XP w s₀ mg mb s₁.heap→YP w s₁.heap →
   s₁.heap.get? fa=some o→o.data=.func (docDef d.name d.params d.body d.scope pm cd doc)→s₁.heap.CodeRec cd d.name→mg d.name=some (.ref fa) →
   s₁.heap.get? a=some { cls:=.type "list",data:=.seq vs.toArray }→IntsAre vs ns→ns.length≤n→s₁.gens=#[] →
   codeAny (model l.prog w) callerA (.call (.ref fa) ⟨[.ref a],[]⟩) (fun r s'=>r=.ok (.ret (.bool true))∧OldK s₁.heap s'.heap∧s'.os=s₁.os∧AllBare s'.gens) s₁) :
  WalkO q loose XP YP l.row.toRowW d [] (fun f vs=>PySem.call f vs):=by
 intro w s₀ s₁ mg mb G Y fa o pm cd doc dV kV ho hd hcd hD hmg hg args vals as hpre hlay hrd hwl hlo;obtain rfl:dV=.none:=Dflts.none hD hdf;obtain rfl:kV=.none:=Dflts.noKw hD;obtain ⟨a,vs,ns,rfl,rfl,hobj,hints,hlen⟩:=mU hn hpre hwl;refine enter_call (codeAny_mono (call w s₀ s₁ mg mb fa o pm cd doc a vs ns G Y ho (fd_plain hd) hcd hmg hobj hints hlen hg) fun r s' hq=>?_);obtain ⟨rfl,h2,h3,h4⟩:=hq;exact ⟨.inl ⟨.bool true,.bool true,[],rfl,fun _=>rfl,.bool true,mV l _,fun _=>⟨List.Pairwise.nil,fun _ hm=>(nomatch hm)⟩⟩,h2,h3,h4⟩
section
variable {prog:Program} {w:World} {A:Around} {E:Value→Shared→Prop} {s:Shared} {K:Frag}
end
end Att
namespace L2
open PySem PySem.Spec PyProof.Rows
theorem gY:∀ {vs:List Value} {ns:List Int},IntsAre vs ns→Vals (ns.map V.int) vs
 | _,_,.nil=>.nil
 | _,_,.cons n t h=>.cons ⟨t,rfl⟩ (gY h)
def qh (H:Hp):Prop:=∀ b,H b=none∨∃ o xs,H b=some (.frz o (.lst xs))
theorem oj {P:Program} {w:World} {K:PySem.W.Frag} {mg mb:Str→Option Value} {CX:CXT} {k:Nat} {fa a:Addr} {fd:FuncData} {x:Str} {sp:Sp} {s₁:Shared} {vs:List Value} {ns:List Int}
  (KX:K.In s₁.heap) (hns:s₁.heap.Ns mainGlobals mg) (hb:s₁.heap.Ns builtinsNs mb) (hbb:∀ x:Str,x≠ "__name__" →mb x=bootBuiltins x) (hlim:s₁.heap.NoLimit) (hg:s₁.gens=#[])
  (ha:s₁.heap.get? a=some { cls:=.type "list",data:=.seq vs.toArray }) (hi:IntsAre vs ns) (hl:ns.length≤sizeLine) (hr:Room k callerA)
  (F:∀ base:Heap,K.In base→base.Ns mainGlobals mg→FnOk P w K mg base CX k fa fd [x] sp) (hbind:∀ (s:Shared) (u:Value),BindsTo s fd ⟨[u],[]⟩ [(x,u)])
  (hsp:∀ H:Hp,qh H→SqL K H a (ns.map V.int)→sp [.ref a] H (fun v _=>v=.bl true) fun _ _ _=>False)
  (hCX:∀ H e s',CX [] H s₁ (fun _ _ _=>False) e s'→False) :
  codeAny (model P w) callerA (.call (.ref fa) ⟨[.ref a],[]⟩) (fun r s'=>r=.ok (.ret (.bool true))∧OldK s₁.heap s'.heap∧s'.os=s₁.os∧AllBare s'.gens) s₁:=by
 have rv:=gY hi;have lenV:=hi.length;have core:∀ H:Hp,qh H→SqL K H a (ns.map V.int)→HOk P w H s₁.heap→(∀ b,H b≠none→b=a)→(H a≠none→K.lookup a=none) →
   codeAny (model P w) callerA (.call (.ref fa) ⟨[.ref a],[]⟩) (fun r s'=>r=.ok (.ret (.bool true))∧OldK s₁.heap s'.heap∧s'.os=s₁.os∧AllBare s'.gens) s₁:=by
  intro H hO hS hok hA hK;have base_of:∀ {b:Addr} {o:Obj},s₁.heap.get? b=some o→H b=none→(iy s₁.heap H).get? b=some o:=fun e n=>nU e n;have noA:∀ {b:Addr} {o:Obj} {es:Array DictEntry} {ep:Nat},s₁.heap.get? b=some o→o.data=.dict es ep→H b=none:=fun {b o es ep} e d=>by
   cases q:H b with
   | none=>rfl
   | some u =>
    have e':b=a:=hA b (by rw [q];simp);subst e';rw [ha] at e;cases e;have d':Data.seq vs.toArray _=Data.dict es ep:=d
    cases d'
  have nsK:∀ {b:Addr} {m:Str→Option Value},s₁.heap.Ns b m→(iy s₁.heap H).Ns b m:=fun {b m} ⟨o,es,ep,e,d,r⟩=>⟨o,es,ep,base_of e (noA e d),d,r⟩;have hKb:K.In (iy s₁.heap H):=fun b o e=>base_of (KX b o e) (by
   cases q:H b with
   | none=>rfl
   | some u =>
    have e':b=a:=hA b (by rw [q];simp);subst e';rw [hK (by rw [q];simp)] at e;cases e)
  have hM:Mod K mg (iy s₁.heap H):=⟨hKb,nsK hns,⟨mb,nsK hb,hbb⟩,let ⟨mc,h1,h2⟩:=hlim;⟨mc,nsK h1,h2⟩⟩;have e0:Env0 P w K mg (iy s₁.heap H) callerA [] s₁ H:=⟨rfl,hM,fun b o e=>pZ e,Nat.le_of_eq (mJ _ _),trivial,fun b hb=>absurd (show b∈([]:List Addr) from hb) (by simp),hok,.of_eq hg⟩;refine codeAny_mono ((F _ hKb (nsK hns)).run callerA [] s₁ H ⟨[.ref a],[]⟩ [.ref a] [.ref a] _ _ hr e0 (hbind s₁ (.ref a)) (.cons rfl .nil) (hsp H hO hS)) fun r s' h=>?_
  cases r with
  | error e=>exact (hCX H e s' h).elim
  | ok fl =>
   cases fl with
   | next=>exact False.elim h
   | brk=>exact False.elim h
   | cont=>exact False.elim h
   | ret u =>
    obtain ⟨v,H',os,bare,un,hok',r',q⟩:=h;have q':v=.bl true:=q;subst q';obtain rfl:u=Value.bool true:=r';refine ⟨rfl,OldK.of_keep fun b o e=>?_,os,bare⟩
    cases q:H b with
    | none=>exact un.keep b o e q (by intro z;exact absurd (show b∈([]:List Addr) from z) (by simp)) (by simp)
    | some u =>
     rcases hO b with z | ⟨ob,xs,z⟩
     ·rw [q] at z;cases z
     ·have z2:=un.frzs b ob _ z;obtain ⟨e1,_⟩:=hok b _ z;obtain ⟨e2,_⟩:=hok' b _ z2;rw [e] at e1;cases e1;exact e2
 cases hk:K.lookup a with
 | some o =>
  have e:=KX a o hk;rw [ha] at e
  cases e
  refine core (fun _=>none) (fun _=>.inl rfl) (.inr ⟨_,vs.toArray,_,hk,rfl,rfl,rfl,by rw [List.size_toArray,lenV];exact hl,by simpa using rv⟩) (fun b u z=>by have z':(none:Option HO)=some u:=z;cases z') (fun b z=>absurd rfl z) fun z=>absurd rfl z
 | none =>
  refine core (fun b=>if b=a then some (.frz { cls:=.type "list",data:=.seq vs.toArray } (.lst (ns.map V.int))) else none) (fun b=>?_) (.inl (.inr ⟨{ cls:=.type "list",data:=.seq vs.toArray },if_pos rfl⟩)) (fun b u z=>?_) (fun b z=>?_) fun _=>hk
  ·by_cases hb:b=a
   ·exact .inr ⟨_,_,if_pos hb⟩
   ·exact .inl (if_neg hb)
  ·by_cases hb:b=a
   ·have z':=(if_pos hb).symm.trans z
    cases z'
    subst hb;exact ⟨ha,by rw [List.length_map];exact hl,vs,_,rv,ha⟩
   ·have z':=(if_neg hb).symm.trans z
    cases z'
  ·by_cases hb:b=a
   ·exact hb
   ·exact absurd (if_neg hb) z
abbrev KOf {K:PySem.W.Frag} {h:Heap} (_:K.In h):PySem.W.Frag:=K
theorem qi {l:PySem.W.OpenLaw} {n k:Nat} {q:Program} {loose:List Str} {XP:(Str→Option Value)→Heap→Prop} {YP:World→Heap→Prop} {d:DefRec} {K:Params→PySem.W.Frag} {CX:World→CXT} {sp:World→Sp} {x:Str}
  (hn:l.most=some n) (hn2:n≤sizeLine) (hdf:d.params.defaults=[]) (hr:Room k callerA)
  (hY:∀ (w:World) (h:Heap),YP w h→(K w.params).In h)
  (F:∀ (w:World) (mg:Str→Option Value) (fa:Addr) (h:Heap),(K w.params).In h→h.Ns mainGlobals mg→mg d.name=some (.ref fa) →
   ∃ fd:FuncData,(∀ (s:Shared) (u:Value),BindsTo s fd ⟨[u],[]⟩ [(x,u)]) ∧
    ∀ base:Heap,(K w.params).In base→base.Ns mainGlobals mg→FnOk l.prog w (K w.params) mg base (CX w) k fa fd [x] (sp w))
  (hsp:∀ (w:World) (H:Hp) (a:Addr) (ns:List Int),ns.length≤n→qh H→SqL (K w.params) H a (ns.map V.int)→sp w [.ref a] H (fun v _=>v=.bl true) fun _ _ _=>False)
  (hCX:∀ (w:World) (H:Hp) (s:Shared) (e:Value) (s':Shared),CX w [] H s (fun _ _ _=>False) e s'→False) :
  PySem.W.WalkO q loose XP YP l.row.toRowW d [] (fun f vs=>PySem.call f vs):=by
 refine Att.attach_call hn hdf fun w s₀ s₁ mg mb fa o pm cd doc a vs ns G Y ho hd hcd hmg hobj hints hlen hg=>?_;have KX:=hY w _ Y;obtain ⟨fd,hb,hF⟩:=F w mg fa _ KX G.T.g hmg;exact oj KX G.T.g G.T.b G.T.builtins G.T.nolimit hg hobj hints (Nat.le_trans hlen hn2) hr hF hb (fun H hO hS=>hsp w H a ns hlen hO hS) fun H e s'=>hCX w H s₁ e s'
theorem C4 {l:PySem.W.OpenLaw} {n k:Nat} {q:Program} {loose:List Str} {XP:(Str→Option Value)→Heap→Prop} {YP:World→Heap→Prop} {d:DefRec} {K:Params→PySem.W.Frag} {CX:CXT} {sp:PySem.W.Frag→Sp} {x:Str}
  (hn:l.most=some n) (hn2:n≤sizeLine) (hdf:d.params.defaults=[]) (hr:Room k callerA)
  (hY:∀ (w:World) (h:Heap),YP w h→(K w.params).In h)
  (F:∀ (w:World) (mg:Str→Option Value) (fa:Addr) (h:Heap),(K w.params).In h→h.Ns mainGlobals mg→mg d.name=some (.ref fa) →
   ∃ fd:FuncData,(∀ (s:Shared) (u:Value),BindsTo s fd ⟨[u],[]⟩ [(x,u)]) ∧
    ∀ base:Heap,(K w.params).In base→base.Ns mainGlobals mg→FnOk l.prog w (K w.params) mg base CX k fa fd [x] (sp (K w.params)))
  (hsp:∀ (K:PySem.W.Frag) (H:Hp) (a:Addr) (ns:List Int),ns.length≤n→qh H→SqL K H a (ns.map V.int)→sp K [.ref a] H (fun v _=>v=.bl true) fun _ _ _=>False)
  (hCX:∀ (H:Hp) (s:Shared) (e:Value) (s':Shared),CX [] H s (fun _ _ _=>False) e s'→False) :
  PySem.W.WalkO q loose XP YP l.row.toRowW d [] (fun f vs=>PySem.call f vs) :=
 qi (K:=K) (CX:=fun _=>CX) (sp:=fun w=>sp (K w.params)) hn hn2 hdf hr hY F (fun w H a ns h1 h2 h3=>hsp (K w.params) H a ns h1 h2 h3) fun _ H s e s'=>hCX H s e s'
end L2
namespace L2
open PySem PySem.Spec PyProof.Rows
abbrev CX0:CXT:=fun _ _ _ _ _ _=>False
abbrev E0:XK:=fun _ _ _=>False
theorem C5 {X:Cx}:iB CX0 X E0:=fun _ _ _ _ _ _ _ h=>h.elim
structure Fun (K:PySem.W.Frag) (x qual:Str) (st:Stmt) (f:Addr) (fd:FuncData):Prop where
 ex:∃ (oc:Value) (od:Option Addr) (kV doc pm:Value) (an:Option Addr) (cdv ct:Value) (osl:Array (Option Value)),
  fd=PySem.W.fnOf x qual (bK st) (bc st) (aa st) .none kV doc pm an cdv ct∧K.lookup f=some ⟨oc,od,.func fd,osl⟩∧PySem.W.codeIn K cdv qual=true
 kp:PySem.W.keepIn K (.ref f)=true
section
variable {P:Program} {w:World} {K:PySem.W.Frag} {mg:Str→Option Value} {base:Heap}
theorem Fun.ok {x qual:Str} {st:Stmt} {f:Addr} {fd:FuncData} {N ps:List Str} {k:Nat} {sp:Sp} (F:Fun K x qual st f fd) (S:FnScope N ps (aa st)) (len:∀ vs H Q E,sp vs H Q E→vs.length=ps.length)
  (hbody:∀ (cdv:Value) (A:Around) (outer:List Env) (s:Shared) (H:Hp) (vs:List V) (Q:VK) (E:XK),Room k (A.deeper (envOfC qual (aa st) s.heap.objs.size f cdv))→sp vs H Q E →
   ∃ t,PSs (jJ CX0 P w K mg base N qual (aa st) f cdv A outer s H E).nox (bc st) t∧t { nx:=fun _ H'=>Q .non H',rt:=Q } (dC N vs) H):FnOk P w K mg base CX0 (k+1) f fd ps sp:=by
 obtain ⟨oc,od,kV,doc,pm,an,cdv,ct,osl,rfl,lk,hcd⟩:=F.ex;refine rm lk hcd S len fun A outer s H vs Q E hr hsp=>?_;obtain ⟨t,h,q⟩:=hbody cdv A outer s H vs Q E hr hsp;exact ⟨t,h.nox,q⟩
theorem Fun.binds {x qual:Str} {st:Stmt} {f:Addr} {fd:FuncData} {ps:List Str} (F:Fun K x qual st f fd)
  (h:∀ (kV doc pm:Value) (an:Option Addr) (cdv ct:Value) (us:List Value),us.length=ps.length→bindArgs (PySem.W.fnOf x qual (bK st) (bc st) (aa st) .none kV doc pm an cdv ct) ⟨us,[]⟩=pure (ps.zip us)):Binds K fd ps []:=by
 obtain ⟨oc,od,kV,doc,pm,an,cdv,ct,osl,rfl,lk,hcd⟩:=F.ex;exact .all (h kV doc pm an cdv ct)
theorem ol {x qual:Str} {st:Stmt} {f:Addr} {oc:Value} {od an:Option Addr} {osl:Array (Option Value)} {kV doc pm cdv ct:Value} (l:K.lookup f=some ⟨oc,od,.func (PySem.W.fnOf x qual (bK st) (bc st) (aa st) .none kV doc pm an cdv ct),osl⟩)
  (c:PySem.W.codeIn K cdv qual=true) (k:PySem.W.keepIn K (.ref f)=true):Fun K x qual st f (PySem.W.fnOf x qual (bK st) (bc st) (aa st) .none kV doc pm an cdv ct):=⟨⟨oc,od,kV,doc,pm,an,cdv,ct,osl,rfl,l,c⟩,k⟩
end
theorem au {n:Nat} (h:n≤1000):n < sizeLine:=Nat.lt_of_le_of_lt h (by decide)
section
variable {X:Cx}
theorem pv (i:Nat) {x:Str} {pos:Pos} (hN:X.N[i]?=some x:=by rfl) (hv:Vis X.env.scope x:=by first | exact Or.inl rfl | exact Or.inr (Or.inl rfl) | exact Or.inr (Or.inr rfl)) (hd:(x == ("__debug__" : Str))=false:=by decide)
  (hcd:(x == ("__classdict__" : Str))=false:=by decide):PE X (.Name x pos) (kT i):=vU hN hv hd hcd
end
theorem aH {A B:Prop} (h:B):if false=true then A else B:=by
 rw [if_neg Bool.false_ne_true];exact h
theorem az {A B:Prop} (h:A):if true=true then A else B:=by
 rw [if_pos rfl];exact h
theorem ej {c A B:Prop} [Decidable c] (h1:c→A) (h2:¬ c→B):if c then A else B:=by
 by_cases h:c
 ·rw [if_pos h];exact h1 h
 ·rw [if_neg h];exact h2 h
def Same (H H':Hp):Prop:=∀ b o,H b=some o→H' b=some o
theorem Same.refl (H:Hp):Same H H:=fun _ _ h=>h
theorem Same.trans {H H1 H2:Hp} (a:Same H H1) (b:Same H1 H2):Same H H2:=fun c o h=>b c o (a c o h)
theorem Same.free {H H':Hp} (e:Same H H') {l:Addr} (h:H' l=Option.none):H l=Option.none:=by
 cases q:H l with
 | none=>rfl
 | some o =>
  rw [e l o q] at h
  cases h
theorem Same.seq {K:PySem.W.Frag} {H H':Hp} {a:Addr} {xs:List V} (e:Same H H') (h:SqL K H a xs):SqL K H' a xs:=by
 rcases h with (h | ⟨o,h⟩) | h
 ·exact .inl (.inl (e _ _ h))
 ·exact .inl (.inr ⟨o,e _ _ h⟩)
 ·exact .inr h
def bM (env:Env):List (Str×NameKind)→List (Str×Addr)→List (Str×Addr)
 | [],cs=>cs
 | (n,k) :: r,cs=>bM env r (if k == .free then (n,(env.cells.lookup n).getD 0) :: cs else cs)
theorem fB {env:Env} {scope:Scope} (h:∀ x∈scope.names,x.2=.free→∃ c,env.cells.lookup x.1=some c):closureFor scope env=pure (bM env scope.names []):=by
 simp only [closureFor];have go:∀ (l:List (Str×NameKind)) (cs:List (Str×Addr)),(∀ x∈l,x.2=.free→∃ c,env.cells.lookup x.1=some c) →
   (forIn l cs fun (x:Str×NameKind) (r:List (Str×Addr))=>(do
    let (name,kind):=x
    if kind == .free then
     let a ← cellOf env name
     pure (ForInStep.yield ((name,a) :: r))
    else pure (ForInStep.yield r):Sem (ForInStep (List (Str×Addr)))))=pure (bM env l cs):=by
  intro l
  induction l with
  | nil=>intro cs _;rfl
  | cons x r ih =>
   intro cs hx;obtain ⟨n,k⟩:=x;rw [List.forIn_cons]
   by_cases hk:k=.free
   ·obtain ⟨c,hc⟩:=hx (n,k) List.mem_cons_self hk;subst hk;have e:cellOf env n=pure c:=by unfold cellOf;rw [hc]
    simp only [beq_self_eq_true,if_true,e,pure_bind];rw [ih _ fun y hy=>hx y (List.mem_cons_of_mem _ hy)];simp only [bM,beq_self_eq_true,if_true,hc,Option.getD_some]
   ·have hb:(k == NameKind.free)=false:=by simpa using hk
    simp only [hb,Bool.false_eq_true,if_false,pure_bind];rw [ih _ fun y hy=>hx y (List.mem_cons_of_mem _ hy)];simp only [bM,hb,Bool.false_eq_true,if_false]
 have g:=go scope.names [] h
 first
  | exact (by rw [g]:_=_)
  | (rw [← bind_pure (pure (bM env scope.names []))];rw [← g];rfl)
  | (simp only [g,pure_bind])
theorem er {env:Env}:∀ (l:List (Str×NameKind)) (cs:List (Str×Addr)),(∀ x∈l,x.2=.free→∃ c,env.cells.lookup x.1=some c)→(∀ x c,cs.lookup x=some c→env.cells.lookup x=some c) →
  ∀ x c,(bM env l cs).lookup x=some c→env.cells.lookup x=some c
 | [],_,_,h=>h
 | (n,k) :: r,cs,hx,h=>by
  refine er r _ (fun y hy=>hx y (List.mem_cons_of_mem _ hy)) ?_;intro x c e
  by_cases hk:k=.free
  ·obtain ⟨c',hc⟩:=hx (n,k) List.mem_cons_self hk;subst hk;simp only [beq_self_eq_true,if_true,hc,Option.getD_some] at e;rw [List.lookup_cons] at e
   cases q:x == n with
   | true =>
    rw [q] at e;have q':x=n:=by simpa using q
    cases e
    rw [q'];exact hc
   | false=>rw [q] at e;exact h x c e
  ·have hb:(k == NameKind.free)=false:=by simpa using hk
   simp only [hb,Bool.false_eq_true,if_false] at e;exact h x c e
theorem eQ {env:Env}:∀ (l:List (Str×NameKind)) (cs:List (Str×Addr)) (x:Str),(∃ c,cs.lookup x=some c)→∃ c,(bM env l cs).lookup x=some c
 | [],_,_,h=>h
 | (n,k) :: r,cs,x,h=>by
  refine eQ r _ x ?_
  split
  ·rw [List.lookup_cons]
   cases q:x == n with
   | true=>exact ⟨_,rfl⟩
   | false=>exact h
  ·exact h
theorem cT {env:Env}:∀ (l:List (Str×NameKind)) (cs:List (Str×Addr)) (x:Str),l.lookup x=some .free→∃ c,(bM env l cs).lookup x=some c
 | [],_,_,h=>by simp at h
 | (n,k) :: r,cs,x,h=>by
  rw [List.lookup_cons] at h
  cases q:x == n with
  | true =>
   rw [q] at h
   cases h
   refine eQ r _ x ?_;simp only [beq_self_eq_true,if_true];rw [List.lookup_cons,q];exact ⟨_,rfl⟩
  | false=>rw [q] at h;exact cT r _ x h
theorem b9 {env:Env}:∀ {names:List (Str×NameKind)} {x:Str} {k':NameKind},
  (names.map fun (n,k)=>if (k == NameKind.free && env.scope.kind == .function && env.kindOf n == some .cell) then (n,NameKind.cell) else (n,k)).lookup x=some k' →
  ∃ k,names.lookup x=some k∧(k'=k∨(k=.free∧k'=.cell))
 | [],_,_,h=>by simp at h
 | (n,k) :: r,x,k',h=>by
  have ih:=@b9 env r x k';rw [List.map_cons] at h
  by_cases hc:(k == NameKind.free && env.scope.kind == .function && env.kindOf n == some .cell)=true
  ·have h2:List.lookup x ((n,NameKind.cell) :: r.map fun (n,k)=>if (k == NameKind.free && env.scope.kind == .function && env.kindOf n == some .cell) then (n,NameKind.cell) else (n,k))=some k':=by
    simpa [hc] using h
   rw [List.lookup_cons] at h2;rw [List.lookup_cons]
   cases q:x == n with
   | true =>
    rw [q] at h2
    cases h2
    have hk:k=.free:=by
     simp only [Bool.and_eq_true] at hc
     simpa using hc.1.1
    exact ⟨k,rfl,.inr ⟨hk,rfl⟩⟩
   | false=>rw [q] at h2;exact ih h2
  ·have h2:List.lookup x ((n,k) :: r.map fun (n,k)=>if (k == NameKind.free && env.scope.kind == .function && env.kindOf n == some .cell) then (n,NameKind.cell) else (n,k))=some k':=by
    simpa [hc] using h
   rw [List.lookup_cons] at h2;rw [List.lookup_cons]
   cases q:x == n with
   | true=>rw [q] at h2;cases h2;exact ⟨_,rfl,.inl rfl⟩
   | false=>rw [q] at h2;exact ih h2
def ccx (X:Cx) (scope:Scope) (C:Addr) (N':List Str) (s₀:Shared) (H₀:Hp) (fp:List Addr):Cx :=
 { X with N:=N',s₀:=s₀,H₀:=H₀,env:=compEnvC scope (bM X.env scope.names []) C X.env,outer:=X.stack,stack:=X.stack,ex:=fp,fn:=fun _=>false,pn:=[],xe:=fun _ _=>False }
def cst (k:Nat) (ρ:List Nat) (σ:St):St:=List.replicate k none++ρ.map fun j=>(σ[j]?).join
structure CScope (X:Cx) (scope:Scope) (NL:List Str) (ρ:List Nat) (N':List Str):Prop where
 kind:scope.kind=.function
 nocell:∀ x∈scope.names,x.2≠.cell
 locs:∀ x∈scope.names,x.2=.local→scope.names.lookup x.1=some .local
 frees:∀ x∈scope.names,x.2=.free→X.env.kindOf x.1=some .cell∨X.env.kindOf x.1=some .free
 names:N'=NL++ρ.map fun j=>X.N.getD j ""
 outs:∀ j∈ρ,∃ x,X.N[j]?=some x∧scope.names.lookup x=some .free∧(X.env.scope.names.lookup x=some .cell∨X.env.scope.names.lookup x=some .free)
section
variable {X:Cx}
theorem qj {scope:Scope} {NL N':List Str} {ρ:List Nat} (S:CScope X scope NL ρ N') {pins:List (Addr×Obj)} {σ:St} {H:Hp} {s:Shared} {fp:List Addr} {C:Addr} (I:Inv X pins σ H s) (hf:∀ b∈fp,cw X pins H b)
  (hfo:∀ b∈fp,∃ o,s.heap.get? b=some o) (hC:s.heap.objs.size≤C):(ccx X scope C N' s H fp).Ok:=by
 have free_in:∀ x∈scope.names,x.2=.free→∃ c,X.env.cells.lookup x.1=some c:=fun x hx hk=>I.ok.has x.1 (S.frees x hx hk);have sub:=er (env:=X.env) scope.names [] free_in (fun x c e=>by simp at e);refine ⟨I.ok.mod,S.kind,I.ok.glob,I.ok.blt,hC,?_,?_,?_,I.ok.hd,I.ok.frames,.inl rfl,?_,I.bs,?_,?_,?_,I.stack,I.stkFree⟩
 ·exact fun x y c e1 e2=>I.ok.inj x y c (sub x c e1) (sub y c e2)
 ·intro x hx;have hx':(relabel scope X.env).names.lookup x=some .cell∨(relabel scope X.env).names.lookup x=some .free:=hx;have look:∀ k',(relabel scope X.env).names.lookup x=some k'→(k'=.cell∨k'=.free)→scope.names.lookup x=some .free:=fun k' e hk=>by
   obtain ⟨k,e1,z⟩:=b9 e;rcases z with z | ⟨z,_⟩
   ·subst z;rcases hk with z | z
    ·subst z;have hm:(x,NameKind.cell)∈scope.names:=mem_of_lookup e1;exact absurd rfl (S.nocell _ hm)
    ·subst z;exact e1
   ·subst z;exact e1
  rcases hx' with e | e
  ·exact cT scope.names [] x (look _ e (.inl rfl))
  ·exact cT scope.names [] x (look _ e (.inr rfl))
 ·intro x c e;exact absurd e (by show ¬ (false=true);decide)
 ·intro b hb;obtain ⟨f0,f1,f2,f3,f4,f5⟩:=hf b hb;refine ⟨?_,fun x c e=>f4 x c (sub x c e)⟩;obtain ⟨o,ho⟩:=hfo b hb;exact Nat.ne_of_lt (Nat.lt_of_lt_of_le (Heap.lt_size ho) hC)
 ·exact Nat.le_trans I.ok.bsz I.sz
 ·intro b o e hb;obtain ⟨f0,f1,f2,f3,f4,f5⟩:=hf b hb;rcases f3 with z | z
  ·exact I.ok.noex b o e z
  ·exact absurd (Nat.lt_of_lt_of_le (Heap.lt_size e) (Nat.le_trans I.ok.bsz z)) (Nat.lt_irrefl _)
 ·intro b hb z;obtain ⟨f0,f1,f2,f3,f4,f5⟩:=hf b hb;rcases List.mem_cons.mp (I.stkSub b z) with e | e
  ·exact f1 e
  ·exact f2 e
end
section
variable {X:Cx}
theorem Inv.comp {scope:Scope} {NL N':List Str} {ρ:List Nat} (S:CScope X scope NL ρ N') {pins:List (Addr×Obj)} {σ:St} {H:Hp} {s:Shared} {fp:List Addr} {C D:Addr} {h':Heap} {t':Nat} (I:Inv X pins σ H s) (hf:∀ b∈fp,cw X pins H b)
  (hfo:∀ b∈fp,∃ o,s.heap.get? b=some o) (hC:s.heap.objs.size≤C) (hD:s.heap.objs.size≤D) (hDC:D≠C) (k:∀ b u,s.heap.get? b=some u→h'.get? b=some u)
  (hd:h'.get? D=some { cls:=.type "list",data:=.seq #[] 0 }) (hn:h'.Ns C fun _=>none) :
  Inv (ccx X scope C N' s H fp) (X.pn++pins) (cst NL.length ρ σ) (upd H D (.lst [])) { s with heap:=h',toks:=t' }:=by
 have ok:=qj S I hf hfo hC;have free_in:∀ x∈scope.names,x.2=.free→∃ c,X.env.cells.lookup x.1=some c:=fun x hx hk=>I.ok.has x.1 (S.frees x hx hk);have sub:=er (env:=X.env) scope.names [] free_in (fun x c e=>by simp at e);have fresh:∀ b,s.heap.objs.size≤b→H b=none:=fun b hb=>I.hok.fresh hb;have neD:∀ b o,s.heap.get? b=some o→b≠D:=fun b o e=>Nat.ne_of_lt (Nat.lt_of_lt_of_le (Heap.lt_size e) hD);have neH:∀ b u,H b=some u→b≠D:=fun b u e=>aq e (fresh D hD);refine ⟨ok,rfl,I.bare,⟨fun b o e _ _ _=>k b o e,fun b o e _ _ _=>⟨o.slots,k b o e⟩,fun b o e n _=>?_,fun b o e _=>⟨o,k b o e⟩,fun b xs e=>?_,fun b o u e=>?_,fun b ps e=>⟨#[],?_⟩⟩,⟨_,hn,?_⟩,?_,?_,?_,?_,?_,?_⟩
 ·show upd H D _ b=none;rw [ah (neD b o e)];exact n
 ·show upd H D _ b=_;rw [ah (neH b _ e)];exact e
 ·show upd H D _ b=_;rw [ah (neH b _ e)];exact e
 ·show upd H D _ b=_;rw [ah (neH b _ e)];have e':H b=some (.tbl ps):=e;rw [e'];simp
 ·-- the names around
  intro i x v e1 e2 hv;obtain ⟨m,hm,hl⟩:=I.loc;have eN:(NL++ρ.map fun j=>X.N.getD j "")[i]?=some x:=by
   have e1':N'[i]?=some x:=e1;rw [S.names] at e1';exact e1'
  have eσ:(List.replicate NL.length (none:Option V)++ρ.map fun j=>(σ[j]?).join)[i]?=some (some v):=e2
  by_cases hi:i < NL.length
  ·rw [List.getElem?_append_left (by simpa using hi)] at eσ;rw [List.getElem?_replicate] at eσ
   split at eσ <;> cases eσ
  ·have hi':NL.length≤i:=Nat.le_of_not_lt hi;rw [List.getElem?_append_right (by simpa using hi'),List.length_replicate,List.getElem?_map] at eσ;rw [List.getElem?_append_right hi',List.getElem?_map] at eN
   cases q:ρ[i - NL.length]? with
   | none=>rw [q] at eN;cases eN
   | some j =>
    rw [q] at eN eσ;obtain ⟨y,ey,f1,f2⟩:=S.outs j (List.mem_of_getElem? q);have exy:X.N.getD j "" = y:=by rw [List.getD_eq_getElem?_getD,ey];rfl
    have exx:X.N.getD j "" = x:=Option.some.inj eN;have xy:x=y:=exx.symm.trans exy;subst xy;have eσ':(σ[j]?).join=some v:=Option.some.inj eσ;have eσ2:σ[j]?=some (some v):=by
     cases z:σ[j]? with
     | none=>rw [z] at eσ';cases eσ'
     | some w=>rw [z] at eσ';exact congrArg some eσ'
    have vis:Vis X.env.scope x:=by
     rcases f2 with z | z
     ·exact .inr (.inl z)
     ·exact .inr (.inr z)
    obtain ⟨u,r,l⟩:=hl j x v ey eσ2 vis;refine ⟨u,r,?_⟩;obtain ⟨c,hc⟩:=cT (env:=X.env) scope.names [] x f1;rcases l with ⟨kl,_⟩ | ⟨_,c',hc',z⟩
    ·have kl':X.env.scope.names.lookup x=some .local:=kl;rcases f2 with z | z
     ·rw [z] at kl';cases kl'
     ·rw [z] at kl';cases kl'
    ·have e3:=sub x c hc;rw [hc'] at e3;obtain rfl:=Option.some.inj e3;obtain ⟨oc,hoc,hcd⟩:=z;have hv':(relabel scope X.env).names.lookup x=some .local∨(relabel scope X.env).names.lookup x=some .cell∨(relabel scope X.env).names.lookup x=some .free:=hv;refine .inr ⟨?_,c',hc,oc,k _ _ hoc,hcd⟩;rcases hv' with z | z | z
     ·obtain ⟨k0,e4,z2⟩:=b9 z;rw [f1] at e4
      cases e4
      rcases z2 with z2 | ⟨_,z2⟩ <;> cases z2
     ·exact .inl z
     ·exact .inr z
 ·intro x c e;obtain ⟨v,oc,hoc,hcd⟩:=I.cell x c (sub x c e);exact ⟨v,oc,k _ _ hoc,hcd⟩
 ·show upd H D _ C=none;rw [ah (Ne.symm hDC)];exact fresh C hC
 ·intro x c e;obtain ⟨v,oc,hoc,hcd⟩:=I.cell x c (sub x c e);rw [ah (neD c oc hoc)];exact I.freeC x c (sub x c e)
 ·intro p hp;have hp':p∈X.pn++pins:=hp;obtain ⟨e,n,ne,nf,d⟩:=I.pin p hp';refine ⟨k _ _ e,?_,?_,?_,d⟩
  ·rw [ah (neD p.1 p.2 e)];exact n
  ·exact Nat.ne_of_lt (Nat.lt_of_lt_of_le (Heap.lt_size e) hC)
  ·intro z;rcases List.mem_cons.mp (I.stkSub p.1 z) with q | q
   ·exact ne q
   ·exact nf q
 ·exact I.hok.laid k hD ⟨Nat.zero_le _,[],0,.nil,hd⟩
 ·show (List.replicate NL.length (none:Option V)++ρ.map fun j=>(σ[j]?).join).length=N'.length;rw [S.names];simp
theorem Inv.compEnd {scope:Scope} {N':List Str} {pins:List (Addr×Obj)} {σ σ':St} {H H':Hp} {s s':Shared} {fp:List Addr} {C:Addr} {h':Heap} {pins':List (Addr×Obj)} (I:Inv X pins σ H s) (hf:∀ b∈fp,cw X pins H b) (hC:s.heap.objs.size≤C)
  (J:Inv (ccx X scope C N' s H fp) pins' σ' H' s') (hs:Heap.SameBut C s'.heap h'):Inv X pins σ H' { s' with heap:=h' }:=by
 have hn:H' C=none:=J.free;have nC:∀ b o,s.heap.get? b=some o→b≠C:=fun b o e=>Nat.ne_of_lt (Nat.lt_of_lt_of_le (Heap.lt_size e) hC);have B:Un (frs X.stack) fp H H' s.heap s'.heap:=J.base;have U:Un (frs X.stack) fp H H' s.heap h':=⟨fun b o e n hb hx=>(hs.2 b (nC b o e)).trans (B.keep b o e n hb hx),fun b o e n hb hx=>by
   obtain ⟨sl,q⟩:=B.slot b o e n hb hx;exact ⟨sl,(hs.2 b (nC b o e)).trans q⟩,B.free,fun b o e hx=>by
   obtain ⟨o',q⟩:=B.there b o e hx;exact ⟨o',(hs.2 b (nC b o e)).trans q⟩,B.tups,B.frzs,B.tbls⟩
 have hok:HOk X.prog X.w H' h':=fun b u e=>by
  refine (J.hok b u e).stay (fun c v hc q=>(hs.2 c ?_).trans q) (fun _ q=>q) fun _ _ q=>q;rintro rfl;rcases hc with rfl | hc
  ·rw [hn] at e;cases e
  ·rw [hn] at hc;cases hc
 refine Inv.call' (s':={ s' with heap:=h' }) I J.os U hok J.bare fun b hb=>?_;obtain ⟨f0,f1,f2,f3,f4,f5⟩:=hf b hb;exact ⟨f3,f1,f4,f5⟩
def jL (k:Nat) (ρ:List Nat) (wi:TI) (g:TG) (tb:List V→Addr→St→Hp→(List V→St→Hp→Prop)→Prop):TE:=fun σ H Q =>
 wi σ H fun J H1=>∀ l,H1 l=none→∃ W:Nat→Nat→List V→St→Hp→Prop,(∃ m,W 0 m [] (cst k ρ σ) (upd H1 l (.lst []))) ∧
  ∀ i m ys σ' H',W i m ys σ' H'→(J.stop i H'∧Q (.ref l) H')∨(J.go i H'∧∀ x H'',J.yld i H' x H''→g x σ' H'' fun σ2 H2=>tb ys l σ2 H2 fun ys' σ3 H3=>∃ m',m' < m∧W (i+1) m' ys' σ3 H3)
def cEl (te:TE):List V→Addr→St→Hp→(List V→St→Hp→Prop)→Prop:=fun ys l σ H N=>te σ H fun y H1=>H1 l=some (.lst ys)∧ys.length < sizeLine∧N (ys++[y]) σ (upd H1 l (.lst (ys++[y])))
def cIf (tc:TT) (te:TE):List V→Addr→St→Hp→(List V→St→Hp→Prop)→Prop:=fun ys l σ H N=>tc σ H fun b H1=>if b=true then cEl te ys l σ H1 N else N ys σ H1
def PB (X:Cx) (body:Value→Sem Unit) (tb:List V→Addr→St→Hp→(List V→St→Hp→Prop)→Prop):Prop :=
 ∀ (pins:List (Addr×Obj)) (s:Shared) (σ:St) (H:Hp) (l:Addr) (ys:List V) (N:List V→St→Hp→Prop),Inv X pins σ H s→tb ys l σ H N →
  wpAny (model X.prog X.w) X.A (body (.ref l)) (fun _ s'=>∃ ys' σ' H',Inv X pins σ' H' s'∧N ys' σ' H') X.xe s
theorem om {elt:Expr} {te:TE} (he:PE X elt te):PB X (fun acc=>do let x ← eval elt X.env;let _ ← call (.builtin "list.append") [acc,x];pure ()) (cEl te):=by
 intro pins s σ H l ys N I h;refine wpAny_bind (thn (he pins s σ H _ I h) fun u s1 ⟨y,H1,I1,r1,q0,q1,q2⟩=>wpAny_bind ?_);refine thn (mS pins s1 σ H1 (.ref l) [y] (.ref l) [u] (fun v H'=>v=.non∧N (ys++[y]) σ H') I1 rfl (.cons r1 .nil) ⟨l,ys,y,rfl,rfl,q0,q1,rfl,q2⟩) fun _ s2 ⟨v,H2,I2,_,_,n2⟩=>wpAny_pure ⟨_,σ,H2,I2,n2⟩
theorem C6 {c elt:Expr} {tc:TT} {te:TE} (hc:PT X c tc) (he:PE X elt te):PB X (fun acc=>do
  let b ← isTrue c X.env (eval c X.env)
  if b then (do let x ← eval elt X.env;let _ ← call (.builtin "list.append") [acc,x];pure ()) else pure ()) (cIf tc te):=by
 intro pins s σ H l ys N I h;refine wpAny_bind (thn (hc pins s σ H _ I h) fun b s1 ⟨H1,I1,q1⟩=>?_)
 cases b with
 | true=>exact om he pins s1 σ H1 l ys N I1 q1
 | false=>exact wpAny_pure ⟨ys,σ,H1,I1,q1⟩
theorem jM (elt target iter:Expr) (scope:Scope) (pos:Pos) (it acc:Value) (env:Env) :
  compTurn (.ListComp elt [⟨target,iter,[],0⟩] scope pos) 0 it acc env=(standAt iter.pos >>= fun _=>pyNext it >>= fun r=>match r with
   | none=>pure (.done .next)
   | some v=>letOwnedTupleGo target it v >>= fun _=>assign target env v >>= fun _ =>
    (do let x ← eval elt env;let _ ← call (.builtin "list.append") [acc,x];pure ():Sem Unit) >>= fun _=>again (.compLoop (.ListComp elt [⟨target,iter,[],0⟩] scope pos) 0 it acc env)):=by rfl
theorem oq (elt target iter c:Expr) (scope:Scope) (pos:Pos) (it acc:Value) (env:Env) :
  compTurn (.ListComp elt [⟨target,iter,[c],0⟩] scope pos) 0 it acc env=(standAt iter.pos >>= fun _=>pyNext it >>= fun r=>match r with
   | none=>pure (.done .next)
   | some v=>letOwnedTupleGo target it v >>= fun _=>assign target env v >>= fun _ =>
    (do
     let b ← isTrue c env (eval c env)
     if b then (do let x ← eval elt env;let _ ← call (.builtin "list.append") [acc,x];pure ()) else pure ():Sem Unit) >>= fun _=>again (.compLoop (.ListComp elt [⟨target,iter,[c],0⟩] scope pos) 0 it acc env)):=by
 rw [compTurn_list]
 congr 1
 funext _
 congr 1
 funext r
 cases r with
 | none=>rfl
 | some v =>
  refine congrArg (letOwnedTupleGo target it v >>= ·) (funext fun _=>?_);refine congrArg (assign target env v >>= ·) (funext fun _=>?_);dsimp only;rw [List.forIn_cons];simp only [if_true,bind_assoc,pure_bind,List.forIn_nil];refine congrArg (PySem.isTrue c env (eval c env) >>= ·) (funext fun b=>?_)
  cases b
  ·simp
  ·simp
end
section
variable {X:Cx}
theorem jN {elt tgt iter:Expr} {ifs:List Expr} {scope:Scope} {pos:Pos} {NL N':List Str} {ρ:List Nat} {wi:TI} {g:TG} {tb:List V→Addr→St→Hp→(List V→St→Hp→Prop)→Prop} {body:Value→Env→Sem Unit}
  (hc:X.calm=true) (S:CScope X scope NL ρ N') (hi:PI X tgt iter wi)
  (hg:∀ C s₀ H₀ fp,PG (ccx X scope C N' s₀ H₀ fp) tgt g) (hb:∀ C s₀ H₀ fp,PB (ccx X scope C N' s₀ H₀ fp) (fun acc=>body acc (ccx X scope C N' s₀ H₀ fp).env) tb)
  (he:∀ (it acc:Value) (env:Env),compTurn (.ListComp elt [⟨tgt,iter,ifs,0⟩] scope pos) 0 it acc env=(standAt iter.pos >>= fun _=>pyNext it >>= fun r=>match r with
   | none=>pure (.done .next)
   | some v=>letOwnedTupleGo tgt it v >>= fun _=>assign tgt env v >>= fun _=>body acc env >>= fun _=>again (.compLoop (.ListComp elt [⟨tgt,iter,ifs,0⟩] scope pos) 0 it acc env)))
  (hs:∀ x,foldedSetIterable iter X.env x=pure x:=by intro _;rfl):PE X (.ListComp elt [⟨tgt,iter,ifs,0⟩] scope pos) (jL NL.length ρ wi g tb):=by
 intro pins s σ H Q I h;have free_in:∀ x∈scope.names,x.2=.free→∃ c,X.env.cells.lookup x.1=some c:=fun x hx hk=>I.ok.has x.1 (S.frees x hx hk);rw [eval_ListComp];refine wpAny_comprehension_free (use:=none) rfl hs (fB free_in) S.kind S.locs ?_;refine thn (hi pins s σ H _ I h) fun v s1 h1=>thn h1 fun itv s2 h2=>?_;obtain ⟨it,fp,tn,J,H2,e,I2,T,st2,f2,w⟩:=h2;subst e;refine wpAny_newObj_type (wpAny_newFunctionEnv S.nocell (by intro y hy;simp at hy) (fun h₁ hns₁ hsb₁=>?_) S.kind);dsimp only at hns₁ hsb₁ ⊢
 generalize hH2:s2.heap.push { cls:=.type "list",dict:=none,data:=.seq ([]:List Value).toArray }=h2' at hns₁ hsb₁ ⊢
 have hCs:h2'.objs.size=s2.heap.objs.size+1:=by rw [← hH2,Heap.size_push]
 have hDC:s2.heap.objs.size≠h2'.objs.size:=by rw [hCs];exact Nat.ne_of_lt (Nat.lt_succ_self _)
 have hC:s2.heap.objs.size≤h2'.objs.size:=by rw [hCs];exact Nat.le_succ _
 have old:∀ b o,s2.heap.get? b=some o→h₁.get? b=some o:=fun b o e=>hsb₁.extBut b o (Nat.ne_of_lt (Nat.lt_of_lt_of_le (Heap.lt_size e) hC)) (Heap.get?_push_of_some _ (hH2 ▸ Heap.get?_push_of_some _ e));have hd:h₁.get? s2.heap.objs.size=some { cls:=.type "list",data:=.seq #[] 0 }:=hsb₁.extBut _ _ hDC (Heap.get?_push_of_some _ (hH2 ▸ Heap.get?_push_size _ rfl));have hfo:∀ b∈fp,∃ o,s2.heap.get? b=some o:=fun b hb=>let ⟨o,e,_⟩:=T.obj _ _ st2 b hb;⟨o,e⟩;have I4:Inv (ccx X scope h2'.objs.size N' s2 H2 fp) (X.pn++pins) (cst NL.length ρ σ) (upd H2 s2.heap.objs.size (.lst [])) { s2 with heap:=h₁,toks:=s2.toks+([]:List (Str×Value)).length } :=
  Inv.comp S I2 f2 hfo hC (Nat.le_refl _) hDC old hd (by simpa using hns₁)
 have hD0:H2 s2.heap.objs.size=none:=I2.hok.fresh (Nat.le_refl _);have nfp:s2.heap.objs.size∉fp:=fun z=>by
  obtain ⟨o,e⟩:=hfo _ z;exact absurd (Heap.lt_size e) (Nat.lt_irrefl _)
 obtain ⟨W,⟨m0,w0⟩,turn⟩:=w s2.heap.objs.size hD0;have stat:∀ {H':Hp},(∀ b∈fp,H' b=none)→∀ b∈fp,cw (ccx X scope h2'.objs.size N' s2 H2 fp) (X.pn++pins) H' b:=fun {H'} hn b hb=>by
  obtain ⟨f0,f1,f2',f3,f4,f5⟩:=f2 b hb;have ok:=I4.ok;refine ⟨hn b hb,(ok.exf b hb).1,ok.exfs b hb,.inl hb,(ok.exf b hb).2,fun p hp=>f5 p hp⟩
 have loop:∀ s₃:Shared,s₃={ s2 with heap:=h₁,toks:=s2.toks+([]:List (Str×Value)).length } →
   codeAny (model X.prog X.w) X.A (.compLoop (.ListComp elt [⟨tgt,iter,ifs,0⟩] scope pos) 0 (.ref it) (.ref s2.heap.objs.size) (compEnvC scope (bM X.env scope.names []) h2'.objs.size X.env))
    (compPost (model X.prog X.w) X.A X.xe none (EP X pins σ Q) (.ref s2.heap.objs.size) h2'.objs.size) s₃:=by
  rintro s₃ rfl;refine codeAny_loop rfl (fun n s'=>∃ i ys σ' H',Inv (ccx X scope h2'.objs.size N' s2 H2 fp) (X.pn++pins) σ' H' s'∧tn i s'.heap∧(∀ b∈fp,H' b=none)∧W i n ys σ' H') (fun n s3 hI=>?_) m0
   ⟨0,[],_,_,I4,T.keep _ _ _ st2 (fun b _ o e=>old b o e),fun b hb=>?_,w0⟩
  ·obtain ⟨i,ys,σ3,H3,I3,st3,fr3,w3⟩:=hI;show wpAny _ _ ((compTurn (.ListComp elt [⟨tgt,iter,ifs,0⟩] scope pos) 0 (.ref it) (.ref s2.heap.objs.size) (compEnvC scope (bM X.env scope.names []) h2'.objs.size X.env)).onRaise (fun x=>do noteFrame x _;theTreesLotGoes x)) _ _ s3;refine wpAny_noted ?_;rw [he];refine wpAny_bind (wpAny_standAt (wpAny_bind ?_));rcases turn i n ys σ3 H3 w3 with ⟨stop,qn⟩ | ⟨go,step⟩
   ·refine thn (T.done (ccx X scope h2'.objs.size N' s2 H2 fp) rfl rfl rfl hc i _ s3 σ3 H3 _ I3 (stat fr3) st3 stop) fun r s4 ⟨hr,I5⟩=>?_;subst hr;refine wpAny_pure ?_;obtain ⟨m,hm,_⟩:=id I5.loc;exact ⟨m,hm,fun h' hs'=>⟨.ref s2.heap.objs.size,H3,Inv.compEnd I2 f2 hC I5 hs',rfl,qn⟩⟩
   ·refine thn (T.item (ccx X scope h2'.objs.size N' s2 H2 fp) rfl rfl rfl hc i _ s3 σ3 H3 _ I3 (stat fr3) st3 go) fun r s4 ⟨u,hr,h4⟩=>?_;subst hr;refine wpAny_bind (thn h4 fun _ s5 ⟨x,H5,I5,r5,y5,st5,fr5⟩=>?_);have I5':=I5.pinned (stat fr5) (T.obj _ _ st5);refine wpAny_bind (wpAny_mono (hg h2'.objs.size s2 H2 fp _ s5 σ3 H5 x u _ I5' r5 (step x H5 y5)) (fun _ s6 ⟨σ6,H6,I6,q6⟩=>?_) fun _ _ z=>z.elim);refine wpAny_bind (wpAny_mono (hb h2'.objs.size s2 H2 fp _ s6 σ6 H6 s2.heap.objs.size ys _ I6 q6) (fun _ s7 ⟨ys7,σ7,H7,I7,m',hm,w7⟩=>?_) fun _ _ z=>z.elim);refine wpAny_pure ⟨rfl,m',hm,i+1,ys7,σ7,H7,I7.unpinned,T.keep _ _ _ st5 fun b hb o e=>(I7.pin (b,o) (List.mem_append_right _ (List.mem_append_right _ (a7 hb e)))).1,fun b hb=>?_,w7⟩;obtain ⟨o,e,d⟩:=T.obj _ _ st5 b hb;exact (I7.pin (b,o) (List.mem_append_right _ (List.mem_append_right _ (a7 hb e)))).2.1
  ·rw [ah (show b≠s2.heap.objs.size from fun z=>nfp (by rw [← z];exact hb))];exact (f2 b hb).1
 refine codeAny_compStart_list (loop _ rfl) (T.self _ 0 _ _ _ ?_ (loop _ rfl));exact T.keep _ _ _ st2 fun b _ o e=>old b o e
theorem bd {elt tgt iter:Expr} {scope:Scope} {pos:Pos} {NL N':List Str} {ρ:List Nat} {wi:TI} {g:TG} {te:TE} (hc:X.calm=true) (S:CScope X scope NL ρ N') (hi:PI X tgt iter wi)
  (hg:∀ C s₀ H₀ fp,PG (ccx X scope C N' s₀ H₀ fp) tgt g) (he:∀ C s₀ H₀ fp,PE (ccx X scope C N' s₀ H₀ fp) elt te)
  (hs:∀ x,foldedSetIterable iter X.env x=pure x:=by intro _;rfl):PE X (.ListComp elt [⟨tgt,iter,[],0⟩] scope pos) (jL NL.length ρ wi g (cEl te)) :=
 jN (body:=fun acc env=>do let x ← eval elt env;let _ ← call (.builtin "list.append") [acc,x];pure ()) hc S hi hg (fun C s₀ H₀ fp=>om (he C s₀ H₀ fp)) (fun it acc env=>jM elt tgt iter scope pos it acc env) hs
theorem mW {elt tgt iter c:Expr} {scope:Scope} {pos:Pos} {NL N':List Str} {ρ:List Nat} {wi:TI} {g:TG} {tc:TT} {te:TE} (hc:X.calm=true) (S:CScope X scope NL ρ N') (hi:PI X tgt iter wi)
  (hg:∀ C s₀ H₀ fp,PG (ccx X scope C N' s₀ H₀ fp) tgt g) (ht:∀ C s₀ H₀ fp,PT (ccx X scope C N' s₀ H₀ fp) c tc) (he:∀ C s₀ H₀ fp,PE (ccx X scope C N' s₀ H₀ fp) elt te)
  (hs:∀ x,foldedSetIterable iter X.env x=pure x:=by intro _;rfl):PE X (.ListComp elt [⟨tgt,iter,[c],0⟩] scope pos) (jL NL.length ρ wi g (cIf tc te)) :=
 jN (body:=fun acc env=>do
  let b ← PySem.isTrue c env (eval c env)
  if b then (do let x ← eval elt env;let _ ← call (.builtin "list.append") [acc,x];pure ()) else pure ()) hc S hi hg (fun C s₀ H₀ fp=>C6 (ht C s₀ H₀ fp) (he C s₀ H₀ fp)) (fun it acc env=>oq elt tgt iter c scope pos it acc env) hs
end
section
variable {X:Cx}
inductive IsiB (K:PySem.W.Frag) (H:Hp):V→String→Bool→Prop
 | int_int {i}:IsiB K H (.int i) "int" true
 | int_str {i}:IsiB K H (.int i) "str" false
 | int_bool {i}:IsiB K H (.int i) "bool" false
 | int_tuple {i}:IsiB K H (.int i) "tuple" false
 | int_list {i}:IsiB K H (.int i) "list" false
 | str_int {x}:IsiB K H (.str x) "int" false
 | str_str {x}:IsiB K H (.str x) "str" true
 | str_bool {x}:IsiB K H (.str x) "bool" false
 | str_tuple {x}:IsiB K H (.str x) "tuple" false
 | str_list {x}:IsiB K H (.str x) "list" false
 | bl_int {b}:IsiB K H (.bl b) "int" true
 | bl_bool {b}:IsiB K H (.bl b) "bool" true
 | bl_str {b}:IsiB K H (.bl b) "str" false
 | bl_tuple {b}:IsiB K H (.bl b) "tuple" false
 | tup_int {a xs}:SqT K H a xs→IsiB K H (.ref a) "int" false
 | tup_str {a xs}:SqT K H a xs→IsiB K H (.ref a) "str" false
 | tup_bool {a xs}:SqT K H a xs→IsiB K H (.ref a) "bool" false
 | tup_tuple {a xs}:SqT K H a xs→IsiB K H (.ref a) "tuple" true
 | tup_list {a xs}:SqT K H a xs→IsiB K H (.ref a) "list" false
 | lst_int {a xs}:SqL K H a xs→IsiB K H (.ref a) "int" false
 | lst_str {a xs}:SqL K H a xs→IsiB K H (.ref a) "str" false
 | lst_tuple {a xs}:SqL K H a xs→IsiB K H (.ref a) "tuple" false
 | lst_list {a xs}:SqL K H a xs→IsiB K H (.ref a) "list" true
theorem bQ (a b:String) (h:isSubtype (.type a) (.type b)=pure false:=by rw [isSubtype_type];kernel_rfl):isSubtype (.type a) (.type b)=pure false:=h
theorem mX (a b:String) (h:isSubtype (.type a) (.type b)=pure true:=by rw [isSubtype_type];kernel_rfl):isSubtype (.type a) (.type b)=pure true:=h
theorem mY:isSubtype (.type "int") (.type "str")=pure false:=bQ _ _
theorem la:isSubtype (.type "int") (.type "bool")=pure false:=bQ _ _
theorem jO:isSubtype (.type "int") (.type "tuple")=pure false:=bQ _ _
theorem lb:isSubtype (.type "int") (.type "list")=pure false:=bQ _ _
theorem mZ:isSubtype (.type "str") (.type "int")=pure false:=bQ _ _
theorem le:isSubtype (.type "str") (.type "bool")=pure false:=bQ _ _
theorem jP:isSubtype (.type "str") (.type "tuple")=pure false:=bQ _ _
theorem lf:isSubtype (.type "str") (.type "list")=pure false:=bQ _ _
theorem lg:isSubtype (.type "bool") (.type "str")=pure false:=bQ _ _
theorem iI:isSubtype (.type "bool") (.type "tuple")=pure false:=bQ _ _
theorem jQ:isSubtype (.type "tuple") (.type "int")=pure false:=bQ _ _
theorem jR:isSubtype (.type "tuple") (.type "str")=pure false:=bQ _ _
theorem iJ:isSubtype (.type "tuple") (.type "bool")=pure false:=bQ _ _
theorem iK:isSubtype (.type "tuple") (.type "list")=pure false:=bQ _ _
theorem lj:isSubtype (.type "list") (.type "int")=pure false:=bQ _ _
theorem lm:isSubtype (.type "list") (.type "str")=pure false:=bQ _ _
theorem iL:isSubtype (.type "list") (.type "tuple")=pure false:=bQ _ _
theorem C7:isSubtype (.type "int") (.type "int")=pure true:=mX _ _
theorem C8:isSubtype (.type "str") (.type "str")=pure true:=mX _ _
theorem wn:isSubtype (.type "bool") (.type "bool")=pure true:=mX _ _
theorem ln:isSubtype (.type "bool") (.type "int")=pure true:=mX _ _
theorem qk:isSubtype (.type "tuple") (.type "tuple")=pure true:=mX _ _
theorem wo:isSubtype (.type "list") (.type "list")=pure true:=mX _ _
theorem jS:typeOf (.type "int")=pure (.type "type"):=by kernel_rfl
theorem jT:typeOf (.type "str")=pure (.type "type"):=by kernel_rfl
theorem iM:typeOf (.type "bool")=pure (.type "type"):=by kernel_rfl
theorem dI:typeOf (.type "tuple")=pure (.type "type"):=by kernel_rfl
theorem iN:typeOf (.type "list")=pure (.type "type"):=by kernel_rfl
theorem ou:aG X (.builtin "isinstance") (fun xs H Q=>∃ x T b,xs=[x,.ty T]∧IsiB X.K H x T b∧Q (.bl b) H):=by
 intro pins s σ H xs us Q I r h;obtain ⟨x,T,b,rfl,hb,q⟩:=h;obtain ⟨u,w',rfl,rx,rT⟩:=jI r
 cases rT
 have fin:∀ t,EP X pins σ Q (.bool b) { s with toks:=t }:=fun t=>⟨.bl b,H,I.tok t,rfl,q⟩;have fin0:EP X pins σ Q (.bool b) s:=⟨.bl b,H,I,rfl,q⟩;have tup:∀ {a xs},SqT X.K H a xs→∃ o,s.heap.get? a=some o∧o.cls=.type "tuple" :=fun hq=>by
  obtain ⟨its,_,p,_⟩:=I.tuple hq;obtain ⟨o,e,c,_⟩:=p;exact ⟨o,e,c⟩
 have lst:∀ {a xs},SqL X.K H a xs→∃ o,s.heap.get? a=some o∧o.cls=.type "list" :=fun hq=>by
  obtain ⟨its,_,p,_⟩:=I.list hq;obtain ⟨o,e,c,_⟩:=p.isList;exact ⟨o,e,c⟩
 cases hb with
 | int_int=>obtain ⟨t,rfl⟩:=rx;exact call_isinstance (isinstance_true (Tx:= "int") jS C7) ⟨rfl,fin0⟩
 | int_str=>obtain ⟨t,rfl⟩:=rx;exact call_isinstance (isinstance_false_int (by decide) jT mY) (fin _)
 | int_bool=>obtain ⟨t,rfl⟩:=rx;exact call_isinstance (isinstance_false_int (by decide) iM la) (fin _)
 | int_tuple=>obtain ⟨t,rfl⟩:=rx;exact call_isinstance (isinstance_false_int (by decide) dI jO) (fin _)
 | int_list=>obtain ⟨t,rfl⟩:=rx;exact call_isinstance (isinstance_false_int (by decide) iN lb) (fin _)
 | str_int=>obtain ⟨t,rfl⟩:=rx;exact call_isinstance (isinstance_false_str (by decide) jS mZ) (fin _)
 | str_str=>obtain ⟨t,rfl⟩:=rx;exact call_isinstance (isinstance_true (Tx:= "str") jT C8) ⟨rfl,fin0⟩
 | str_bool=>obtain ⟨t,rfl⟩:=rx;exact call_isinstance (isinstance_false_str (by decide) iM le) (fin _)
 | str_tuple=>obtain ⟨t,rfl⟩:=rx;exact call_isinstance (isinstance_false_str (by decide) dI jP) (fin _)
 | str_list=>obtain ⟨t,rfl⟩:=rx;exact call_isinstance (isinstance_false_str (by decide) iN lf) (fin _)
 | bl_int=>cases rx;exact call_isinstance (isinstance_true (Tx:= "bool") jS ln) ⟨rfl,fin0⟩
 | bl_bool=>cases rx;exact call_isinstance (isinstance_true (Tx:= "bool") iM wn) ⟨rfl,fin0⟩
 | bl_str=>cases rx;exact call_isinstance (isinstance_false_bool (by decide) jT lg) (fin _)
 | bl_tuple=>cases rx;exact call_isinstance (isinstance_false_bool (by decide) dI iI) (fin _)
 | tup_int hq=>cases rx;exact call_isinstance (isinstance_false_tuple (by decide) jS jQ) ⟨tup hq,fin _⟩
 | tup_str hq=>cases rx;exact call_isinstance (isinstance_false_tuple (by decide) jT jR) ⟨tup hq,fin _⟩
 | tup_bool hq=>cases rx;exact call_isinstance (isinstance_false_tuple (by decide) iM iJ) ⟨tup hq,fin _⟩
 | tup_tuple hq=>cases rx;exact call_isinstance (isinstance_true (Tx:= "tuple") dI qk) ⟨tup hq,fin0⟩
 | tup_list hq=>cases rx;exact call_isinstance (isinstance_false_tuple (by decide) iN iK) ⟨tup hq,fin _⟩
 | lst_int hq=>cases rx;exact call_isinstance (isinstance_false_list (by decide) jS lj) ⟨lst hq,fin _⟩
 | lst_str hq=>cases rx;exact call_isinstance (isinstance_false_list (by decide) jT lm) ⟨lst hq,fin _⟩
 | lst_tuple hq=>cases rx;exact call_isinstance (isinstance_false_list (by decide) dI iL) ⟨lst hq,fin _⟩
 | lst_list hq=>cases rx;exact call_isinstance (isinstance_true (Tx:= "list") iN wo) ⟨lst hq,fin0⟩
def Its (z:Str):It:=⟨fun i _=>i < z.cps.size,fun i H x H'=>H'=H∧∃ c,z.cps[i]?=some c∧x=.str ⟨#[c]⟩,fun i _=>i=z.cps.size⟩
def DU (te:TE):TI:=fun σ H R=>te σ H fun x H1=>∃ z,x=.str z∧R (Its z) H1
theorem jU {P:Program} {w:World} {K:PySem.W.Frag} {tg:Expr} (T:String) (it:Addr) (z:Str) (t:Tok)
  (W:∀ A:Around,A.handled=none→Walks P w A it [it] [it] z.cps.size (SignAt z) (fun i h=>h.IsStrIter it T z t i))
  (hT:["enumerate","zip","dict_itemiterator","dict_reverseitemiterator","odict_iterator","itertools.zip_longest","itertools.pairwise"].contains T=false)
  (hs:∀ (A:Around) (i:Nat) (s:Shared) (Q:Value→Shared→Prop) (E:Value→Shared→Prop),s.heap.IsStrIter it T z t i→Q (.ref it) s→wpAny (model P w) A (pyIter (.ref it)) Q E s) :
  Turn P w K tg (Its z) [it] it (fun i h=>h.IsStrIter it T z t i) where
 mem:=by simp
 obj:=fun i h st b hb=>by
  have e:b=it:=by simpa using hb
  subst e;obtain ⟨o,e,c,d⟩:=st;exact ⟨o,e,fun v z=>by rw [d] at z;cases z⟩
 keep:=fun i h h' st k=>by
  obtain ⟨o,e,c,d⟩:=st;exact ⟨o,k it (by simp) o e,c,d⟩
 item:=by
  intro X hP hw hK hc i pins s σ H E I hf st hg;subst hP hw hK;obtain ⟨f0,f1,f2,f3,f4,f5⟩:=hf it (by simp);refine (W X.A (I.ok.hd hc)).item i s _ _ hg st fun v h' tk hv st' kk=>?_;obtain ⟨c,u,hcz,rfl⟩:=hv;have I1:Inv X pins σ H { s with heap:=h',toks:=tk }:=I.turned (fun b o hb e=>kk b o (by simpa using hb) e) f0 f1 f3 f4 f5;obtain ⟨o,e,cl,d⟩:=id st';exact ⟨_,rfl,jG (s:={ s with heap:=h',toks:=tk }) e cl d hT ⟨.str ⟨#[c]⟩,H,I1,⟨u,rfl⟩,⟨rfl,c,hcz,rfl⟩,st',fun b hb=>(hf b hb).1⟩⟩
 done:=by
  intro X hP hw hK hc i pins s σ H E I hf st hg;subst hP hw hK;obtain ⟨f0,f1,f2,f3,f4,f5⟩:=hf it (by simp);have hi:i=z.cps.size:=hg;subst hi;exact (W X.A (I.ok.hd hc)).done s _ _ st fun h' tk kk=>⟨rfl,I.turned (fun b o hb e=>kk b o (by simpa using hb) e) f0 f1 f3 f4 f5⟩
 self:=hs
theorem wq {tg l:Expr} {tl:TE} (hl:PE X l tl):PI X tg l (DU tl):=by
 intro pins s σ H R I h;refine thn (hl pins s σ H _ I h) fun v s1 ⟨x,H1,I1,r1,q1⟩=>?_;obtain ⟨z,rfl,q⟩:=q1;obtain ⟨t,rfl⟩:=r1;have fp:∀ (o:Obj),∀ b∈[s1.heap.objs.size],cw X pins H1 b:=fun o b hb=>by
  have e:b=s1.heap.objs.size:=by simpa using hb
  subst e;exact I1.fpOk (Nat.le_refl _) (I1.hok.fresh (Nat.le_refl _))
 cases ha:z.cps.all (· < 128)
 ·refine wpAny_pyIter_wide ha ?_;exact ⟨s1.heap.objs.size,[s1.heap.objs.size],_,_,H1,rfl,I1.kept (t':=s1.toks) fun b o e=>Heap.get?_push_of_some _ e,
   jU "str_iterator" _ z t (fun A hA=>Walks.strWide hA _ z t) (by decide) (fun _ _ _ _ _ st h=>wpAny_pyIter_striter_wide st h),⟨_,Heap.get?_push_size _ rfl,rfl,rfl⟩,fp default,q⟩
 ·refine wpAny_pyIter_ascii ha ?_;exact ⟨s1.heap.objs.size,[s1.heap.objs.size],_,_,H1,rfl,I1.kept (t':=s1.toks) fun b o e=>Heap.get?_push_of_some _ e,
   jU "str_ascii_iterator" _ z t (fun A hA=>Walks.strAscii hA _ z t) (by decide) (fun _ _ _ _ _ st h=>wpAny_pyIter_striter_ascii st h),⟨_,Heap.get?_push_size _ rfl,rfl,rfl⟩,fp default,q⟩
def bls:List Bool→List V:=List.map V.bl
theorem ow:aG X (.builtin "all") (fun xs H Q=>∃ p ys,xs=[.ref p]∧X.calm=true∧SqL X.K H p (bls ys)∧Q (.bl (ys.all id)) H):=by
 intro pins s σ H xs us Q I r h;obtain ⟨p,ys,rfl,hcm,hq,q⟩:=h;obtain ⟨u,rfl,rx⟩:=bX r
 cases rx
 obtain ⟨its,r',pl,hz⟩:=I.list hq;have hh:X.A.in1.handled=none:=I.ok.hd hcm;have hne:p≠s.heap.objs.size:=by
  obtain ⟨o,e,_⟩:=pl.isList;exact Nat.ne_of_lt (Heap.lt_size e)
 have hlen:its.length=ys.length:=by rw [← r'.length];simp [bls]
 refine call_all_walk (wpAny_pyIter_list pl.isList ⟨s.heap.objs.size,_,_,_,_,_,fun i=>ys.getD i true,rfl,Walks.list hh _ p hne its.toArray,⟨⟨_,Heap.get?_push_size _ rfl,rfl,rfl⟩,pl.isList.at fun o e=>Heap.get?_push_of_some _ e⟩,?_,?_⟩)
 ·intro i v s' Q' E' hv hQ;have hv':its[i]?=some v:=by simpa using hv
  have hi:i < ys.length:=by
   rw [← hlen];exact (List.getElem?_eq_some_iff.mp hv').1
  have e1:(bls ys)[i]?=some (V.bl ys[i]):=by simp [bls,hi]
  obtain ⟨u,hu,ru⟩:=r'.get e1;rw [hv'] at hu;obtain rfl:=Option.some.inj hu
  cases ru
  refine wpAny_truthy_bool ?_;have e2:ys.getD i true=ys[i]:=by simp [List.getD_eq_getElem?_getD,hi]
  have hQ':Q' (ys.getD i true) s':=hQ;rw [e2] at hQ';exact hQ'
 ·intro h' tk kk;have e3:(List.range its.toArray.size).all (fun i=>ys.getD i true)=ys.all id:=by
   rw [List.size_toArray,hlen];rw [Bool.eq_iff_iff,List.all_eq_true,List.all_eq_true]
   constructor
   ·intro g x hx;obtain ⟨i,hi,rfl⟩:=List.mem_iff_getElem.mp hx;have:=g i (List.mem_range.mpr hi)
    simpa [List.getD_eq_getElem?_getD,hi] using this
   ·intro g i hi;have hi':=List.mem_range.mp hi;have:=g ys[i] (List.getElem_mem hi')
    simpa [List.getD_eq_getElem?_getD,hi'] using this
  rw [e3];refine ⟨.bl _,H,?_,rfl,q⟩;have I1:Inv X pins σ H { s with heap:=s.heap.push { cls:=.type "list_iterator",data:=.fields #[.ref p,.int 0 0] } }:=I.kept (t':=s.toks) fun b o e=>Heap.get?_push_of_some _ e;exact I.kept (t':=tk) fun b o e=>kk b o (by
   intro z;have z':b=s.heap.objs.size:=by simpa using z
   exact absurd (Heap.lt_size e) (by rw [z'];exact Nat.lt_irrefl _)) (Heap.get?_push_of_some _ e)
end
section
variable {X:Cx}
theorem eR (ns:List Int):∀ n,n≤ns.length→preSum (fun i=>ns.getD i 0) n=(ns.take n).sum
 | 0,_=>by simp [preSum]
 | n+1,h=>by
  have hn:n < ns.length:=h;rw [preSum,eR ns n (Nat.le_of_lt hn),List.take_add_one,List.sum_append];simp [List.getD_eq_getElem?_getD,hn]
theorem ox:aG X (.builtin "sum") (fun xs H Q=>∃ (p:Addr) (ns:List Int),xs=[.ref p]∧X.calm=true∧SqL X.K H p (ns.map V.int)∧Q (.int ns.sum) H):=by
 intro pins s σ H xs us Q I r h;obtain ⟨p,ns,rfl,hcm,hq,q⟩:=h;obtain ⟨u,rfl,rx⟩:=bX r
 cases rx
 obtain ⟨its,r',pl,hz⟩:=I.list hq;have hh:X.A.in1.handled=none:=I.ok.hd hcm;have hlt:p < s.heap.objs.size:=by
  obtain ⟨o,e,_⟩:=pl.isList;exact Heap.lt_size e
 have hne:p≠s.heap.objs.size:=Nat.ne_of_lt hlt;have hlen:its.length=ns.length:=by rw [← r'.length];simp
 refine call_sum_walkG (wpAny_pyIter_list pl.isList ⟨s.heap.objs.size,_,_,_,_,_,fun i=>ns.getD i 0,rfl,Walks.list hh _ p hne its.toArray,⟨⟨_,Heap.get?_push_size _ rfl,rfl,rfl⟩,pl.isList.at fun o e=>Heap.get?_push_of_some _ e⟩,?_,?_,?_⟩)
 ·intro b hb;have hb':b=s.heap.objs.size∨b=p:=by simpa using hb
  show b < (s.heap.push _).objs.size;rw [Heap.size_push];rcases hb' with e | e
  ·exact e ▸ Nat.lt_succ_self _
  ·exact Nat.lt_succ_of_lt (e ▸ hlt)
 ·intro i v hv;have hv':its[i]?=some v:=by simpa using hv
  have hi:i < ns.length:=by
   rw [← hlen];exact (List.getElem?_eq_some_iff.mp hv').1
  have e1:(ns.map V.int)[i]?=some (V.int ns[i]):=by simp [hi]
  obtain ⟨u,hu,ru⟩:=r'.get e1;rw [hv'] at hu;obtain rfl:=Option.some.inj hu;obtain ⟨t,rfl⟩:=ru;exact ⟨t,by simp [List.getD_eq_getElem?_getD,hi]⟩
 ·intro h' tk t' kk;have e3:preSum (fun i=>ns.getD i 0) its.toArray.size=ns.sum:=by
   rw [List.size_toArray,hlen,eR ns _ (Nat.le_refl _),List.take_length]
  rw [e3];refine ⟨.int _,H,?_,⟨_,rfl⟩,q⟩;exact I.kept (t':=tk) fun b o e=>kk b o (by
   intro z;have z':b=s.heap.objs.size:=by simpa using z
   exact absurd (Heap.lt_size e) (by rw [z'];exact Nat.lt_irrefl _)) (Heap.get?_push_of_some _ e)
end
theorem ae {H:Hp} {p:Addr} (h:H p=none) (o:HO):Same H (upd H p o):=fun b u q=>by rw [ah (aq q h)];exact q
def But (r:Addr) (H H':Hp):Prop:=∀ b o,b≠r→H b=some o→H' b=some o
theorem But.refl (r:Addr) (H:Hp):But r H H:=fun _ _ _ h=>h
theorem But.trans {r:Addr} {H H1 H2:Hp} (a:But r H H1) (b:But r H1 H2):But r H H2:=fun c o n h=>b c o n (a c o n h)
theorem But.same {r:Addr} {H H1:Hp} (a:Same H H1):But r H H1:=fun c o _ h=>a c o h
theorem But.put {r:Addr} {H:Hp} {o:HO}:But r H (upd H r o):=fun c u n h=>by rw [ah n];exact h
theorem But.seq {K:PySem.W.Frag} {r:Addr} {H H':Hp} {a:Addr} {xs:List V} (e:But r H H') (n:a≠r) (h:SqL K H a xs):SqL K H' a xs:=by
 rcases h with (h | ⟨o,h⟩) | h
 ·exact .inl (.inl (e _ _ n h))
 ·exact .inl (.inr ⟨o,e _ _ n h⟩)
 ·exact .inr h
theorem But.tup {K:PySem.W.Frag} {r:Addr} {H H':Hp} {a:Addr} {xs:List V} (e:But r H H') (n:a≠r) (h:SqT K H a xs):SqT K H' a xs:=by
 rcases h with (h | ⟨o,h⟩) | h
 ·exact .inl (.inl (e _ _ n h))
 ·exact .inl (.inr ⟨o,e _ _ n h⟩)
 ·exact .inr h
theorem Same.tup {K:PySem.W.Frag} {H H':Hp} {a:Addr} {xs:List V} (e:Same H H') (h:SqT K H a xs):SqT K H' a xs:=by
 rcases h with (h | ⟨o,h⟩) | h
 ·exact .inl (.inl (e _ _ h))
 ·exact .inl (.inr ⟨o,e _ _ h⟩)
 ·exact .inr h
theorem cs0 {X:Cx} {scope:Scope} {NL:List Str} (h1:scope.kind=.function) (h2:(scope.names.all fun x=>x.2 != .cell && x.2 != .free)=true)
  (h3:∀ x∈scope.names,x.2=.local→scope.names.lookup x.1=some .local):CScope X scope NL [] NL:=by
 rw [List.all_eq_true] at h2;refine ⟨h1,fun x hx e=>?_,h3,fun x hx e=>?_,by simp,fun j hj=>by simp at hj⟩
 ·have:=h2 x hx;rw [e] at this;exact absurd this (by decide)
 ·have:=h2 x hx;rw [e] at this;exact absurd this (by decide)
theorem oy {z:Str} {l:Addr} {g:TG} {tb:List V→Addr→St→Hp→(List V→St→Hp→Prop)→Prop} {Q:VK} {σ0:St} {H0:Hp} (Pv:Nat→List V→St→Hp→Prop) (h0:Pv 0 [] σ0 H0)
  (hs:∀ i c ys σ H (N:List V→St→Hp→Prop),z.cps[i]?=some c→Pv i ys σ H→(∀ ys' σ' H',Pv (i+1) ys' σ' H'→N ys' σ' H')→g (.str ⟨#[c]⟩) σ H fun σ2 H2=>tb ys l σ2 H2 N)
  (hd:∀ ys σ H,Pv z.cps.size ys σ H→Q (.ref l) H) :
  ∃ W:Nat→Nat→List V→St→Hp→Prop,(∃ m,W 0 m [] σ0 H0)∧∀ i m ys σ' H',W i m ys σ' H'→((Its z).stop i H'∧Q (.ref l) H') ∨
   ((Its z).go i H'∧∀ x H'',(Its z).yld i H' x H''→g x σ' H'' fun σ2 H2=>tb ys l σ2 H2 fun ys' σ3 H3=>∃ m',m' < m∧W (i+1) m' ys' σ3 H3):=by
 refine ⟨fun i m ys σ H=>m=z.cps.size - i∧i≤z.cps.size∧Pv i ys σ H,⟨z.cps.size,by simp,Nat.zero_le _,h0⟩,?_⟩;rintro i m ys σ H ⟨rfl,hi,p⟩
 by_cases hlt:i < z.cps.size
 ·refine .inr ⟨hlt,fun x H' y=>?_⟩;obtain ⟨e,c,hc,rfl⟩:=y;subst e;exact hs i c ys σ _ _ hc p fun ys' σ' H' q=>⟨_,by lia,rfl,hlt,q⟩
 ·have e:i=z.cps.size:=by lia
  subst e;exact .inl ⟨rfl,hd ys σ H p⟩
theorem m7 {K:PySem.W.Frag} {a:Addr} {xs:List V} {l:Addr} {g:TG} {tb:List V→Addr→St→Hp→(List V→St→Hp→Prop)→Prop} {Q:VK} {σ0:St} {H0:Hp} (Pv:Nat→List V→St→Hp→Prop) (h0:Pv 0 [] σ0 H0) (hl:∀ i ys σ H,i≤xs.length→Pv i ys σ H→SqL K H a xs)
  (hs:∀ i x ys σ H (N:List V→St→Hp→Prop),xs[i]?=some x→Pv i ys σ H→(∀ ys' σ' H',Pv (i+1) ys' σ' H'→N ys' σ' H')→g x σ H fun σ2 H2=>tb ys l σ2 H2 N)
  (hd:∀ ys σ H,Pv xs.length ys σ H→Q (.ref l) H) :
  ∃ W:Nat→Nat→List V→St→Hp→Prop,(∃ m,W 0 m [] σ0 H0)∧∀ i m ys σ' H',W i m ys σ' H'→((Itl K a).stop i H'∧Q (.ref l) H') ∨
   ((Itl K a).go i H'∧∀ x H'',(Itl K a).yld i H' x H''→g x σ' H'' fun σ2 H2=>tb ys l σ2 H2 fun ys' σ3 H3=>∃ m',m' < m∧W (i+1) m' ys' σ3 H3):=by
 refine ⟨fun i m ys σ H=>m=xs.length - i∧i≤xs.length∧Pv i ys σ H,⟨xs.length,by simp,Nat.zero_le _,h0⟩,?_⟩;rintro i m ys σ H ⟨rfl,hi,p⟩;have q:=hl i ys σ H hi p
 by_cases hlt:i < xs.length
 ·refine .inr ⟨⟨xs,xs[i],q,by simp [hlt]⟩,fun x H' y=>?_⟩;obtain ⟨e,y⟩:=y;subst e;exact hs i x ys σ _ _ (y xs q) p fun ys' σ' H' q=>⟨_,by lia,rfl,hlt,q⟩
 ·have e:i=xs.length:=by lia
  subst e;exact .inl ⟨⟨xs,q,Nat.le_refl _⟩,hd ys σ H p⟩
theorem oz {K:PySem.W.Frag} {a:Addr} {xs:List V} {l:Addr} {g:TG} {tb:List V→Addr→St→Hp→(List V→St→Hp→Prop)→Prop} {Q:VK} {σ0:St} {H0:Hp} (Pv:Nat→List V→St→Hp→Prop) (h0:Pv 0 [] σ0 H0) (hl:∀ i ys σ H,i≤xs.length→Pv i ys σ H→SqT K H a xs)
  (hs:∀ i x ys σ H (N:List V→St→Hp→Prop),xs[i]?=some x→Pv i ys σ H→(∀ ys' σ' H',Pv (i+1) ys' σ' H'→N ys' σ' H')→g x σ H fun σ2 H2=>tb ys l σ2 H2 N)
  (hd:∀ ys σ H,Pv xs.length ys σ H→Q (.ref l) H) :
  ∃ W:Nat→Nat→List V→St→Hp→Prop,(∃ m,W 0 m [] σ0 H0)∧∀ i m ys σ' H',W i m ys σ' H'→((Itt K a).stop i H'∧Q (.ref l) H') ∨
   ((Itt K a).go i H'∧∀ x H'',(Itt K a).yld i H' x H''→g x σ' H'' fun σ2 H2=>tb ys l σ2 H2 fun ys' σ3 H3=>∃ m',m' < m∧W (i+1) m' ys' σ3 H3):=by
 refine ⟨fun i m ys σ H=>m=xs.length - i∧i≤xs.length∧Pv i ys σ H,⟨xs.length,by simp,Nat.zero_le _,h0⟩,?_⟩;rintro i m ys σ H ⟨rfl,hi,p⟩;have q:=hl i ys σ H hi p
 by_cases hlt:i < xs.length
 ·refine .inr ⟨⟨xs,xs[i],q,by simp [hlt]⟩,fun x H' y=>?_⟩;obtain ⟨e,y⟩:=y;subst e;exact hs i x ys σ _ _ (y xs q) p fun ys' σ' H' q=>⟨_,by lia,rfl,hlt,q⟩
 ·have e:i=xs.length:=by lia
  subst e;exact .inl ⟨⟨xs,q,Nat.le_refl _⟩,hd ys σ H p⟩
theorem pe_gint {X:Cx} {x:Str} {i:Int} {t:Tok} {pos:Pos} (hg:Gl X x) (hm:X.mg x=some (.int i t)) (hd:(x == ("__debug__" : Str))=false:=by decide):PE X (.Name x pos) (tC (.int i)):=lZ hg hm ⟨_,rfl⟩ hd
theorem pe_gstr {X:Cx} {x z:Str} {t:Tok} {pos:Pos} (hg:Gl X x) (hm:X.mg x=some (.str z t)) (hd:(x == ("__debug__" : Str))=false:=by decide):PE X (.Name x pos) (tC (.str z)):=lZ hg hm ⟨_,rfl⟩ hd
theorem aU {X:Cx} {x:Str} {n:String} {pos:Pos} (hg:Gl X x) (hm:X.mg x=none) (hv:bootBuiltins x=some (.type n)) (hn:x≠ "__name__" :=by decide) (hd:(x == ("__debug__" : Str))=false:=by decide):PE X (.Name x pos) (tC (.ty n)):=p7 hg hm hv rfl hn hd
structure Gn (K:PySem.W.Frag) (mg:Str→Option Value) (x:Str) (st:Stmt) (ps:List Str) (f:Addr) (fd:FuncData):Prop where
 F:Fun K x x st f fd
 b:Binds K fd ps []
 m:mg x=some (.ref f)
inductive Dt where
 | non | bl (b:Bool) | int (i:Int) | str (z:Str) | tup (l:List Dt)
mutual
inductive IsD (K:PySem.W.Frag) (H:Hp):Dt→V→Prop
 | non:IsD K H .non .non
 | bl {b}:IsD K H (.bl b) (.bl b)
 | int {i}:IsD K H (.int i) (.int i)
 | str {z}:IsD K H (.str z) (.str z)
 | tup {l:List Dt} {a:Addr} {xs:List V}:SqT K H a xs→IsDs K H l xs→IsD K H (.tup l) (.ref a)
inductive IsDs (K:PySem.W.Frag) (H:Hp):List Dt→List V→Prop
 | nil:IsDs K H [] []
 | cons {d:Dt} {l:List Dt} {x:V} {xs:List V}:IsD K H d x→IsDs K H l xs→IsDs K H (d :: l) (x :: xs)
end
mutual
def Dt.dep:Dt→Nat
 | .tup l=>lp l+1
 | _=>0
def lp:List Dt→Nat
 | []=>0
 | d :: l=>max d.dep (lp l)
end
mutual
def eqD:Dt→Dt→Bool
 | .non,.non=>true
 | .bl a,.bl b=>a == b
 | .bl a,.int i=>(if a then 1 else 0) == i
 | .int i,.bl a=>i == (if a then 1 else 0)
 | .int i,.int j=>i == j
 | .str x,.str y=>x == y
 | .tup l,.tup m=>eY l m
 | _,_=>false
def eY:List Dt→List Dt→Bool
 | [],[]=>true
 | d :: l,e :: m=>eqD d e && eY l m
 | _,_=>false
end
mutual
def Dt.plain:Dt→Bool
 | .bl _=>false
 | .tup l=>fC l
 | _=>true
def fC:List Dt→Bool
 | []=>true
 | d :: l=>d.plain && fC l
end
mutual
theorem bv:∀ d:Dt,eqD d d=true
 | .non=>rfl
 | .bl a=>by simp [eqD]
 | .int i=>by simp [eqD]
 | .str z=>by simp [eqD]
 | .tup l=>by simp only [eqD];exact gZ l
theorem gZ:∀ l:List Dt,eY l l=true
 | []=>rfl
 | d :: l=>by simp only [eY,bv d,gZ l,Bool.and_self]
end
mutual
theorem wt:∀ d e:Dt,d.plain=true→e.plain=true→eqD d e=true→d=e
 | .non,e,_,_,h=>by cases e <;> simp_all [eqD]
 | .bl _,_,h,_,_=>by simp [Dt.plain] at h
 | .int i,e,_,he,h=>by cases e <;> simp_all [eqD,Dt.plain]
 | .str z,e,_,_,h=>by cases e <;> simp_all [eqD]
 | .tup l,e,hd,he,h=>by
  cases e with
  | tup m=>rw [ma l m (by simpa [Dt.plain] using hd) (by simpa [Dt.plain] using he) (by simpa [eqD] using h)]
  | _=>simp [eqD] at h
theorem ma:∀ l m:List Dt,fC l=true→fC m=true→eY l m=true→l=m
 | [],[],_,_,_=>rfl
 | [],_ :: _,_,_,h=>by simp [eY] at h
 | _ :: _,[],_,_,h=>by simp [eY] at h
 | d :: l,e :: m,hl,hm,h=>by
  simp only [fC,Bool.and_eq_true] at hl hm;simp only [eY,Bool.and_eq_true] at h;rw [wt d e hl.1 hm.1 h.1,ma l m hl.2 hm.2 h.2]
end
section
variable {K:PySem.W.Frag} {H H':Hp}
mutual
theorem IsD.same (g:Same H H'):∀ {d:Dt} {v:V},IsD K H d v→IsD K H' d v
 | _,_,.non=>.non
 | _,_,.bl=>.bl
 | _,_,.int=>.int
 | _,_,.str=>.str
 | _,_,.tup h r=>.tup (g.tup h) (IsDs.same g r)
theorem IsDs.same (g:Same H H'):∀ {l:List Dt} {xs:List V},IsDs K H l xs→IsDs K H' l xs
 | _,_,.nil=>.nil
 | _,_,.cons h r=>.cons (IsD.same g h) (IsDs.same g r)
end
theorem oA {a r:Addr} {xs ys:List V} (hr:H r=some (.lst ys)) (h:SqT K H a xs):a≠r∨∀ H'',SqT K H'' a xs:=by
 rcases h with (h | ⟨o,h⟩) | h
 ·exact .inl (cX h hr (by intro z;cases z))
 ·exact .inl (cX h hr (by intro z;cases z))
 ·exact .inr fun _=>.inr h
mutual
theorem IsD.but {r:Addr} {ys:List V} (hr:H r=some (.lst ys)) (g:But r H H'):∀ {d:Dt} {v:V},IsD K H d v→IsD K H' d v
 | _,_,.non=>.non
 | _,_,.bl=>.bl
 | _,_,.int=>.int
 | _,_,.str=>.str
 | _,_,.tup h q=>.tup (by
   rcases oA hr h with n | n
   ·exact g.tup n h
   ·exact n _) (IsDs.but hr g q)
theorem IsDs.but {r:Addr} {ys:List V} (hr:H r=some (.lst ys)) (g:But r H H'):∀ {l:List Dt} {xs:List V},IsDs K H l xs→IsDs K H' l xs
 | _,_,.nil=>.nil
 | _,_,.cons h q=>.cons (IsD.but hr g h) (IsDs.but hr g q)
end
theorem IsDs.length {l:List Dt} {xs:List V} (h:IsDs K H l xs):l.length=xs.length:=by
 induction l generalizing xs with
 | nil=>cases h;rfl
 | cons d l ih=>cases h with | cons _ r=>simp [ih r]
theorem IsDs.get {l:List Dt} {xs:List V} (h:IsDs K H l xs) {i:Nat} {d:Dt} (e:l[i]?=some d):∃ x,xs[i]?=some x∧IsD K H d x:=by
 induction l generalizing xs i with
 | nil=>simp at e
 | cons c l ih =>
  cases h with
  | cons h r =>
   cases i with
   | zero=>simp at e;subst e;exact ⟨_,rfl,h⟩
   | succ i=>exact ih r (by simpa using e)
end
section
variable {X:Cx} {pins:List (Addr×Obj)} {σ:St} {H:Hp} {s:Shared}
mutual
theorem IsD.inj (I:Inv X pins σ H s):∀ {d e:Dt} {v:V},IsD X.K H d v→IsD X.K H e v→d=e
 | _,_,_,.non,.non=>rfl
 | _,_,_,.bl,.bl=>rfl
 | _,_,_,.int,.int=>rfl
 | _,_,_,.str,.str=>rfl
 | _,_,_,.tup h r,.tup h' r'=>by
  have e:=I.tuple_inj h h';subst e;rw [IsDs.inj I r r']
theorem IsDs.inj (I:Inv X pins σ H s):∀ {l m:List Dt} {xs:List V},IsDs X.K H l xs→IsDs X.K H m xs→l=m
 | _,_,_,.nil,.nil=>rfl
 | _,_,_,.cons h r,.cons h' r'=>by rw [IsD.inj I h h',IsDs.inj I r r']
end
theorem fD:∀ (l m:List Dt),eY l m=((List.range (min l.length m.length)).all (fun j=>eqD (l.getD j .non) (m.getD j .non)) && l.length == m.length)
 | [],[]=>rfl
 | [],_ :: _=>by simp [eY]
 | _ :: _,[]=>by simp [eY]
 | d :: l,e :: m=>by
  simp only [eY,List.length_cons];rw [fD l m,Nat.succ_min_succ,List.range_succ_eq_map,List.all_cons,List.all_map];have e1:(l.length+1 == m.length+1)=(l.length == m.length):=by
   rw [Bool.eq_iff_iff];simp
  rw [e1,Bool.and_assoc]
  rfl
theorem fE:∀ {l:List Dt} {j:Nat},j < l.length→(l.getD j .non).dep≤lp l
 | [],_,h=>by simp at h
 | d :: l,0,_=>by simp only [List.getD_cons_zero,lp];lia
 | d :: l,j+1,h=>by
  have q:=@fE l j (by simpa using h);simp only [List.getD_cons_succ,lp];lia
theorem Inv.tup' (I:Inv X pins σ H s) {a:Addr} {xs:List V} (h:SqT X.K H a xs):∃ its:List Value,Vals xs its∧s.heap.IsTuple a its.toArray:=by
 obtain ⟨its,r,p,_⟩:=I.tuple h;exact ⟨its,r,p⟩
theorem hG (A:Around):A.in1.units=A.units+1:=by
 first | rfl | simp [Around.in1]
theorem ww (I:Inv X pins σ H s):∀ (n:Nat) (d e:Dt) (x y:V) (u v:Value) (A:Around),d.dep≤n→IsD X.K H d x→IsD X.K H e y→RelV x u→RelV y v→A.units+n < cLine →
  SeqAt.EqAt A s u v (eqD d e)∧SeqAt.RcAt A s u v (eqD d e)∧SeqAt.RcNeAt A s u v (!eqD d e):=by
 intro n
 induction n with
 | zero =>
  intro d e x y u v A hd hx hy rx ry hu;have hu0:A.units < cLine:=by lia
  cases hx with
  | tup h r=>simp [Dt.dep] at hd
  | non =>
   cases rx
   cases hy with
   | non=>cases ry;exact ⟨.same _,.none_none,.none_none⟩
   | bl=>cases ry;exact ⟨.none_bool _,.none_bool _,.none_bool _⟩
   | int=>obtain ⟨t,rfl⟩:=ry;exact ⟨.none_int _ _,.none_int _ _,.none_int _ _⟩
   | str=>obtain ⟨t,rfl⟩:=ry;exact ⟨.none_str _ _,.none_str _ _,.none_str _ _⟩
   | tup h r=>cases ry;obtain ⟨its,_,p⟩:=I.tup' h;exact ⟨.none_tuple p hu0,.none_tuple p hu0,.none_tuple p hu0⟩
  | bl =>
   cases rx
   cases hy with
   | non=>cases ry;exact ⟨.bool_none _,.bool_none _,.bool_none _⟩
   | bl=>cases ry;exact ⟨.bool_bool _ _,.bool_bool _ _,.bool_bool _ _⟩
   | int=>obtain ⟨t,rfl⟩:=ry;exact ⟨.bool_int _ _ _,.bool_int _ _ _,.bool_int _ _ _⟩
   | str=>obtain ⟨t,rfl⟩:=ry;exact ⟨.bool_str _ _ _,.bool_str _ _ _,.bool_str _ _ _⟩
   | tup h r=>cases ry;obtain ⟨its,_,p⟩:=I.tup' h;exact ⟨.bool_tuple _ p hu0,.bool_tuple _ p hu0,.bool_tuple _ p hu0⟩
  | int =>
   obtain ⟨t0,rfl⟩:=rx
   cases hy with
   | non=>cases ry;exact ⟨.int_none _ _,.int_none _ _,.int_none _ _⟩
   | bl=>cases ry;exact ⟨.int_bool _ _ _,.int_bool _ _ _,.int_bool _ _ _⟩
   | int=>obtain ⟨t,rfl⟩:=ry;exact ⟨.int_int _ _ _ _,.int_int _ _ _ _,.int_int _ _ _ _⟩
   | str=>obtain ⟨t,rfl⟩:=ry;exact ⟨.int_str _ _ _ _,.int_str _ _ _ _,.int_str _ _ _ _⟩
   | tup h r=>cases ry;obtain ⟨its,_,p⟩:=I.tup' h;exact ⟨.int_tuple _ _ p hu0,.int_tuple _ _ p hu0,.int_tuple _ _ p hu0⟩
  | str =>
   obtain ⟨t0,rfl⟩:=rx
   cases hy with
   | non=>cases ry;exact ⟨.str_none _ _,.str_none _ _,.str_none _ _⟩
   | bl=>cases ry;exact ⟨.str_bool _ _ _,.str_bool _ _ _,.str_bool _ _ _⟩
   | int=>obtain ⟨t,rfl⟩:=ry;exact ⟨.str_int _ _ _ _,.str_int _ _ _ _,.str_int _ _ _ _⟩
   | str=>obtain ⟨t,rfl⟩:=ry;exact ⟨.str_str _ _ _ _,.str_str _ _ _ _,.str_str _ _ _ _⟩
   | tup h r=>cases ry;obtain ⟨its,_,p⟩:=I.tup' h;exact ⟨.str_tuple _ _ p hu0,.str_tuple _ _ p hu0,.str_tuple _ _ p hu0⟩
 | succ n ih =>
  intro d e x y u v A hd hx hy rx ry hu;have hu0:A.units < cLine:=by lia
  cases hx with
  | tup h r =>
   rename_i l a xs
   cases rx
   cases hy with
   | non=>cases ry;obtain ⟨its,_,p⟩:=I.tup' h;exact ⟨.tuple_none p hu0,.tuple_none p hu0,.tuple_none p hu0⟩
   | bl=>cases ry;obtain ⟨its,_,p⟩:=I.tup' h;exact ⟨.tuple_bool _ p hu0,.tuple_bool _ p hu0,.tuple_bool _ p hu0⟩
   | int=>obtain ⟨t,rfl⟩:=ry;obtain ⟨its,_,p⟩:=I.tup' h;exact ⟨.tuple_int _ _ p hu0,.tuple_int _ _ p hu0,.tuple_int _ _ p hu0⟩
   | str=>obtain ⟨t,rfl⟩:=ry;obtain ⟨its,_,p⟩:=I.tup' h;exact ⟨.tuple_str _ _ p hu0,.tuple_str _ _ p hu0,.tuple_str _ _ p hu0⟩
   | tup h' r' =>
    rename_i m b ys
    cases ry
    obtain ⟨its,q,p⟩:=I.tup' h;obtain ⟨its',q',p'⟩:=I.tup' h';have l1:its.length=l.length:=by rw [← q.length,← r.length]
    have l2:its'.length=m.length:=by rw [← q'.length,← r'.length]
    have he:∀ j (h1:j < its.toArray.size) (h2:j < its'.toArray.size),SeqAt.EqAt A.in1 s its.toArray[j] its'.toArray[j] (eqD (l.getD j .non) (m.getD j .non)):=by
     intro j h1 h2;have j1:j < l.length:=by simpa [l1] using h1
     have j2:j < m.length:=by simpa [l2] using h2
     obtain ⟨x1,ex,dx⟩:=r.get (i:=j) (d:=l.getD j .non) (by simp [List.getD_eq_getElem?_getD,j1]);obtain ⟨y1,ey,dy⟩:=r'.get (i:=j) (d:=m.getD j .non) (by simp [List.getD_eq_getElem?_getD,j2]);obtain ⟨u1,eu,ru⟩:=q.get ex;obtain ⟨v1,ev,rv⟩:=q'.get ey;have e1:its.toArray[j]=u1:=by
      have:its[j]?=some its[j]:=by simp [l1,j1]
      rw [this] at eu
      simpa using Option.some.inj eu
     have e2:its'.toArray[j]=v1:=by
      have:its'[j]?=some its'[j]:=by simp [l2,j2]
      rw [this] at ev
      simpa using Option.some.inj ev
     rw [e1,e2];have hdl:lp l≤n:=by simp only [Dt.dep] at hd;lia
     exact (ih _ _ _ _ _ _ A.in1 (Nat.le_trans (fE j1) hdl) dx dy ru rv (by rw [hG];lia)).1
    have ev:eqD (.tup l) (.tup m)=((List.range (min its.toArray.size its'.toArray.size)).all (fun j=>eqD (l.getD j .non) (m.getD j .non)) && its.toArray.size == its'.toArray.size):=by
     simp only [eqD,List.size_toArray,l1,l2];exact fD l m
    rw [ev];refine ⟨?_,SeqAt.RcAt.tuples p p' hu0 he,SeqAt.RcNeAt.tuples p p' hu0 he⟩
    by_cases hab:a=b
    ·subst hab;have e3:=I.tuple_inj h h';subst e3;have e4:=IsDs.inj I r r';subst e4;rw [← ev,bv];exact .same _
    ·exact .of_refs hab (SeqAt.RcAt.tuples p p' hu0 he)
  | non=>exact ih _ _ _ _ _ _ A (by simp [Dt.dep]) .non hy rx ry (by lia)
  | bl=>exact ih _ _ _ _ _ _ A (by simp [Dt.dep]) .bl hy rx ry (by lia)
  | int=>exact ih _ _ _ _ _ _ A (by simp [Dt.dep]) .int hy rx ry (by lia)
  | str=>exact ih _ _ _ _ _ _ A (by simp [Dt.dep]) .str hy rx ry (by lia)
def C9 (K:PySem.W.Frag):R2:=fun x y H Q=>∃ d e,IsD K H d x∧IsD K H e y∧d.dep≤60∧Q (.bl (eqD d e)) H
def Da (K:PySem.W.Frag):R2:=fun x y H Q=>∃ d e,IsD K H d x∧IsD K H e y∧d.dep≤60∧Q (.bl (!eqD d e)) H
theorem wx (hu:X.A.units+64 < cLine):OpR X (compareOp .Eq) (C9 X.K):=by
 intro pins s σ H x y v u Q I rx ry h;obtain ⟨d,e,hd,he,hn,q⟩:=h;exact (ww I 60 d e x y v u X.A hn hd he rx ry (by lia)).2.1 _ _ _ _ ⟨.bl _,H,I,rfl,q⟩
theorem wy (hu:X.A.units+64 < cLine):OpR X (compareOp .NotEq) (Da X.K):=by
 intro pins s σ H x y v u Q I rx ry h;obtain ⟨d,e,hd,he,hn,q⟩:=h;exact (ww I 60 d e x y v u X.A hn hd he rx ry (by lia)).2.2 _ _ _ _ ⟨.bl _,H,I,rfl,q⟩
end
end L2
namespace PySem.W
open PySem PySem.Spec PyProof.Rows PySem.Calls
structure ExcK (K:Frag) (C:Addr):Prop where
 ga:findIn K (.ref C) "__getattribute__" = some (some (.builtin "BaseException.__getattribute__"))
 gt:findIn K (.ref C) "__getattr__" = some none
 cl:findIn K (.ref C) "__class__" = some (some (.builtin "object.__class__"))
 sb:mroIn K C (.type "BaseException")=some true
 so:mroIn K C (.type "object")=some true
 cd:∃ c,clsIn K C=some c
section
variable {prog:Program} {w:World} {A:Around} {E:Value→Shared→Prop} {h:Heap} {g:Array GenState} {d:Drawn} {t:Nat} {os:OsState} {a C:Addr} {o:Obj} {K:Frag}
end
end PySem.W
namespace L2
open PySem PySem.Spec PyProof.Rows
abbrev bmV:List Value:=[.type "ValueError",.type "Exception",.type "BaseException",.type "object"]
structure ExC (K:PySem.W.Frag) (mg:Str→Option Value) (x:Str) (C:Addr):Prop where
 m:mg x=some (.ref C)
 q:PySem.W.excIn K C bmV "ValueError.__new__" = true
 k:PySem.W.ExcK K C
 kp:PySem.W.keepIn K (.ref C)=true
theorem ql {K:PySem.W.Frag} {h:Heap} {C:Addr} {bmB:List Value} {newId:String} (X:K.In h) (q:PySem.W.excIn K C bmB newId=true) :
  ∃ bm N nm qn bs hd sn sub ab col dd k0 k1 k2 k3 k5 mN,h.get? C=some (excClassObj nm qn C N bs bm hd sn sub ab col dd k0 k1 k2 k3 k5 newId)∧h.Ns N mN∧mN "__init__" = none∧OwnTail h bmB bm:=by
 unfold PySem.W.excIn at q
 split at q
 case h_2=>cases q
 case h_1 dd cd sl ho =>
  split at q
  case h_2=>cases q
  case h_1 C' bm k0 k1 k2 k3 n k5 hm hs =>
   simp only [Bool.and_eq_true,beq_iff_eq,Bool.not_eq_true'] at q;obtain ⟨⟨⟨⟨⟨q1,q2⟩,q3⟩,q4⟩,q5⟩,q6⟩:=q;subst q1 q2;obtain ⟨nm,bs,mro,ns,qn,hd,sn,sub,ab,col,del⟩:=cd;dsimp only at hm q3 q5 q6;subst hm q3;obtain ⟨l⟩:=sl;dsimp only at hs;subst hs;exact ⟨bm,ns,nm,qn,bs,hd,sn,sub,ab,col,dd,k0,k1,k2,k3,k5,_,X _ _ ho,.of_isNs (PySem.W.isNs_of_in X q5),PySem.W.nsMap_none_of_in X q5 q6,PySem.W.tail_of_in X q4⟩
section
variable {X:Cx} {pins:List (Addr×Obj)} {σ:St} {H:Hp} {s:Shared}
end
def CXE (P:Program) (w:World):CXT:=fun outer H s E e s'=>∃ (ea C:Addr) (a0:Value) (B:Heap) (H':Hp),e=.ref ea∧Heap.FlyingW B outer ea (.ref C) a0 s'.heap∧s'.os=s.os∧AllBare s'.gens∧Un (frs outer) [] H H' s.heap s'.heap∧HOk P w H' B ∧
 (∀ b o,s.heap.get? b=some o→H b=none→b∉frs outer→B.get? b=some o)∧(∀ b o,s.heap.get? b=some o→b∉frs outer→∃ o',B.get? b=some o')∧E (.ref C) none H'
theorem wz {fs:List Addr} {H H1:Hp} {h h1 h' B:Heap} (u:Un fs [] H H1 h h1) (c1:∀ b o,h.get? b=some o→H b=none→b∉fs→B.get? b=some o) (c2:∀ b o,h.get? b=some o→b∉fs→∃ o',B.get? b=some o')
  (st:B.StaysIn h') (c3:∀ b o,h.get? b=some o→b∈fs→∃ sl,h'.get? b=some { o with slots:=sl }):Un fs [] H H1 h h' where
 keep:=fun b o q n hb _=>st b o (c1 b o q n hb)
 slot:=fun b o q n hb _=>c3 b o q hb
 free:=u.free
 there:=fun b o q hx=>by
  by_cases hb:b∈fs
  ·obtain ⟨sl,e⟩:=c3 b o q hb;exact ⟨_,e⟩
  ·obtain ⟨o',e⟩:=c2 b o q hb;exact ⟨o',st b o' e⟩
 tups:=u.tups
 frzs:=u.frzs
 tbls:=u.tbls
def wA (X:Cx) (E:XK):Prop:=X.xe=fun e s'=>wpAny (model X.prog X.w) X.A (leaving X.env e) (fun _ s''=>CXE X.prog X.w X.outer X.H₀ X.s₀ E e s'') (fun e' s''=>CXE X.prog X.w X.outer X.H₀ X.s₀ E e' s'') s'
section
variable {X:Cx} {pins:List (Addr×Obj)} {σ:St} {H:Hp} {s:Shared}
theorem oB {base h:Heap} {l:List Env} {b:Addr} (f:h.FunFrames base l) (hb:b∈frs l):∃ o,h.get? b=some o∧∀ vs,o.data≠.fields vs:=by
 obtain ⟨_,o,ho,hn⟩:=f.mem hb;exact ⟨o,ho,hn⟩
theorem oC {E:XK} {C:Addr} {ea:Addr} {vs:List Value} {h':Heap} {tk:Nat} (hx:wA X E) (hstk:X.stack=X.env :: X.outer) (hfr:X.env.frame=some X.env.locals) (hex:X.ex=[]) (I:Inv X pins σ H s) (hm:Heap.MadeExcOf s.heap h' ea (.ref C) vs)
  (q:E (.ref C) none H):X.xe (.ref ea) { s with heap:=h',toks:=tk }:=by
 rw [hx];have F0:s.heap.FunFrames X.base (X.env :: X.outer):=by rw [← hstk];exact I.stack
 have fr0:X.A.frames=some (X.env :: X.outer):=by rw [← hstk];exact I.ok.frames
 have mem:∀ b∈frs X.outer,b∈frs (X.env :: X.outer):=fun b hb=>by
  obtain ⟨env,he,hf⟩:=List.mem_filterMap.mp hb;exact List.mem_filterMap.mpr ⟨env,List.mem_cons_of_mem _ he,hf⟩
 have inv:∀ b,b∈frs (X.env :: X.outer)→b=X.env.locals∨b∈frs X.outer:=fun b hb=>by
  obtain ⟨env,he,hf⟩:=List.mem_filterMap.mp hb;rcases List.mem_cons.mp he with rfl | he
  ·rw [hfr] at hf;exact .inl (Option.some.inj hf).symm
  ·exact .inr (List.mem_filterMap.mpr ⟨env,he,hf⟩)
 have hin:∀ env∈(X.env :: X.outer),∀ b,env.frame=some b→b∈frs (X.env :: X.outer):=fun env he b hb=>List.mem_filterMap.mpr ⟨env,he,hb⟩;have stayB:∀ b o,s.heap.get? b=some o→b∉frs (X.env :: X.outer)→(PySem.W.hideAll s.heap (frs (X.env :: X.outer))).get? b=some o:=fun b o e n=>PySem.W.hideAll_get _ e n;have old:∀ b o,X.s₀.heap.get? b=some o→b∉frs X.outer→b∉frs (X.env :: X.outer):=fun b o e n z=>by
  rcases inv b z with rfl | z
  ·exact absurd (Nat.lt_of_lt_of_le (Heap.lt_size e) I.ok.above) (Nat.lt_irrefl _)
  ·exact n z
 refine wpAny_leaves_madeW (s:={ s with heap:=h',toks:=tk }) fr0 hfr (fun b o e=>PySem.W.of_hideAll _ e) (PySem.W.funFrames_hide F0 hin) hm fun h2 t fl _ _ up=>?_;have B0:Un X.fs [] X.H₀ H X.s₀.heap s.heap:=by have z:=I.base;rw [hex] at z;exact z
 have c1:∀ b o,X.s₀.heap.get? b=some o→X.H₀ b=none→b∉frs X.outer→(PySem.W.hideAll s.heap (frs (X.env :: X.outer))).get? b=some o:=fun b o e n hb=>stayB b o (B0.keep b o e n hb (by simp)) (old b o e hb);have c2:∀ b o,X.s₀.heap.get? b=some o→b∉frs X.outer→∃ o',(PySem.W.hideAll s.heap (frs (X.env :: X.outer))).get? b=some o':=fun b o e hb=>by
  obtain ⟨o',e'⟩:=B0.there b o e (by simp);exact ⟨o',stayB b o' e' (old b o e hb)⟩
 refine ⟨ea,C,_,_,H,rfl,fl,I.os,I.bare,wz B0 c1 c2 fl.1 fun b o e hb=>?_,fun b u e=>?_,c1,c2,q⟩
 ·obtain ⟨sl,e1⟩:=B0.slot b o e (I.ok.frf b hb) hb (by simp);obtain ⟨o2,e2,nf⟩:=oB F0 (mem b hb);rw [e1] at e2;obtain rfl:=Option.some.inj e2;obtain ⟨sl2,e3⟩:=up b _ (hm.keeps b _ e1) nf;exact ⟨sl2,e3⟩
 ·refine (I.hok b u e).stay (fun c v hc z=>stayB c v z fun hf=>?_) (fun _ z=>z) fun _ _ z=>z;have n0:H c=none:=by rw [← hstk] at hf;exact I.stkFree c hf
  rcases hc with rfl | hc
  ·rw [e] at n0;cases n0
  ·rw [hc] at n0;cases n0
def wB (C:Addr) (E:XK) (t:TA):TS:=fun _ σ H=>t σ H fun xs H1=>xs.length≤sizeLine∧E (.ref C) none H1
theorem ps_raise {E:XK} {x:Str} {C:Addr} {e:Expr} {es:List Expr} {t:TA} {np cpos pos:Pos} (hx:wA X E) (hstk:X.stack=X.env :: X.outer) (hfr:X.env.frame=some X.env.locals) (hex:X.ex=[]) (hc:X.calm=true) (G:ExC X.K X.mg x C) (hg:Gl X x) (ha:PA X (e :: es) t)
  (hdb:(x == ("__debug__" : Str))=false:=by decide) (he:starEach (e :: es) X.env=(false,eval e X.env) :: starEach es X.env:=by rfl) (hpl:(backTo cpos (starEach es X.env)).any (·.1)=false:=by rfl) :
  PS X (.Raise (some (.Call (.Name x np) (e :: es) [] cpos)) none pos) (wB C E t):=by
 intro pins s σ H D I h;obtain ⟨bm,N,nm,qn,bs,hd,sn,sub,ab,col,dd,k0,k1,k2,k3,k5,mN,hC,hN,hni,T⟩:=ql I.ok.mod.kin G.q;refine wpAny_Raise_call_subT (C:=C) (nm:=nm) (q:=qn) (N:=N) (bs:=bs) (bm:=bm) (hdct:=hd) (sn:=sn) (sub:=sub) (ab:=ab) (col:=col) (dd:=dd) (k0:=k0) (k1:=k1) (k2:=k2) (k3:=k3) (k5:=k5) F.excBase_ValueError (mN:=mN) (T.hasType F.excBase_ValueError.hasBase) (I.ok.hd hc)
  (by rw [he];show (false || (backTo cpos (starEach es X.env)).any (·.1))=false;rw [hpl];rfl) hni (dA I hg G.m ⟨rfl,?_⟩ hdb)
 have z:=ha cpos pins s σ H _ I h;rw [he] at z ⊢;refine Calls.evalArgs_plain (wpAny_mono z (fun us s2 ⟨vs,H2,I2,r,hz,q⟩=>?_) fun _ _ y=>y);refine ⟨rfl,by show us.length≤sizeLine;rw [← r.length];exact hz,I2.bk _ _ hC,hN.keeps I2.bk,T.keeps I2.bk,fun h' ea hm=>?_⟩;exact oC (tk:=s2.toks) hx hstk hfr hex I2 hm q
end
theorem Fun.okE {P:Program} {w:World} {K:PySem.W.Frag} {mg:Str→Option Value} {base:Heap} {x qual:Str} {st:Stmt} {f:Addr} {fd:FuncData} {N ps:List Str} {k:Nat} {sp:Sp} (F:Fun K x qual st f fd) (S:FnScope N ps (aa st)) (len:∀ vs H Q E,sp vs H Q E→vs.length=ps.length)
  (hbody:∀ (cdv:Value) (A:Around) (outer:List Env) (s:Shared) (H:Hp) (vs:List V) (Q:VK) (E:XK),Room k (A.deeper (envOfC qual (aa st) s.heap.objs.size f cdv))→sp vs H Q E →
   ∃ t,PSs (jJ (CXE P w) P w K mg base N qual (aa st) f cdv A outer s H E) (bc st) t∧t { nx:=fun _ H'=>Q .non H',rt:=Q } (dC N vs) H):FnOk P w K mg base (CXE P w) (k+1) f fd ps sp:=by
 obtain ⟨oc,od,kV,doc,pm,an,cdv,ct,osl,rfl,lk,hcd⟩:=F.ex;exact rm lk hcd S len fun A outer s H vs Q E hr hsp=>hbody cdv A outer s H vs Q E hr hsp
theorem xeOf {P:Program} {w:World} {K:PySem.W.Frag} {mg:Str→Option Value} {base:Heap} {N:List Str} {qual:Str} {scope:Scope} {f:Addr} {cd:Value} {A:Around} {outer:List Env} {s:Shared} {H:Hp} {E:XK} :
  wA (jJ (CXE P w) P w K mg base N qual scope f cd A outer s H E) E:=rfl
section
variable {X:Cx} {pins:List (Addr×Obj)} {σ:St} {H:Hp} {s:Shared}
end
section
variable {X:Cx} {a b c d:Expr} {ta tb tc td:TE} {pos:Pos}
def qm (r r' r'':R2) (ta tb tc td:TE):TE:=fun σ H Q=>ta σ H fun x H1=>tb σ H1 fun y H2=>r x y H2 fun z H3=>∃ k,z=.bl k ∧
 (if k=true then tc σ H3 fun y' H4=>r' y y' H4 fun z' H5=>∃ k',z'=.bl k'∧(if k'=true then td σ H5 fun w' H6=>r'' y' w' H6 Q else Q (.bl false) H5) else Q (.bl false) H3)
theorem pe_chain3 {op op' op'':CmpOp} {r r' r'':R2} (ho:OpR X (compareOp op) r) (ho':OpR X (compareOp op') r') (ho'':OpR X (compareOp op'') r'') (ha:PE X a ta) (hb:PE X b tb) (hc:PE X c tc) (hd:PE X d td)
  (hm:lastMarks [op,op',op''] [b,c,d]=false:=by with_unfolding_all rfl):PE X (.Compare a [op,op',op''] [b,c,d] pos) (qm r r' r'' ta tb tc td):=by
 intro pins s σ H Q I h;refine Compare_chain (thn (ha pins s σ H _ I h) fun v s1 ⟨x,H1,I1,r1,q1⟩=>chain_link (thn (hb pins s1 σ H1 _ I1 q1) fun u s2 ⟨y,H2,I2,r2,q2⟩ =>
  thn (ho pins s2 σ H2 x y v u _ I2 r1 r2 q2) fun d' s3 ⟨z,H3,I3,r3,k,e,q3⟩=>?_)) hm
 subst e
 cases r3
 refine wpAny_truthy_bool ?_
 cases k with
 | false=>exact ite_ff ⟨.bl false,H3,I3,rfl,q3⟩
 | true =>
  refine ite_tt (chain_link (thn (hc pins s3 σ H3 _ I3 q3) fun w' s4 ⟨z',H4,I4,r4,q4⟩=>thn (ho' pins s4 σ H4 y z' u w' _ I4 r2 r4 q4) fun d2 s5 ⟨z2,H5,I5,r5,k2,e2,q5⟩=>?_));subst e2
  cases r5
  refine wpAny_truthy_bool ?_
  cases k2 with
  | false=>exact ite_ff ⟨.bl false,H5,I5,rfl,q5⟩
  | true=>exact ite_tt (chain_last (thn (hd pins s5 σ H5 _ I5 q5) fun w2 s6 ⟨z3,H6,I6,r6,q6⟩=>ho'' pins s6 σ H6 z' z3 w' w2 Q I6 r4 r6 q6))
end
def gh (D:List (Str×Int)):List (Str×KTD.Dat):=D.map fun p=>(p.1,.flat (.int p.2))
def jV (K:PySem.W.Frag) (a:Addr) (D:List (Str×Int)):Prop:=∀ h,K.In h→KTD.TextTab h a (gh D)
theorem oD {K:PySem.W.Frag} {a:Addr} {D:List (Str×Int)} (e:KTD.tabLook (KTD.datLooks fun b=>K.lookup b) (fun b=>K.lookup b) a (gh D)=true):jV K a D:=fun h X=>KTD.text_of_look (fun b o q=>X b o q) e
def bh (k:Str):List (Str×Int)→V
 | []=>.non
 | (x,i) :: D=>if k=x then .int i else bh k D
theorem hJ {k:Str}:∀ {D:List (Str×Int)} {d:KTD.Dat},KTD.datumAt k (gh D)=some d→∃ i,d=.flat (.int i)∧bh k D=.int i
 | [],_,h=>by simp [gh,KTD.datumAt] at h
 | (x,i) :: D,d,h=>by
  simp only [gh,List.map_cons,KTD.datumAt,decide_eq_true_eq] at h
  by_cases hk:k=x
  ·rw [if_pos hk] at h;exact ⟨i,(Option.some.inj h).symm,by simp [bh,hk]⟩
  ·rw [if_neg hk] at h;obtain ⟨j,e1,e2⟩:=hJ (D:=D) h;exact ⟨j,e1,by simp [bh,hk,e2]⟩
theorem hV {k:Str}:∀ {D:List (Str×Int)},KTD.datumAt k (gh D)=none→bh k D=.non
 | [],_=>rfl
 | (x,i) :: D,h=>by
  simp only [gh,List.map_cons,KTD.datumAt,decide_eq_true_eq] at h
  by_cases hk:k=x
  ·rw [if_pos hk] at h;cases h
  ·rw [if_neg hk] at h;simp [bh,hk,hV (D:=D) h]
section
variable {X:Cx}
def Db (D:List (Str×Int)) (t:TA):TE:=fun σ H Q=>t σ H fun vs H1=>∃ k,vs=[.str k]∧Q (bh k D) H1
theorem pe_kget {x:Str} {ad:Addr} {D:List (Str×Int)} {e:Expr} {t:TA} {p apos cpos:Pos} (hD:jV X.K ad D) (hg:Gl X x) (hm:X.mg x=some (.ref ad)) (ha:PA X [e] t) (hdb:(x == ("__debug__" : Str))=false:=by decide)
  (hbase:attributeBase (.Name x p) "get" X.env (eval (.Name x p) X.env)=eval (.Name x p) X.env:=by rfl)
  (hfew:((backTo cpos (starEach [e] X.env)).all (fun x=>!x.1) && (backToKw cpos (keywordEach [] X.env)).all (fun x=>x.1.isSome)
   && decide (([e]:List Expr).length+([]:List Keyword).length+(if ([]:List Keyword).isEmpty then 0 else 1) < 30))=true:=by rfl)
  (hline:(apos.endLine == cpos.line)=true:=by rfl) (hs:starEach [e] X.env=(false,eval e X.env) :: starEach [] X.env:=by rfl) :
  PE X (.Call (.Attribute (.Name x p) "get" apos) [e] [] cpos) (Db D t):=by
 intro pins s σ H Q I h;refine wpAny_Call_method_late hbase hfew hline rfl (dA I hg hm ?_ hdb);have T:∀ {s':Shared} {σ':St} {H':Hp} {pins':List (Addr×Obj)},Inv X pins' σ' H' s'→KTD.Here X.base s'.heap ad (gh D):=fun J=>⟨hD _ J.ok.mod.kin,J.bk⟩;refine ⟨"dict","dict.get",PySem.F.plainAttrs_dict,PySem.F.slot_dict_get,PySem.F.type_dict_get,(T I).typeIs,(T I).noDict,?_⟩;have hA:=ha cpos pins s σ H _ I h;rw [hs] at hA ⊢;refine Calls.callWith_builtin (by rfl) (Calls.evalArgs_plain ?_);refine thn hA fun us s2 ⟨vs,H2,I2,r2,k,e2,q2⟩=>?_;subst e2;obtain ⟨u,rfl,ru⟩:=bX r2;obtain ⟨tk,rfl⟩:=ru;refine call_meetsIn PySem.F.slot_dict_get (T I2).typeIs PySem.F.entry_dict_get (PySem.F.args_dict_get_2 _ _) (KTD.meets_get1 (h₀:=X.base) (D:=gh D)) ⟨T I2,fun dd v hdd hv=>?_,fun hn=>?_⟩
 ·obtain ⟨i,rfl,el⟩:=hJ hdd;have hv':Reads s2.heap v (.int i) []:=hv s2.heap;obtain ⟨t0,rfl⟩:∃ t0,v=.int i t0:=by cases hv';exact ⟨_,rfl⟩
  rw [el] at q2;exact ⟨.int i,H2,I2.tok _,⟨_,rfl⟩,q2⟩
 ·rw [hV hn] at q2;exact ⟨.non,H2,I2.tok _,rfl,q2⟩
end
theorem csR {X:Cx} {scope sc:Scope} {NL N N':List Str} {ρ:List Nat} (hsc:X.env.scope=sc) (hN:X.N=N) (h1:scope.kind=.function) (h2:(scope.names.all fun x=>x.2 != .cell)=true) (h3:∀ x∈scope.names,x.2=.local→scope.names.lookup x.1=some .local)
  (h4:(scope.names.all fun x=>x.2 != .free || sc.names.lookup x.1 == some .cell)=true) (h5:N'=NL++ρ.map fun j=>N.getD j "")
  (h6:(ρ.all fun j=>match N[j]? with | some x=>scope.names.lookup x == some .free && sc.names.lookup x == some .cell | none=>false)=true):CScope X scope NL ρ N':=by
 rw [List.all_eq_true] at h2 h4 h6;refine ⟨h1,fun x hx e=>?_,h3,fun x hx e=>.inl ?_,by rw [hN];exact h5,fun j hj=>?_⟩
 ·have:=h2 x hx;rw [e] at this;exact absurd this (by decide)
 ·have z:=h4 x hx;rw [e] at z;have z2:(sc.names.lookup x.1 == some NameKind.cell)=true:=by simpa using z
  show X.env.scope.names.lookup x.1=some .cell;rw [hsc];exact beq_iff_eq.mp z2
 ·have z:=h6 j hj
  cases q:N[j]? with
  | none=>rw [q] at z;cases z
  | some x =>
   rw [q] at z;simp only [Bool.and_eq_true,beq_iff_eq] at z;exact ⟨x,by rw [hN];exact q,z.1,.inl (by rw [hsc];exact z.2)⟩
structure RoomH (k:Nat) (A:Around):Prop where
 dp:A.depth+3*k+5 < recursionLimit
 un:A.units+16*k+200 < cLine
structure FnOkH (P:Program) (w:World) (K:PySem.W.Frag) (mg:Str→Option Value) (base:Heap) (k:Nat) (f:Addr) (fd:FuncData) (ps:List Str) (sp:Sp):Prop where
 len:∀ vs H Q E,sp vs H Q E→vs.length=ps.length
 run:∀ (A:Around) (outer:List Env) (s:Shared) (H:Hp) (args:Args) (us:List Value) (vs:List V) (Q:VK) (E:XK),RoomH k A→Env0 P w K mg base A outer s H→BindsTo s fd args (ps.zip us)→Vals vs us→sp vs H Q E →
  codeAny (model P w) A (.call (.ref f) args) (CR CX0 outer P w H s Q E) s
section
variable {X:Cx}
end
end L2
namespace HT
open PySem PySem.Spec PyProof.Rows
section
variable {prog:Program} {w:World} {A:Around} {E:Value→Shared→Prop} {s:Shared}
theorem getItem_tuple_all {t sl:Addr} {items:Array Value} {vl vu:Value} {lo hi:Option Int} {Q:Value→Shared→Prop} (ht:IsTup s.heap t items) (hs:s.heap.IsSliceOf sl vl vu .none) (pl:IsPart vl lo) (pu:IsPart vu hi)
  (h1:sIx items.size 0 lo=0) (h2:sIx items.size items.size hi=items.size) (h:Q (.ref t) s):wpAny (model prog w) A (getItem (.ref t) (.ref sl)) Q E s:=by
 obtain ⟨os,hos,hcs,hds⟩:=id hs;have hTs:s.TypeIs (.ref sl) "slice" :=⟨os,hos,hcs⟩;unfold getItem
 try with_reducible refine wpAny_holding ?_
 first | refine wpAny_bind (wpAny_pure ?_) | skip
 refine wpAny_bind (wpAny_sequenceKey ht.typeIs (by decide) ?_);refine wpAny_bind (wpAny_callSpecial?_slot (name:=Str.ofString "__getitem__") ht.typeIs PyProof.Rows.slot_tuple_getitem (wpAny_call_entry PyProof.Rows.slot_tuple_getitem ht.typeIs entry_tuple_getitem ?_ (args_tuple_getitem _ _)));show wpAny _ _ (Builtin.Tuple.tupleItemsOf (.ref t) >>= _) _ _ s;refine wpAny_bind (tupleItemsOf_ ht ?_);refine wpAny_bind (wpAny_typeOf hTs ?_);rw [if_pos (by decide)];refine wpAny_bind (bY hs pl pu ?_);have hyes:(((sIx items.size 0 lo:Nat):Int) == 0 && (1:Int) == 1 && (sIx items.size items.size hi - sIx items.size 0 lo) == items.size)=true:=by
  rw [h1,h2];simp
 show wpAny _ _ (if (((sIx items.size 0 lo:Nat):Int) == 0 && (1:Int) == 1 && (sIx items.size items.size hi - sIx items.size 0 lo) == items.size)=true then _ else _) _ _ s;rw [if_pos hyes];refine wpAny_bind (m:=Builtin.Tuple.tupleIsExact _) (wpAny_bind (wpAny_typeOf ht.typeIs ?_));refine wpAny_pure ?_;rw [if_pos (by decide)];exact wpAny_bind (wpAny_rule (wpAny_pure ⟨_,rfl,wpAny_pure h⟩))
end
end HT
namespace L2
open PySem PySem.Spec PyProof.Rows
section
variable {X:Cx}
theorem IsD.unref {K:PySem.W.Frag} {H:Hp} {l:List Dt} {v:V} (h:IsD K H (.tup l) v):∃ a xs,v=.ref a∧SqT K H a xs∧IsDs K H l xs:=by
 cases h with
 | tup h r=>exact ⟨_,_,rfl,h,r⟩
def m8 (l:List Dt) (lo hi:Option Int):List Dt:=(l.drop (HT.sIx l.length 0 lo)).take (HT.sIx l.length l.length hi - HT.sIx l.length 0 lo)
theorem m9:aG X (.builtin "len") (fun xs H Q=>∃ x l,xs=[x]∧IsD X.K H (.tup l) x∧Q (.int l.length) H):=by
 intro pins s σ H xs us Q I r h;obtain ⟨x,l,rfl,dx,q⟩:=h;obtain ⟨a,ys,rfl,hx,ra⟩:=dx.unref;exact dH pins s σ H [.ref a] us Q I r ⟨a,ys,rfl,.inr hx,by rw [← ra.length];exact q⟩
end
end L2
namespace PySem
open Sem (wp)
section
variable {M:Model} {A:Around} {E:Value→Shared→Prop} {s:Shared}
end
end PySem
namespace L2
open PySem PySem.Spec PyProof.Rows
section
variable {X:Cx} {E:XK}
variable {pins:List (Addr×Obj)} {σ:St} {H:Hp} {s:Shared}
end
section
variable {κ:Type} [DecidableEq κ]
def aI (kvs:List (κ×V)) (k:κ):Option V:=(kvs.find? fun kv=>decide (kv.1=k)).map (·.2)
def ca (kvs:List (κ×V)) (k:κ) (v:V):List (κ×V) :=
 if (kvs.any fun kv=>decide (kv.1=k))=true then kvs.map (fun kv=>if kv.1=k then (kv.1,v) else kv) else kvs++[(k,v)]
theorem aJ {p:κ×V} {r:List (κ×V)} {k:κ} (e:p.1=k):aI (p :: r) k=some p.2:=by simp [aI,List.find?_cons,e]
theorem aK {p:κ×V} {r:List (κ×V)} {k:κ} (e:¬ p.1=k):aI (p :: r) k=aI r k:=by simp [aI,List.find?_cons,e]
theorem dJ (k:κ):∀ kvs:List (κ×V),(kvs.any fun kv=>decide (kv.1=k))=(aI kvs k).isSome
 | []=>rfl
 | p :: r=>by
  rw [List.any_cons]
  by_cases e:p.1=k
  ·simp only [aJ e,decide_eq_true e,Bool.true_or,Option.isSome_some]
  ·rw [aK e,decide_eq_false e,Bool.false_or];exact dJ k r
theorem jW (k j:κ) (y:V):∀ kvs:List (κ×V),aI (kvs.map fun kv=>if kv.1=k then (kv.1,y) else kv) j=(aI kvs j).map fun x=>if j=k then y else x
 | []=>rfl
 | p :: r=>by
  have ih:=jW k j y r;rw [List.map_cons]
  by_cases h:p.1=k
  ·rw [if_pos h]
   by_cases e:p.1=j
   ·rw [aJ (p:=(p.1,y)) e,aJ e,Option.map_some,if_pos (e.symm.trans h)]
   ·rw [aK (p:=(p.1,y)) e,aK e,ih]
  ·rw [if_neg h]
   by_cases e:p.1=j
   ·rw [aJ (p:=p) e,aJ e,Option.map_some,if_neg (fun z=>h (e.trans z))]
   ·rw [aK (p:=p) e,aK e,ih]
theorem hZ (k j:κ) (y:V):∀ kvs:List (κ×V),aI kvs k=none→aI (kvs++[(k,y)]) j=if j=k then some y else aI kvs j
 | [],_=>by
  by_cases e:k=j
  ·rw [if_pos e.symm];exact aJ (p:=(k,y)) e
  ·rw [if_neg (fun z=>e z.symm)];exact aK (p:=(k,y)) e
 | p :: r,hn=>by
  rw [List.cons_append];have hk:¬ p.1=k:=fun z=>by rw [aJ z] at hn;cases hn
  rw [aK hk] at hn;have ih:=hZ k j y r hn
  by_cases e:p.1=j
  ·rw [aJ e,aJ e,if_neg (fun z=>hk (e.trans z))]
  ·rw [aK e,aK e,ih]
theorem oE (kvs:List (κ×V)) (k j:κ) (y:V):aI (ca kvs k y) j=if j=k then some y else aI kvs j:=by
 unfold ca
 by_cases a:(kvs.any fun kv=>decide (kv.1=k))=true
 ·rw [if_pos a,jW];rw [dJ] at a
  by_cases e:j=k
  ·obtain ⟨x,hx⟩:=Option.isSome_iff_exists.mp a;rw [if_pos e,e,hx,Option.map_some,if_pos rfl]
  ·rw [if_neg e]
   cases aI kvs j with
   | none=>rfl
   | some x=>rw [Option.map_some,if_neg e]
 ·rw [if_neg a];refine hZ k j y kvs ?_;rw [dJ] at a
  cases q:aI kvs k with
  | none=>rfl
  | some x=>rw [q] at a;exact (a rfl).elim
theorem eU (kvs:List (κ×V)) (k:κ) (v:V):(ca kvs k v).length≤kvs.length+1:=by
 unfold ca
 split
 ·rw [List.length_map];lia
 ·rw [List.length_append,List.length_cons,List.length_nil];lia
theorem RelO.isSome_eq {o:Option V} {u:Option Value} (r:RelO o u):o.isSome=u.isSome:=by
 cases o with
 | none=>cases u with
  | none=>rfl
  | some _=>exact (show False from r).elim
 | some _=>cases u with
  | none=>exact (show False from r).elim
  | some _=>rfl
theorem KV.val {kvs:List (κ×V)} {vs:List (κ×Value)} (r:KV kvs vs) (k:κ):RelO (aI kvs k) (valueAt vs k):=by
 unfold KV at r
 induction r with
 | nil=>exact True.intro
 | @cons p q ps qs h t ih =>
  obtain ⟨h1,h2⟩:=h
  by_cases e:p.1=k
  ·have e':q.1=k:=h1.symm.trans e;have b:valueAt (q :: qs) k=some q.2:=by simp [valueAt,List.find?_cons,e']
   rw [aJ e,b];exact h2
  ·have e':¬ q.1=k:=fun z=>e (h1.trans z);have b:valueAt (q :: qs) k=valueAt qs k:=by simp [valueAt,List.find?_cons,e']
   rw [aK e,b];exact ih
theorem KV.any {kvs:List (κ×V)} {vs:List (κ×Value)} (r:KV kvs vs) (k:κ):(kvs.any fun kv=>decide (kv.1=k))=vs.any fun kv=>decide (kv.1=k):=by
 unfold KV at r
 induction r with
 | nil=>rfl
 | cons h t ih=>rw [List.any_cons,List.any_cons,ih,h.1]
theorem KV.repl {kvs:List (κ×V)} {vs:List (κ×Value)} (r:KV kvs vs) (k:κ) {y:V} {u:Value} (ry:RelV y u) :
  KV (kvs.map fun kv=>if kv.1=k then (kv.1,y) else kv) (vs.map fun kv=>if kv.1=k then (kv.1,u) else kv):=by
 unfold KV at r ⊢
 induction r with
 | nil=>exact .nil
 | @cons p q ps qs h t ih =>
  rw [List.map_cons,List.map_cons];refine .cons ?_ ih;obtain ⟨h1,h2⟩:=h
  by_cases e:p.1=k
  ·rw [if_pos e,if_pos (h1.symm.trans e)];exact ⟨h1,ry⟩
  ·rw [if_neg e,if_neg (fun z=>e (h1.trans z))];exact ⟨h1,h2⟩
theorem KV.put {kvs:List (κ×V)} {vs:List (κ×Value)} (r:KV kvs vs) (k:κ) {y:V} {u:Value} (ry:RelV y u):KV (ca kvs k y) (stored vs k u):=by
 unfold ca stored;rw [r.any k]
 by_cases e:(vs.any fun kv=>decide (kv.1=k))=true
 ·rw [if_pos e,if_pos e];exact r.repl k ry
 ·rw [if_neg e,if_neg e];exact Paired.snoc r ⟨rfl,ry⟩
theorem KV.keys {kvs:List (κ×V)} {vs:List (κ×Value)} (r:KV kvs vs):kvs.map (·.1)=vs.map (·.1):=by
 unfold KV at r
 induction r with
 | nil=>rfl
 | cons h t ih=>rw [List.map_cons,List.map_cons,ih,h.1]
theorem KV.length {kvs:List (κ×V)} {vs:List (κ×Value)} (r:KV kvs vs):kvs.length=vs.length:=Paired.length r
end
theorem h7 {P:Program} {w:World} {k:Key} {u:Value} (r:RelV (kV k) u):(ag P w).is k u=true:=by
 cases k with
 | inl i=>obtain ⟨t,e⟩:=(show ∃ t,u=Value.int i t from r);subst e;exact jz P w i t
 | inr x=>obtain ⟨t,e⟩:=(show ∃ t,u=Value.str x t from r);subst e;exact jA P w x t
theorem et {P:Program} {w:World}:∀ {ks:List Key} {us:List Value},Vals (ks.map kV) us→ItemsAre (ag P w) ks us
 | [],_,r=>by rw [List.map_nil] at r;cases r;exact .nil
 | k :: ks,_,r=>by
  rw [List.map_cons] at r
  cases r with
  | cons h t=>exact .cons (h7 h) (et t)
abbrev KT (H:Hp):List (List Key×V)→List (List Key×Addr×Value)→Prop:=Paired fun p q=>p.1=q.1∧H q.2.1=some (.tup (p.1.map kV))∧RelV p.2 q.2.2
theorem KT.val {H:Hp} {kvs:List (List Key×V)} {xs:List (List Key×Addr×Value)} (r:KT H kvs xs) (k:List Key):RelO (aI kvs k) ((atKey xs k).map (·.2)):=by
 induction r with
 | nil=>exact True.intro
 | @cons p q ps qs h t ih =>
  obtain ⟨h1,_,h2⟩:=h
  by_cases e:p.1=k
  ·have e':q.1=k:=h1.symm.trans e;have b:atKey (q :: qs) k=some q.2:=by simp [atKey,List.find?_cons,e']
   rw [aJ e,b];exact h2
  ·have e':¬ q.1=k:=fun z=>e (h1.trans z);have b:atKey (q :: qs) k=atKey qs k:=by simp [atKey,List.find?_cons,e']
   rw [aK e,b];exact ih
theorem KT.repl {H:Hp} {kvs:List (List Key×V)} {xs:List (List Key×Addr×Value)} (r:KT H kvs xs) (k:List Key) {y:V} {u:Value} (ry:RelV y u) :
  KT H (kvs.map fun kv=>if kv.1=k then (kv.1,y) else kv) (xs.map (putAt k u)):=by
 induction r with
 | nil=>exact .nil
 | @cons p q ps qs h t ih =>
  rw [List.map_cons,List.map_cons];refine .cons ?_ ih;obtain ⟨h1,h2,h3⟩:=h;unfold putAt
  by_cases e:p.1=k
  ·rw [if_pos e,if_pos (h1.symm.trans e)];exact ⟨h1,h2,ry⟩
  ·rw [if_neg e,if_neg (fun z=>e (h1.trans z))];exact ⟨h1,h2,h3⟩
theorem KT.put {H:Hp} {kvs:List (List Key×V)} {xs:List (List Key×Addr×Value)} (r:KT H kvs xs) (k:List Key) {b:Addr} {y:V} {u:Value} (hb:H b=some (.tup (k.map kV))) (ry:RelV y u) :
  KT H (ca kvs k y) (storedH xs k b u):=by
 have e:(kvs.any fun kv=>decide (kv.1=k))=(atKey xs k).isSome:=by
  rw [dJ,(r.val k).isSome_eq,Option.isSome_map]
 unfold ca storedH;rw [e]
 by_cases q:(atKey xs k).isSome=true
 ·rw [if_pos q,if_pos q];exact r.repl k ry
 ·rw [if_neg q,if_neg q];exact Paired.snoc r ⟨rfl,hb,ry⟩
theorem KT.keeps {H H':Hp} {kvs:List (List Key×V)} {xs:List (List Key×Addr×Value)} (r:KT H kvs xs) (ht:∀ b ys,H b=some (.tup ys)→H' b=some (.tup ys)):KT H' kvs xs :=
 Paired.mapP r fun _ _ z=>⟨z.1,ht _ _ z.2.1,z.2.2⟩
section
variable {P:Program} {w:World} {H:Hp} {h:Heap} {a:Addr}
theorem rn {u:HO} (ok:HOk P w H h) (e:Rd H a u):ObjOk P w H h a u:=e.ok ok
theorem md {kvs:List (Key×V)} (ok:HOk P w H h) (e:Rd H a (.dK kvs)):kvs.length≤sizeLine∧(a == sysModules)=false∧∃ vs,KV kvs vs∧h.DictOf (ag P w) a vs :=
 show ObjOk P w H h a (.dK kvs) from rn ok e
theorem rp {kvs:List (Key×V)} (ok:HOk P w H h) (e:H a=some (.dK kvs)):kvs.length≤sizeLine∧(a == sysModules)=false∧∃ vs,KV kvs vs∧h.DictOf (ag P w) a vs:=md ok (.inl e)
theorem lq {ks:List Key} (ok:HOk P w H h) (e:H a=some (.tup (ks.map kV))):(tupleKind (ag P w)).is h ks a:=by
 obtain ⟨_,its,r,o,h1,h2,n,h3⟩:=(show ObjOk P w H h a (.tup (ks.map kV)) from ok a _ e);exact ⟨o,its.toArray,n,h1,h2,h3,by simpa using et r⟩
theorem oF {kvs:List (List Key×V)} (ok:HOk P w H h) (e:Rd H a (.dT kvs)):kvs.length≤sizeLine∧(a == sysModules)=false ∧
  ∃ xs,KT H kvs xs∧h.DictOfH (tupleKind (ag P w)) a xs:=by
 obtain ⟨z,y,xs,r,o,es,ep,h1,h2,h3,h4,h5⟩:=(show ObjOk P w H h a (.dT kvs) from rn ok e);refine ⟨z,y,xs,r,o,es,ep,h1,h2,h3,h4,fun x hx=>?_,h5⟩;have all:∀ {l:List (List Key×V)} {m:List (List Key×Addr×Value)},KT H l m→∀ x∈m,(tupleKind (ag P w)).is h x.1 x.2.1:=by
  intro l m q
  induction q with
  | nil=>intro x hx;exact nomatch hx
  | @cons p q ps qs hq t ih =>
   intro x hx;rcases List.mem_cons.mp hx with e | hx
   ·subst e;exact lq ok (by rw [← hq.1];exact hq.2.1)
   ·exact ih x hx
 exact all r x hx
theorem Dc {kvs:List (List Key×V)} (ok:HOk P w H h) (e:H a=some (.dT kvs)):kvs.length≤sizeLine∧(a == sysModules)=false ∧
  ∃ xs,KT H kvs xs∧h.DictOfH (tupleKind (ag P w)) a xs:=oF ok (.inl e)
end
def DGet (H:Hp) (a:Addr) (y:V) (r:Option V):Prop :=
 (∃ kvs k,Rd H a (.dK kvs)∧y=kV k∧r=aI kvs k)∨∃ kvs k b,Rd H a (.dT kvs)∧y=.ref b∧H b=some (.tup (k.map kV))∧r=aI kvs k
def DPut (H:Hp) (a:Addr) (y v:V) (H':Hp):Prop :=
 (∃ kvs k,H a=some (.dK kvs)∧y=kV k∧kvs.length < sizeLine∧H'=upd H a (.dK (ca kvs k v))) ∨
 ∃ kvs k b,H a=some (.dT kvs)∧y=.ref b∧H b=some (.tup (k.map kV))∧kvs.length < sizeLine∧H'=upd H a (.dT (ca kvs k v))
theorem DGet.k {H:Hp} {a:Addr} {kvs:List (Key×V)} {k:Key} (e:H a=some (.dK kvs)):DGet H a (kV k) (aI kvs k):=.inl ⟨kvs,k,.inl e,rfl,rfl⟩
theorem DGet.t {H:Hp} {a b:Addr} {kvs:List (List Key×V)} {k:List Key} (e:H a=some (.dT kvs)) (eb:H b=some (.tup (k.map kV))):DGet H a (.ref b) (aI kvs k):=.inr ⟨kvs,k,b,.inl e,rfl,eb,rfl⟩
theorem DPut.k {H:Hp} {a:Addr} {kvs:List (Key×V)} {k:Key} {v:V} (e:H a=some (.dK kvs)) (hl:kvs.length < sizeLine):DPut H a (kV k) v (upd H a (.dK (ca kvs k v))):=.inl ⟨kvs,k,e,rfl,hl,rfl⟩
theorem DPut.t {H:Hp} {a b:Addr} {kvs:List (List Key×V)} {k:List Key} {v:V} (e:H a=some (.dT kvs)) (eb:H b=some (.tup (k.map kV))) (hl:kvs.length < sizeLine) :
  DPut H a (.ref b) v (upd H a (.dT (ca kvs k v))):=.inr ⟨kvs,k,b,e,rfl,eb,hl,rfl⟩
section
variable {X:Cx} {pins:List (Addr×Obj)} {σ:St} {H:Hp} {s:Shared} {a:Addr} {y v:V} {u r:Value} {o:Option V} {A:Around} {E:Value→Shared→Prop}
theorem Inv.big (I:Inv X pins σ H s):sysModules < s.heap.objs.size:=by
 have h:mainGlobals < s.heap.objs.size:=(I.mod.glob.keeps I.bk).lt;exact Nat.lt_trans (by decide) h
theorem nc {Q:Value→Shared→Prop} (hu:A.units+1 < cLine) (I:Inv X pins σ H s) (g:DGet H a y (some v)) (ry:RelV y u) (h:∀ w' s',Inv X pins σ H s'→RelV v w'→Q w' s') :
  wpAny (model X.prog X.w) A (getItem (.ref a) u) Q E s:=by
 rcases g with ⟨kvs,k,e,ey,l⟩ | ⟨kvs,k,b,e,ey,eb,l⟩
 ·subst ey;obtain ⟨z,hd,vs,rel,dd⟩:=md I.hok e;obtain ⟨w',hw,rw'⟩:=RelO.some_of (v:=v) (o:=valueAt vs k) (by rw [l];exact rel.val k);exact wpAny_getItem_of (h7 ry) dd.mapOf hw (h w' _ (I.tok _) rw')
 ·subst ey
  cases (show u=Value.ref b from ry)
  obtain ⟨z,hd,xs,rel,dd⟩:=oF I.hok e;obtain ⟨w',hw,rw'⟩:=RelO.some_of (v:=v) (o:=(atKey xs k).map (·.2)) (by rw [l];exact rel.val k);obtain ⟨p,hp,hp2⟩:=Option.map_eq_some_iff.mp hw;refine wpAny_getItem_heap (tupleKind_room_in1 hu) (lq I.hok eb) dd hp ?_;rw [hp2];exact h w' _ (I.tok _) rw'
theorem iO {h':Heap} {t':Nat} {ob:HO} (I:Inv X pins σ H s) (mu:Mut (H a)) (hs:Heap.SameBut a s.heap h') (he:∃ q,h'.get? a=some q) (new:ObjOk X.prog X.w (upd H a ob) h' a ob) :
  Inv X pins σ (upd H a ob) { s with heap:=h',toks:=t' } :=
 I.write (x:=a) (e:=a) mu (.inl rfl) (fun b q hb z=>(hs.2 b hb).trans z) he new
theorem oG {P:Program} {w:World} {H':Hp} {h':Heap} {kvs:List (Key×V)} {vs:List (Key×Value)} (z:kvs.length≤sizeLine) (hd:(a == sysModules)=false) (rel:KV kvs vs) (dd:h'.DictOf (ag P w) a vs) :
  ObjOk P w H' h' a (.dK kvs):=⟨z,hd,vs,rel,dd⟩
theorem ng {H':Hp} {Q:Unit→Shared→Prop} (hu:A.units+1 < cLine) (I:Inv X pins σ H s) (g:DPut H a y v H') (ry:RelV y u) (rv:RelV v r) (h:∀ s',Inv X pins σ H' s'→Q () s') :
  wpAny (model X.prog X.w) A (setItem (.ref a) u r) Q E s:=by
 rcases g with ⟨kvs,k,e,ey,l,eH⟩ | ⟨kvs,k,b,e,ey,eb,l,eH⟩
 ·subst ey eH;obtain ⟨z,hd,vs,rel,dd⟩:=rp I.hok e;have hz:vs.length≤sizeLine:=by rw [← rel.length];exact z
  have hl:(ca kvs k v).length≤sizeLine:=by have:=eU kvs k v;lia
  refine wpAny_setItem_pairs (hsz:=hz) (h7 ry) dd fun h' dd' hs=>h _ ?_;have he:∃ q,h'.get? a=some q:=let ⟨q,_,_,hq,_⟩:=dd';⟨q,hq⟩;exact iO I (by rw [e];exact True.intro) hs he (oG hl hd (rel.put k rv) dd')
 ·subst ey eH
  cases (show u=Value.ref b from ry)
  obtain ⟨z,hd,xs,rel,dd⟩:=Dc I.hok e;have hz:xs.length≤sizeLine:=by rw [← Paired.length rel];exact z
  have hl:(ca kvs k v).length≤sizeLine:=by have:=eU kvs k v;lia
  refine wpAny_setItem_heap (hsz:=hz) (tupleKind_room_in1 hu) (lq I.hok eb) dd fun h' dd' hs=>h _ ?_;obtain ⟨q,es,ep,hq,h2,h3,h4,_,h5⟩:=dd';refine iO I (by rw [e];exact True.intro) hs ⟨q,hq⟩ ⟨hl,hd,_,(rel.put k eb rv).keeps fun c ys ec=>?_,q,es,ep,hq,h2,h3,h4,h5⟩;rw [ah (cX ec e (fun z=>nomatch z))];exact ec
end
section
variable {X:Cx} {pins:List (Addr×Obj)} {σ:St} {H:Hp} {s:Shared} {a:Addr} {kvs:List (Key×V)} {k:Key} {u:Value} {A:Around} {E:Value→Shared→Prop}
end
def Dd (i:Expr):Prop:=∀ ov iv,subscripted i false ov iv=operate [ov,iv] (getItem ov iv)
theorem qo {prog:Program} {w:World} {A:Around} {E:Value→Shared→Prop} {s:Shared} {env:Env} {value slice:Expr} {pos:Pos} {T id:String} {Q:Value→Shared→Prop}
  (hl:typeLookup (.type T) "__getitem__" = pure (some (.builtin id))) (hs:Dd slice)
  (h:wpAny (model prog w) A (eval value env) (fun o s₁=>wpAny (model prog w) A (eval slice env) (fun i s₂=>s₂.TypeIs o T∧wpAny (model prog w) A (getItem o i) Q E s₂) E s₁) E s) :
  wpAny (model prog w) A (eval (.Subscript value slice pos) env) Q E s:=by
 refine Subscript_ (wpAny_mono h (fun o s₁ h₁=>wpAny_mono h₁ (fun i s₂ h₂=>?_) fun _ _ x=>x) fun _ _ x=>x);obtain ⟨hT,h₂⟩:=h₂;unfold subscriptTail;refine wpAny_bind ?_;rw [getitemInPython_of_ne hT.not_modules];refine wpAny_bind (wpAny_specialOf hT hl ?_);have fin:wpAny (model prog w) A (subscripted slice false o i) (fun r s₃=>wpAny (model prog w) A (letTemporaryGo value o r >>= fun _=>pure r) Q E s₃) E s₂:=by
  rw [hs o i];exact wpAny_operating (wpAny_mono h₂ (fun r s₃ h₃=>wpAny_bind (wpAny_letTemporaryGo (wpAny_pure h₃))) fun _ _ x=>x)
 first
  | exact wpAny_pure (wpAny_bind fin)
  | exact wpAny_bind (wpAny_pure (wpAny_bind fin))
  | exact wpAny_bind fin
theorem jX {X:Cx} {pins:List (Addr×Obj)} {σ:St} {H:Hp} {s:Shared} {a:Addr} {y:V} {o:Option V} (I:Inv X pins σ H s) (g:DGet H a y o):s.TypeIs (.ref a) "dict" :=by
 rcases g with ⟨kvs,k,e,_,_⟩ | ⟨kvs,k,b,e,_,_,_⟩
 ·obtain ⟨_,_,vs,_,dd⟩:=md I.hok e;exact dd.typeIs
 ·obtain ⟨_,_,xs,_,dd⟩:=oF I.hok e;exact dd.typeIs
def De (td ty:TE):TE:=fun σ H Q=>td σ H fun x H1=>ty σ H1 fun y H2=>∃ a v,x=.ref a∧DGet H2 a y (some v)∧Q v H2
def Df (td ty tv:TE):TS:=fun D σ H=>tv σ H fun v H1=>td σ H1 fun x H2=>ty σ H2 fun y H3=>∃ a H4,x=.ref a∧DPut H3 a y v H4∧D.nx σ H4
section
variable {X:Cx} {o i e value:Expr} {pos pos' tpos:Pos} {td ty tv:TE}
theorem qp (hu:X.A.units+1 < cLine) (ho:PE X o td) (hi:PE X i ty) (hs:Dd i):PE X (.Subscript o i pos) (De td ty):=by
 intro pins s σ H Q I h;refine qo PySem.F.slot_dict_getitem.lookup hs (thn (ho pins s σ H _ I h) fun u s1 ⟨x,H1,I1,rx,q1⟩=>thn (hi pins s1 σ H1 _ I1 q1) fun iv s2 ⟨y,H2,I2,ry,a,v,ex,g,q2⟩=>?_);subst ex;obtain rfl:u=Value.ref a:=rx;exact ⟨jX I2 g,nc hu I2 g ry fun w' s3 I3 rw'=>⟨v,H2,I3,rw',q2⟩⟩
theorem qq (hu:X.A.units+1 < cLine) (ho:PE X o td) (hi:PE X i ty) (hv:PE X value tv) (hs:swapsWith value (some (.Subscript o i pos')) pos.line X.env=pure false) :
  PS X (.Assign [.Subscript o i pos'] value pos) (Df td ty tv):=by
 intro pins s σ H D I h;refine wpAny_Assign_Subscript (thn (hv pins s σ H _ I h) fun r s1 ⟨v,H1,I1,rv,q1⟩=>thn (ho pins s1 σ H1 _ I1 q1) fun u s2 ⟨x,H2,I2,rx,q2⟩=>thn (hi pins s2 σ H2 _ I2 q2) fun iv s3 ⟨y,H3,I3,ry,a,H4,ex,g,q3⟩=>?_) hs;subst ex;obtain rfl:u=Value.ref a:=rx;exact ng hu I3 g ry rv fun s4 I4=>⟨σ,H4,I4,q3⟩
end
theorem oH {P:Program} {w:World} {H:Hp} (h:Heap) (hb:sysModules < h.objs.size):ObjOk P w H (h.push { cls:=.type "dict",data:=.dict #[] }) h.objs.size (.dK []) :=
 ⟨Nat.zero_le _,beq_eq_false_iff_ne.mpr (Ne.symm (Nat.ne_of_lt hb)),[],.nil,Heap.DictOf.new h⟩
def wC:TE:=fun _ H Q=>∀ p,H p=none→Q (.ref p) (upd H p (.dK []))
section
variable {X:Cx} {pos:Pos}
theorem oI:PE X (.Dict [] [] pos) wC:=fun pins s σ H Q I h =>
 wpAny_Dict_empty ⟨.ref s.heap.objs.size,_,I.laid (a:=s.heap.objs.size) (o:=.dK []) (t':=s.toks) (fun _ _ q=>Heap.get?_push_of_some _ q) (Nat.le_refl _) (oH s.heap I.big),rfl,h _ (I.hok.fresh (Nat.le_refl _))⟩
end
section
variable {X:Cx} {pins:List (Addr×Obj)} {σ:St} {H:Hp} {s:Shared} {a:Addr} {y d:V} {u r:Value} {o:Option V} {A:Around} {E:Value→Shared→Prop}
end
section
variable {X:Cx} {o e f:Expr} {apos cpos:Pos} {td ty tx:TE}
end
section
variable {X:Cx} {pins:List (Addr×Obj)} {σ:St} {H:Hp} {s:Shared} {a:Addr} {kvs:List (Key×V)} {A:Around} {E:Value→Shared→Prop}
end
section
variable {X:Cx} {pins:List (Addr×Obj)} {σ:St} {H:Hp} {s:Shared} {a:Addr} {y:V} {u:Value} {A:Around} {E:Value→Shared→Prop}
end
end L2
namespace PySem
open Sem (wp)
namespace F
theorem entry_dict_update_loop:entryFor table "dict.update.loop" = some Builtin.«dict.update.loop»:=entryFor_of_tree (by kernel_rfl)
theorem plain_dict_update_loop:plainId "dict.update.loop" = true:=by decide +kernel
theorem miss_keys_tuple:typeLookup (.type "tuple") "keys" = pure none:=by rw [typeLookup_type,builtinLookup_eq_fast];kernel_rfl
end F
theorem eZ {prog:Program} {w:World} {A:Around} {E:Value→Shared→Prop} {s:Shared} {a:Addr} {o:Obj} {xs:Array Value} {k:Nat} {Q:Option Value→Shared→Prop}
  (hx:s.heap.get? a=some o) (hc:o.cls=.type "tuple") (hdat:o.data=.seq xs k) (hd:o.dict=none) (hA:A.handled=none)
  (h:∀ h' tk e,Heap.NewExcOf s.heap h' e "AttributeError" →Q none { s with heap:=h',toks:=tk }) :
  wpAny (model prog w) A (getAttr? (.ref a) "keys") Q E s:=by
 obtain ⟨c,dct,dat,sl⟩:=o;simp only at hc hdat hd;subst hc hdat hd;obtain ⟨hp,g,d,tk,os⟩:=s;have hT:∀ tk',(⟨hp,g,d,tk',os⟩:Shared).TypeIs (.ref a) "tuple" :=fun _=>⟨_,hx,rfl⟩;have f1:=sub_AttributeError;have f3:=F.slot_tuple_getattribute.lookup;have f4:=F.slot_tuple_getattribute.bind (.ref a);have f5:=am_tuple_getattr_none;unfold getAttr? getAttrBy? getAttrBy
 repeat (any_goals (first | assumption | exact hT _ | ((with_reducible show wpAny _ _ (call (Value.builtin "tuple.__getattribute__") _ _) _ _ _);refine call_meets F.slot_tuple_getattribute (hT _) am_entry_tuple_getattribute (F.args_tuple_getattribute_2 _ _) (meets_getattribute_miss_tuple a xs k sl "keys" _ F.miss_keys_tuple (by decide)) ⟨hx,hA,fun h' tk' e hx'=>?_⟩) | wp_step))
 obtain ⟨t',u',he⟩:=hx'.there;show wpAny _ _ (getattributeRaised _ _ _ _ _ _ _) _ _ _;unfold getattributeRaised
 repeat (any_goals (first | assumption | wp_step))
 all_goals exact h _ _ _ hx'.of
end PySem
namespace PySem
open Sem (wp)
section
variable {prog:Program} {w:World} {K:Type} [DecidableEq K] {knd:KeyKind prog w K} {A:Around} {E:Value→Shared→Prop}
def Heap.PairItems (h:Heap) (knd:KeyKind prog w K) (items:Array Value) (kvs:List (K×Value)):Prop :=
 items.size=kvs.length∧∀ (i:Nat) (kv:K×Value),kvs[i]?=some kv→∃ (a:Addr) (key:Value),items[i]?=some (.ref a)∧h.IsTuple a #[key,kv.2]∧knd.is kv.1 key=true
theorem Heap.PairItems.stay {h h':Heap} {items:Array Value} {kvs:List (K×Value)} (x:h.PairItems knd items kvs) (k:∀ (i:Nat) (a:Addr) (o:Obj),items[i]?=some (.ref a)→h.get? a=some o→h'.get? a=some o):h'.PairItems knd items kvs :=
 ⟨x.1,fun i kv e=>by
  obtain ⟨a,key,e1,⟨o,e2,r⟩,e3⟩:=x.2 i kv e;exact ⟨a,key,e1,⟨o,k i a o e1 e2,r⟩,e3⟩⟩
theorem dM {t it d:Addr} {items:Array Value} {kvs:List (K×Value)} {R:Result→Shared→Prop} (hh:A.handled=none) (hdt:t≠d) (hit:t≠it) (hdi:d≠it) (hav:∀ (i:Nat) (a:Addr),items[i]?=some (.ref a)→a≠d∧a≠it) (hsz:kvs.length+kvs.length≤sizeLine) :
  ∀ (n i:Nat) (s:Shared) (acc:List (K×Value)),kvs.length - i=n→i≤kvs.length→acc.length≤i→s.heap.IsTuple t items→s.heap.PairItems knd items kvs→s.heap.IsTupleIter it t i→s.heap.DictOf knd d acc →
   (∀ h' tk,h'.DictOf knd d (merged acc (kvs.drop i))→(∀ b o,b≠d→b≠it→s.heap.get? b=some o→h'.get? b=some o)→R (.ok (.ret .none)) { s with heap:=h',toks:=tk }) →
   codeAny (model prog w) A (.builtin "dict.update.loop" ⟨[.ref d,.ref it,rawInt i,.none],[]⟩) R s:=by
 intro n
 induction n with
 | zero =>
  intro i s acc hn hi ha ht hp hs hd hR;have e:i=kvs.length:=by lia
  refine codeAny_builtin F.entry_dict_update_loop ?_;rw [Around.under_plainId F.plain_dict_update_loop _];show wpAny _ A.in1 (pyNext (.ref it) >>= _) _ _ s;refine wpAny_bind (wpAny_pyNext_tuple_end (by first | exact hh | simpa using hh) hs ht (by rw [e,← hp.1];simp) fun h' eb=>?_);show wpAny _ _ (Builtin.Dict.addKeywords d [] >>= _) _ _ _;have hd':h'.DictOf knd d acc:=by
   obtain ⟨o,es,ep,ho,r⟩:=hd;exact ⟨o,es,ep,eb d o hdi ho,r⟩
  have q:=hR h' s.toks (by rw [e,List.drop_length];exact hd') fun b o _ hb z=>eb b o hb z;exact wpAny_bind (wpAny_pure (wpAny_pure q))
 | succ n ih =>
  intro i s acc hn hi ha ht hp hs hd hR;have hlt:i < kvs.length:=by lia
  obtain ⟨kv,hkv⟩:∃ kv,kvs[i]?=some kv:=⟨_,List.getElem?_eq_getElem hlt⟩;obtain ⟨a,key,hx,hpair,hkey⟩:=hp.2 i kv hkv;refine codeAny_builtin F.entry_dict_update_loop ?_;rw [Around.under_plainId F.plain_dict_update_loop _];show wpAny _ A.in1 (pyNext (.ref it) >>= _) _ _ s;refine wpAny_bind (wpAny_pyNext_tuple_item hs ht hx fun h1 hs1 sb=>?_);obtain ⟨av1,av2⟩:=hav i a hx;have keep1:∀ b o,b≠it→s.heap.get? b=some o→h1.get? b=some o:=fun b o hb z=>(sb.2 b hb).trans z;obtain ⟨po,pe,pc,pn,pd⟩:=hpair;have pe1:=keep1 a po av2 pe;have hd1:h1.DictOf knd d acc:=by
   obtain ⟨o,es,ep,ho,r⟩:=hd;exact ⟨o,es,ep,keep1 d o hdi ho,r⟩
  refine wpAny_bind (wpAny_holding ?_);refine wpAny_bind (wpAny_tryCatch ?_);unfold Builtin.Dict.pairItems;refine wpAny_bind (wpAny_typeOf (T:= "tuple") ⟨_,pe1,pc⟩ ?_);rw [if_pos (by decide)];refine wpAny_bind (wpAny_seqItems pe1 pd ?_);refine wpAny_pure ?_;show wpAny _ _ (holding [key,kv.2] (dictSet d key kv.2)) _ _ _;refine wpAny_holding (wpAny_dictSet_pairs (s:={ s with heap:=h1 }) hkey hd1 (fun h2 hd2 sb2=>?_) (by lia));refine wpAny_pure ⟨plainId_quiet F.plain_dict_update_loop _,?_⟩;have keep2:∀ b o,b≠d→b≠it→s.heap.get? b=some o→h2.get? b=some o:=fun b o hb hb' z=>(sb2.2 b hb).trans (keep1 b o hb' z);have hlen:(stored acc kv.1 kv.2).length≤i+1:=by have:=stored_length_le acc kv.1 kv.2;lia
  have ht2:h2.IsTuple t items:=by
   obtain ⟨o,ho,r⟩:=ht;exact ⟨o,keep2 t o hdt hit ho,r⟩
  have hs2:h2.IsTupleIter it t (i+1):=by
   obtain ⟨o,ho,r⟩:=hs1;exact ⟨o,(sb2.2 it (Ne.symm hdi)).trans ho,r⟩
  have e:rawInt ((i:Int)+1)=rawInt ((i+1:Nat):Int):=by rw [Int.natCast_add];rfl
  show codeAny _ _ (.builtin "dict.update.loop" ⟨[.ref d,.ref it,rawInt ((i:Int)+1),.none],[]⟩) _ _;rw [e];refine ih (i+1) { s with heap:=h2,toks:=s.toks+1 } (stored acc kv.1 kv.2) (by lia) hlt hlen ht2 (hp.stay fun j b o z z2=>keep2 b o (hav j b z).1 (hav j b z).2 z2) hs2 hd2 fun h' tk hd' k'=>?_;have q:=hR h' tk (by
   have z:kvs.drop i=kv :: kvs.drop (i+1):=by
    rw [List.drop_eq_getElem_cons hlt];rw [List.getElem?_eq_getElem hlt] at hkv;rw [Option.some.inj hkv]
   rw [z];exact hd') fun b o hb hb' z=>k' b o hb hb' (keep2 b o hb hb' z)
  exact q
theorem fc {s:Shared} {t:Addr} {o:Obj} {items:Array Value} {n:Nat} {kvs:List (K×Value)} {Q:Value→Shared→Prop} (hh:A.handled=none) (ho:s.heap.get? t=some o) (hc:o.cls=.type "tuple") (hdat:o.data=.seq items n) (hd:o.dict=none)
  (hp:s.heap.PairItems knd items kvs) (hsz:kvs.length+kvs.length≤sizeLine)
  (h:∀ h' tk,h'.DictOf knd s.heap.objs.size (merged [] kvs)→(∀ b o,s.heap.get? b=some o→h'.get? b=some o)→Q (.ref s.heap.objs.size) { s with heap:=h',toks:=tk }) :
  wpAny (model prog w) A (call (.type "dict") [.ref t]) Q E s:=by
 refine callType_codes (Q₁:=fun obj s₁=>obj=.ref s.heap.objs.size∧s₁={ s with heap:=s.heap.push { cls:=.type "dict",data:=.dict #[] } }) F.kt_called_dict (F.kt_typeCall_dict_1 _) F.entry_dict_init (kt_code_dict_new _ ⟨rfl,rfl⟩) ?_;rintro obj s₁ ⟨rfl,rfl⟩;have hnew:(s.heap.push { cls:=.type "dict",data:=.dict #[] }).DictOf knd s.heap.objs.size []:=Heap.DictOf.new s.heap;have ho1:(s.heap.push { cls:=.type "dict",data:=.dict #[] }).get? t=some o:=Heap.get?_push_of_some _ ho;have htl:t < s.heap.objs.size:=Heap.lt_size ho;refine ⟨hnew.typeIs,F.args_dict_init_2 _ _,?_⟩;unfold Builtin.«dict.__init__»;refine wpAny_bind ?_;unfold Builtin.Dict.selfAndRest;refine wpAny_bind (wpAny_notOrdered_dict hnew.typeIs ?_);show wpAny _ _ (pure (s.heap.objs.size,[Value.ref t])) _ _ _;refine wpAny_pure ?_;show wpAny _ _ (Builtin.Dict.updateFrom "dict.__init__" s.heap.objs.size (.ref t) [] .none) _ _ _;unfold Builtin.Dict.updateFrom;refine wpAny_bind (wpAny_typeOf (T:= "tuple") ⟨_,ho1,hc⟩ ?_);rw [if_pos (by decide)];refine wpAny_bind (eZ ho1 hc hdat hd (by first | exact hh | simpa using hh) fun h1 tk1 e hx=>?_);rw [if_pos (by rfl)];refine wpAny_bind (wpAny_rule ?_);have kp1:∀ b o,(s.heap.push { cls:=.type "dict",data:=.dict #[] }).get? b=some o→h1.get? b=some o:=fun b o z=>hx.keeps b o z;have ht1:h1.IsTuple t items:=⟨o,kp1 t o ho1,hc,n,hdat⟩;refine wpAny_bind (wpAny_pyIter_tuple ht1 ?_);have hit:s.heap.objs.size < h1.objs.size:=by
  obtain ⟨o2,es,ep,ho2,_⟩:=hnew;exact Heap.lt_size (kp1 _ _ ho2)
 have kp0:∀ b o,s.heap.get? b=some o→h1.get? b=some o:=fun b o z=>kp1 b o (Heap.get?_push_of_some _ z);refine wpAny_pure ⟨plainId_quiet F.plain_dict_update_loop _,?_⟩;refine dM (knd:=knd) (t:=t) (items:=items) (kvs:=kvs) (by first | exact hh | simpa using hh) (Nat.ne_of_lt htl) (Nat.ne_of_lt (Nat.lt_trans htl hit)) (Nat.ne_of_lt hit) (fun i a z=>?_) hsz kvs.length 0 _ [] (by lia) (Nat.zero_le _) (Nat.le_refl _)
  ⟨o,Heap.get?_push_of_some _ (kp1 t o ho1),hc,n,hdat⟩ (hp.stay fun i a o2 _ z=>Heap.get?_push_of_some _ (kp0 a o2 z)) ⟨_,Heap.get?_push_size _ rfl,rfl,rfl⟩ ?_ fun h' tk hd' k'=>⟨rfl,?_⟩
 ·have hi:i < kvs.length:=by
   rw [← hp.1];exact (Array.getElem?_eq_some_iff.mp z).1
  obtain ⟨b,key,e1,⟨ob,e2,_⟩,_⟩:=hp.2 i _ (List.getElem?_eq_getElem hi);rw [z] at e1;have e3:a=b:=by injection (Option.some.inj e1)
  subst e3;have:=Heap.lt_size e2;exact ⟨Nat.ne_of_lt this,Nat.ne_of_lt (Nat.lt_trans this hit)⟩
 ·obtain ⟨o2,es,ep,ho2,r⟩:=hnew;exact ⟨o2,es,ep,Heap.get?_push_of_some _ (kp1 _ _ ho2),r⟩
 ·refine h h' tk hd' fun b ob z=>k' b ob (Nat.ne_of_lt (Heap.lt_size z)) (Nat.ne_of_lt (Nat.lt_trans (Heap.lt_size z) hit)) (Heap.get?_push_of_some _ (kp0 b ob z))
end
end PySem
namespace L2
open PySem PySem.Spec PyProof.Rows
def Pl (H:Hp) (a:Addr):Prop:=∃ o u,H a=some (.frz o u)∧o.dict=none
mutual
inductive IsP (K:PySem.W.Frag) (H:Hp):Dt→V→Prop
 | non:IsP K H .non .non
 | bl {b}:IsP K H (.bl b) (.bl b)
 | int {i}:IsP K H (.int i) (.int i)
 | str {z}:IsP K H (.str z) (.str z)
 | tup {l:List Dt} {a:Addr} {xs:List V}:SqT K H a xs→Pl H a→IsPs K H l xs→IsP K H (.tup l) (.ref a)
inductive IsPs (K:PySem.W.Frag) (H:Hp):List Dt→List V→Prop
 | nil:IsPs K H [] []
 | cons {d:Dt} {l:List Dt} {x:V} {xs:List V}:IsP K H d x→IsPs K H l xs→IsPs K H (d :: l) (x :: xs)
end
section
variable {K:PySem.W.Frag} {H H':Hp}
mutual
theorem IsP.d:∀ {d:Dt} {v:V},IsP K H d v→IsD K H d v
 | _,_,.non=>.non
 | _,_,.bl=>.bl
 | _,_,.int=>.int
 | _,_,.str=>.str
 | _,_,.tup h _ r=>.tup h (IsPs.d r)
theorem IsPs.d:∀ {l:List Dt} {xs:List V},IsPs K H l xs→IsDs K H l xs
 | _,_,.nil=>.nil
 | _,_,.cons h r=>.cons (IsP.d h) (IsPs.d r)
end
theorem Pl.same {a:Addr} (g:Same H H') (h:Pl H a):Pl H' a:=by
 obtain ⟨o,u,e,d⟩:=h;exact ⟨o,u,g _ _ e,d⟩
theorem Pl.but {a r:Addr} {ys:List V} (hr:H r=some (.lst ys)) (g:But r H H') (h:Pl H a):Pl H' a:=by
 obtain ⟨o,u,e,d⟩:=h;exact ⟨o,u,g _ _ (cX e hr (by intro z;cases z)) e,d⟩
mutual
theorem IsP.same (g:Same H H'):∀ {d:Dt} {v:V},IsP K H d v→IsP K H' d v
 | _,_,.non=>.non
 | _,_,.bl=>.bl
 | _,_,.int=>.int
 | _,_,.str=>.str
 | _,_,.tup h p r=>.tup (g.tup h) (p.same g) (IsPs.same g r)
theorem IsPs.same (g:Same H H'):∀ {l:List Dt} {xs:List V},IsPs K H l xs→IsPs K H' l xs
 | _,_,.nil=>.nil
 | _,_,.cons h r=>.cons (IsP.same g h) (IsPs.same g r)
end
mutual
theorem IsP.but {r:Addr} {ys:List V} (hr:H r=some (.lst ys)) (g:But r H H'):∀ {d:Dt} {v:V},IsP K H d v→IsP K H' d v
 | _,_,.non=>.non
 | _,_,.bl=>.bl
 | _,_,.int=>.int
 | _,_,.str=>.str
 | _,_,.tup h p q=>.tup (by
   rcases oA hr h with n | n
   ·exact g.tup n h
   ·exact n _) (p.but hr g) (IsPs.but hr g q)
theorem IsPs.but {r:Addr} {ys:List V} (hr:H r=some (.lst ys)) (g:But r H H'):∀ {l:List Dt} {xs:List V},IsPs K H l xs→IsPs K H' l xs
 | _,_,.nil=>.nil
 | _,_,.cons h q=>.cons (IsP.but hr g h) (IsPs.but hr g q)
end
theorem IsPs.length {l:List Dt} {xs:List V} (h:IsPs K H l xs):l.length=xs.length:=h.d.length
theorem IsPs.get {l:List Dt} {xs:List V} (h:IsPs K H l xs) {i:Nat} {d:Dt} (e:l[i]?=some d):∃ x,xs[i]?=some x∧IsP K H d x:=by
 induction l generalizing xs i with
 | nil=>simp at e
 | cons c l ih =>
  cases h with
  | cons h r =>
   cases i with
   | zero=>simp at e;subst e;exact ⟨_,rfl,h⟩
   | succ i=>exact ih r (by simpa using e)
theorem IsPs.get' {l:List Dt} {xs:List V} (h:IsPs K H l xs) {i:Nat} {x:V} (e:xs[i]?=some x):∃ d,l[i]?=some d∧IsP K H d x:=by
 induction l generalizing xs i with
 | nil=>cases h;simp at e
 | cons c l ih =>
  cases h with
  | cons h r =>
   cases i with
   | zero=>simp at e;subst e;exact ⟨_,rfl,h⟩
   | succ i=>exact ih r (by simpa using e)
theorem IsPs.append {l m:List Dt} {xs ys:List V} (h:IsPs K H l xs) (h':IsPs K H m ys):IsPs K H (l++m) (xs++ys):=by
 induction l generalizing xs with
 | nil=>cases h;exact h'
 | cons d l ih=>cases h with | cons h r=>exact .cons h (ih r)
theorem IsPs.drop:∀ {l:List Dt} {xs:List V} (n:Nat),IsPs K H l xs→IsPs K H (l.drop n) (xs.drop n)
 | _,_,0,h=>h
 | _,_,_+1,.nil=>.nil
 | _,_,n+1,.cons _ r=>IsPs.drop n r
theorem IsPs.take:∀ {l:List Dt} {xs:List V} (n:Nat),IsPs K H l xs→IsPs K H (l.take n) (xs.take n)
 | _,_,0,_=>.nil
 | _,_,_+1,.nil=>.nil
 | _,_,n+1,.cons h r=>.cons h (IsPs.take n r)
theorem IsP.unref {l:List Dt} {v:V} (h:IsP K H (.tup l) v):∃ a xs,v=.ref a∧SqT K H a xs∧Pl H a∧IsPs K H l xs:=by
 cases h with
 | tup h p r=>exact ⟨_,_,rfl,h,p,r⟩
end
def plO (xs:List V) (us:List Value):HO:=.frz { cls:=.type "tuple",data:=.seq us.toArray } (.tup xs)
section
variable {X:Cx} {pins:List (Addr×Obj)} {σ:St} {H:Hp} {s:Shared}
theorem Inv.plain {xs:List V} {us:List Value} {t':Nat} (I:Inv X pins σ H s) (r:Vals xs us) (z:xs.length≤sizeLine) :
  Inv X pins σ (upd H s.heap.objs.size (plO xs us)) { s with heap:=s.heap.push { cls:=.type "tuple",data:=.seq us.toArray },toks:=t' }∧H s.heap.objs.size=none :=
 ⟨I.laid (t':=t') (fun b ob q=>Heap.get?_push_of_some _ q) (Nat.le_refl _) ⟨Heap.get?_push_size _ rfl,z,us,r,IsTup.new _ _⟩,I.hok.fresh (Nat.le_refl _)⟩
theorem dN {p:Addr} {l:List Dt} {xs:List V} {us:List Value} (hf:H p=none) (d:IsPs X.K H l xs):Same H (upd H p (plO xs us))∧IsP X.K (upd H p (plO xs us)) (.tup l) (.ref p) :=
 ⟨ae hf _,.tup (.inl (.inr ⟨_,ac⟩)) ⟨_,_,ac,rfl⟩ (d.same (ae hf _))⟩
variable {e:Expr} {es:List Expr} {t:TA} {pos:Pos}
inductive ITup (K:PySem.W.Frag) (xs:List V) (H1:Hp) (Q:VK):Prop
 | mk (l:List Dt):(IsPs K H1 l xs)→(xs.length≤sizeLine)→(∀ v H',Same H1 H'→IsP K H' (.tup l) v→Q v H')→ITup K xs H1 Q
def me (K:PySem.W.Frag) (t:TA):TE:=fun σ H Q=>t σ H fun xs H1=>ITup K xs H1 Q
theorem qr {x1} (h:PA X es t):PE X (.Tuple es x1 pos) (me X.K t):=by
 intro pins s σ H Q I hq;refine wpAny_Tuple_spliced (thn (h pos pins s σ H _ I hq) fun us s1 ⟨xs,H1,I1,r,l,d,z,q⟩=>⟨by rw [← r.length];exact z,?_⟩);obtain ⟨I2,hf⟩:=I1.plain (t':=s1.toks) r z;obtain ⟨g,dp⟩:=dN (X:=X) (us:=us) hf d;exact ⟨.ref s1.heap.objs.size,_,I2,rfl,q _ _ g dp⟩
theorem jY:aG X (.type "tuple") (fun xs H Q=>∃ p ys l,xs=[.ref p]∧SqL X.K H p ys∧IsPs X.K H l ys∧∀ v H',Same H H'→IsP X.K H' (.tup l) v→Q v H'):=by
 intro pins s σ H xs us Q I r h;obtain ⟨p,ys,l,rfl,hq,d,q⟩:=h;obtain ⟨u,rfl,rx⟩:=bX r
 cases rx
 obtain ⟨its,r',pl,hz⟩:=I.list hq;have hlen:=r'.length;refine call_tuple_list pl.isList (fun h' kp=>?_) (by simp only [List.size_toArray] <;> lia);have I1:Inv X pins σ H { s with heap:=h' }:=I.kept (t':=s.toks) kp;obtain ⟨I2,hf⟩:=I1.plain (t':=s.toks) r' hz;obtain ⟨g,dp⟩:=dN (X:=X) (us:=its) hf d;exact ⟨.ref h'.objs.size,_,I2,rfl,q _ _ g dp⟩
theorem qt:SlR X (fun x lo hi H Q=>∃ l,IsP X.K H (.tup l) x∧∀ v H',Same H H'→IsP X.K H' (.tup (m8 l lo hi)) v→Q v H'):=by
 intro pins s σ H x v vl vu lo hi sl Q I rx hs pl pu h;obtain ⟨l,dx,q⟩:=h;obtain ⟨a,xs,rfl,hx,pa,ra⟩:=id dx.unref
 cases rx
 have e1:=ra.length;obtain ⟨its,r,ht,hz⟩:=I.tuple hx;have hlen:its.toArray.size=xs.length:=by rw [List.size_toArray];exact r.length.symm
 refine ⟨"tuple",_,PyProof.Rows.slot_tuple_getitem.lookup,ht.typeIs,?_⟩
 by_cases hw:HT.sIx xs.length 0 lo=0∧HT.sIx xs.length xs.length hi=xs.length
 ·refine HT.getItem_tuple_all ht hs pl pu (by rw [hlen];exact hw.1) (by rw [hlen];exact hw.2) ⟨.ref a,H,I,rfl,q _ H (Same.refl H) ?_⟩;have e:m8 l lo hi=l:=by
   unfold m8;rw [e1,hw.1,hw.2,List.drop_zero,Nat.sub_zero,← e1,List.take_length]
  rw [e];exact dx
 ·refine HT.getItem_tuple_cut ht hs pl pu (by rw [hlen];exact hw) ?_ (by rw [hlen];exact hz);rw [hlen];obtain ⟨I2,hf⟩:=I.plain (t':=s.toks) ((r.drop (HT.sIx xs.length 0 lo)).take (HT.sIx xs.length xs.length hi - HT.sIx xs.length 0 lo)) (Nat.le_trans (eP xs lo hi) hz);have d2:IsPs X.K H (m8 l lo hi) (eW xs lo hi):=by
   unfold m8 eW;rw [e1];exact (ra.drop _).take _
  obtain ⟨g,dp⟩:=dN (X:=X) (us:=(its.drop (HT.sIx xs.length 0 lo)).take (HT.sIx xs.length xs.length hi - HT.sIx xs.length 0 lo)) hf d2;exact ⟨.ref s.heap.objs.size,_,I2,rfl,q _ _ g dp⟩
theorem qu:IxR X (fun x y H Q=>∃ l i d,IsP X.K H (.tup l) x∧y=.int i∧atI l i=some d∧∀ v,IsP X.K H d v→Q v H):=by
 intro value slice pins s σ H x y v u Q I rx ry h hs;obtain ⟨l,i,d,dx,rfl,ha,q⟩:=h;obtain ⟨a,xs,rfl,hx,pa,ra⟩:=id dx.unref;obtain ⟨j,hj,hd,_⟩:=iE ha;have e1:=ra.length;obtain ⟨w',hw,dw⟩:=ra.get hd;have hat:atI xs i=some w':=by
  unfold atI at ha ⊢;rw [← e1]
  cases z:ixN l.length i with
  | none=>rw [z] at ha;cases ha
  | some j' =>
   rw [z] at ha;have ha':l[j']?=some d:=ha;obtain ⟨w2,hw2,dw2⟩:=ra.get ha';have z2:=iD z;rw [hj] at z2;have:j=j':=Option.some.inj z2.1;subst this;exact hw
 exact wl value slice pins s σ H (.ref a) (.int i) v u Q I rx ry ⟨a,xs,i,w',rfl,rfl,hx,hat,q w' dw⟩ hs
theorem qv:OpR X (binaryOp .Mult) (rI IntMulOk fun i j=>.int (i*j)):=opI fun _ _ _ _ _ _ _ hc q=>mul_int q hc
end
def ak (fs:List (Str×Dt)) (z:Str):Option Dt:=(fs.find? fun p=>decide (p.1=z)).map (·.2)
abbrev prD (p:Str×Dt):Dt:=.tup [.str p.1,p.2]
def DV (K:PySem.W.Frag) (H:Hp) (p:Addr) (fs:List (Str×Dt)):Prop :=
 ∃ kvs,H p=some (.dK kvs)∧∀ z,(ak fs z=none→aI kvs (Sum.inr z:Key)=none)∧∀ d,ak fs z=some d→∃ v,aI kvs (Sum.inr z:Key)=some v∧IsP K H d v
section
variable {X:Cx} {pins:List (Addr×Obj)} {σ:St} {H:Hp} {s:Shared}
theorem oJ (I:Inv X pins σ H s):∀ {fs:List (Str×Dt)} {xs:List V} {its:List Value},IsPs X.K H (fs.map prD) xs→Vals xs its →
  ∃ (kvs:List (Key×V)) (vs:List (Key×Value)),KV kvs vs∧kvs.map (·.1)=fs.map (fun p=>Sum.inr p.1)∧kvs.length=fs.length ∧
   (∀ z,(ak fs z=none→aI kvs (Sum.inr z:Key)=none)∧∀ d,ak fs z=some d→∃ v,aI kvs (Sum.inr z:Key)=some v∧IsP X.K H d v) ∧
   its.length=vs.length∧∀ (i:Nat) (kv:Key×Value),vs[i]?=some kv→∃ (a:Addr) (key:Value),its[i]?=some (.ref a)∧s.heap.IsTuple a #[key,kv.2]∧(ag X.prog X.w).is kv.1 key=true:=by
 intro fs
 induction fs with
 | nil =>
  intro xs its h r
  cases h
  cases r
  exact ⟨[],[],.nil,rfl,rfl,fun z=>⟨fun _=>rfl,fun d q=>by cases q⟩,rfl,fun i kv q=>by simp at q⟩
 | cons f fs ih =>
  intro xs its h r
  cases h with
  | cons h1 h2 =>
   cases r with
   | cons r1 r2 =>
    obtain ⟨kvs,vs,e1,e2,e3,e4,e5,e6⟩:=ih h2 r2;obtain ⟨a,ys,rfl,ha,pa,ra⟩:=h1.unref
    cases r1
    obtain ⟨its',r',p',_⟩:=I.tuple ha
    cases ra with
    | cons d1 ra =>
     cases ra with
     | @cons _ _ v _ d2 ra =>
      cases ra
      cases d1
      cases r' with
      | cons q1 r' =>
       cases r' with
       | @cons _ u _ _ q2 r' =>
        cases r'
        obtain ⟨tk,rfl⟩:=q1;refine ⟨(Sum.inr f.1,v) :: kvs,(Sum.inr f.1,u) :: vs,.cons ⟨rfl,q2⟩ e1,by simp [e2],by simp [e3],fun z=>?_,by simp [e5],fun i kv q=>?_⟩
        ·by_cases hz:f.1=z
         ·subst hz;have l1:ak (f :: fs) f.1=some f.2:=by simp [ak]
          have l2:aI ((Sum.inr f.1,v) :: kvs) (Sum.inr f.1:Key)=some v:=by simp [aI]
          exact ⟨fun q=>(by rw [l1] at q;cases q),fun d q=>(by rw [l1] at q;cases q;exact ⟨v,l2,d2⟩)⟩
         ·have l1:ak (f :: fs) z=ak fs z:=by simp [ak,hz]
          have l2:aI ((Sum.inr f.1,v) :: kvs) (Sum.inr z:Key)=aI kvs (Sum.inr z:Key):=by simp [aI,hz]
          rw [l1,l2];exact e4 z
        ·cases i with
         | zero =>
          simp at q;subst q;exact ⟨a,_,rfl,p',h7 (k:=Sum.inr f.1) ⟨tk,rfl⟩⟩
         | succ i=>exact e6 i kv (by simpa using q)
end
end L2
namespace PySem
open Sem (wp)
open Builtin
section
variable {prog:Program} {w:World} {A:Around} {E:Value→Shared→Prop} {s:Shared}
end
end PySem
namespace L2
open PySem PySem.Spec PyProof.Rows
section
variable {X:Cx}
def oK (lo c:Int) (n:Nat):It:=⟨fun i _=>i < n,fun i H x H'=>H'=H∧x=.int (lo+i*c),fun i _=>n≤i⟩
theorem jZ {P:Program} {w:World} {K:PySem.W.Frag} {tg:Expr} (it:Addr) (lo c:Int) (n:Nat):Turn P w K tg (oK lo c n) [it] it (fun i h=>IsRangeIter h it (lo+(i:Nat)*c) ((n:Int) - (i:Nat)) c) where
 mem:=by simp
 obj:=fun i h st b hb=>by
  have e:b=it:=by simpa using hb
  subst e;exact ⟨_,st,fun v z=>by
   have z':Data.fields _=Data.cell v:=z
   cases z'⟩
 keep:=fun i h h' st k=>k it (by simp) _ st
 item:=by
  intro X hP hw hK hc i pins s σ H E I hf st hg;subst hP hw hK;obtain ⟨f0,f1,f2,f3,f4,f5⟩:=hf it (by simp);have W:=Walks.range (prog:=X.prog) (w:=X.w) (I.ok.hd hc) it lo c n;refine W.item i s _ _ hg st fun v h' tk hv st' kk=>?_;obtain ⟨t,rfl⟩:=hv;have I1:Inv X pins σ H { s with heap:=h',toks:=tk }:=I.turned (fun b o hb e=>kk b o (by simpa using hb) e) f0 f1 f3 f4 f5;exact ⟨_,rfl,jG (s:={ s with heap:=h',toks:=tk }) (n:= "range_iterator") st' rfl rfl (by decide) ⟨.int (lo+i*c),H,I1,⟨t,rfl⟩,⟨rfl,rfl⟩,st',fun b hb=>(hf b hb).1⟩⟩
 done:=by
  intro X hP hw hK hc i pins s σ H E I hf st hg;subst hP hw hK;obtain ⟨f0,f1,f2,f3,f4,f5⟩:=hf it (by simp);exact wpAny_pyNext_range_end (I.ok.hd hc) st (by have:n≤i:=hg;lia) fun h' eb=>⟨rfl,I.turned (t':=s.toks) (fun b o hb e=>eb b o hb e) f0 f1 f3 f4 f5⟩
 self:=fun _ _ _ _ _ st h=>wpAny_pyIter_rangeiter st h
def rngN (a b c:Int):Nat:=(Builtin.Range.rangeSize a b c).toNat
theorem qw {a b c:Int} (hc:0 < c) {i:Nat} (h:i < rngN a b c):a+i*c < b:=by
 unfold rngN Builtin.Range.rangeSize at h;rw [if_pos (show c > 0 from hc)] at h
 by_cases hab:a < b
 ·rw [if_pos hab] at h;have h1:(0:Int)≤(b - a - 1) / c:=Int.ediv_nonneg (by lia) (by lia);have h2:(i:Int)≤(b - a - 1) / c:=by lia
  have h3:(i:Int)*c≤b - a - 1:=Int.le_trans (Int.mul_le_mul_of_nonneg_right h2 (by lia)) (Int.ediv_mul_le _ (by lia));lia
 ·rw [if_neg hab] at h;simp at h
theorem mf {a b c:Int} (hc:0 < c):(rngN a b c:Int)≤if a < b then b - a else 0:=by
 unfold rngN Builtin.Range.rangeSize;rw [if_pos (show c > 0 from hc)]
 by_cases hab:a < b
 ·rw [if_pos hab,if_pos hab];have h1:(0:Int)≤(b - a - 1) / c:=Int.ediv_nonneg (by lia) (by lia);have h2:(b - a - 1) / c≤b - a - 1:=Int.ediv_le_self _ (by lia);lia
 ·rw [if_neg hab,if_neg hab];simp
variable {tg:Expr}
def Dg (ta:TA):TI:=fun σ H R=>ta σ H fun vs H1=>∃ i j c:Int,vs=[.int i,.int j,.int c]∧(0≤i∧i < 2 ^ 62∧0≤j∧j < 2 ^ 62∧0 < c∧c < 1073741824)∧R (oK i c (rngN i j c)) H1
theorem nh {a b c:Expr} {ta:TA} {p pos:Pos} (hg:Gl X "range") (hm:X.mg "range" = none) (ha:PA X [a,b,c] ta) (hs:starEach [a,b,c] X.env=[(false,eval a X.env),(false,eval b X.env),(false,eval c X.env)]:=by rfl) (hs2:starEach [b,c] X.env=[(false,eval b X.env),(false,eval c X.env)]:=by rfl) :
  PI X tg (.Call (.Name "range" p) [a,b,c] [] pos) (Dg ta):=by
 intro pins s σ H R I h;refine Call_ (bP I hg hm boot_range (PyProof.Rows.callWith_type1 (thn (ha pos pins s σ H _ I h) fun us s1 ⟨vs,H1,I1,r1,q1⟩=>?_) (by rw [hs,hs2]) (by rw [hs2];rfl)));obtain ⟨i,j,c,e,⟨q1,q2,q3,q4,q5,q6⟩,q⟩:=q1;subst e
 cases r1 with
 | cons r rr =>
  cases rr with
  | cons r' rr =>
   cases rr with
   | cons r'' rr =>
    cases rr
    obtain ⟨t,rfl⟩:=r;obtain ⟨t',rfl⟩:=r';obtain ⟨t'',rfl⟩:=r'';have hn0:=mf (a:=i) (b:=j) q5;have hsz:Builtin.Range.rangeSize i j c=((rngN i j c:Nat):Int):=rangeSize_toNat i j c;have hn:(rngN i j c:Int) < 2 ^ 62:=by
     split at hn0 <;> lia
    refine call_range_3 (by lia) ?_ (.inl (PyProof.noPylong_small (by lia)));have sm:Builtin.Range.small i j c=true:=by
     unfold Builtin.Range.small Builtin.Range.rangeFitsLong;rw [hsz,if_pos (show c > 0 from q5)];simp only [Bool.and_eq_true,Bool.or_eq_true,decide_eq_true_eq,beq_iff_eq];refine ⟨⟨⟨⟨⟨?_,?_⟩,?_,?_⟩,?_,?_⟩,?_,?_⟩,.inr ⟨?_,?_⟩⟩ <;> lia
    refine wpAny_pyIter_range (IsRange.new ..) sm ?_;have I2:Inv X pins σ H1 { s1 with heap:=s1.heap.push { cls:=.type "range",data:=.fields #[.int i t,.int j t',.int c t''] } }:=I1.kept (t':=s1.toks) fun b o e=>Heap.get?_push_of_some _ e;refine ⟨(s1.heap.push { cls:=.type "range",data:=.fields #[.int i t,.int j t',.int c t''] }).objs.size,[(s1.heap.push { cls:=.type "range",data:=.fields #[.int i t,.int j t',.int c t''] }).objs.size],_,_,H1,rfl,
     I2.kept (t':=s1.toks) fun b o e=>Heap.get?_push_of_some _ e,jZ _ i c (rngN i j c),?_,fun b hb=>?_,q⟩
    ·have e1:i+((0:Nat):Int)*c=i:=by simp
     have e2:((rngN i j c:Nat):Int) - ((0:Nat):Int)=Builtin.Range.rangeSize i j c:=by rw [hsz];simp
     show IsRangeIter _ _ (i+((0:Nat):Int)*c) (((rngN i j c:Nat):Int) - ((0:Nat):Int)) c;rw [e1,e2];exact Heap.get?_push_size _ rfl
    ·have e:b=(s1.heap.push { cls:=.type "range",data:=.fields #[.int i t,.int j t',.int c t''] }).objs.size:=by simpa using hb
     subst e;exact I2.fpOk (Nat.le_refl _) (I2.hok.fresh (Nat.le_refl _))
end
theorem passF {P:Program} {w:World} {X:Cx}:iB (CXE P w) X (fun _ _ _=>False):=by
 intro pins σ H s e s' I h;obtain ⟨_,_,_,_,_,_,_,_,_,_,_,_,_,q⟩:=h;exact q.elim
theorem u1 {A:Around} (h:A.units+64 < cLine):A.units+1 < cLine:=by lia
theorem mh {P:Program} {w:World} {K:PySem.W.Frag} {mg:Str→Option Value} {base:Heap} {CX:CXT} {k:Nat} {f:Addr} {fd:FuncData} {ps:List Str} {sp:Sp} (h:∀ vs H Q E,¬ sp vs H Q E):FnOk P w K mg base CX k f fd ps sp :=
 ⟨fun vs H Q E z=>(h vs H Q E z).elim,fun A outer s H args us vs Q E hr e0 hb r z=>(h vs H Q E z).elim⟩
theorem qx {a:Int} {m:Nat} (h0:0≤a) (h:a < 2 ^ m):Builtin.Int.intBits a≤m:=by
 refine intBits_le_iff.mpr ?_;have e:((a.natAbs:Nat):Int)=a:=Int.natAbs_of_nonneg h0;have h':((a.natAbs:Nat):Int) < ((2 ^ m:Nat):Int):=by rw [e];simpa using h
 exact Int.ofNat_lt.mp h'
section
variable {X:Cx}
theorem bw:OpR X (binaryOp .FloorDiv) (rI (fun _ j=>0 < j∧j < 10000000000000000000000000000000000000000000000000000000000000) fun i j=>.int (i / j)):=opI fun i j _ _ _ _ _ hc q=>by
 have h1:(0:Int) < j:=hc.1;have h2:j < 10000000000000000000000000000000000000000000000000000000000000:=hc.2;refine floordiv_int (by lia) (by rw [Int.fdiv_eq_ediv_of_nonneg i (by lia)];exact q) (.inl (PyProof.noPylong_of_log2 ?_));have h3:j.natAbs < 2 ^ 9000:=Nat.lt_of_lt_of_le (show j.natAbs < 10000000000000000000000000000000000000000000000000000000000000 by lia) (by decide +kernel);exact (Nat.log2_lt (by lia)).mpr h3
inductive ICatS (K:PySem.W.Frag) (x y:V) (H:Hp) (Q:VK):Prop
 | mk (l b:Addr) (xs zs:List V):(x=.ref l)→(y=.ref b)→(SqL K H l xs)→(SqL K H b zs)→(xs.length+zs.length≤sizeLine)→(∀ p,H p=none→Q (.ref p) (upd H p (.lst (xs++zs))))→ICatS K x y H Q
def rs (K:PySem.W.Frag):R2:=fun x y H Q=>ICatS K x y H Q
theorem qy:OpR X (binaryOp .Add) (rs X.K):=by
 intro pins s σ H x y v u Q I rx ry h;obtain ⟨l,b,xs,zs,rfl,rfl,hH,hB,hz,q⟩:=h
 cases rx
 cases ry
 obtain ⟨its,r,pl,z⟩:=I.list hH;obtain ⟨its2,r2,pl2,z2⟩:=I.list hB;obtain ⟨⟨cls,dd,data,sl⟩,ho,hc,n,hd⟩:=pl.isList;obtain ⟨⟨cls2,dd2,data2,sl2⟩,ho2,hc2,n2,hd2⟩:=pl2.isList;simp only at hc hd hc2 hd2;subst hc hd hc2 hd2;have l1:=r.length;have l2:=r2.length;have ea:its.toArray++its2.toArray=(its++its2).toArray:=by simp
 refine concat_meets ⟨_,ho,rfl⟩ ⟨_,ho2,rfl⟩ noFill_list_add seq_list_add PySem.F.slot_list_add PySem.F.entry_list_add (PySem.F.args_list_add_2 _ _) (list_addW l b its.toArray its2.toArray n n2 dd dd2 sl sl2 (by simp only [List.size_toArray];lia)) ⟨ho,ho2,?_⟩;rw [ea];exact ⟨.ref _,_,I.lnew (t':=s.toks) (r.append r2) (by rw [List.length_append];lia),rfl,q _ I.fresh⟩
end
open PySem.NumText
def dg (m:Nat):List Nat:=(Nat.toDigits 10 m).map Char.toNat
def wD (n:Int):List Nat:=if n < 0 then 45 :: dg n.natAbs else dg n.natAbs
theorem str_int (n:Int):(Str.ofString (toString n)).cps.toList=wD n:=by
 rw [signs_ofString]
 cases n with
 | ofNat m =>
  have:¬ (Int.ofNat m < 0):=by simp
  unfold wD;rw [if_neg this];show (Nat.repr m).toList.map Char.toNat=_;rw [Nat.toList_repr]
  rfl
 | negSucc m =>
  have:Int.negSucc m < 0:=Int.negSucc_lt_zero m;unfold wD;rw [if_pos this];show ("-" ++Nat.repr (m+1)).toList.map Char.toNat=_;rw [String.toList_append,List.map_append,Nat.toList_repr]
  rfl
end L2
namespace L2
open PySem PySem.Spec PyProof.Rows
section
variable {X:Cx} {pins:List (Addr×Obj)} {σ:St} {H:Hp} {s:Shared} {h':Heap}
theorem Inv.turnedT {t':Nat} {wr:List Addr} {T:Addr} {o:HO} (I:Inv X pins σ H s) (k:∀ b u,b∉wr→s.heap.get? b=some u→h'.get? b=some u) (f:∀ b∈wr,cw X pins H b)
  (hT:s.heap.objs.size≤T) (new:ObjOk X.prog X.w (upd H T o) h' T o):Inv X pins σ (upd H T o) { s with heap:=h',toks:=t' }:=by
 have nT:∀ b u,s.heap.get? b=some u→b≠T:=fun b u e z=>absurd (Nat.lt_of_lt_of_le (Heap.lt_size e) (z ▸ hT)) (Nat.lt_irrefl _);have nH:∀ b u,H b=some u→b≠T:=fun b u e z=>absurd (Nat.lt_of_lt_of_le (I.hok.lt e) (z ▸ hT)) (Nat.lt_irrefl _);have nw:∀ b u,H b=some u→b∉wr:=fun b u e z=>by rw [(f b z).1] at e;cases e
 refine I.step (g':=s.gens) (d':=s.drawn) (ch:=wr) (fun b hb=>?_) (fun b u _ _ hc e _=>k b u hc e) (fun b u _ _ hc e _=>⟨u.slots,k b u hc e⟩) (fun b u _ e n=>by rw [ah (nT b u e)];exact n)
  (fun b u hc e=>⟨u,k b u hc e⟩) (fun b xs e=>by rw [ah (nH b _ e)];exact e) (fun b u v e=>by rw [ah (nH b _ e)];exact e) (fun b ps e=>⟨#[],by rw [ah (nH b _ e),e];simp⟩) (fun m hm=>?_) (fun b u e=>?_) I.bare
 ·obtain ⟨f0,f1,f2,f3,f4,f5⟩:=f b hb;exact ⟨f3,f1,f4,f5⟩
 ·obtain ⟨u,es,ep,ho,r⟩:=hm;exact ⟨u,es,ep,k _ u (fun z=>(f _ z).2.1 rfl) ho,r⟩
 ·by_cases hb:b=T
  ·subst hb;rw [ac] at e
   cases e
   exact new
  ·rw [ah hb] at e;refine (I.hok b u e).stay (fun c v hc q=>k c v ?_ q) (fun c q=>?_) fun c xs q=>by rw [ah (nH c _ q)];exact q
   ·rcases hc with z | z
    ·rw [z];exact nw b u e
    ·exact nw c _ z
   ·rw [ah (nH c _ q)];exact q
theorem Inv.turnedL {t':Nat} {wr:List Addr} (I:Inv X pins σ H s) (k:∀ b u,b∉wr→s.heap.get? b=some u→h'.get? b=some u) (f:∀ b∈wr,cw X pins H b):Inv X pins σ H { s with heap:=h',toks:=t' }:=by
 have nw:∀ b u,H b=some u→b∉wr:=fun b u e z=>by rw [(f b z).1] at e;cases e
 refine I.step (g':=s.gens) (d':=s.drawn) (ch:=wr) (fun b hb=>?_) (fun b u _ _ hc e _=>k b u hc e) (fun b u _ _ hc e _=>⟨u.slots,k b u hc e⟩) (fun _ _ _ _ n=>n)
  (fun b u hc e=>⟨u,k b u hc e⟩) (fun _ _ e=>e) (fun _ _ _ e=>e) (fun b ps e=>⟨#[],by rw [e];simp⟩) (fun m hm=>?_) (fun b u e=>?_) I.bare
 ·obtain ⟨f0,f1,f2,f3,f4,f5⟩:=f b hb;exact ⟨f3,f1,f4,f5⟩
 ·obtain ⟨u,es,ep,ho,r⟩:=hm;exact ⟨u,es,ep,k _ u (fun z=>(f _ z).2.1 rfl) ho,r⟩
 ·refine (I.hok b u e).stay (fun c v hc q=>k c v ?_ q) (fun _ q=>q) fun _ _ q=>q;rcases hc with z | z
  ·rw [z];exact nw b u e
  ·exact nw c _ z
end
def Itz (K:PySem.W.Frag) (a b:Addr):It :=
 ⟨fun i H=>∃ xs ys x y,SqL K H a xs∧SqL K H b ys∧xs[i]?=some x∧ys[i]?=some y,
  fun i H v H'=>∃ T x y,v=.ref T∧H T=none∧H'=upd H T (.tup [x,y])∧(∀ xs,SqL K H a xs→xs[i]?=some x)∧(∀ ys,SqL K H b ys→ys[i]?=some y),
  fun i H=>∃ xs ys,SqL K H a xs∧SqL K H b ys∧min xs.length ys.length=i⟩
def Dh (z TI TO i1 i2 l1 l2:Addr) (i:Nat) (h:Heap):Prop:=IsZip h z TI TO .none∧IsPair h TI (.ref i1) (.ref i2)∧(∃ a b,IsPair h TO a b)∧h.IsListIter i1 l1 i∧h.IsListIter i2 l2 i
theorem oM {P:Program} {w:World} {K:PySem.W.Frag} {elts:List Expr} {k:Nat} {pos:Pos} (z TI TO i1 i2 l1 l2:Addr) (D:ZipApart z TI TO i1 i2 l1 l2) :
  Turn P w K (.Tuple elts k pos) (Itz K l1 l2) [z,TI,TO,i1,i2] z (Dh z TI TO i1 i2 l1 l2) where
 mem:=by simp
 obj:=fun i h st b hb=>by
  obtain ⟨hz,hTI,⟨a,c,hTO⟩,⟨o1,e1,c1,d1⟩,⟨o2,e2,c2,d2⟩⟩:=st;simp only [List.mem_cons,List.not_mem_nil,or_false] at hb;rcases hb with rfl | rfl | rfl | rfl | rfl
  ·exact ⟨_,hz,fun v q=>by cases q⟩
  ·exact ⟨_,hTI,fun v q=>by cases q⟩
  ·exact ⟨_,hTO,fun v q=>by cases q⟩
  ·exact ⟨o1,e1,fun v q=>by rw [d1] at q;cases q⟩
  ·exact ⟨o2,e2,fun v q=>by rw [d2] at q;cases q⟩
 keep:=fun i h h' st kk=>by
  obtain ⟨hz,hTI,⟨a,c,hTO⟩,h1,h2⟩:=st;exact ⟨kk z (by simp) _ hz,kk TI (by simp) _ hTI,⟨a,c,kk TO (by simp) _ hTO⟩,h1.at fun o e=>kk i1 (by simp) o e,h2.at fun o e=>kk i2 (by simp) o e⟩
 item:=by
  intro X hP hw hK hc i pins s σ H E I hf st hg;subst hP hw hK;obtain ⟨xs,ys,x,y,hx,hy,ex,ey⟩:=hg;obtain ⟨its,rv,p,hz⟩:=I.list hx;obtain ⟨its2,rv2,p2,hz2⟩:=I.list hy;obtain ⟨s1,s2,s3,s4,s5⟩:=st;have W:=WalksT.zip2 (prog:=X.prog) (w:=X.w) (I.ok.hd hc) z TI TO i1 i2 l1 l2 D its.toArray its2.toArray;have li:i < xs.length:=(List.getElem?_eq_some_iff.mp ex).1;have li2:i < ys.length:=(List.getElem?_eq_some_iff.mp ey).1;have el:=rv.length;have el2:=rv2.length;have wsub:∀ b∈[z,TO,i1,i2],b∈[z,TI,TO,i1,i2]:=fun b hb=>by
   simp only [List.mem_cons,List.not_mem_nil,or_false] at hb ⊢;rcases hb with rfl | rfl | rfl | rfl <;> simp
  refine W.item i s _ _ (by simp only [List.size_toArray];lia) ⟨s1,s2,s3,s4,s5,p.isList,p2.isList⟩ fun T vals h' tk hv hT hTup hm hk=>?_;obtain ⟨u,v,eu,ev,rfl⟩:=hv;obtain ⟨u',eu',ru⟩:=rv.get ex;obtain ⟨v',ev',rv'⟩:=rv2.get ey;have e1:u=u':=by
   have:its[i]?=some u:=by simpa using eu
   rw [eu'] at this;exact (Option.some.inj this).symm
  have e2:v=v':=by
   have:its2[i]?=some v:=by simpa using ev
   rw [ev'] at this;exact (Option.some.inj this).symm
  subst e1 e2;have hTn:H T=none:=I.hok.fresh hT;have I1:Inv X pins σ (upd H T (.tup [x,y])) { s with heap:=h',toks:=tk }:=I.turnedT hk (fun b hb=>hf b (wsub b hb)) hT ⟨by show 2≤sizeLine;decide,[u,v],.cons ru (.cons rv' .nil),hTup⟩;have ap:=W.apart i T h' hm;have f1:∀ b∈[z,TO,i1,i2],cw X pins (upd H T (.tup [x,y])) b:=fun b hb=>by
   obtain ⟨f0,f1⟩:=hf b (wsub b hb);exact ⟨by rw [ah (fun e:b=T=>ap (by rw [← e];exact hb))];exact f0,f1⟩
  refine ⟨_,rfl,W.go elts k pos i T _ _ _ hm fun h'' st2 hk2=>?_⟩;obtain ⟨t1,t2,t3,t4,t5,_,_⟩:=st2;refine ⟨.ref T,_,Inv.turnedL (s:={ s with heap:=h',toks:=tk }) (t':=tk) I1 hk2 f1,rfl,⟨T,x,y,rfl,hTn,rfl,fun zs q=>by rw [I.list_inj q hx];exact ex,fun zs q=>by rw [I.list_inj q hy];exact ey⟩,⟨t1,t2,t3,t4,t5⟩,fun b hb=>?_⟩;have fb:=(hf b hb).1
  by_cases e:b=T
  ·subst e;have lti:s.heap.objs.size > TI:=Heap.lt_size s2;simp only [List.mem_cons,List.not_mem_nil,or_false] at hb;rcases hb with rfl | rfl | rfl | rfl | rfl
   ·exact absurd (by simp) ap
   ·exact absurd lti (Nat.not_lt.mpr hT)
   ·exact absurd (by simp) ap
   ·exact absurd (by simp) ap
   ·exact absurd (by simp) ap
  ·rw [ah e];exact fb
 done:=by
  intro X hP hw hK hc i pins s σ H E I hf st hg;subst hP hw hK;obtain ⟨xs,ys,hx,hy,hi⟩:=hg;obtain ⟨its,rv,p,hz⟩:=I.list hx;obtain ⟨its2,rv2,p2,hz2⟩:=I.list hy;obtain ⟨s1,s2,s3,s4,s5⟩:=st;have W:=WalksT.zip2 (prog:=X.prog) (w:=X.w) (I.ok.hd hc) z TI TO i1 i2 l1 l2 D its.toArray its2.toArray;have el:=rv.length;have el2:=rv2.length;have en:min its.toArray.size its2.toArray.size=i:=by simp only [List.size_toArray];lia
  have wsub:∀ b∈[z,TO,i1,i2],b∈[z,TI,TO,i1,i2]:=fun b hb=>by
   simp only [List.mem_cons,List.not_mem_nil,or_false] at hb ⊢;rcases hb with rfl | rfl | rfl | rfl <;> simp
  refine W.done s _ _ ?_ fun h' tk hk=>⟨rfl,I.turnedL hk fun b hb=>hf b (wsub b hb)⟩;rw [en];exact ⟨s1,s2,s3,s4,s5,p.isList,p2.isList⟩
 self:=fun _ _ _ _ _ st h=>wpAny_pyIter_zip st.1 h
section
variable {X:Cx} {elts:List Expr} {k:Nat} {tpos:Pos}
def DW (K:PySem.W.Frag) (ta:TA):TI:=fun σ H R=>ta σ H fun vs H1=>∃ a b,vs=[.ref a,.ref b]∧(∃ xs,SqL K H1 a xs)∧(∃ ys,SqL K H1 b ys)∧R (Itz K a b) H1
theorem wE {a b:Expr} {ta:TA} {p pos:Pos} (hg:Gl X "zip") (hm:X.mg "zip" = none) (ha:PA X [a,b] ta) (hs:starEach [a,b] X.env=[(false,eval a X.env),(false,eval b X.env)]:=by rfl) (hs2:starEach [b] X.env=[(false,eval b X.env)]:=by rfl) :
  PI X (.Tuple elts k tpos) (.Call (.Name "zip" p) [a,b] [] pos) (DW X.K ta):=by
 intro pins s σ H R I h;refine Call_ (bP I hg hm boot_zip (PyProof.Rows.callWith_type1 (thn (ha pos pins s σ H _ I h) fun us s1 ⟨vs,H1,I1,r1,q1⟩=>?_) (by rw [hs,hs2]) (by rw [hs2];rfl)));obtain ⟨l1,l2,e,⟨xs,hx⟩,⟨ys,hy⟩,q⟩:=q1;subst e;obtain ⟨u,v,rfl,ru,rv⟩:=r1.two
 cases ru
 cases rv
 obtain ⟨its,rr,pl,hz⟩:=I1.list hx;obtain ⟨its2,rr2,pl2,hz2⟩:=I1.list hy;have lt1:l1 < s1.heap.objs.size:=by obtain ⟨o,e,_⟩:=pl.isList;exact Heap.lt_size e
 have lt2:l2 < s1.heap.objs.size:=by obtain ⟨o,e,_⟩:=pl2.isList;exact Heap.lt_size e
 refine call_zip_2 pl.isList pl2.isList fun h' z1 z2 z3 z4 z5 zs kk=>?_;have I2:Inv X pins σ H1 { s1 with heap:=h' }:=I1.kept (t':=s1.toks) kk;refine wpAny_pyIter_zip z1 ?_;refine ⟨_,_,_,_,H1,rfl,I2,oM _ _ _ _ _ l1 l2 ?_,⟨z1,z2,⟨_,_,z3⟩,z4,z5⟩,fun b hb=>?_,q⟩
 ·have lt1':s1.heap.objs.size > l1:=lt1;have lt2':s1.heap.objs.size > l2:=lt2
  constructor <;> (show ¬ (@Eq Nat _ _)) <;> lia
 ·have:s1.heap.objs.size≤b:=by
   simp only [List.mem_cons,List.not_mem_nil,or_false] at hb;rcases hb with rfl | rfl | rfl | rfl | rfl <;> lia
  exact I1.fpOk this (I1.hok.fresh this)
end
theorem oN {K:PySem.W.Frag} {a b l:Addr} {xs ys:List V} {g:TG} {tb:List V→Addr→St→Hp→(List V→St→Hp→Prop)→Prop} {Q:VK} {σ0:St} {H0:Hp} (Pv:Nat→List V→St→Hp→Prop) (h0:Pv 0 [] σ0 H0)
  (hla:∀ i us σ H,Pv i us σ H→SqL K H a xs∧SqL K H b ys)
  (hs:∀ i x y T us σ H (N:List V→St→Hp→Prop),xs[i]?=some x→ys[i]?=some y→H T=none→Pv i us σ H→(∀ us' σ' H',Pv (i+1) us' σ' H'→N us' σ' H')→g (.ref T) σ (upd H T (.tup [x,y])) fun σ2 H2=>tb us l σ2 H2 N)
  (hd:∀ us σ H,Pv (min xs.length ys.length) us σ H→Q (.ref l) H) :
  ∃ W:Nat→Nat→List V→St→Hp→Prop,(∃ m,W 0 m [] σ0 H0)∧∀ i m us σ' H',W i m us σ' H'→((Itz K a b).stop i H'∧Q (.ref l) H') ∨
   ((Itz K a b).go i H'∧∀ x H'',(Itz K a b).yld i H' x H''→g x σ' H'' fun σ2 H2=>tb us l σ2 H2 fun us' σ3 H3=>∃ m',m' < m∧W (i+1) m' us' σ3 H3):=by
 refine ⟨fun i m us σ H=>m=min xs.length ys.length - i∧i≤min xs.length ys.length∧Pv i us σ H,⟨_,rfl,Nat.zero_le _,h0⟩,?_⟩;rintro i m us σ H ⟨rfl,hi,p⟩;obtain ⟨sa,sb⟩:=hla i us σ H p
 by_cases hlt:i < min xs.length ys.length
 ·obtain ⟨x,ex⟩:∃ x,xs[i]?=some x:=⟨_,List.getElem?_eq_getElem (by lia)⟩;obtain ⟨y,ey⟩:∃ y,ys[i]?=some y:=⟨_,List.getElem?_eq_getElem (by lia)⟩;refine .inr ⟨⟨xs,ys,x,y,sa,sb,ex,ey⟩,fun v H' q=>?_⟩;obtain ⟨T,x',y',rfl,hT,rfl,q1,q2⟩:=q;have e1:=q1 xs sa;have e2:=q2 ys sb;exact hs i x' y' T us σ H _ e1 e2 hT p fun us' σ' H' w=>⟨_,by lia,rfl,hlt,w⟩
 ·have e:i=min xs.length ys.length:=by lia
  subst e;exact .inl ⟨⟨xs,ys,sa,sb,rfl⟩,hd us σ H p⟩
def met:List Key→List Key
 | []=>[]
 | k :: r=>if r.any (fun j=>decide (j=k)) then met r else k :: met r
theorem iP (k:Key):∀ l:List Key,(met l).any (fun j=>decide (j=k))=l.any (fun j=>decide (j=k))
 | []=>rfl
 | a :: r=>by
  unfold met
  split
  ·rename_i h
   rw [iP k r,List.any_cons]
   by_cases e:a=k
   ·subst e;rw [h];simp
   ·simp [e]
  ·rw [List.any_cons,List.any_cons,iP k r]
theorem oO:∀ l:List Key,(met l).length≤l.length
 | []=>Nat.le_refl _
 | a :: r=>by
  unfold met;have:=oO r
  split
  ·rw [List.length_cons];lia
  ·rw [List.length_cons,List.length_cons];lia
theorem mi:∀ {l:List Key},l.Nodup→(met l).length=l.length
 | [],_=>rfl
 | a :: r,h=>by
  obtain ⟨h1,h2⟩:=List.nodup_cons.mp h;unfold met;rw [if_neg,List.length_cons,List.length_cons,mi h2];intro z;obtain ⟨b,hb,e⟩:=List.any_eq_true.mp z;exact h1 (of_decide_eq_true e ▸ hb)
abbrev eA (ks:List Key) (i:Nat):List Key:=met (ks.take i).reverse
theorem h8 {ks:List Key} {i:Nat} {k:Key} (h:ks[i]?=some k):eA ks (i+1)=if (eA ks i).any (fun j=>decide (j=k)) then eA ks i else k :: eA ks i:=by
 have e:(ks.take (i+1)).reverse=k :: (ks.take i).reverse:=by rw [List.take_add_one,h];simp
 show met (ks.take (i+1)).reverse=_;rw [e];show (if (ks.take i).reverse.any (fun j=>decide (j=k)) then met (ks.take i).reverse else k :: met (ks.take i).reverse)=_;rw [← iP k (ks.take i).reverse]
theorem qz (ks:List Key) (i:Nat):(eA ks i).length≤i:=by
 have h:=oO (ks.take i).reverse;rw [List.length_reverse,List.length_take] at h;show (met (ks.take i).reverse).length≤i;lia
section
variable {P:Program} {w:World} {A:Around} {R:Result→Shared→Prop} {it:Addr} {fp wr:List Addr} {G:Array GenState→Array GenState→Prop} {n:Nat} {Pt:Nat→Value→Prop} {St:Nat→Shared→Prop}
abbrev SetK (P:Program) (w:World) (h:Heap) (a:Addr) (l:List Key):Prop:=h.SetOf (ag P w) a (fun k=>l.any fun j=>decide (j=k)) l.length
theorem SetK.kept {h h':Heap} {a:Addr} {l:List Key} (x:SetK P w h a l) (k:∀ o,h.get? a=some o→h'.get? a=some o):SetK P w h' a l:=by
 obtain ⟨o,es,ep,tb,ho,rest⟩:=x;exact ⟨o,es,ep,tb,k o ho,rest⟩
theorem oP {h:Heap} {a:Addr} {S S':Key→Bool} {n n':Nat} (x:h.SetOf (ag P w) a S n) (e:∀ k,S k=S' k) (en:n=n'):h.SetOf (ag P w) a S' n':=by
 cases en
 cases (funext e:S=S')
 exact x
theorem oQ (W:WalksS P w A.in1 it fp wr G n Pt St) (S:Addr) (hS0:S∉fp) (ks:List Key) (hks:ks.length=n) (hv:∀ i v,Pt i v→∃ k,ks[i]?=some k∧(ag P w).is k v=true∧v.scannable=true) (hn:n+1 < scanBound) :
  ∀ (d i:Nat) (s:Shared),n - i=d→i≤n→St i s→SetK P w s.heap S (eA ks i) →
   (∀ s',Moved (S :: wr) G s s'→SetK P w s'.heap S (eA ks n)→R (.ok (.ret .none)) s')→codeAny (model P w) A (.builtin "set.update.loop" ⟨[.ref S,.ref it],[]⟩) R s:=by
 have nw:S∉wr:=fun z=>hS0 (W.sub _ z);have up:∀ b∈wr,b∈S :: wr:=fun b z=>List.mem_cons_of_mem _ z;intro d
 induction d with
 | zero =>
  intro i s e1 e2 st hS hR;obtain rfl:i=n:=by lia
  refine codeAny_builtin PyProof.Rows.F.entry_set_update_loop (by
   rw [Around.under_plainId PyProof.Rows.F.plain_set_update_loop _];show wpAny _ A.in1 (pyNext (.ref it) >>= _) _ _ s;refine wpAny_bind (W.done s _ _ st fun s' mv=>?_);exact wpAny_pure (hR s' (mv.mono up) (hS.kept fun o q=>mv.heap S o nw q)))
 | succ d ih =>
  intro i s e1 e2 st hS hR;have lt:i < n:=by lia
  refine codeAny_builtin PyProof.Rows.F.entry_set_update_loop (by
   rw [Around.under_plainId PyProof.Rows.F.plain_set_update_loop _];show wpAny _ A.in1 (pyNext (.ref it) >>= _) _ _ s;refine wpAny_bind (W.item i s _ _ lt st fun v s' pv st' mv=>?_);obtain ⟨k,ek,kv,sc⟩:=hv i v pv;have hS':=hS.kept (h':=s'.heap) fun o q=>mv.heap S o nw q;show wpAny _ A.in1 (holding [v] (setAdd S v) >>= _) _ _ s';refine wpAny_bind (wpAny_holding (by
    unfold setAdd;refine wpAny_holding (wpAny_bind ((ag P w).pyHash kv ?_));have room:(eA ks i).length+1 < scanBound:=by have:=qz ks i;lia
    refine wpAny_setAddHashed_of (knd:=ag P w) (s:={ s' with toks:=s'.toks+1 }) kv sc hS' room fun h2 sb hS2=>?_;have hS3:SetK P w h2 S (eA ks (i+1)):=by
     refine oP hS2 (fun j=>?_) ?_
     ·rw [h8 ek]
      split
      ·rename_i c
       by_cases z:j=k
       ·subst z;rw [c];simp
       ·simp [z]
      ·rw [List.any_cons,Bool.or_comm]
       congr 1
       exact decide_eq_decide.mpr eq_comm
     ·rw [h8 ek]
      split <;> rfl
    refine wpAny_pure ⟨plainId_quiet PyProof.Rows.F.plain_set_update_loop _,ih (i+1) _ (by lia) lt (W.frame _ s' _ _ st' (Nat.le_succ _) fun b hb o q=>?_) hS3 fun s3 mv3 hS4=>?_⟩
    ·rw [sb.2 b (fun z:b=S=>hS0 (by rw [← z];exact hb))];exact q
    ·refine hR s3 (Moved.trans W.gtrans ((mv.mono up).then_heap (Nat.le_succ _) fun b o hb q=>?_) mv3) hS4;rw [sb.2 b (fun z:b=S=>hb (by rw [z];exact List.mem_cons_self))];exact q)))
theorem gi:isSubtype (.type "tuple") (.type "set")=pure false:=bQ _ _
theorem cW:isSubtype (.type "tuple") (.type "frozenset")=pure false:=bQ _ _
end
section
variable {P:Program} {w:World} {A:Around} {E:Value→Shared→Prop} {s:Shared}
def cc (b:Bool):Obj:={ cls:=.type "set",dict:=none,data:=.set #[] 0 (.fresh 0 0 b) }
set_option maxHeartbeats 3200000 in
theorem iQ {t:Addr} {its:Array Value} {ks:List Key} {Q:Value→Shared→Prop} (hh:A.handled=none) (ht:s.heap.IsTuple t its) (hl:ks.length=its.size) (hv:∀ (i:Nat) v,its[i]?=some v→∃ k,ks[i]?=some k∧(ag P w).is k v=true∧v.scannable=true)
  (hn:its.size+1 < scanBound) (h:∀ (h':Heap) (tk:Nat),SetK P w h' s.heap.objs.size (eA ks its.size)→(∀ b o,s.heap.get? b=some o→h'.get? b=some o)→Q (.ref s.heap.objs.size) { s with heap:=h',toks:=tk }) :
  wpAny (model P w) A (call (.type "set") [.ref t]) Q E s:=by
 obtain ⟨c0,tl,hmro⟩:=PySem.F.called_set.mro;have k1:=PySem.F.called_set.made;have k2:=PySem.F.called_set.sub;refine wpAny_call (codeAny_of_tree (by
  show wpAny _ _ (callAny (.type "set") _) _ _ _;refine wpAny_pure ⟨Code.quiet_builtin _ (by decide +kernel),codeAny_builtin PySem.F.entry_type_call ?_⟩;rw [Around.under_plain (weight_type_call_type "set" [.ref t] []) rfl];have k3:=PySem.F.called_set.notType;have k4:=PySem.F.called_set.canCreate;have k5:=PySem.F.typeCall_set_1 (.ref t)
  repeat (any_goals (first | assumption | wp_step))
  refine codeAny_mono (code_set_new_1 (.ref t) (E:=E) (Q₁:=fun ob s1=>∃ b:Bool,ob=.ref s.heap.objs.size∧s1={ s with heap:=s.heap.push (cc b) }) fun b=>⟨b,rfl,rfl⟩) fun r s1 hr=>?_
  cases r with
  | error e=>exact hr
  | ok fl =>
   cases fl with
   | ret ob =>
    obtain ⟨b,rfl,rfl⟩:=hr;have g1:(s.heap.push (cc b)).get? s.heap.objs.size=some (cc b):=Heap.get?_push_size _ rfl;have tS:Shared.TypeIs { s with heap:=s.heap.push (cc b) } (.ref s.heap.objs.size) "set" :=⟨_,g1,rfl⟩;have k6:=PySem.F.called_set.init.lookup;have k7:=PySem.F.called_set.init.bind (.ref s.heap.objs.size)
    repeat (any_goals (first | assumption | wp_step))
    refine codeAny_mono (codeAny_call_builtin (R:=wants (fun r s2=>r=.none∧∃ h' tk,s2={ s with heap:=h',toks:=tk }∧SetK P w h' s.heap.objs.size (eA ks its.size)∧(∀ b o,s.heap.get? b=some o→h'.get? b=some o)) E)
     PySem.F.called_set.init.plain PySem.F.entry_set_init (check_set_init_1 tS ?_)) fun r2 s2 hr2=>?_
    ·obtain ⟨⟨oc,od,oa,osl⟩,ho,hcl,nl,hdt⟩:=id ht;simp only at hcl hdt;subst hcl hdt;have ht1:(s.heap.push (cc b)).IsTuple t its:=⟨_,Heap.get?_push_of_some _ ho,rfl,nl,rfl⟩;have ho1:(s.heap.push (cc b)).get? t=some { cls:=.type "tuple",dict:=od,data:=.seq its nl,slots:=osl }:=Heap.get?_push_of_some _ ho;have k8:=gi;have k9:=cW;have ka:(Value.type "tuple" == Value.type "dict")=false:=by decide
     unfold Builtin.«set.__init__» noKeywords Builtin.Frozenset.updateFrom
     generalize hPI:pyIter=PI
     wp_walk
     subst hPI;refine wpAny_pyIter_tuple ht1 ?_;refine wpAny_bind (wpAny_runValue ?_);have lt:s.heap.objs.size > t:=Heap.lt_size ho;have hh3:A.in1.in1.in1.handled=none:=by simp [hh]
     have sz:(s.heap.push (cc b)).objs.size=s.heap.objs.size+1:=Heap.size_push ..;have ne1:t≠(s.heap.push (cc b)).objs.size:=by rw [sz];exact Nat.ne_of_lt (Nat.lt_succ_of_lt lt)
     have nS:s.heap.objs.size∉[(s.heap.push (cc b)).objs.size,t]:=by
      rw [sz];intro z;rcases List.mem_cons.mp z with z | z
      ·exact absurd z (Nat.ne_of_lt (Nat.lt_succ_self _))
      ·exact absurd (List.mem_singleton.mp z) (Nat.ne_of_gt lt)
     refine oQ ((Walks.tuple hh3 _ t ne1 its).toS) s.heap.objs.size nS ks hl hv hn (its.size - 0) 0 _ rfl (Nat.zero_le _) ⟨⟨_,Heap.get?_push_size _ rfl,rfl,rfl⟩,ht1.push _⟩ ?_ ?_
     ·exact ⟨_,#[],0,_,Heap.get?_push_of_some _ g1,⟨rfl,rfl,rfl⟩,rfl,(fun e he=>by simp at he),(fun k=>⟨fun z=>Bool.noConfusion (show false=true from z),fun ⟨e,he,_⟩=>(List.not_mem_nil he).elim⟩),by decide,rfl,rfl⟩
     ·intro s3 mv hS3;obtain ⟨h3,g3,d3,t3,o3⟩:=s3
      cases (mv.gens:g3=s.gens)
      cases (mv.drawn:d3=s.drawn)
      cases (mv.os:o3=s.os)
      refine wpAny_pure (wpAny_pure ⟨rfl,h3,t3,rfl,hS3,fun c o q=>?_⟩);have lc:s.heap.objs.size > c:=Heap.lt_size q;refine mv.heap c o ?_ (Heap.get?_push_of_some _ (Heap.get?_push_of_some _ q));intro z;rcases List.mem_cons.mp z with z | z
      ·exact absurd z (Nat.ne_of_lt lc)
      ·exact absurd ((List.mem_singleton.mp z).trans sz) (Nat.ne_of_lt (Nat.lt_succ_of_lt lc))
    ·cases r2 with
     | error e=>exact hr2
     | ok fl2 =>
      cases fl2 with
      | ret r =>
       obtain ⟨rfl,h',tk,rfl,q1,q2⟩:=hr2
       repeat (any_goals (first | assumption | wp_step))
       exact h _ _ q1 q2
      | _=>exact hr2.elim
   | _=>exact hr.elim))
end
def wF (P:Program) (w:World) (p:Addr) (n:Nat):HO:=.ext fun h=>∃ l,SetK P w h p l∧l.length=n
section
variable {X:Cx}
theorem qA {k:Key} {u:Value} (r:RelV (kV k) u):u.scannable=true:=by
 cases k with
 | inl i=>obtain ⟨t,rfl⟩:=r;rfl
 | inr z=>obtain ⟨t,rfl⟩:=r;rfl
theorem ni (hc:X.calm=true):aG X (.type "set") (fun xs H Q=>∃ a ks,xs=[.ref a]∧SqT X.K H a (ks.map kV)∧ks.length≤1000∧∀ p,H p=none→Q (.ref p) (upd H p (wF X.prog X.w p (eA ks ks.length).length))):=by
 intro pins s σ H xs us Q I r h;obtain ⟨a,ks,rfl,ha,hl,q⟩:=h;obtain ⟨u,rfl,rx⟩:=bX r
 cases rx
 obtain ⟨its,rv,ht,hz⟩:=I.tuple ha;have el:=rv.length;rw [List.length_map] at el;have ez:its.toArray.size=ks.length:=by rw [List.size_toArray,el]
 refine iQ (ks:=ks) (I.ok.hd hc) (show s.heap.IsTuple a its.toArray from ht) ez.symm (fun i v e=>?_) (by rw [ez];unfold scanBound;lia) fun h' tk hS kk=>?_
 ·have e':its[i]?=some v:=by simpa using e
  have hi:i < ks.length:=by rw [el];exact (List.getElem?_eq_some_iff.mp e').1
  obtain ⟨v',ev,rk⟩:=rv.get (i:=i) (x:=kV ks[i]) (by rw [List.getElem?_map,List.getElem?_eq_getElem hi];rfl);rw [e'] at ev
  cases ev
  exact ⟨ks[i],List.getElem?_eq_getElem hi,h7 rk,qA rk⟩
 ·rw [ez] at hS;refine ⟨.ref s.heap.objs.size,_,I.laid (a:=s.heap.objs.size) (o:=wF X.prog X.w s.heap.objs.size (eA ks ks.length).length) kk (Nat.le_refl _) ?_,rfl,q _ (I.hok.fresh (Nat.le_refl _))⟩;obtain ⟨o,_,_,_,ho,_⟩:=id hS;exact ⟨⟨_,hS,rfl⟩,⟨o,ho⟩,fun h1 h2 ⟨l,hl,e⟩ k=>⟨l,hl.kept k,e⟩⟩
theorem nj:aG X (.builtin "len") (fun xs H Q=>∃ p n,xs=[.ref p]∧H p=some (wF X.prog X.w p n)∧Q (.int n) H):=by
 intro pins s σ H xs us Q I r h;obtain ⟨p,n,rfl,e,q⟩:=h;obtain ⟨u,rfl,rx⟩:=bX r
 cases rx
 obtain ⟨⟨l,hS,en⟩,_,_⟩:=I.hok p _ e;obtain ⟨o,es,ep,tb,ho,hex,hd,_,_,hb,hf,hn⟩:=hS;have e2:es.size=n:=hn.trans en;have hb':es.size < 4096:=hb;exact call_len_set ho hex hd hf (by lia) ⟨.int n,H,I.tok _,⟨_,by rw [e2]⟩,q⟩
end
section
variable {K:PySem.W.Frag} {a b l:Addr} {xs ys:List V} {g:TG} {tb:List V→Addr→St→Hp→(List V→St→Hp→Prop)→Prop} {R:Hp→Prop} {σ0:St} {H0:Hp}
theorem bZ (Pv:Nat→List V→St→Hp→Prop) (h0:Pv 0 [] σ0 H0) (hl:∀ i ys σ H,i≤xs.length→Pv i ys σ H→SqT K H a xs)
  (hs:∀ i x ys σ H (N:List V→St→Hp→Prop),xs[i]?=some x→Pv i ys σ H→(∀ ys' σ' H',Pv (i+1) ys' σ' H'→N ys' σ' H')→g x σ H fun σ2 H2=>tb ys l σ2 H2 N)
  (hd:∀ ys σ H,Pv xs.length ys σ H→R H) :
  ∃ W:Nat→Nat→List V→St→Hp→Prop,(∃ m,W 0 m [] σ0 H0)∧∀ i m ys σ' H',W i m ys σ' H'→((Itt K a).stop i H'∧R H') ∨
   ((Itt K a).go i H'∧∀ x H'',(Itt K a).yld i H' x H''→g x σ' H'' fun σ2 H2=>tb ys l σ2 H2 fun ys' σ3 H3=>∃ m',m' < m∧W (i+1) m' ys' σ3 H3):=oz (Q:=fun _ H=>R H) Pv h0 hl hs hd
theorem bx (Pv:Nat→List V→St→Hp→Prop) (h0:Pv 0 [] σ0 H0) (hl:∀ i ys σ H,i≤xs.length→Pv i ys σ H→SqL K H a xs)
  (hs:∀ i x ys σ H (N:List V→St→Hp→Prop),xs[i]?=some x→Pv i ys σ H→(∀ ys' σ' H',Pv (i+1) ys' σ' H'→N ys' σ' H')→g x σ H fun σ2 H2=>tb ys l σ2 H2 N)
  (hd:∀ ys σ H,Pv xs.length ys σ H→R H) :
  ∃ W:Nat→Nat→List V→St→Hp→Prop,(∃ m,W 0 m [] σ0 H0)∧∀ i m ys σ' H',W i m ys σ' H'→((Itl K a).stop i H'∧R H') ∨
   ((Itl K a).go i H'∧∀ x H'',(Itl K a).yld i H' x H''→g x σ' H'' fun σ2 H2=>tb ys l σ2 H2 fun ys' σ3 H3=>∃ m',m' < m∧W (i+1) m' ys' σ3 H3):=m7 (Q:=fun _ H=>R H) Pv h0 hl hs hd
theorem nn (Pv:Nat→List V→St→Hp→Prop) (h0:Pv 0 [] σ0 H0) (hla:∀ i us σ H,Pv i us σ H→SqL K H a xs∧SqL K H b ys)
  (hs:∀ i x y T us σ H (N:List V→St→Hp→Prop),xs[i]?=some x→ys[i]?=some y→H T=none→Pv i us σ H→(∀ us' σ' H',Pv (i+1) us' σ' H'→N us' σ' H')→g (.ref T) σ (upd H T (.tup [x,y])) fun σ2 H2=>tb us l σ2 H2 N)
  (hd:∀ us σ H,Pv (min xs.length ys.length) us σ H→R H) :
  ∃ W:Nat→Nat→List V→St→Hp→Prop,(∃ m,W 0 m [] σ0 H0)∧∀ i m us σ' H',W i m us σ' H'→((Itz K a b).stop i H'∧R H') ∨
   ((Itz K a b).go i H'∧∀ x H'',(Itz K a b).yld i H' x H''→g x σ' H'' fun σ2 H2=>tb us l σ2 H2 fun us' σ3 H3=>∃ m',m' < m∧W (i+1) m' us' σ3 H3):=oN (Q:=fun _ H=>R H) Pv h0 hla hs hd
end
theorem ft {X:Cx} {K:PySem.W.Frag} {es:List Expr} {k:Nat} {pos:Pos} {t:TGs} {n:Nat} (hK:X.K=K) (hc:X.calm=true) (h:PGs X es t)
  (hn:(assignEach es X.env).length=n:=by rfl) (hst:(assignEach es X.env).findIdx? (·.1)=none:=by rfl):PG X (.Tuple es k pos) (CU K n t):=by
 subst hK;exact fw hc h hn hst
theorem aD {H H1:Hp} {l:Addr} {o:HO} (hl:H l=none) (g:Same H H1):Same H (upd H1 l o):=fun b u e=>by rw [ah (aq e hl)];exact g b u e
section
variable {X:Cx}
theorem oR {elt tgt iter:Expr} {ifs:List Expr} {scope:Scope} {pos spos py:Pos} {NL N':List Str} {ρ:List Nat} {wi:TI} {g:TG} {tb:List V→Addr→St→Hp→(List V→St→Hp→Prop)→Prop} {body:Value→Env→Sem Unit} {j:Nat} {y:Str}
  (hN:X.N.Nodup) (hj:X.N[j]?=some y) (hy:Loc X.env.scope y) (hfn:X.fn y=true∨X.env.scope.names.lookup y=some .local)
  (hsw:swapsWith (.ListComp elt [⟨tgt,iter,ifs,0⟩] scope pos) (some (.Name y py)) spos.line X.env=pure true)
  (hc:X.calm=true) (S:CScope X scope NL ρ N') (hi:PI X tgt iter wi)
  (hg:∀ C s₀ H₀ fp,PG (ccx X scope C N' s₀ H₀ fp) tgt g) (hb:∀ C s₀ H₀ fp,PB (ccx X scope C N' s₀ H₀ fp) (fun acc=>body acc (ccx X scope C N' s₀ H₀ fp).env) tb)
  (he:∀ (it acc:Value) (env:Env),compTurn (.ListComp elt [⟨tgt,iter,ifs,0⟩] scope pos) 0 it acc env=(standAt iter.pos >>= fun _=>pyNext it >>= fun r=>match r with
   | none=>pure (.done .next)
   | some v=>letOwnedTupleGo tgt it v >>= fun _=>assign tgt env v >>= fun _=>body acc env >>= fun _=>again (.compLoop (.ListComp elt [⟨tgt,iter,ifs,0⟩] scope pos) 0 it acc env)))
  (hs:∀ x,foldedSetIterable iter X.env x=pure x:=by intro _;rfl):PS X (.Assign [.Name y py] (.ListComp elt [⟨tgt,iter,ifs,0⟩] scope pos) spos) (p9 (jL NL.length ρ wi g tb) (jF j)):=by
 intro pins s σ H D0 I h;have free_in:∀ x∈scope.names,x.2=.free→∃ c,X.env.cells.lookup x.1=some c:=fun x hx hk=>I.ok.has x.1 (S.frees x hx hk);rw [exec_Assign_Name_used _ _ _ _ hsw];refine wpAny_bind (wpAny_standAt (wpAny_bind ?_));rw [arm_evalThenUse_ListComp];refine wpAny_bind (thn (Q:=fun _ s'=>SP X pins D0 .next s') ?_ fun _ s' q0=>wpAny_pure (wpAny_pure q0));refine wpAny_comprehension_free (use:=some (assign (.Name y py) X.env)) (Q:=fun _ s'=>SP X pins D0 .next s') rfl hs (fB free_in) S.kind S.locs ?_;refine thn (hi pins s σ H _ I h) fun v s1 h1=>thn h1 fun itv s2 h2=>?_;obtain ⟨it,fp,tn,J,H2,e,I2,T,st2,f2,w⟩:=h2;subst e;refine wpAny_newObj_type (wpAny_newFunctionEnv S.nocell (by intro y hy;simp at hy) (fun h₁ hns₁ hsb₁=>?_) S.kind);dsimp only at hns₁ hsb₁ ⊢
 generalize hH2:s2.heap.push { cls:=.type "list",dict:=none,data:=.seq ([]:List Value).toArray }=h2' at hns₁ hsb₁ ⊢
 have hCs:h2'.objs.size=s2.heap.objs.size+1:=by rw [← hH2,Heap.size_push]
 have hDC:s2.heap.objs.size≠h2'.objs.size:=by rw [hCs];exact Nat.ne_of_lt (Nat.lt_succ_self _)
 have hC:s2.heap.objs.size≤h2'.objs.size:=by rw [hCs];exact Nat.le_succ _
 have old:∀ b o,s2.heap.get? b=some o→h₁.get? b=some o:=fun b o e=>hsb₁.extBut b o (Nat.ne_of_lt (Nat.lt_of_lt_of_le (Heap.lt_size e) hC)) (Heap.get?_push_of_some _ (hH2 ▸ Heap.get?_push_of_some _ e));have hd:h₁.get? s2.heap.objs.size=some { cls:=.type "list",data:=.seq #[] 0 }:=hsb₁.extBut _ _ hDC (Heap.get?_push_of_some _ (hH2 ▸ Heap.get?_push_size _ rfl));have hfo:∀ b∈fp,∃ o,s2.heap.get? b=some o:=fun b hb=>let ⟨o,e,_⟩:=T.obj _ _ st2 b hb;⟨o,e⟩;have I4:Inv (ccx X scope h2'.objs.size N' s2 H2 fp) (X.pn++pins) (cst NL.length ρ σ) (upd H2 s2.heap.objs.size (.lst [])) { s2 with heap:=h₁,toks:=s2.toks+([]:List (Str×Value)).length } :=
  Inv.comp S I2 f2 hfo hC (Nat.le_refl _) hDC old hd (by simpa using hns₁)
 have hD0:H2 s2.heap.objs.size=none:=I2.hok.fresh (Nat.le_refl _);have nfp:s2.heap.objs.size∉fp:=fun z=>by
  obtain ⟨o,e⟩:=hfo _ z;exact absurd (Heap.lt_size e) (Nat.lt_irrefl _)
 obtain ⟨W,⟨m0,w0⟩,turn⟩:=w s2.heap.objs.size hD0;have stat:∀ {H':Hp},(∀ b∈fp,H' b=none)→∀ b∈fp,cw (ccx X scope h2'.objs.size N' s2 H2 fp) (X.pn++pins) H' b:=fun {H'} hn b hb=>by
  obtain ⟨f0,f1,f2',f3,f4,f5⟩:=f2 b hb;have ok:=I4.ok;refine ⟨hn b hb,(ok.exf b hb).1,ok.exfs b hb,.inl hb,(ok.exf b hb).2,fun p hp=>f5 p hp⟩
 have loop:∀ s₃:Shared,s₃={ s2 with heap:=h₁,toks:=s2.toks+([]:List (Str×Value)).length } →
   codeAny (model X.prog X.w) X.A (.compLoop (.ListComp elt [⟨tgt,iter,ifs,0⟩] scope pos) 0 (.ref it) (.ref s2.heap.objs.size) (compEnvC scope (bM X.env scope.names []) h2'.objs.size X.env))
    (compPost (model X.prog X.w) X.A X.xe (some (assign (.Name y py) X.env)) (fun _ s'=>SP X pins D0 .next s') (.ref s2.heap.objs.size) h2'.objs.size) s₃:=by
  rintro s₃ rfl;refine codeAny_loop rfl (fun n s'=>∃ i ys σ' H',Inv (ccx X scope h2'.objs.size N' s2 H2 fp) (X.pn++pins) σ' H' s'∧tn i s'.heap∧(∀ b∈fp,H' b=none)∧W i n ys σ' H') (fun n s3 hI=>?_) m0
   ⟨0,[],_,_,I4,T.keep _ _ _ st2 (fun b _ o e=>old b o e),fun b hb=>?_,w0⟩
  ·obtain ⟨i,ys,σ3,H3,I3,st3,fr3,w3⟩:=hI;show wpAny _ _ ((compTurn (.ListComp elt [⟨tgt,iter,ifs,0⟩] scope pos) 0 (.ref it) (.ref s2.heap.objs.size) (compEnvC scope (bM X.env scope.names []) h2'.objs.size X.env)).onRaise (fun x=>do noteFrame x _;theTreesLotGoes x)) _ _ s3;refine wpAny_noted ?_;rw [he];refine wpAny_bind (wpAny_standAt (wpAny_bind ?_));rcases turn i n ys σ3 H3 w3 with ⟨stop,qn⟩ | ⟨go,step⟩
   ·refine thn (T.done (ccx X scope h2'.objs.size N' s2 H2 fp) rfl rfl rfl hc i _ s3 σ3 H3 _ I3 (stat fr3) st3 stop) fun r s4 ⟨hr,I5⟩=>?_;subst hr;refine wpAny_pure ?_;obtain ⟨m,hm,_⟩:=id I5.loc;have IX:Inv X pins σ H3 { s4 with heap:=s4.heap }:=Inv.compEnd I2 f2 hC I5 (Heap.SameBut.refl _ _);have cne:∀ x c,X.env.cells.lookup x=some c→c≠h2'.objs.size:=fun x c ec z=>by
     obtain ⟨v0,oc,hoc,_⟩:=I2.cell x c ec;exact absurd (Nat.lt_of_lt_of_le (Heap.lt_size hoc) hC) (by rw [z];exact Nat.lt_irrefl _)
    have lne:h2'.objs.size≠X.env.locals:=Nat.ne_of_gt (Nat.lt_of_lt_of_le I2.lt hC);refine wpAny_assign_Name (gP IX hN hj hy (v:=.ref s2.heap.objs.size) rfl (fun s5 I6 ⟨a,sb,ha⟩=>?_) hfn);have na:h2'.objs.size≠a:=fun z=>by
     rcases ha with e | e
     ·exact lne (z.trans e)
     ·exact cne _ _ e z.symm
    refine ⟨m,hm.at' fun o e=>(sb.2 _ na).trans e,fun h' hs'=>⟨_,H3,?_,qn⟩⟩;exact I6.turned (t':=s5.toks) (fun b o hb' e=>(hs'.2 b hb').trans e) I5.free lne (.inr (Nat.le_trans I2.sz hC)) cne fun q hq z=>by
     obtain ⟨e,_⟩:=I2.pin q hq;exact absurd (Nat.lt_of_lt_of_le (Heap.lt_size e) hC) (by rw [z];exact Nat.lt_irrefl _)
   ·refine thn (T.item (ccx X scope h2'.objs.size N' s2 H2 fp) rfl rfl rfl hc i _ s3 σ3 H3 _ I3 (stat fr3) st3 go) fun r s4 ⟨u,hr,h4⟩=>?_;subst hr;refine wpAny_bind (thn h4 fun _ s5 ⟨x,H5,I5,r5,y5,st5,fr5⟩=>?_);have I5':=I5.pinned (stat fr5) (T.obj _ _ st5);refine wpAny_bind (wpAny_mono (hg h2'.objs.size s2 H2 fp _ s5 σ3 H5 x u _ I5' r5 (step x H5 y5)) (fun _ s6 ⟨σ6,H6,I6,q6⟩=>?_) fun _ _ z=>z.elim);refine wpAny_bind (wpAny_mono (hb h2'.objs.size s2 H2 fp _ s6 σ6 H6 s2.heap.objs.size ys _ I6 q6) (fun _ s7 ⟨ys7,σ7,H7,I7,m',hm,w7⟩=>?_) fun _ _ z=>z.elim);refine wpAny_pure ⟨rfl,m',hm,i+1,ys7,σ7,H7,I7.unpinned,T.keep _ _ _ st5 fun b hb o e=>(I7.pin (b,o) (List.mem_append_right _ (List.mem_append_right _ (a7 hb e)))).1,fun b hb=>?_,w7⟩;obtain ⟨o,e,d⟩:=T.obj _ _ st5 b hb;exact (I7.pin (b,o) (List.mem_append_right _ (List.mem_append_right _ (a7 hb e)))).2.1
  ·rw [ah (show b≠s2.heap.objs.size from fun z=>nfp (by rw [← z];exact hb))];exact (f2 b hb).1
 refine codeAny_compStart_list (loop _ rfl) (T.self _ 0 _ _ _ ?_ (loop _ rfl));exact T.keep _ _ _ st2 fun b _ o e=>old b o e
theorem ps_setC {elt tgt iter:Expr} {scope:Scope} {pos spos py:Pos} {NL N':List Str} {ρ:List Nat} {wi:TI} {g:TG} {te:TE} {j:Nat} {y:Str} (hN:X.N.Nodup) (hj:X.N[j]?=some y) (hy:Loc X.env.scope y)
  (hc:X.calm=true) (S:CScope X scope NL ρ N') (hi:PI X tgt iter wi) (hg:∀ C s₀ H₀ fp,PG (ccx X scope C N' s₀ H₀ fp) tgt g) (he:∀ C s₀ H₀ fp,PE (ccx X scope C N' s₀ H₀ fp) elt te)
  (hsw:swapsWith (.ListComp elt [⟨tgt,iter,[],0⟩] scope pos) (some (.Name y py)) spos.line X.env=pure true:=by rfl) (hfn:X.fn y=true∨X.env.scope.names.lookup y=some .local:=by first | exact .inl rfl | exact .inr rfl | assumption)
  (hs:∀ x,foldedSetIterable iter X.env x=pure x:=by intro _;rfl):PS X (.Assign [.Name y py] (.ListComp elt [⟨tgt,iter,[],0⟩] scope pos) spos) (p9 (jL NL.length ρ wi g (cEl te)) (jF j)) :=
 oR (body:=fun acc env=>do let x ← eval elt env;let _ ← call (.builtin "list.append") [acc,x];pure ()) hN hj hy hfn hsw hc S hi hg (fun C s₀ H₀ fp=>om (he C s₀ H₀ fp)) (fun it acc env=>jM elt tgt iter scope pos it acc env) hs
end
section
variable {X:Cx}
variable {K:PySem.W.Frag}
theorem aj {es:List Expr} {x1:Nat} {pos:Pos} {t:TA} (hK:X.K=K) (h:PA X es t):PE X (.Tuple es x1 pos) (me K t):=by subst hK;exact qr h
theorem bz (hK:X.K=K):IxR X (C1 K):=by subst hK;exact qe
theorem qB (hK:X.K=K) (hu:X.A.units+64 < cLine):OpR X (compareOp .Eq) (C9 K):=by subst hK;exact wx hu
theorem op_in_seqK (hK:X.K=K):OpR X (compareOp .In) (rIn K false):=by subst hK;exact mR
theorem gj (hK:X.K=K):OpR X (compareOp .NotIn) (rIn K true):=by subst hK;exact iH
end
section
variable {X:Cx}
end
section
variable {X:Cx}
theorem eB:∀ {ss:List Str} {us:List Value},StrsAre us ss→Vals (ss.map V.str) us
 | _,_,.nil=>.nil
 | _,_,.cons z t r=>.cons ⟨t,rfl⟩ (eB r)
end
abbrev two (v:Value) (c:Nat):Obj:={ cls:=.type "list",dict:=none,data:=.seq #[v,v] c,slots:=#[] }
section
variable {prog:Program} {w:World} {A:Around} {R:Result→Shared→Prop} {it:Addr} {fp wr:List Addr} {n:Nat} {P:Nat→Value→Prop} {St:Nat→Heap→Prop}
end
section
variable {prog:Program} {w:World} {A:Around} {E:Value→Shared→Prop} {s:Shared} {l:Addr} {zs:Array (Int×Tok)} {d:Value} {Q:Value→Shared→Prop}
end
section
variable {X:Cx}
end
section
variable {X:Cx} {K:PySem.W.Frag}
end
section
variable {l:Addr} {g:TG} {tb:List V→Addr→St→Hp→(List V→St→Hp→Prop)→Prop} {R:Hp→Prop} {σ0:St} {H0:Hp} {lo:Int} {n:Nat} {z:Str}
end
section
variable {X:Cx} {K:PySem.W.Frag}
inductive JIxP (K:PySem.W.Frag) (x y:V) (H:Hp) (Q:VK):Prop
 | mk (l:List Dt) (i:Int) (d:Dt):(IsP K H (.tup l) x)→(y=.int i)→(atI l i=some d)→(∀ v,IsP K H d v→Q v H)→JIxP K x y H Q
def Di (K:PySem.W.Frag):R2:=fun x y H Q=>JIxP K x y H Q
inductive JLenD (K:PySem.W.Frag) (xs:List V) (H:Hp) (Q:VK):Prop
 | mk (x:V) (l:List Dt):(xs=[x])→(IsD K H (.tup l) x)→(Q (.int l.length) H)→JLenD K xs H Q
def Dj (K:PySem.W.Frag):List V→Hp→VK→Prop:=fun xs H Q=>JLenD K xs H Q
inductive JIsi (K:PySem.W.Frag) (xs:List V) (H:Hp) (Q:VK):Prop
 | mk (x:V) (T:String) (b:Bool):(xs=[x,.ty T])→(IsiB K H x T b)→(Q (.bl b) H)→JIsi K xs H Q
def DX (K:PySem.W.Frag):List V→Hp→VK→Prop:=fun xs H Q=>JIsi K xs H Q
inductive JTupP (K:PySem.W.Frag) (xs:List V) (H:Hp) (Q:VK):Prop
 | mk (p:Addr) (ys:List V) (l:List Dt):(xs=[.ref p])→(SqL K H p ys)→(IsPs K H l ys)→(∀ v H',Same H H'→IsP K H' (.tup l) v→Q v H')→JTupP K xs H Q
def Dk (K:PySem.W.Frag):List V→Hp→VK→Prop:=fun xs H Q=>JTupP K xs H Q
theorem fF (hK:X.K=K):IxR X (Di K):=by
 subst hK;intro e1 e2 pins s σ H x y v u Q I rx ry h hs;obtain ⟨l,i,d,a,b,c,q⟩:=h;exact qu _ _ _ _ _ _ _ _ _ _ _ I rx ry ⟨l,i,d,a,b,c,q⟩ hs
theorem fu (hK:X.K=K) (hu:X.A.units+64 < cLine):OpR X (compareOp .NotEq) (Da K):=by subst hK;exact wy hu
theorem call_lenDN (hK:X.K=K):aG X (.builtin "len") (Dj K):=by
 subst hK;intro pins s σ H xs us Q I r h;obtain ⟨x,l,a,b,q⟩:=h;exact m9 _ _ _ _ _ _ _ I r ⟨x,l,a,b,q⟩
theorem ar (hK:X.K=K):aG X (.builtin "isinstance") (DX K):=by
 subst hK;intro pins s σ H xs us Q I r h;obtain ⟨x,l,m,a,b,q⟩:=h;exact ou _ _ _ _ _ _ _ I r ⟨x,l,m,a,b,q⟩
theorem ce (hK:X.K=K):aG X (.type "tuple") (Dk K):=by
 subst hK;intro pins s σ H xs us Q I r h;obtain ⟨x,l,m,a,b,c,q⟩:=h;exact jY _ _ _ _ _ _ _ I r ⟨x,l,m,a,b,c,q⟩
theorem bp {tg l:Expr} {tl:TE} (hK:X.K=K) (hl:PE X l tl):PI X tg l (CV K tl):=by subst hK;exact wa hl
theorem bA {tg l:Expr} {tl:TE} (hK:X.K=K) (hl:PE X l tl):PI X tg l (rj K tl):=by subst hK;exact qa hl
end
section
variable {prog:Program} {w:World} {A:Around} {E:Value→Shared→Prop} {s:Shared}
theorem cf {b t:Addr} {k:Nat} {its:Array Value} {v:Value} {Q:Value→Shared→Prop} (hb:IsTupIter s.heap b t k) (ht:IsTup s.heap t its) (hv:its[k]?=some v)
  (q:∀ h',IsTupIter h' b t (k+1)→Heap.SameBut b s.heap h'→Q v { s with heap:=h' }):wpAny (model prog w) A (Builtin.SmallTypes.nextOf (.ref b)) Q E s:=by
 obtain ⟨ob,gb,cb,db⟩:=id hb;obtain ⟨ot,gt,_,nt,dt⟩:=ht;unfold Builtin.SmallTypes.nextOf;refine wpAny_bind (wpAny_callSpecial?_slot (name:=Str.ofString "__next__") hb.typeIs slot_tupleiter_next (wpAny_call_entry slot_tupleiter_next hb.typeIs entry_tupleiter_next ?_ (args_tupleiter_next _)));refine show wpAny _ _ (field (.ref b) 0 >>= _) _ _ s from wpAny_bind (wpAny_field gb db (x:=.ref t) rfl ?_);refine show wpAny _ _ (if (Value.ref t == Value.none)=true then _ else _) _ _ s from ?_;rw [if_neg (by exact Bool.false_ne_true)];refine show wpAny _ _ (field (.ref b) 1 >>= _) _ _ s from wpAny_bind (wpAny_field gb db (x:=.int k 0) rfl ?_);refine show wpAny _ _ (seqItems? (.ref t) >>= _) _ _ s from wpAny_bind (wpAny_seqItems gt dt ?_);simp only [hv,Int.toNat_natCast];refine wpAny_bind (wpAny_setField gb db (by simp) (wpAny_pure ⟨v,rfl,wpAny_pure (q _ ⟨_,Heap.get?_update_self _ gb (Obj.isFreed_of_fields (Obj.data_mapFields db _)),(Obj.cls_mapFields ..).trans cb,?_⟩ (Heap.SameBut.update ..))⟩));rw [Obj.data_mapFields db];simp [rawInt]
theorem eC {b t:Addr} {k:Nat} {its:Array Value} {Q:Value→Shared→Prop} (hh:A.handled=none) (hb:IsTupIter s.heap b t k) (ht:IsTup s.heap t its) (hv:its[k]?=none)
  (q:∀ h' e,Heap.ExtBut b s.heap h'→(∃ o,h'.get? e=some o∧o.cls=.type "StopIteration")→E (.ref e) { s with heap:=h' }):wpAny (model prog w) A (Builtin.SmallTypes.nextOf (.ref b)) Q E s:=by
 obtain ⟨ob,gb,cb,db⟩:=id hb;obtain ⟨ot,gt,_,nt,dt⟩:=ht;unfold Builtin.SmallTypes.nextOf;refine wpAny_bind (wpAny_callSpecial?_slot (name:=Str.ofString "__next__") hb.typeIs slot_tupleiter_next (wpAny_call_entry slot_tupleiter_next hb.typeIs entry_tupleiter_next ?_ (args_tupleiter_next _)));refine show wpAny _ _ (field (.ref b) 0 >>= _) _ _ s from wpAny_bind (wpAny_field gb db (x:=.ref t) rfl ?_);refine show wpAny _ _ (if (Value.ref t == Value.none)=true then _ else _) _ _ s from ?_;rw [if_neg (by exact Bool.false_ne_true)];refine show wpAny _ _ (field (.ref b) 1 >>= _) _ _ s from wpAny_bind (wpAny_field gb db (x:=.int k 0) rfl ?_);refine show wpAny _ _ (seqItems? (.ref t) >>= _) _ _ s from wpAny_bind (wpAny_seqItems gt dt ?_);simp only [hv,Int.toNat_natCast];refine wpAny_bind (wpAny_rule (wpAny_bind (wpAny_setField gb db (by simp) ?_)));refine show wpAny _ _ (newExc (.type "StopIteration") [] >>= _) _ _ _ from wpAny_bind ?_;simp only [newTuple,newExc];refine wpAny_bind (wpAny_newObj_type (wpAny_bind (m:=firstArgMember _ _) (wpAny_of_eq (a:=Value.none) (by first | rfl | (simp only [firstArgMember];rfl)) (wpAny_newObj_type ?_ (by size_fits)))) (by size_fits));simp only [raiseNew];refine wpAny_bind (wpAny_handled ?_);rw [show A.in1.handled=none from hh];exact wpAny_bind (wpAny_pure (wpAny_throw (q _ _ (((Heap.SameBut.update ..).extBut.push _).push _) ⟨_,Heap.get?_push_size _ rfl,rfl⟩)))
theorem nq {z P0 P1 u v l m:Addr} {k:Nat} {xs ys:Array Value} {x y a b:Value} {Q:Option Value→Shared→Prop} (D:ZipApart z P0 P1 u v l m) (Z:IsZip s.heap z P0 P1 .none) (I0:IsPair s.heap P0 (.ref u) (.ref v)) (I1:IsPair s.heap P1 a b)
  (wu:IsTupIter s.heap u l k) (wv:IsTupIter s.heap v m k) (tl:IsTup s.heap l xs) (tm:IsTup s.heap m ys) (ex:xs[k]?=some x) (ey:ys[k]?=some y)
  (q:∀ h',IsZip h' z P0 P1 (rawInt s.heap.objs.size)→IsPair h' P1 x y→IsTupIter h' u l (k+1)→IsTupIter h' v m (k+1)→IsPair h' s.heap.objs.size x y→h'.objs.size=s.heap.objs.size+1 →
   (∀ c o,c≠z→c≠P1→c≠u→c≠v→s.heap.get? c=some o→h'.get? c=some o)→Q (some (.ref s.heap.objs.size)) { s with heap:=h' }):wpAny (model prog w) A (pyNext (.ref z)) Q E s:=by
 have hT:s.TypeIs (.ref z) "zip" :=⟨_,Z,rfl⟩;unfold pyNext;refine wpAny_bind (wpAny_attempt (wpAny_callSpecial?_slot (name:=Str.ofString "__next__") hT F.slot_zip_next (wpAny_call_entry F.slot_zip_next hT F.entry_zip_next ?_ (F.args_zip_next_1 _))));refine show wpAny _ _ (field (.ref z) 2 >>= _) _ _ _ from wpAny_bind (wpAny_field Z rfl (x:=.bool false) rfl ?_);refine show wpAny _ _ (field (.ref z) 3 >>= _) _ _ _ from wpAny_bind (wpAny_field Z rfl (x:=.ref P0) rfl (wpAny_bind (wpAny_seqItems I0 rfl ?_)));refine show wpAny _ _ (Builtin.SmallTypes.ownedTupleIsFree (.ref z) >>= _) _ _ _ from wpAny_bind ?_;unfold Builtin.SmallTypes.ownedTupleIsFree;refine wpAny_bind (wpAny_field Z rfl (x:=.none) rfl (wpAny_pure ?_));rw [if_pos rfl];refine wpAny_bind (wpAny_rule (wpAny_bind (wpAny_field Z rfl (x:=.ref P1) rfl (wpAny_bind (wpAny_setField_rec Z (by simp) fun ha Za sa=>?_)))));replace Za:IsZip ha z P0 P1 .ellipsis:=Za;refine wpAny_bind ?_;simp only [List.zipIdx_cons,List.forIn_cons,List.zipIdx_nil,List.forIn_nil];refine wpAny_bind (wpAny_bind (wpAny_onRaise ?_));refine show wpAny _ _ (Builtin.SmallTypes.nextOf (.ref u) >>= _) _ _ _ from wpAny_bind (cf (wu.extBut sa.extBut D.i1z) (tl.extBut sa.extBut D.l1z) ex fun hb wb sb=>wpAny_pure ?_);have Ib:IsPair hb P1 a b:=sb.extBut _ _ D.TOi1 (sa.extBut _ _ D.TOz I1);refine wpAny_bind (wpAny_seqItems Ib rfl (wpAny_bind (wpAny_updateSeq_pair Ib fun hc Ic sc=>wpAny_bind (wpAny_letGo (wpAny_pure ?_)))));replace Ic:IsPair hc P1 x b:=Ic;refine wpAny_bind (wpAny_bind (wpAny_onRaise ?_));refine show wpAny _ _ (Builtin.SmallTypes.nextOf (.ref v) >>= _) _ _ _ from wpAny_bind (cf (((wv.extBut sa.extBut D.i2z).extBut sb.extBut D.i12.symm).extBut sc.extBut D.TOi2.symm) (((tm.extBut sa.extBut D.l2z).extBut sb.extBut D.l2i1).extBut sc.extBut D.l2TO) ey fun hd wd sd=>wpAny_pure ?_);have Id:IsPair hd P1 x b:=sd.extBut _ _ D.TOi2 Ic;refine wpAny_bind (wpAny_seqItems Id rfl (wpAny_bind (wpAny_updateSeq_pair Id fun he Ie se=>wpAny_bind (wpAny_letGo (wpAny_pure (wpAny_pure ?_))))));replace Ie:IsPair he P1 x y:=Ie;refine wpAny_bind (wpAny_seqItems Ie rfl (wpAny_bind (wpAny_newTuple ?_)));have size:he.objs.size=s.heap.objs.size:=by rw [se.1,sd.1,sc.1,sb.1,sa.1]
 have Ze:IsZip he z P0 P1 .ellipsis:=se.extBut _ _ D.TOz.symm (sd.extBut _ _ D.i2z.symm (sc.extBut _ _ D.TOz.symm (sb.extBut _ _ D.i1z.symm Za)));have keep:∀ c o,c≠z→c≠P1→c≠u→c≠v→s.heap.get? c=some o→he.get? c=some o:=fun c o n1 n2 n3 n4 e=>se.extBut _ _ n2 (sd.extBut _ _ n4 (sc.extBut _ _ n2 (sb.extBut _ _ n3 (sa.extBut _ _ n1 e))));have we:IsTupIter he u l (k+1):=((wb.extBut sc.extBut D.TOi1.symm).extBut sd.extBut D.i12).extBut se.extBut D.TOi1.symm;have we':IsTupIter he v m (k+1):=wd.extBut se.extBut D.TOi2.symm;have ltz:z < he.objs.size:=Heap.lt_size Ze;refine show wpAny _ _ (Builtin.SmallTypes.ownedTupleHandOut (.ref z) (.ref he.objs.size) >>= _) _ _ _ from wpAny_bind ?_;unfold Builtin.SmallTypes.ownedTupleHandOut;have Zf:IsZip (he.push { cls:=.type "tuple",data:=.seq #[x,y] }) z P0 P1 .ellipsis:=Heap.get?_push_of_some _ Ze;refine wpAny_bind (wpAny_setField_rec Zf (by simp) fun hg Zg sg=>?_);replace Zg:IsZip hg z P0 P1 (rawInt he.objs.size):=Zg;refine wpAny_setField_rec Zg (by simp) fun hi Zi si=>?_;replace Zi:IsZip hi z P0 P1 (rawInt he.objs.size):=Zi;have up:∀ c o,c≠z→he.get? c=some o→hi.get? c=some o:=fun c o n e=>si.extBut _ _ n (sg.extBut _ _ n (Heap.get?_push_of_some _ e));have Ti:IsPair hi he.objs.size x y:=si.extBut _ _ (Nat.ne_of_gt ltz) (sg.extBut _ _ (Nat.ne_of_gt ltz) (Heap.get?_push_size _ rfl));have size':hi.objs.size=he.objs.size+1:=by rw [si.1,sg.1,Heap.size_push]
 refine wpAny_pure ⟨_,rfl,wpAny_pure ?_⟩;rw [size] at Zi Ti size';have go:=q hi Zi (up _ _ D.TOz Ie) (by obtain ⟨o,e,r⟩:=we;exact ⟨o,up _ o D.i1z e,r⟩) (by obtain ⟨o,e,r⟩:=we';exact ⟨o,up _ o D.i2z e,r⟩) Ti size' fun c o n1 n2 n3 n4 e=>up c o n1 (keep c o n1 n2 n3 n4 e);rw [← size] at go;exact go
theorem oS {z P0 P1 u v l m:Addr} {k:Nat} {xs ys:Array Value} {a b:Value} {Q:Option Value→Shared→Prop} (hh:A.handled=none) (D:ZipApart z P0 P1 u v l m) (Z:IsZip s.heap z P0 P1 .none) (I0:IsPair s.heap P0 (.ref u) (.ref v)) (I1:IsPair s.heap P1 a b)
  (wu:IsTupIter s.heap u l k) (wv:IsTupIter s.heap v m k) (tl:IsTup s.heap l xs) (tm:IsTup s.heap m ys) (no:xs[k]?=none∨ys[k]?=none)
  (q:∀ h',(∀ c o,c≠z→c≠P1→c≠u→c≠v→s.heap.get? c=some o→h'.get? c=some o)→Q none { s with heap:=h' }):wpAny (model prog w) A (pyNext (.ref z)) Q E s:=by
 have hT:s.TypeIs (.ref z) "zip" :=⟨_,Z,rfl⟩;unfold pyNext;refine wpAny_bind (wpAny_attempt (wpAny_callSpecial?_slot (name:=Str.ofString "__next__") hT F.slot_zip_next (wpAny_call_entry F.slot_zip_next hT F.entry_zip_next ?_ (F.args_zip_next_1 _))));refine show wpAny _ _ (field (.ref z) 2 >>= _) _ _ _ from wpAny_bind (wpAny_field Z rfl (x:=.bool false) rfl ?_);refine show wpAny _ _ (field (.ref z) 3 >>= _) _ _ _ from wpAny_bind (wpAny_field Z rfl (x:=.ref P0) rfl (wpAny_bind (wpAny_seqItems I0 rfl ?_)));refine show wpAny _ _ (Builtin.SmallTypes.ownedTupleIsFree (.ref z) >>= _) _ _ _ from wpAny_bind ?_;unfold Builtin.SmallTypes.ownedTupleIsFree;refine wpAny_bind (wpAny_field Z rfl (x:=.none) rfl (wpAny_pure ?_));rw [if_pos rfl];refine wpAny_bind (wpAny_rule (wpAny_bind (wpAny_field Z rfl (x:=.ref P1) rfl (wpAny_bind (wpAny_setField_rec Z (by simp) fun ha Za sa=>?_)))));replace Za:IsZip ha z P0 P1 .ellipsis:=Za;refine wpAny_bind ?_;simp only [List.zipIdx_cons,List.forIn_cons,List.zipIdx_nil,List.forIn_nil];refine wpAny_bind (wpAny_bind (wpAny_onRaise ?_));have stop:∀ {h':Heap} {e:Addr},(∃ o,h'.get? e=some o∧o.cls=.type "StopIteration")→IsZip h' z P0 P1 .ellipsis→e≠z:=fun he hz c=>by
  obtain ⟨o,ho,hc⟩:=he;subst c;rw [hz] at ho
  cases ho
  simp at hc
 have fin:∀ {h':Heap} {e:Addr},(∃ o,h'.get? e=some o∧o.cls=.type "StopIteration")→(∀ c o,c≠z→c≠P1→c≠u→c≠v→s.heap.get? c=some o→h'.get? c=some o) →
   wpAny (model prog w) A (do if (← isInstance (.ref e) (.type "StopIteration")) then pure none else throw (.ref e)) Q E { s with heap:=h' }:=fun {h' e} he hk=>by
  obtain ⟨o,ho,hc⟩:=he;exact wpAny_bind (wpAny_isInstance (T:= "StopIteration") (b:=true) ⟨o,ho,hc⟩ isSubtype_stop (wpAny_pure (q _ hk)))
 cases ex:xs[k]? with
 | none =>
  refine show wpAny _ _ (Builtin.SmallTypes.nextOf (.ref u) >>= _) _ _ _ from wpAny_bind (eC hh (wu.extBut sa.extBut D.i1z) (tl.extBut sa.extBut D.l1z) ex fun hb e sb he=>?_);have Zb:IsZip hb z P0 P1 .ellipsis:=sb _ _ D.i1z.symm Za;have ne:=stop he Zb;obtain ⟨o,ho,hc⟩:=he;exact wpAny_setField_rec Zb (by simp) fun hd _ sd=>fin ⟨o,sd.extBut _ _ ne ho,hc⟩ fun c o n1 _ n3 _ e=>sd.extBut _ _ n1 (sb _ _ n3 (sa.extBut _ _ n1 e))
 | some x =>
  have ey:ys[k]?=none:=no.resolve_left (by rw [ex];simp);refine show wpAny _ _ (Builtin.SmallTypes.nextOf (.ref u) >>= _) _ _ _ from wpAny_bind (cf (wu.extBut sa.extBut D.i1z) (tl.extBut sa.extBut D.l1z) ex fun hb wb sb=>wpAny_pure ?_);have Ib:IsPair hb P1 a b:=sb.extBut _ _ D.TOi1 (sa.extBut _ _ D.TOz I1);refine wpAny_bind (wpAny_seqItems Ib rfl (wpAny_bind (wpAny_updateSeq_pair Ib fun hc Ic sc=>wpAny_bind (wpAny_letGo (wpAny_pure (wpAny_bind (wpAny_bind (wpAny_onRaise ?_))))))));refine show wpAny _ _ (Builtin.SmallTypes.nextOf (.ref v) >>= _) _ _ _ from wpAny_bind (eC hh (((wv.extBut sa.extBut D.i2z).extBut sb.extBut D.i12.symm).extBut sc.extBut D.TOi2.symm) (((tm.extBut sa.extBut D.l2z).extBut sb.extBut D.l2i1).extBut sc.extBut D.l2TO) ey fun hd e sd he=>?_);have Zd:IsZip hd z P0 P1 .ellipsis:=sd _ _ D.i2z.symm (sc.extBut _ _ D.TOz.symm (sb.extBut _ _ D.i1z.symm Za));have ne:=stop he Zd;obtain ⟨o,ho,hcl⟩:=he;exact wpAny_setField_rec Zd (by simp) fun hf _ sf=>fin ⟨o,sf.extBut _ _ ne ho,hcl⟩ fun c o n1 n2 n3 n4 e=>sf.extBut _ _ n1 (sd _ _ n4 (sc.extBut _ _ n2 (sb.extBut _ _ n3 (sa.extBut _ _ n1 e))))
theorem rz (hh:A.handled=none) (z P0 P1 u v l m:Addr) (D:ZipApart z P0 P1 u v l m) (xs ys:Array Value) :
  WalksT prog w A z [z,P0,P1,u,v,l,m] [z,P1,u,v] (min xs.size ys.size) (fun i vals=>∃ x y,xs[i]?=some x∧ys[i]?=some y∧vals=#[x,y])
   (fun i h=>IsZip h z P0 P1 .none∧IsPair h P0 (.ref u) (.ref v)∧(∃ a b,IsPair h P1 a b)∧IsTupIter h u l i∧IsTupIter h v m i∧IsTup h l xs∧IsTup h m ys)
   (fun i T h=>IsZip h z P0 P1 (rawInt T)∧IsPair h P0 (.ref u) (.ref v)∧(∃ a b,IsPair h P1 a b)∧IsTupIter h u l (i+1)∧IsTupIter h v m (i+1)∧IsTup h l xs∧IsTup h m ys∧T≠z∧T≠P1∧T≠u∧T≠v) where
 sub:=fun c hc=>by
  simp only [List.mem_cons,List.not_mem_nil,or_false] at hc ⊢;rcases hc with h | h | h | h <;> simp [h]
 frame:=fun i h h' st kk=>by
  obtain ⟨Z,I0,⟨a,b,I1⟩,⟨o1,e1,r1⟩,⟨o2,e2,r2⟩,⟨o3,e3,r3⟩,⟨o4,e4,r4⟩⟩:=st;exact ⟨kk z (by simp) _ Z,kk P0 (by simp) _ I0,⟨a,b,kk P1 (by simp) _ I1⟩,⟨o1,kk u (by simp) _ e1,r1⟩,⟨o2,kk v (by simp) _ e2,r2⟩,⟨o3,kk l (by simp) _ e3,r3⟩,⟨o4,kk m (by simp) _ e4,r4⟩⟩
 item:=fun i s Q E hi st q=>by
  obtain ⟨Z,I0,⟨a,b,I1⟩,wu,wv,tl,tm⟩:=st;have h1:i < xs.size:=by lia
  have h2:i < ys.size:=by lia
  refine nq D Z I0 I1 wu wv tl tm (Array.getElem?_eq_getElem h1) (Array.getElem?_eq_getElem h2) fun h' a1 a2 a3 a4 a5 a6 kk=>?_;have far:∀ {c o},s.heap.get? c=some o→s.heap.objs.size≠c:=fun e=>Nat.ne_of_gt (Heap.lt_size e);obtain ⟨o1,e1,_⟩:=wu;obtain ⟨o2,e2,_⟩:=wv;obtain ⟨o3,e3,r3⟩:=tl;obtain ⟨o4,e4,r4⟩:=tm;refine q s.heap.objs.size #[xs[i],ys[i]] h' s.toks ⟨_,_,Array.getElem?_eq_getElem h1,Array.getElem?_eq_getElem h2,rfl⟩ (Nat.le_refl _) ⟨_,a5,rfl,_,rfl⟩ ⟨a1,kk _ _ D.TIz D.TITO D.TIi1 D.TIi2 I0,⟨_,_,a2⟩,a3,a4,⟨o3,kk _ _ D.l1z D.l1TO D.l1i1 D.l1i2 e3,r3⟩,⟨o4,kk _ _ D.l2z D.l2TO D.l2i1 D.l2i2 e4,r4⟩,far Z,far I1,far e1,far e2⟩ fun c o hc e=>?_;simp only [List.mem_cons,List.not_mem_nil,or_false,not_or] at hc;exact kk c o hc.1 hc.2.1 hc.2.2.1 hc.2.2.2 e
 go:=fun elts k pos i T s Q E st q=>by
  obtain ⟨Z,I0,⟨a,b,I1⟩,wu,wv,tl,tm,_⟩:=st;refine wpAny_letOwnedTupleGo_zip Z fun h' Z' s'=>q h' ⟨Z',s'.extBut _ _ D.TIz I0,⟨a,b,s'.extBut _ _ D.TOz I1⟩,wu.extBut s'.extBut D.i1z,wv.extBut s'.extBut D.i2z,tl.extBut s'.extBut D.l1z,tm.extBut s'.extBut D.l2z⟩ fun c o hc e=>?_;simp only [List.mem_cons,List.not_mem_nil,or_false,not_or] at hc;exact s'.extBut _ _ hc.1 e
 apart:=fun i T h st hT=>by
  obtain ⟨_,_,_,_,_,_,_,n1,n2,n3,n4⟩:=st;simp only [List.mem_cons,List.not_mem_nil,or_false] at hT;rcases hT with h | h | h | h
  ·exact n1 h
  ·exact n2 h
  ·exact n3 h
  ·exact n4 h
 done:=fun s Q E st q=>by
  obtain ⟨Z,I0,⟨a,b,I1⟩,wu,wv,tl,tm⟩:=st;have no:xs[min xs.size ys.size]?=none∨ys[min xs.size ys.size]?=none:=by
   rcases Nat.le_total xs.size ys.size with h | h
   ·exact .inl (Array.getElem?_eq_none (by lia))
   ·exact .inr (Array.getElem?_eq_none (by lia))
  refine oS hh D Z I0 I1 wu wv tl tm no fun h' kk=>q h' s.toks fun c o hc e=>?_;simp only [List.mem_cons,List.not_mem_nil,or_false,not_or] at hc;exact kk c o hc.1 hc.2.1 hc.2.2.1 hc.2.2.2 e
 self:=fun i s Q E st q=>wpAny_pyIter_zip st.1 q
abbrev zT1 (h:Heap) (l:Addr):Heap:=h.push { cls:=.type "tuple_iterator",data:=.fields #[.ref l,.int 0 0] }
abbrev zT2 (h:Heap) (l m:Addr):Heap:=(zT1 h l).push { cls:=.type "tuple_iterator",data:=.fields #[.ref m,.int 0 0] }
abbrev zT3 (h:Heap) (l m:Addr):Heap:=(zT2 h l m).push { cls:=.type "tuple",data:=.seq #[.ref h.objs.size,.ref (zT1 h l).objs.size] }
abbrev zT4 (h:Heap) (l m:Addr):Heap:=(zT3 h l m).push { cls:=.type "tuple",data:=.seq #[.none,.none] }
abbrev zT5 (h:Heap) (l m:Addr):Heap:=(zT4 h l m).push { cls:=.type "zip",data:=.fields #[.none,.bool false,.bool false,.ref (zT2 h l m).objs.size,.ref (zT3 h l m).objs.size] }
theorem lr (l m:Addr) (xs ys:Array Value) :
  Meets (Builtin.«zip.__new__» ⟨[.type "zip",.ref l,.ref m],[]⟩) (fun _ R s=>IsTup s.heap l xs∧IsTup s.heap m ys∧R (.ok (.ret (.ref (zT4 s.heap l m).objs.size))) { s with heap:=zT5 s.heap l m }) :=
 .of_wp fun prog w A R s h=>by
  obtain ⟨hp,g,d,tk,os⟩:=s;obtain ⟨tl,tm,h⟩:=h;have sub:=sub_zip;have T1:IsTup (Shared.heap ⟨hp,g,d,tk,os⟩) l xs:=tl;have T2:IsTup (Shared.heap ⟨hp.push { cls:=.type "tuple_iterator",data:=.fields #[.ref l,.int 0 0] },g,d,tk,os⟩) m ys:=IsTup.push tm _
  wp_walk using iter_tuple T1,iter_tuple T2
  exact ⟨_,rfl,h⟩
theorem nr {l m:Addr} {xs ys:Array Value} {Q:Value→Shared→Prop} (tl:IsTup s.heap l xs) (tm:IsTup s.heap m ys)
  (q:∀ h',IsZip h' (s.heap.objs.size+4) (s.heap.objs.size+2) (s.heap.objs.size+3) .none→IsPair h' (s.heap.objs.size+2) (.ref s.heap.objs.size) (.ref (s.heap.objs.size+1))→IsPair h' (s.heap.objs.size+3) .none .none →
   IsTupIter h' s.heap.objs.size l 0→IsTupIter h' (s.heap.objs.size+1) m 0→h'.objs.size=s.heap.objs.size+5→(∀ c o,s.heap.get? c=some o→h'.get? c=some o)→Q (.ref (s.heap.objs.size+4)) { s with heap:=h' }) :
  wpAny (model prog w) A (call (.type "zip") [.ref l,.ref m]) Q E s:=by
 refine callType_new F.called_zip (by decide) (F.typeCall_zip_2 _ _) (F.newCall_zip_2 _ _) (fun obj=>F.args_object_init_3 obj _ _) F.entry_zip_new (lr l m xs ys) ⟨tl,tm,?_⟩;have n1:(zT1 s.heap l).objs.size=s.heap.objs.size+1:=Heap.size_push ..;have n2:(zT2 s.heap l m).objs.size=s.heap.objs.size+2:=by rw [Heap.size_push,n1]
 have n3:(zT3 s.heap l m).objs.size=s.heap.objs.size+3:=by rw [Heap.size_push,n2]
 have n4:(zT4 s.heap l m).objs.size=s.heap.objs.size+4:=by rw [Heap.size_push,n3]
 have n5:(zT5 s.heap l m).objs.size=s.heap.objs.size+5:=by rw [Heap.size_push,n4]
 have e5:(zT5 s.heap l m).get? (zT4 s.heap l m).objs.size=some _:=Heap.get?_push_size _ rfl;have e4:(zT5 s.heap l m).get? (zT3 s.heap l m).objs.size=some _:=Heap.get?_push_of_some _ (Heap.get?_push_size _ rfl);have e3:(zT5 s.heap l m).get? (zT2 s.heap l m).objs.size=some _:=Heap.get?_push_of_some _ (Heap.get?_push_of_some _ (Heap.get?_push_size _ rfl));have e2:(zT5 s.heap l m).get? (zT1 s.heap l).objs.size=some _:=Heap.get?_push_of_some _ (Heap.get?_push_of_some _ (Heap.get?_push_of_some _ (Heap.get?_push_size _ rfl)));have e1:(zT5 s.heap l m).get? s.heap.objs.size=some _:=Heap.get?_push_of_some _ (Heap.get?_push_of_some _ (Heap.get?_push_of_some _ (Heap.get?_push_of_some _ (Heap.get?_push_size _ rfl))));refine show _∧_ from ?_;rw [n2,n3,n4] at e5;rw [n1,n2] at e3;rw [n3] at e4;rw [n1] at e2;rw [n4];exact ⟨⟨_,e5,rfl⟩,q _ e5 e3 e4 ⟨_,e1,rfl,rfl⟩ ⟨_,e2,rfl,rfl⟩ n5 fun c o x=>Heap.get?_push_of_some _ (Heap.get?_push_of_some _ (Heap.get?_push_of_some _ (Heap.get?_push_of_some _ (Heap.get?_push_of_some _ x))))⟩
end
def j0 (K:PySem.W.Frag) (a b:Addr):It :=
 ⟨fun i H=>∃ xs ys x y,SqT K H a xs∧SqT K H b ys∧xs[i]?=some x∧ys[i]?=some y,
  fun i H v H'=>∃ T x y,v=.ref T∧H T=none∧H'=upd H T (.tup [x,y])∧(∀ xs,SqT K H a xs→xs[i]?=some x)∧(∀ ys,SqT K H b ys→ys[i]?=some y),
  fun i H=>∃ xs ys,SqT K H a xs∧SqT K H b ys∧min xs.length ys.length=i⟩
def wG (z TI TO i1 i2 l1 l2:Addr) (i:Nat) (h:Heap):Prop:=IsZip h z TI TO .none∧IsPair h TI (.ref i1) (.ref i2)∧(∃ a b,IsPair h TO a b)∧IsTupIter h i1 l1 i∧IsTupIter h i2 l2 i
theorem nu {P:Program} {w:World} {K:PySem.W.Frag} {elts:List Expr} {k:Nat} {pos:Pos} (z TI TO i1 i2 l1 l2:Addr) (D:ZipApart z TI TO i1 i2 l1 l2) :
  Turn P w K (.Tuple elts k pos) (j0 K l1 l2) [z,TI,TO,i1,i2] z (wG z TI TO i1 i2 l1 l2) where
 mem:=by simp
 obj:=fun i h st b hb=>by
  obtain ⟨hz,hTI,⟨a,c,hTO⟩,⟨o1,e1,c1,d1⟩,⟨o2,e2,c2,d2⟩⟩:=st;simp only [List.mem_cons,List.not_mem_nil,or_false] at hb;rcases hb with rfl | rfl | rfl | rfl | rfl
  ·exact ⟨_,hz,fun v q=>by cases q⟩
  ·exact ⟨_,hTI,fun v q=>by cases q⟩
  ·exact ⟨_,hTO,fun v q=>by cases q⟩
  ·exact ⟨o1,e1,fun v q=>by rw [d1] at q;cases q⟩
  ·exact ⟨o2,e2,fun v q=>by rw [d2] at q;cases q⟩
 keep:=fun i h h' st kk=>by
  obtain ⟨hz,hTI,⟨a,c,hTO⟩,⟨o1,e1,r1⟩,⟨o2,e2,r2⟩⟩:=st;exact ⟨kk z (by simp) _ hz,kk TI (by simp) _ hTI,⟨a,c,kk TO (by simp) _ hTO⟩,⟨o1,kk i1 (by simp) _ e1,r1⟩,⟨o2,kk i2 (by simp) _ e2,r2⟩⟩
 item:=by
  intro X hP hw hK hc i pins s σ H E I hf st hg;subst hP hw hK;obtain ⟨xs,ys,x,y,hx,hy,ex,ey⟩:=hg;obtain ⟨its,rv,p,hz⟩:=I.tuple hx;obtain ⟨its2,rv2,p2,hz2⟩:=I.tuple hy;obtain ⟨s1,s2,s3,s4,s5⟩:=st;have W:=rz (prog:=X.prog) (w:=X.w) (I.ok.hd hc) z TI TO i1 i2 l1 l2 D its.toArray its2.toArray;have li:i < xs.length:=(List.getElem?_eq_some_iff.mp ex).1;have li2:i < ys.length:=(List.getElem?_eq_some_iff.mp ey).1;have el:=rv.length;have el2:=rv2.length;have wsub:∀ b∈[z,TO,i1,i2],b∈[z,TI,TO,i1,i2]:=fun b hb=>by
   simp only [List.mem_cons,List.not_mem_nil,or_false] at hb ⊢;rcases hb with rfl | rfl | rfl | rfl <;> simp
  refine W.item i s _ _ (by simp only [List.size_toArray];lia) ⟨s1,s2,s3,s4,s5,p,p2⟩ fun T vals h' tk hv hT hTup hm hk=>?_;obtain ⟨u,v,eu,ev,rfl⟩:=hv;obtain ⟨u',eu',ru⟩:=rv.get ex;obtain ⟨v',ev',rv'⟩:=rv2.get ey;have e1:u=u':=by
   have:its[i]?=some u:=by simpa using eu
   rw [eu'] at this;exact (Option.some.inj this).symm
  have e2:v=v':=by
   have:its2[i]?=some v:=by simpa using ev
   rw [ev'] at this;exact (Option.some.inj this).symm
  subst e1 e2;have hTn:H T=none:=I.hok.fresh hT;have I1:Inv X pins σ (upd H T (.tup [x,y])) { s with heap:=h',toks:=tk }:=I.turnedT hk (fun b hb=>hf b (wsub b hb)) hT ⟨by show 2≤sizeLine;decide,[u,v],.cons ru (.cons rv' .nil),hTup⟩;have ap:=W.apart i T h' hm;have f1:∀ b∈[z,TO,i1,i2],cw X pins (upd H T (.tup [x,y])) b:=fun b hb=>by
   obtain ⟨f0,f1⟩:=hf b (wsub b hb);exact ⟨by rw [ah (fun e:b=T=>ap (by rw [← e];exact hb))];exact f0,f1⟩
  refine ⟨_,rfl,W.go elts k pos i T _ _ _ hm fun h'' st2 hk2=>?_⟩;obtain ⟨t1,t2,t3,t4,t5,_,_⟩:=st2;refine ⟨.ref T,_,Inv.turnedL (s:={ s with heap:=h',toks:=tk }) (t':=tk) I1 hk2 f1,rfl,⟨T,x,y,rfl,hTn,rfl,fun zs q=>by rw [I.tuple_inj q hx];exact ex,fun zs q=>by rw [I.tuple_inj q hy];exact ey⟩,⟨t1,t2,t3,t4,t5⟩,fun b hb=>?_⟩;have fb:=(hf b hb).1
  by_cases e:b=T
  ·subst e;have lti:s.heap.objs.size > TI:=Heap.lt_size s2;simp only [List.mem_cons,List.not_mem_nil,or_false] at hb;rcases hb with rfl | rfl | rfl | rfl | rfl
   ·exact absurd (by simp) ap
   ·exact absurd lti (Nat.not_lt.mpr hT)
   ·exact absurd (by simp) ap
   ·exact absurd (by simp) ap
   ·exact absurd (by simp) ap
  ·rw [ah e];exact fb
 done:=by
  intro X hP hw hK hc i pins s σ H E I hf st hg;subst hP hw hK;obtain ⟨xs,ys,hx,hy,hi⟩:=hg;obtain ⟨its,rv,p,hz⟩:=I.tuple hx;obtain ⟨its2,rv2,p2,hz2⟩:=I.tuple hy;obtain ⟨s1,s2,s3,s4,s5⟩:=st;have W:=rz (prog:=X.prog) (w:=X.w) (I.ok.hd hc) z TI TO i1 i2 l1 l2 D its.toArray its2.toArray;have el:=rv.length;have el2:=rv2.length;have en:min its.toArray.size its2.toArray.size=i:=by simp only [List.size_toArray];lia
  have wsub:∀ b∈[z,TO,i1,i2],b∈[z,TI,TO,i1,i2]:=fun b hb=>by
   simp only [List.mem_cons,List.not_mem_nil,or_false] at hb ⊢;rcases hb with rfl | rfl | rfl | rfl <;> simp
  refine W.done s _ _ ?_ fun h' tk hk=>⟨rfl,I.turnedL hk fun b hb=>hf b (wsub b hb)⟩;rw [en];exact ⟨s1,s2,s3,s4,s5,p,p2⟩
 self:=fun _ _ _ _ _ st h=>wpAny_pyIter_zip st.1 h
section
variable {X:Cx} {elts:List Expr} {k:Nat} {tpos:Pos}
def Dl (K:PySem.W.Frag) (ta:TA):TI:=fun σ H R=>ta σ H fun vs H1=>∃ a b,vs=[.ref a,.ref b]∧(∃ xs,SqT K H1 a xs)∧(∃ ys,SqT K H1 b ys)∧R (j0 K a b) H1
theorem qC {a b:Expr} {ta:TA} {p pos:Pos} (hg:Gl X "zip") (hm:X.mg "zip" = none) (ha:PA X [a,b] ta) (hs:starEach [a,b] X.env=[(false,eval a X.env),(false,eval b X.env)]:=by rfl) (hs2:starEach [b] X.env=[(false,eval b X.env)]:=by rfl) :
  PI X (.Tuple elts k tpos) (.Call (.Name "zip" p) [a,b] [] pos) (Dl X.K ta):=by
 intro pins s σ H R I h;refine Call_ (bP I hg hm boot_zip (PyProof.Rows.callWith_type1 (thn (ha pos pins s σ H _ I h) fun us s1 ⟨vs,H1,I1,r1,q1⟩=>?_) (by rw [hs,hs2]) (by rw [hs2];rfl)));obtain ⟨l1,l2,e,⟨xs,hx⟩,⟨ys,hy⟩,q⟩:=q1;subst e;obtain ⟨u,v,rfl,ru,rv⟩:=r1.two
 cases ru
 cases rv
 obtain ⟨its,rr,pl,hz⟩:=I1.tuple hx;obtain ⟨its2,rr2,pl2,hz2⟩:=I1.tuple hy;have lt1:l1 < s1.heap.objs.size:=by obtain ⟨o,e,_⟩:=pl;exact Heap.lt_size e
 have lt2:l2 < s1.heap.objs.size:=by obtain ⟨o,e,_⟩:=pl2;exact Heap.lt_size e
 refine nr pl pl2 fun h' z1 z2 z3 z4 z5 zs kk=>?_;have I2:Inv X pins σ H1 { s1 with heap:=h' }:=I1.kept (t':=s1.toks) kk;refine wpAny_pyIter_zip z1 ?_;refine ⟨_,_,_,_,H1,rfl,I2,nu _ _ _ _ _ l1 l2 ?_,⟨z1,z2,⟨_,_,z3⟩,z4,z5⟩,fun b hb=>?_,q⟩
 ·have lt1':s1.heap.objs.size > l1:=lt1;have lt2':s1.heap.objs.size > l2:=lt2
  constructor <;> (show ¬ (@Eq Nat _ _)) <;> lia
 ·have:s1.heap.objs.size≤b:=by
   simp only [List.mem_cons,List.not_mem_nil,or_false] at hb;rcases hb with rfl | rfl | rfl | rfl | rfl <;> lia
  exact I1.fpOk this (I1.hok.fresh this)
end
theorem nv {K:PySem.W.Frag} {a b l:Addr} {xs ys:List V} {g:TG} {tb:List V→Addr→St→Hp→(List V→St→Hp→Prop)→Prop} {Q:VK} {σ0:St} {H0:Hp} (Pv:Nat→List V→St→Hp→Prop) (h0:Pv 0 [] σ0 H0)
  (hla:∀ i us σ H,Pv i us σ H→SqT K H a xs∧SqT K H b ys)
  (hs:∀ i x y T us σ H (N:List V→St→Hp→Prop),xs[i]?=some x→ys[i]?=some y→H T=none→Pv i us σ H→(∀ us' σ' H',Pv (i+1) us' σ' H'→N us' σ' H')→g (.ref T) σ (upd H T (.tup [x,y])) fun σ2 H2=>tb us l σ2 H2 N)
  (hd:∀ us σ H,Pv (min xs.length ys.length) us σ H→Q (.ref l) H) :
  ∃ W:Nat→Nat→List V→St→Hp→Prop,(∃ m,W 0 m [] σ0 H0)∧∀ i m us σ' H',W i m us σ' H'→((j0 K a b).stop i H'∧Q (.ref l) H') ∨
   ((j0 K a b).go i H'∧∀ x H'',(j0 K a b).yld i H' x H''→g x σ' H'' fun σ2 H2=>tb us l σ2 H2 fun us' σ3 H3=>∃ m',m' < m∧W (i+1) m' us' σ3 H3):=by
 refine ⟨fun i m us σ H=>m=min xs.length ys.length - i∧i≤min xs.length ys.length∧Pv i us σ H,⟨_,rfl,Nat.zero_le _,h0⟩,?_⟩;rintro i m us σ H ⟨rfl,hi,p⟩;obtain ⟨sa,sb⟩:=hla i us σ H p
 by_cases hlt:i < min xs.length ys.length
 ·obtain ⟨x,ex⟩:∃ x,xs[i]?=some x:=⟨_,List.getElem?_eq_getElem (by lia)⟩;obtain ⟨y,ey⟩:∃ y,ys[i]?=some y:=⟨_,List.getElem?_eq_getElem (by lia)⟩;refine .inr ⟨⟨xs,ys,x,y,sa,sb,ex,ey⟩,fun v H' q=>?_⟩;obtain ⟨T,x',y',rfl,hT,rfl,q1,q2⟩:=q;have e1:=q1 xs sa;have e2:=q2 ys sb;exact hs i x' y' T us σ H _ e1 e2 hT p fun us' σ' H' w=>⟨_,by lia,rfl,hlt,w⟩
 ·have e:i=min xs.length ys.length:=by lia
  subst e;exact .inl ⟨⟨xs,ys,sa,sb,rfl⟩,hd us σ H p⟩
section
variable {X:Cx} {K:PySem.W.Frag}
end
section
variable {prog:Program} {w:World} {A:Around} {E:Value→Shared→Prop} {s:Shared}
theorem gl:typeLookup (.type "dict") "__len__" = pure (some (.builtin "dict.__len__")):=by rw [typeLookup_type,builtinLookup_eq_fast];kernel_rfl
theorem oT {d:Addr} {kvs:List (Key×Value)} {Q:List Value→Shared→Prop} (hh:A.handled=none) (hd:(d == sysModules)=false) (hm:s.heap.DictOf (ag prog w) d kvs) (hn:kvs.length≤sizeLine)
  (q:∀ s' acc,(∀ b o,s.heap.get? b=some o→s'.heap.get? b=some o)→s.heap.objs.size < s'.heap.objs.size→s'.gens=s.gens→s'.drawn=s.drawn→s'.os=s.os→ItemsOf (fun i v=>∃ k x,kvs[i]?=some (k,x)∧(ag prog w).is k v=true) acc kvs.length→Q acc.toList s') :
  wpAny (model prog w) A (collect (.ref d)) Q E s:=by
 obtain ⟨ep,at0⟩:=hm.dictAt;have hdT:s.TypeIs (.ref d) "dict" :=hm.typeIs;unfold collect;refine wpAny_bind (wpAny_runValue (codeAny_builtin F.entry_proto_collect ?_));rw [Around.under_plainId F.plain_proto_collect _];refine show wpAny _ A.in1 (newList [] >>= fun l=>again (.builtin "list.__iadd__" ⟨[l,.ref d],[]⟩)) _ _ s from wpAny_bind (wpAny_newObj_type ?_);refine wpAny_pure ⟨plainId_quiet F.plain_list_iadd _,codeAny_builtin F.entry_list_iadd ?_⟩;rw [Around.under_plainId F.plain_list_iadd _];have ltd:d < s.heap.objs.size:=at0.lt_size;have at1:=at0.push { cls:=.type "list",data:=.seq ([]:List Value).toArray }
 generalize hH:s.heap.push { cls:=.type "list",data:=.seq ([]:List Value).toArray }=G at at1 ⊢
 have hT1:Shared.TypeIs { s with heap:=G } (.ref d) "dict" :=at1.dictOf.typeIs;refine show wpAny _ A.in1 (Builtin.List.listExtendWith (.ref s.heap.objs.size) (.ref d) (.ref s.heap.objs.size)) _ _ _ from ?_;unfold Builtin.List.listExtendWith;refine wpAny_bind (wpAny_typeOf hT1 ?_);have n1:Builtin.List.listSameRef (.ref s.heap.objs.size) (.ref d)=false:=by simp [Builtin.List.listSameRef];exact Nat.ne_of_gt ltd
 simp only [n1,show (Value.type "dict" == Value.type "list")=false by decide,show (Value.type "dict" == Value.type "tuple")=false by decide,Bool.or_false,Bool.false_eq_true,if_false];refine wpAny_bind (wpAny_pyIter_dict hd at1 ?_);refine wpAny_bind (wpAny_holding ?_);have at2:=at1.push { cls:=.type "dict_keyiterator",data:=.fields #[.ref d,.int 0 0,.int kvs.length 0,.int ep 0] };have k2:Heap.IsKeyIter (G.push { cls:=.type "dict_keyiterator",data:=.fields #[.ref d,.int 0 0,.int kvs.length 0,.int ep 0] }) G.objs.size d 0 kvs.length ep:=⟨_,Heap.get?_push_size _ rfl,rfl,rfl⟩;have S2:(G.push { cls:=.type "dict_keyiterator",data:=.fields #[.ref d,.int 0 0,.int kvs.length 0,.int ep 0] }).get? s.heap.objs.size=some { cls:=.type "list",data:=.seq ([]:List Value).toArray }:=Heap.get?_push_of_some _ (hH ▸ Heap.get?_push_size _ rfl);have keep2:∀ b o,s.heap.get? b=some o→(G.push { cls:=.type "dict_keyiterator",data:=.fields #[.ref d,.int 0 0,.int kvs.length 0,.int ep 0] }).get? b=some o:=fun b o e=>Heap.get?_push_of_some _ (hH ▸ Heap.get?_push_of_some _ e);have sizeG:G.objs.size=s.heap.objs.size+1:=by rw [← hH,Heap.size_push]
 generalize G.push { cls:=.type "dict_keyiterator",data:=.fields #[.ref d,.int 0 0,.int kvs.length 0,.int ep 0] }=G2 at at2 k2 S2 keep2 ⊢
 have hT2:Shared.TypeIs { s with heap:=G2 } (.ref d) "dict" :=at2.dictOf.typeIs;unfold Builtin.List.listLengthHint;refine wpAny_bind (wpAny_specialOf hT2 gl ?_)
 wp_delta
 refine wpAny_bind (wpAny_isInstance (b:=true) hT2 (by rw [isSubtype_type];kernel_rfl) ?_);refine show wpAny _ A.in1 (typeOf (Value.ref d) >>= _) _ _ _ from wpAny_bind (wpAny_typeOf hT2 (wpAny_pure ?_));rw [if_pos (by decide)];refine wpAny_bind (wpAny_rule (wpAny_bind ?_));refine show wpAny _ A.in1 (updateSeq s.heap.objs.size (·.push .none) >>= fun _=>updateSeq s.heap.objs.size (·.pop)) _ _ _ from wpAny_bind (wpAny_updateSeq S2 rfl ?_);have S3:=Heap.get?_update_self (Obj.mapSeq (·.push Value.none)) S2 rfl;refine wpAny_updateSeq (hz:=by seq_fits) S3 rfl ?_;have S4:=Heap.get?_update_self (Obj.mapSeq (·.pop)) S3 rfl;have oth:∀ b o,b≠s.heap.objs.size→G2.get? b=some o→((G2.update s.heap.objs.size (Obj.mapSeq (·.push Value.none))).update s.heap.objs.size (Obj.mapSeq (·.pop))).get? b=some o:=fun b o n e=>(Heap.get?_update_other _ _ (Ne.symm n)).trans ((Heap.get?_update_other _ _ (Ne.symm n)).trans e);have nG:G.objs.size≠s.heap.objs.size:=by rw [sizeG];exact Nat.succ_ne_self _
 have nd:d≠G.objs.size:=by rw [sizeG];exact Nat.ne_of_lt (Nat.lt_succ_of_lt ltd)
 have Wk:=Walks.dictKeys (prog:=prog) (w:=w) (A:=A.in1) (knd:=ag prog w) hh G.objs.size d nd kvs ep;have hSf:s.heap.objs.size∉[G.objs.size,d]:=by
  simp only [List.mem_cons,List.not_mem_nil,or_false,not_or];exact ⟨nG.symm,Nat.ne_of_gt ltd⟩
 refine wpAny_pure ⟨plainId_quiet F.plain_extend_loop _,codeAny_extend_loopS Wk.toS hn _ hSf _ kvs.length 0 _ _ _ rfl (Nat.zero_le _) ⟨k2.at fun o e=>oth _ o nG e,at2.at' fun o e=>oth _ o (Nat.ne_of_lt ltd) e⟩ S4 (ItemsOf.nil _) fun s' acc' c' hmv S5 hacc=>?_⟩;refine show wpAny _ A (load s.heap.objs.size >>= _) _ _ s' from wpAny_bind (wpAny_load S5 (wpAny_pure (q s' acc' (fun b o e=>hmv.heap b o (fun hb=>?_) (oth b o (Nat.ne_of_lt (Heap.lt_size e)) (keep2 b o e))) (Heap.lt_size S5) hmv.gens hmv.drawn hmv.os hacc)));have hlt:=Heap.lt_size e;simp only [List.mem_cons,List.not_mem_nil,or_false] at hb;rcases hb with h | h
 ·exact absurd hlt (h ▸ Nat.lt_irrefl _)
 ·rw [h,sizeG] at hlt;exact absurd hlt (Nat.not_lt.mpr (Nat.le_succ _))
theorem qD {P:Program} {w:World} {z:Str} {v:Value} (h:(ag P w).is (Sum.inr z) v=true):∃ t,v=.str z t:=by
 rcases ax (show fv (Sum.inr z) v=true from h) with ⟨i,t,e,_⟩ | ⟨x,t,e,rfl⟩
 ·cases e
 ·cases e
  exact ⟨t,rfl⟩
theorem h9 {P:Program} {w:World}:∀ {ss:List Str} {us:List Value},us.length=ss.length→(∀ (j:Nat) (v:Value),us[j]?=some v→∃ z,ss[j]?=some z∧(ag P w).is (Sum.inr z) v=true)→StrsAre us ss
 | [],us,hl,_=>by
  cases us with
  | nil=>exact .nil
  | cons u us=>cases hl
 | z :: ss,us,hl,h=>by
  cases us with
  | nil=>cases hl
  | cons u us =>
   obtain ⟨z',e,hz⟩:=h 0 u rfl;obtain rfl:z=z':=Option.some.inj e;obtain ⟨t,rfl⟩:=qD hz;exact .cons z t (h9 (Nat.succ.inj hl) fun j v hj=>by simpa using h (j+1) v (by simpa using hj))
theorem qE {d:Addr} {kvs:List (Key×Value)} {ss:List Str} {Q:Value→Shared→Prop} (hh:A.handled=none) (hd:(d == sysModules)=false) (hm:s.heap.DictOf (ag prog w) d kvs) (names:kvs.map (·.1)=ss.map Sum.inr) (h64:ss.length < 64)
  (q:∀ (h':Heap) (t':Nat) (a:Addr) (out:Array Value) (ss':List Str) (n:Nat),(∀ b o,s.heap.get? b=some o→h'.get? b=some o)→s.heap.objs.size≤a→h'.get? a=some (seqObj "list" out n)→StrsAre out.toList ss'→ss'.Perm ss→sortedS ss'=true→Q (.ref a) { s with heap:=h',toks:=t' }) :
  wpAny (model prog w) A (call (.builtin "sorted") [.ref d]) Q E s:=by
 have lk:kvs.length=ss.length:=by have:=congrArg List.length names;simpa using this
 refine Calls.call_function_entry kind_sorted plain_sorted entry_sorted (args_sorted1 _) ?_;unfold Builtin.«sorted»;refine wpAny_bind (m:=checkCount "sorted" 1 1 _) (wpAny_pure (wpAny_bind (oT hh hd hm (by rw [lk];exact Nat.le_of_lt (Nat.lt_trans h64 (by decide))) fun s1 acc kk low g1 d1 o1 items=>?_)));have hS:StrsAre acc.toList ss:=h9 (P:=prog) (w:=w) (by rw [Array.length_toList,items.1,lk]) fun j v hj=>by
  obtain ⟨k,x,e,hk⟩:=items.2 j v (by simpa using hj);have e2:(kvs.map (·.1))[j]?=some k:=by rw [List.getElem?_map,e];rfl
  rw [names,List.getElem?_map] at e2;obtain ⟨z,hz,rfl⟩:=Option.map_eq_some_iff.mp e2;exact ⟨z,hz,hk⟩
 have lacc:acc.toList.length < 64:=by
  have:=items.1;simp only [Array.length_toList];lia
 refine wpAny_bind (wpAny_newList ?_);have hoL:(s1.heap.push (seqObj "list" acc.toList.toArray 0)).get? s1.heap.objs.size=some (seqObj "list" acc.toList.toArray 0):=Heap.get?_push_size _ rfl;refine wpAny_bind (wpAny_holding (wpAny_call_entry slot_list_sort ⟨_,hoL,rfl⟩ entry_list_sort (list_sort_treeK strKind_oneLt hoL hS.keysOf (fun v₁ v₂ rest e=>keyKind_strs (by rw [← e];exact hS)) lacc fun st' hp hs=>⟨_,rfl,?_⟩) (args_list_sort _)));obtain ⟨ss',h1,h2,h3⟩:=sorted_out_str hS hp hs;obtain ⟨e,he⟩:=sortedHeap_at (out:=(arrOf st').map (·.2)) hoL;obtain ⟨hp1,g',d',tk',os'⟩:=s1;have e1:g'=s.gens:=g1;have e2:d'=s.drawn:=d1;have e3:os'=s.os:=o1;subst e1 e2 e3;refine wpAny_pure ⟨_,rfl,q _ tk' _ _ ss' e (fun b o eb=>?_) (Nat.le_of_lt low) he h1 h2 h3⟩;have lt:=Heap.lt_size (kk b o eb);rw [sortedHeap_old (Nat.ne_of_lt lt) (by rw [Heap.size_push];exact Nat.lt_succ_of_lt lt)];exact Heap.get?_push_of_some _ (kk b o eb)
end
section
variable {X:Cx}
def DicQ (K:PySem.W.Frag) (H:Hp) (p:Addr) (fs:List (Str×Dt)):Prop :=
 ∃ kvs,H p=some (.dK kvs)∧kvs.map (·.1)=fs.map (fun p=>(Sum.inr p.1:Key))∧∀ z,(ak fs z=none→aI kvs (Sum.inr z:Key)=none)∧∀ d,ak fs z=some d→∃ v,aI kvs (Sum.inr z:Key)=some v∧IsP K H d v
theorem DicQ.p {K:PySem.W.Frag} {H:Hp} {p:Addr} {fs:List (Str×Dt)} (h:DicQ K H p fs):DV K H p fs:=by
 obtain ⟨kvs,e,_,k⟩:=h;exact ⟨kvs,e,k⟩
end
section
variable {prog:Program} {w:World} {A:Around} {E:Value→Shared→Prop} {s:Shared}
end
section
variable {prog:Program} {w:World} {A:Around} {E:Value→Shared→Prop} {s:Shared}
end
section
variable {X:Cx} {pins:List (Addr×Obj)} {σ:St} {H H':Hp} {s:Shared} {h':Heap}
end
abbrev Dm (j tk:Nat) (x:Value):Obj:={ cls:=.type "tuple",data:=.seq #[.int j tk,x] }
inductive Rws (h:Heap) (lo:Nat):Nat→List V→List (Addr×HO)→Prop
 | nil {j:Nat}:Rws h lo j [] []
 | cons {j T tk:Nat} {x:Value} {v:V} {vs:List V} {r:List (Addr×HO)}:lo < T→RelV v x→h.get? T=some (Dm j tk x)→Rws h lo (j+1) vs r→Rws h lo j (v :: vs) ((T,plO [.int j,v] [.int j tk,x]) :: r)
theorem Rws.length {h:Heap} {lo:Nat}:∀ {j:Nat} {vs:List V} {r:List (Addr×HO)},Rws h lo j vs r→r.length=vs.length
 | _,_,_,.nil=>rfl
 | _,_,_,.cons _ _ _ r=>by rw [List.length_cons,List.length_cons,r.length]
section
variable {X:Cx}
end
section
variable {prog:Program} {w:World} {A:Around} {E:Value→Shared→Prop} {s:Shared}
end
section
variable {X:Cx}
end
section
variable {X:Cx} {tg:Expr} {pins:List (Addr×Obj)} {σ:St} {H:Hp} {s:Shared}
end
section
variable {X:Cx}
theorem lu (hc:X.calm=true):aG X (.type "dict") (fun xs H Q=>∃ x fs,xs=[x]∧IsP X.K H (.tup (fs.map prD)) x∧(fs.map (·.1)).Nodup∧fs.length≤1000∧∀ p H',H p=none→Same H H'→DicQ X.K H' p fs→Q (.ref p) H'):=by
 intro pins s σ H xs us Q I r h;obtain ⟨x,fs,rfl,dx,nd,hz,q⟩:=h;obtain ⟨u,rfl,rx⟩:=bX r;obtain ⟨a,ys,rfl,ha,⟨o,ho,eo,dn⟩,ra⟩:=dx.unref
 cases rx
 obtain ⟨its,r',⟨o',e',c',n',d'⟩,_⟩:=I.tuple ha;have e0:s.heap.get? a=some o:=(I.hok a _ eo).1;rw [e0] at e';obtain rfl:=Option.some.inj e';obtain ⟨kvs,vs,k1,k2,k3,k4,k5,k6⟩:=oJ I ra r';have hl:vs.length=fs.length:=by rw [← k1.length,k3]
 have big:=I.big;refine fc (knd:=ag X.prog X.w) (kvs:=vs) (I.ok.hd hc) e0 c' d' dn ⟨by rw [List.size_toArray];exact k5,fun i kv z=>?_⟩ (Nat.le_trans (Nat.add_le_add (hl ▸ hz) (hl ▸ hz)) (by decide)) fun h' tk dd kp=>?_
 ·obtain ⟨b,key,z1,z2,z3⟩:=k6 i kv z;exact ⟨b,key,by simpa using z1,z2,z3⟩
 ·have ndv:(vs.map (·.1)).Nodup:=by
   rw [← k1.keys,k2];have z:fs.map (fun p=>(Sum.inr p.1:Key))=(fs.map (·.1)).map Sum.inr:=by rw [List.map_map];rfl
   rw [z];exact List.Pairwise.map _ (fun a b n q=>n (Sum.inr.inj q)) nd
  rw [merged_nil_of_nodup vs ndv] at dd;have hf:=I.hok.fresh (Nat.le_refl s.heap.objs.size);have I2:Inv X pins σ (upd H s.heap.objs.size (.dK kvs)) { s with heap:=h',toks:=tk }:=I.laid (t':=tk) kp (Nat.le_refl _)
   (oG (by rw [k3];exact Nat.le_of_lt (au hz)) (by simp;exact Nat.ne_of_gt big) k1 dd)
  refine ⟨.ref s.heap.objs.size,_,I2,rfl,q _ _ hf (ae hf _) ⟨kvs,ac,k2,fun z=>⟨(k4 z).1,fun d l=>?_⟩⟩⟩;obtain ⟨v,l1,l2⟩:=(k4 z).2 d l;exact ⟨v,l1,l2.same (ae hf _)⟩
theorem j3 (hc:X.calm=true):aG X (.builtin "sorted") (fun xs H Q=>∃ (p:Addr) (kvs:List (Key×V)) (ss:List Str),xs=[.ref p]∧Rd H p (.dK kvs)∧kvs.map (·.1)=ss.map Sum.inr∧ss.length < 64∧∀ (a:Addr) (ss':List Str),H a=none→ss'.Perm ss→sortedS ss'=true→Q (.ref a) (upd H a (.lst (ss'.map V.str)))):=by
 intro pins s σ H xs us Q I r h;obtain ⟨p,kvs,ss,rfl,hp,names,hl,q⟩:=h;obtain ⟨u,rfl,rx⟩:=bX r
 cases rx
 obtain ⟨hz,hd,vs,kv,dof⟩:=md I.hok hp;refine qE (ss:=ss) (I.ok.hd hc) hd dof (by rw [← kv.keys];exact names) hl fun h' t' a out ss' n kk low ea h1 h2 h3=>?_;have hn:H a=none:=I.hok.fresh low;refine ⟨.ref a,_,I.laid (t':=t') (o:=.lst (ss'.map V.str)) kk low ?_,rfl,q a ss' hn h2 h3⟩;have e2:seqObj "list" out n=seqObj "list" out.toList.toArray n:=by rw [Array.toArray_toList]
 refine ⟨?_,out.toList,n,eB h1,?_⟩
 ·rw [List.length_map,h2.length_eq];exact Nat.le_of_lt (Nat.lt_trans hl (by decide))
 ·rw [ea,e2]
end
section
variable {a:Addr} {ob:Obj} {kvs:List (Key×V)} {g:TG} {l:Addr} {σ0:St} {H0:Hp} {R:Hp→Prop} {tb:List V→Addr→St→Hp→(List V→St→Hp→Prop)→Prop}
end
section
variable {X:Cx}
end
section
variable {prog:Program} {w:World} {A:Around} {E:Value→Shared→Prop} {s:Shared}
end
section
variable {X:Cx}
end
section
variable {X:Cx} {K:PySem.W.Frag}
end
section
variable {X:Cx} {K:PySem.W.Frag}
inductive JSlP (K:PySem.W.Frag) (x:V) (lo hi:Option Int) (H:Hp) (Q:VK):Prop
 | mk (l:List Dt):(IsP K H (.tup l) x)→(∀ v H',Same H H'→IsP K H' (.tup (m8 l lo hi)) v→Q v H')→JSlP K x lo hi H Q
def DY (K:PySem.W.Frag):V→Option Int→Option Int→Hp→VK→Prop:=fun x lo hi H Q=>JSlP K x lo hi H Q
inductive JLenS (K:PySem.W.Frag) (xs:List V) (H:Hp) (Q:VK):Prop
 | mk (p:Addr) (ys:List V):(xs=[.ref p])→((SqL K H p ys∨SqT K H p ys))→(Q (.int ys.length) H)→JLenS K xs H Q
def Dn (K:PySem.W.Frag):List V→Hp→VK→Prop:=fun xs H Q=>JLenS K xs H Q
def DZ (K:PySem.W.Frag):List V→Hp→VK→Prop:=fun xs H Q=>∃ p ys,xs=[.ref p]∧true=true∧SqL K H p (bls ys)∧Q (.bl (ys.all id)) H
def wH (K:PySem.W.Frag):List V→Hp→VK→Prop:=fun xs H Q=>∃ x fs,xs=[x]∧IsP K H (.tup (fs.map prD)) x∧(fs.map (·.1)).Nodup∧fs.length≤1000∧∀ p H',H p=none→Same H H'→DicQ K H' p fs→Q (.ref p) H'
theorem j4 (hK:X.K=K):SlR X (DY K):=by
 subst hK;intro pins s σ H x v vl vu lo hi sl Q I rx hs pl pu h;obtain ⟨l,a,q⟩:=h;exact qt _ _ _ _ _ _ _ _ _ _ _ _ I rx hs pl pu ⟨l,a,q⟩
theorem j5 (hK:X.K=K):SlR X (C3 K):=by subst hK;exact qf
theorem oU (hK:X.K=K):OpR X (binaryOp .Add) (rs K):=by subst hK;exact qy
theorem call_len_seqN (hK:X.K=K):aG X (.builtin "len") (Dn K):=by
 subst hK;intro pins s σ H xs us Q I r h;obtain ⟨x,l,a,b,q⟩:=h;exact dH _ _ _ _ _ _ _ I r ⟨x,l,a,b,q⟩
theorem call_allN (hK:X.K=K) (hc:X.calm=true):aG X (.builtin "all") (DZ K):=by
 subst hK;intro pins s σ H xs us Q I r h;obtain ⟨p,ys,rfl,_,hs,q⟩:=h;exact ow _ _ _ _ _ _ _ I r ⟨p,ys,rfl,hc,hs,q⟩
theorem j6 (hK:X.K=K) (hc:X.calm=true):aG X (.type "dict") (wH K):=by subst hK;exact lu hc
end
section
variable {K:PySem.W.Frag} {a b l:Addr} {xs ys:List V} {g:TG} {tb:List V→Addr→St→Hp→(List V→St→Hp→Prop)→Prop} {R:Hp→Prop} {σ0:St} {H0:Hp}
theorem lv (Pv:Nat→List V→St→Hp→Prop) (h0:Pv 0 [] σ0 H0) (hla:∀ i us σ H,Pv i us σ H→SqT K H a xs∧SqT K H b ys)
  (hs:∀ i x y T us σ H (N:List V→St→Hp→Prop),xs[i]?=some x→ys[i]?=some y→H T=none→Pv i us σ H→(∀ us' σ' H',Pv (i+1) us' σ' H'→N us' σ' H')→g (.ref T) σ (upd H T (.tup [x,y])) fun σ2 H2=>tb us l σ2 H2 N)
  (hd:∀ us σ H,Pv (min xs.length ys.length) us σ H→R H) :
  ∃ W:Nat→Nat→List V→St→Hp→Prop,(∃ m,W 0 m [] σ0 H0)∧∀ i m us σ' H',W i m us σ' H'→((j0 K a b).stop i H'∧R H') ∨
   ((j0 K a b).go i H'∧∀ x H'',(j0 K a b).yld i H' x H''→g x σ' H'' fun σ2 H2=>tb us l σ2 H2 fun us' σ3 H3=>∃ m',m' < m∧W (i+1) m' us' σ3 H3):=nv (Q:=fun _ H=>R H) Pv h0 hla hs hd
end
section
variable {X:Cx} {K:PySem.W.Frag}
end
end L2
namespace PySem
open Sem (wp)
namespace F
end F
section
variable {prog:Program} {w:World} {K:Type} [DecidableEq K] {kd:KeyKind prog w K} {A:Around} {E:Value→Shared→Prop}
theorem cz {h h':Heap} {ks:List K} {a:Addr} (x:IsTupleKey kd h ks a) (k:∀ o,h.get? a=some o→h'.get? a=some o):IsTupleKey kd h' ks a:=by
 obtain ⟨o,its,n,e,r⟩:=x;exact ⟨o,its,n,k o e,r⟩
end
end PySem
namespace L2
open PySem PySem.Spec PyProof.Rows
def kDt:Key→Dt
 | .inl i=>.int i
 | .inr z=>.str z
theorem qF {K:PySem.W.Frag} {H:Hp} {k:Key} {v:V} (h:IsP K H (kDt k) v):v=kV k:=by
 cases k <;> (cases h;rfl)
theorem ia {K:PySem.W.Frag} {H:Hp}:∀ {ks:List Key} {xs:List V},IsPs K H (ks.map kDt) xs→xs=ks.map kV
 | [],_,h=>by cases h;rfl
 | k :: ks,_,h=>by
  cases h with
  | cons h r=>rw [qF h,ia r];rfl
def j7 (P:Program) (w:World) (p:Addr) (xs:List (List Key×Addr×Value)) (h:Heap):Prop :=
 ∃ o es ep,h.get? p=some o∧o.ExactDict∧o.data=.dict es ep∧es.toList=xs.map (entryOfKey (tupleKind (ag P w)))∧(xs.map (·.1)).Nodup
def DicT (P:Program) (w:World) (K:PySem.W.Frag) (H:Hp) (p:Addr) (kvs:List (List Key×Dt)):Prop :=
 (p == sysModules)=false∧∃ xs:List (List Key×Addr×Value),H p=some (.ext (j7 P w p xs)) ∧
  Paired (fun (a:List Key×Dt) (b:List Key×Addr×Value)=>a.1=b.1∧IsP K H (.tup (a.1.map kDt)) (.ref b.2.1)∧∃ v,RelV v b.2.2∧IsP K H a.2 v) kvs xs
section
variable {X:Cx} {pins:List (Addr×Obj)} {σ:St} {H:Hp} {s:Shared}
theorem dO (I:Inv X pins σ H s) {ks:List Key} {a:Addr} (h:IsP X.K H (.tup (ks.map kDt)) (.ref a)):IsTupleKey (ag X.prog X.w) s.heap ks a:=by
 obtain ⟨b,ys,e,ha,_,ra⟩:=h.unref
 cases e
 obtain ⟨its,r,⟨o,h1,h2,n,h3⟩,_⟩:=I.tuple ha;rw [ia ra] at r;exact ⟨o,its.toArray,n,h1,h2,h3,by simpa using et r⟩
theorem DicT.dict {p:Addr} {kvs:List (List Key×Dt)} (I:Inv X pins σ H s) (h:DicT X.prog X.w X.K H p kvs):(p == sysModules)=false∧∃ xs:List (List Key×Addr×Value),s.heap.DictOfH (tupleKind (ag X.prog X.w)) p xs ∧
  Paired (fun (a:List Key×Dt) (b:List Key×Addr×Value)=>a.1=b.1∧IsP X.K H (.tup (a.1.map kDt)) (.ref b.2.1)∧∃ v,RelV v b.2.2∧IsP X.K H a.2 v) kvs xs:=by
 obtain ⟨e0,xs,e,r⟩:=h;obtain ⟨⟨o,es,ep,h1,h2,h3,h4,h5⟩,_⟩:=(show ObjOk X.prog X.w H s.heap p (.ext (j7 X.prog X.w p xs)) from I.hok p _ e);refine ⟨e0,xs,⟨o,es,ep,h1,h2,h3,h4,fun y hy=>?_,h5⟩,r⟩;have all:∀ {l:List (List Key×Dt)} {m:List (List Key×Addr×Value)},Paired (fun (a:List Key×Dt) (b:List Key×Addr×Value)=>a.1=b.1∧IsP X.K H (.tup (a.1.map kDt)) (.ref b.2.1)∧∃ v,RelV v b.2.2∧IsP X.K H a.2 v) l m→∀ y∈m,IsTupleKey (ag X.prog X.w) s.heap y.1 y.2.1:=by
  intro l m q
  induction q with
  | nil=>intro y hy;exact nomatch hy
  | @cons p q ps qs hq t ih =>
   intro y hy;rcases List.mem_cons.mp hy with rfl | hy
   ·rw [← hq.1];exact dO I hq.2.1
   ·exact ih y hy
 exact all r y hy
def eD (kvs:List (List Key×Dt)) (k:List Key):Option Dt:=(kvs.find? fun p=>decide (p.1=k)).map (·.2)
theorem fG {K:PySem.W.Frag} {k:List Key}:∀ {kvs:List (List Key×Dt)} {xs:List (List Key×Addr×Value)},
  Paired (fun (a:List Key×Dt) (b:List Key×Addr×Value)=>a.1=b.1∧IsP K H (.tup (a.1.map kDt)) (.ref b.2.1)∧∃ v,RelV v b.2.2∧IsP K H a.2 v) kvs xs →
  (eD kvs k=none∧atKey xs k=none)∨∃ d p v,eD kvs k=some d∧atKey xs k=some p∧RelV v p.2∧IsP K H d v
 | _,_,.nil=>.inl ⟨rfl,rfl⟩
 | _,_,.cons (a:=p) (b:=q) hq t=>by
  by_cases e:p.1=k
  ·obtain ⟨e1,_,v,r,i⟩:=hq;exact .inr ⟨p.2,q.2,v,by simp [eD,e],by simp [atKey,← e1,e],r,i⟩
  ·have e2:¬ q.1=k:=fun z=>e (hq.1.trans z);have z1:∀ l,eD (p :: l) k=eD l k:=fun l=>by simp [eD,e]
   have z2:∀ l,atKey (q :: l) k=atKey l k:=fun l=>by simp [atKey,e2]
   rw [z1,z2];exact fG t
end
end L2
namespace PySem
open Sem (wp)
section
variable {prog:Program} {w:World} {K:Type} [DecidableEq K] {knd:HeapKind prog w K} {A:Around} {E:Value→Shared→Prop} {s:Shared}
end
end PySem
namespace L2
open PySem PySem.Spec PyProof.Rows
section
variable {X:Cx} {pins:List (Addr×Obj)} {σ:St} {H:Hp} {s:Shared}
end
theorem DicT.same {P:Program} {w:World} {K:PySem.W.Frag} {H H':Hp} {p:Addr} {kvs:List (List Key×Dt)} (g:Same H H') (h:DicT P w K H p kvs):DicT P w K H' p kvs:=by
 obtain ⟨e0,xs,e,r⟩:=h;exact ⟨e0,xs,g _ _ e,L2.Paired.mapP r fun a b ⟨z1,z2,v,z3,z4⟩=>⟨z1,z2.same g,v,z3,z4.same g⟩⟩
theorem u2 {A:Around} (h:A.units+64 < cLine):A.units+2 < cLine:=by lia
section
variable {X:Cx} {o e f:Expr} {apos cpos:Pos} {td ty tx:TE}
end
end L2
namespace PySem
open Sem (wp)
open PyProof.Rows
section
variable {prog:Program} {w:World} {A:Around} {E:Value→Shared→Prop} {s:Shared} {δ:Type} {R:δ→Value→Prop} {h₀:Heap} {a:Addr} {D:List (Str×δ)} {k:Str} {tk:Tok}
theorem j8 {Q:Option Value→Shared→Prop} (T:KTD.TabOf R h₀ a D) (kp:∀ b o,h₀.get? b=some o→s.heap.get? b=some o) (q1:∀ d v,KTD.datumAt k D=some d→R d v→Q (some v) { s with toks:=s.toks+1 })
  (q2:KTD.datumAt k D=none→Q none { s with toks:=s.toks+1 }):wpAny (model prog w) A (dictGet a (.str k tk)) Q E s:=by
 obtain ⟨_,o,es,ep,ho0,hc,hd,hr⟩:=T;have ho:=kp _ _ ho0;obtain ⟨l⟩:=es;unfold dictGet
 try with_reducible refine wpAny_holding ?_
 refine wpAny_bind (wpAny_pyHash_str (wpAny_bind (KTD.kt_dictFind_strs (s:={ s with toks:=s.toks+1 }) ho hd (by simpa using hr.exact) ?_)));have hq:Q (findBy (fun k v=>v.isStr k) (Array.mk l) k) { s with toks:=s.toks+1 }:=by
  rw [show findBy (fun k v=>v.isStr k) (Array.mk l) k=(l.find? fun e=>e.key.isStr k).map (·.val) by simp [findBy]]
  cases hat:KTD.datumAt k D with
  | none=>rw [show (l.find? fun e=>e.key.isStr k).map (·.val)=none by have:=hr.find_none hat;simpa using this];exact q2 hat
  | some d =>
   obtain ⟨v,hv,rv⟩:=hr.find_some hat;rw [show (l.find? fun e=>e.key.isStr k).map (·.val)=some v from hv];exact q1 d v hat rv
 rw [findBy_of_findIdx?] at hq
 cases hi:(Array.mk l).findIdx? fun e=>e.key.isStr k with
 | some i=>rw [hi] at hq;exact wpAny_bind (wpAny_dictEntries (s:={ s with toks:=s.toks+1 }) ho hd (wpAny_pure hq))
 | none=>rw [hi] at hq;exact wpAny_pure hq
end
end PySem
namespace L2
open PySem PySem.Spec PyProof.Rows
def iR (K:PySem.W.Frag) (a:Addr) (D:List (Str×Addr)):Prop:=∀ h,K.In h→KTD.TabOf (fun b v=>v=Value.ref b) h a D
theorem xu {K:PySem.W.Frag} {a:Addr} {D:List (Str×Addr)} (e:KTD.tabLook (fun b v=>v == Value.ref b) (fun b=>K.lookup b) a D=true):iR K a D :=
 fun _ X=>KTD.tab_of_look (L:=fun b v=>v == Value.ref b) (R:=fun b v=>v=Value.ref b) (fun _ _ z=>eq_of_beq z) (fun b o q=>X b o q) e
def iS (K:PySem.W.Frag) (b:Addr) (ws:List Str):Bool:=match K.lookup b with
 | some o=>o.cls == .type "tuple" && (match o.data with | .seq vs _=>KTD.strsLook vs.toList ws && decide (vs.size≤1000) | _=>false)
 | none=>false
def oV (K:PySem.W.Frag) (D:List (Addr×List Str)):Bool:=D.all fun p=>iS K p.1 p.2
def oW (K:PySem.W.Frag) (D:List (Addr×List Str)):Prop:=∀ p∈D,∀ H:Hp,SqT K H p.1 (p.2.map V.str)
theorem Do {K:PySem.W.Frag} {D:List (Addr×List Str)} (e:oV K D=true):oW K D:=by
 intro p hp H;have e1:iS K p.1 p.2=true:=List.all_eq_true.mp e p hp;unfold iS at e1
 split at e1
 ·rename_i o ho
  simp only [Bool.and_eq_true] at e1;obtain ⟨e2,e3⟩:=e1
  split at e3
  ·rename_i vs n hd
   simp only [Bool.and_eq_true] at e3;exact .inr ⟨o,vs,n,ho,eq_of_beq e2,hd,Nat.le_of_lt (au (of_decide_eq_true e3.2)),eB (KTD.strs_of_look e3.1)⟩
  ·cases e3
 ·cases e1
def ib (k:Str):List (Str×Addr)→Option Addr
 | []=>none
 | (x,b) :: D=>if k=x then some b else ib k D
theorem fH {k:Str}:∀ D:List (Str×Addr),KTD.datumAt k D=ib k D
 | []=>rfl
 | (x,b) :: D=>by
  show (if decide (k=x)=true then some b else KTD.datumAt k D)=_
  by_cases h:k=x
  ·simp [ib,h]
  ·simp [ib,h,fH D]
section
variable {X:Cx}
end
section
variable {prog:Program} {w:World} {A:Around} {E:Value→Shared→Prop} {s:Shared}
end
section
variable {prog:Program} {w:World} {A:Around} {E:Value→Shared→Prop} {s:Shared}
end
section
variable {prog:Program} {w:World} {K:Type} [DecidableEq K] {knd:KeyKind prog w K} {A:Around} {E:Value→Shared→Prop}
end
section
variable {prog:Program} {w:World} {K:Type} [DecidableEq K] {knd:KeyKind prog w K} {A:Around} {E:Value→Shared→Prop}
end
section
variable {X:Cx}
end
section
variable {X:Cx}
theorem ps_tryN {body:List Stmt} {h0:ExceptHandler} {hs:List ExceptHandler} {pos:Pos} {t:TS} (hb:PSs X.nox body t):PS X.nox (.Try body (h0 :: hs) [] [] pos) t:=by
 intro pins s σ H D I h;refine wpAny_Try_except (wpAny_mono (hb pins s σ H D I h) (fun f s1 q=>?_) (fun e s1 q=>q.elim))
 cases f with
 | next=>exact wpAny_execs_nil q
 | ret u=>exact q
 | brk=>exact q
 | cont=>exact q
end
open AutoSeq1 (wpAny_loadPart')
structure ZOut (lo:Nat) (xs ys acc:Array Value) (h:Heap):Prop where
 pr:∀ (j:Nat) (e:Value),acc[j]?=some e→∃ (T:Addr) (x y:Value),e=.ref T∧lo≤T∧xs[j]?=some x∧ys[j]?=some y∧IsPair h T x y
 ij:∀ (j k:Nat) (e:Value),acc[j]?=some e→acc[k]?=some e→j=k
theorem ZOut.keep {lo:Nat} {xs ys acc:Array Value} {h h':Heap} (Z:ZOut lo xs ys acc h) (k:∀ T x y,lo≤T→IsPair h T x y→IsPair h' T x y):ZOut lo xs ys acc h' :=
 ⟨fun j e hj=>by obtain ⟨T,x,y,a,b,c,d,f⟩:=Z.pr j e hj;exact ⟨T,x,y,a,b,c,d,k T x y b f⟩,Z.ij⟩
section
variable {prog:Program} {w:World} {A:Around} {E:Value→Shared→Prop} {s:Shared}
end
section
variable {prog:Program} {w:World} {A:Around} {E:Value→Shared→Prop} {s:Shared}
end
abbrev Dp (x y:Value):Obj:={ cls:=.type "tuple",data:=.seq #[x,y] }
inductive RwZ (h:Heap) (lo:Nat):List V→List V→List (Addr×HO)→Prop
 | nil:RwZ h lo [] [] []
 | cons {T:Nat} {x y:Value} {v u:V} {vs us:List V} {r:List (Addr×HO)}:lo≤T→RelV v x→RelV u y→h.get? T=some (Dp x y)→RwZ h lo vs us r→RwZ h lo (v :: vs) (u :: us) ((T,plO [v,u] [x,y]) :: r)
theorem RwZ.length {h:Heap} {lo:Nat} {vs us:List V} {r:List (Addr×HO)} (R:RwZ h lo vs us r):r.length=vs.length:=by
 induction R with
 | nil=>rfl
 | cons _ _ _ _ _ ih=>rw [List.length_cons,List.length_cons,ih]
section
variable {X:Cx}
end
end L2
namespace L2
open PySem PySem.Spec PyProof.Rows
open AutoSeq1 (wpAny_loadPart')
section
variable {prog:Program} {w:World} {A:Around} {E:Value→Shared→Prop} {s:Shared}
end
section
variable {X:Cx}
end
end L2
namespace L2
open PySem PySem.Spec PyProof.Rows
section
variable {X:Cx} {o e:Expr} {es:List Expr} {to:TE} {t:TA} {name:Str} {apos cpos:Pos} {T id:String} {r:V→List V→Hp→VK→Prop}
end
section
variable {P:Program} {w:World} {A:Around} {E:Value→Shared→Prop} {s:Shared}
end
section
variable {P:Program} {w:World} {A:Around} {R:Result→Shared→Prop} {it:Addr} {fp wr:List Addr} {G:Array GenState→Array GenState→Prop} {n:Nat} {Pt:Nat→Value→Prop} {St:Nat→Shared→Prop}
end
section
variable {P:Program} {w:World} {A:Around} {E:Value→Shared→Prop} {s:Shared}
theorem oX (a:Value) {Q₁:Value→Shared→Prop} (h:Q₁ (.ref s.heap.objs.size) { s with heap:=s.heap.push (cc (!w.params.followText "set-order")) }) :
  codeAny (model P w) A (.call (.builtin "set.__new__") ⟨[.type "set",a],[]⟩) (wants Q₁ E) s:=by
 refine codeAny_of_tree ?_;show wpAny _ A.in1 (do checkBuiltinCall "set.__new__" ⟨[.type "set",a],[]⟩;again (.builtin "set.__new__" ⟨[.type "set",a],[]⟩)) _ _ s;refine wpAny_bind (wpAny_of_eq (PySem.F.newCall_set_1 a) (wpAny_pure ⟨plainId_quiet PySem.F.plain_set_new _,codeAny_builtin PySem.F.entry_set_new ?_⟩));rw [Around.under_plainId PySem.F.plain_set_new _];unfold Builtin.«set.__new__» Builtin.Frozenset.newClass;have hsub:=sub_set_self;obtain ⟨hp,g,d,tk,os⟩:=s;dsimp only
 wp_walk
 refine wpAny_askSetting (wpAny_pure ?_);dsimp only;simp only [newObj];exact wpAny_bind (wpAny_alloc (wpAny_pure (wpAny_pure h)))
end
section
variable {P:Program} {w:World} {A:Around} {E:Value→Shared→Prop} {s:Shared}
def SIt (h:Heap) (I a:Addr) (first:Value) (i n ep:Nat):Prop:=∃ o,h.get? I=some o∧o.cls=.type "set_iterator" ∧o.data=.fields #[first,.int i 0,.ref a,.int n 0,.int ep 0]
theorem SIt.type {I a:Addr} {first:Value} {i n ep:Nat} (x:SIt s.heap I a first i n ep):s.TypeIs (.ref I) "set_iterator" :=let ⟨o,ho,hc,_⟩:=x;⟨o,ho,hc⟩
theorem SIt.at {h h':Heap} {I a:Addr} {first:Value} {i n ep:Nat} (x:SIt h I a first i n ep) (e:∀ o,h.get? I=some o→h'.get? I=some o):SIt h' I a first i n ep:=let ⟨o,ho,r⟩:=x;⟨o,e _ ho,r⟩
end
section
variable {P:Program} {w:World} {A:Around} {E:Value→Shared→Prop} {s:Shared}
end
section
variable {P:Program} {w:World} {A:Around} {E:Value→Shared→Prop} {s:Shared}
end
section
variable {P:Program} {w:World} {A:Around} {E:Value→Shared→Prop} {s:Shared}
end
section
variable {P:Program} {w:World} {A:Around} {E:Value→Shared→Prop} {s:Shared}
end
section
variable {P:Program} {w:World} {A:Around} {E:Value→Shared→Prop} {s:Shared}
end
section
variable {X:Cx}
end
def SqE:Bool→PySem.W.Frag→Hp→Addr→List V→Prop
 | true=>SqT
 | false=>SqL
theorem SqE.same {t:Bool} {K:PySem.W.Frag} {H H':Hp} {a:Addr} {xs:List V} (e:Same H H') (h:SqE t K H a xs):SqE t K H' a xs:=by
 cases t
 ·exact e.seq h
 ·exact e.tup h
theorem SqE.butD {t:Bool} {K:PySem.W.Frag} {H H':Hp} {a p:Addr} {xs:List V} {kvs:List (Key×V)} (hp:H p=some (.dK kvs)) (e:But p H H') (h:SqE t K H a xs):SqE t K H' a xs:=by
 cases t
 ·rcases h with (h | ⟨o,h⟩) | h
  ·exact .inl (.inl (e _ _ (cX h hp (by intro z;cases z)) h))
  ·exact .inl (.inr ⟨o,e _ _ (cX h hp (by intro z;cases z)) h⟩)
  ·exact .inr h
 ·rcases h with (h | ⟨o,h⟩) | h
  ·exact .inl (.inl (e _ _ (cX h hp (by intro z;cases z)) h))
  ·exact .inl (.inr ⟨o,e _ _ (cX h hp (by intro z;cases z)) h⟩)
  ·exact .inr h
section
variable {X:Cx} {elts:List Expr} {k:Nat} {tpos:Pos}
end
def DicN (K:PySem.W.Frag) (H:Hp) (p:Addr) (ns:List Str) (f:Str→Dt):Prop :=
 ∃ kvs,H p=some (.dK kvs)∧kvs.map (·.1)=ns.map (Sum.inr:Str→Key)∧∀ z∈ns,∃ v,aI kvs (Sum.inr z:Key)=some v∧IsP K H (f z) v
theorem ny (kvs:List (Key×V)) (ns:List Str) (z:Str) (v:V) (h:kvs.map (·.1)=ns.map (Sum.inr:Str→Key)):(ca kvs (Sum.inr z:Key) v).map (·.1)=(if z∈ns then ns else ns++[z]).map (Sum.inr:Str→Key):=by
 have ha:(kvs.any fun kv=>decide (kv.1=(Sum.inr z:Key)))=decide (z∈ns):=by
  have e:(kvs.any fun kv=>decide (kv.1=(Sum.inr z:Key)))=(kvs.map (·.1)).any fun k=>decide (k=(Sum.inr z:Key)):=by rw [List.any_map];rfl
  rw [e,h,List.any_map,Bool.eq_iff_iff];simp
 unfold ca;rw [ha]
 by_cases hz:z∈ns
 ·rw [if_pos (by simpa using hz),if_pos hz,List.map_map,← h];refine List.map_congr_left fun kv _=>?_;show (if kv.1=Sum.inr z then (kv.1,v) else kv).1=kv.1
  split <;> rfl
 ·rw [if_neg (by simpa using hz),if_neg hz,List.map_append,h,List.map_append]
  rfl
section
variable {X:Cx} {o e f:Expr} {apos cpos:Pos} {td ty tx:TE}
end
section
variable {X:Cx} {e st:Expr} {te tst:TE} {p2 pos:Pos}
end
end L2
namespace PySem
open Sem (wp)
section
variable {M:Model} {A:Around} {E:Value→Shared→Prop} {s:Shared}
end
end PySem
namespace PySem
open Sem (wp)
section
variable {prog:Program} {w:World} {A:Around} {E:Value→Shared→Prop} {s:Shared} {env:Env}
variable {nm q:Str} {C N:Addr} {bs bm bmB:List Value} {hdct:Bool} {sn:List Str} {sub:List Value} {ab:Bool} {col:Option Bool} {dd:Option Addr} {k0 k1 k2 k3 k5:Option Value} {B newId initId:String}
end
end PySem
namespace L2
open PySem PySem.Spec PyProof.Rows
section
variable {X:Cx} {pins:List (Addr×Obj)} {σ:St} {H:Hp} {s:Shared}
end
end L2
namespace PySem
open Sem (wp)
section
variable {prog:Program} {w:World} {A:Around} {E:Value→Shared→Prop} {s:Shared} {env:Env}
variable {nm q:Str} {C N:Addr} {bs bm bmB:List Value} {hdct:Bool} {sn:List Str} {sub:List Value} {ab:Bool} {col:Option Bool} {dd:Option Addr} {k0 k1 k2 k3 k5:Option Value} {B newId initId:String}
end
end PySem
namespace L2
open PySem PySem.Spec PyProof.Rows
section
variable {X:Cx} {pins:List (Addr×Obj)} {σ:St} {H:Hp} {s:Shared}
end
end L2
namespace PySem
open Sem (wp)
section
variable {prog:Program} {w:World} {K:Type} [DecidableEq K] {kd:KeyKind prog w K} {k0:K} {A:Around} {E:Value→Shared→Prop} {s:Shared}
def IsBoxKey (kd:KeyKind prog w K) (k0:K) (h:Heap) (k:K) (a:Addr):Prop :=
 ∃ o u b n,h.get? a=some o∧o.cls=.type "tuple" ∧o.data=.seq #[u,.ref b] n∧kd.is k0 u=true∧IsTupleKey kd h [k] b
theorem IsBoxKey.tuple {k:K} {a:Addr} (x:IsBoxKey kd k0 s.heap k a):s.TypeIs (.ref a) "tuple" :=let ⟨o,_,_,_,q,c,_⟩:=x;⟨o,q,c⟩
theorem IsBoxKey.one {h:Heap} {a:Addr} {x y:K} (p:IsBoxKey kd k0 h x a) (q:IsBoxKey kd k0 h y a):x=y:=by
 obtain ⟨o,u,b,n,p1,p2,p3,p4,p5⟩:=p;obtain ⟨o',u',b',n',q1,q2,q3,q4,q5⟩:=q;obtain rfl:o=o':=Option.some.inj (p1.symm.trans q1);rw [p3] at q3;injection q3 with e _
 have e2:u=u'∧b=b':=by simpa using e
 obtain ⟨rfl,rfl⟩:=e2;exact List.cons.inj (p5.inj q5) |>.1
theorem IsBoxKey.stay {h h':Heap} {k:K} {a d:Addr} {o:Obj} {es ep} (x:IsBoxKey kd k0 h k a) (q:h.get? d=some o) (qd:o.data=.dict es ep) (sb:Heap.SameBut d h h'):IsBoxKey kd k0 h' k a:=by
 obtain ⟨o',u,b,n,p1,p2,p3,p4,p5⟩:=x;have ne:a≠d:=by
  rintro rfl;obtain rfl:o'=o:=Option.some.inj (p1.symm.trans q);rw [qd] at p3;exact nomatch p3
 exact ⟨o',u,b,n,(sb.2 a ne).trans p1,p2,p3,p4,p5.keeps q qd sb⟩
def iT (kd:KeyKind prog w K) (k0 k:K):Int:=reduceHash (Builtin.Tuple.tupleHashOf [kd.hash k0,tupleKeyHash kd [k]])
theorem oY {k:K} {a:Addr} {Q:Int→Shared→Prop} (hu:A.units+1 < cLine) (x:IsBoxKey kd k0 s.heap k a) (z:Q (iT kd k0 k) { s with toks:=s.toks+4 }) :
  wpAny (model prog w) A (pyHash (.ref a)) Q E s:=by
 have ty:=x.tuple;obtain ⟨o,u,b,n,p1,_,p3,p4,p5⟩:=x;unfold pyHash
 first | unfold pyHashByItsType | skip
 first | refine wpAny_bind (wpAny_cRoomFor_or (.inr (Nat.lt_trans (Nat.lt_succ_self _) hu)) ?_) | skip
 refine wpAny_bind (wpAny_specialOf ty F.slot_tuple_hash.lookup ?_);show wpAny _ _ (if (some (Value.builtin "tuple.__hash__") == some Value.none)=true then _ else _) Q E s;rw [if_neg (by rw [beq_builtin_none];exact Bool.false_ne_true)];refine wpAny_bind (wpAny_specialOf ty F.slot_tuple_hash.lookup ?_);show wpAny _ _ (callSpecialIfBoundUnlessNone? (.ref a) "__hash__" _ >>= _) Q E s;refine wpAny_bind (wpAny_callSpecialIfBoundUnlessNone?_slot ty F.slot_tuple_hash (wpAny_call_entry F.slot_tuple_hash ty F.entry_tuple_hash ?_ (F.args_tuple_hash_1 _)));show wpAny _ _ (Builtin.Tuple.tupleItemsOf (.ref a) >>= _) _ _ s;refine wpAny_bind (wpAny_tupleItemsOf p1 p3 ?_);refine wpAny_bind ?_;rw [← Array.forIn_toList];show wpAny _ _ (forIn [u,Value.ref b] _ _) _ _ _;rw [List.forIn_cons];refine wpAny_bind (wpAny_bind (kd.pyHash p4 ?_))
 first | refine wpAny_pure ?_ | refine wpAny_bind (wpAny_pure (wpAny_pure ?_))
 show wpAny _ _ (forIn [Value.ref b] _ _) _ _ _;rw [List.forIn_cons];refine wpAny_bind (wpAny_bind (wpAny_pyHash_tuple (knd:=kd) (ks:=[k]) (by exact hu) (by exact p5) ?_))
 first | refine wpAny_pure ?_ | refine wpAny_bind (wpAny_pure (wpAny_pure ?_))
 show wpAny _ _ (forIn ([]:List Value) _ _) _ _ _;rw [List.forIn_nil];refine wpAny_pure ?_;show wpAny _ _ (retInt (Builtin.Tuple.tupleHashOf [kd.hash k0,tupleKeyHash kd [k]])) _ _ _;refine wpAny_ret_mkInt ?_;show wpAny _ _ (if (decide (-(2:Int) ^ 63≤Builtin.Tuple.tupleHashOf [kd.hash k0,tupleKeyHash kd [k]]) && decide (Builtin.Tuple.tupleHashOf [kd.hash k0,tupleKeyHash kd [k]] < 2 ^ 63))=true then _ else _) Q E _;unfold iT reduceHash at z
 split
 ·rename_i q
  rw [if_pos q] at z;exact wpAny_pure z
 ·rename_i q
  rw [if_neg q] at z;exact wpAny_bind (wpAny_rule (wpAny_pure z))
theorem oZ {x y:K} {a b:Addr} {P:Fin→Shared→Prop} (hu:A.units+1 < cLine) (p:IsBoxKey kd k0 s.heap x a) (q:IsBoxKey kd k0 s.heap y b) (z:P (.done (.ret (.bool (decide (x=y))))) s) :
  wpAny (model prog w) A (Builtin.«tuple.__eq__» ⟨[.ref a,.ref b],[]⟩) P E s:=by
 have ty:=q.tuple;obtain ⟨oa,ua,ba,na,a1,_,a3,a4,a5⟩:=p;obtain ⟨ob,ub,bb,nb,b1,_,b3,b4,b5⟩:=q;show wpAny _ _ (isInstance (.ref b) (.type "tuple") >>= _) _ _ s;refine wpAny_bind (wpAny_isInstance ty isSubtype_tuple_tuple ?_);simp only [Bool.not_true,Bool.false_eq_true,if_false];refine wpAny_bind (wpAny_tupleItemsOf a1 a3 ?_);refine wpAny_bind (wpAny_tupleItemsOf b1 b3 ?_);refine wpAny_bind ?_;show wpAny _ _ (forIn [(ua,ub),(Value.ref ba,Value.ref bb)] _ _) _ _ _;rw [List.forIn_cons];refine wpAny_bind (wpAny_bind (kd.eqBool (a:=k0) (b:=k0) a4 b4 ?_));rw [decide_eq_true rfl];simp only [Bool.not_true,Bool.false_eq_true,if_false];refine wpAny_pure ?_;show wpAny _ _ (forIn [(Value.ref ba,Value.ref bb)] _ _) _ _ _;rw [List.forIn_cons];refine wpAny_bind (wpAny_bind (wpAny_eqBool_tuple (knd:=kd) (x:=[x]) (y:=[y]) (by lia) a5 b5 ?_))
 by_cases e:x=y
 ·subst e;rw [decide_eq_true rfl];rw [decide_eq_true rfl] at z;simp only [Bool.not_true,Bool.false_eq_true,if_false];refine wpAny_pure ?_;show wpAny _ _ (forIn ([]:List (Value×Value)) _ _) _ _ _;rw [List.forIn_nil];exact wpAny_pure (wpAny_pure z)
 ·have e':¬ [x]=[y]:=fun c=>e (List.cons.inj c).1;rw [decide_eq_false e'];rw [decide_eq_false e] at z;simp only [Bool.not_false,if_true];exact wpAny_bind (wpAny_pure (wpAny_pure (wpAny_pure (wpAny_pure z))))
theorem wI {x y:K} {a b:Addr} {Q:Bool→Shared→Prop} (hu:A.units+2 < cLine) (p:IsBoxKey kd k0 s.heap x a) (q:IsBoxKey kd k0 s.heap y b) (z:Q (decide (x=y)) s) :
  wpAny (model prog w) A (eqBool (.ref a) (.ref b)) Q E s:=by
 unfold eqBool
 try with_reducible refine wpAny_holding ?_
 show wpAny _ _ (if (Value.ref a == Value.ref b)=true then _ else _) Q E s
 by_cases ab:(Value.ref a == Value.ref b)=true
 ·rw [if_pos ab];have e:a=b:=by have:=eq_of_beq ab;injection this
  subst e;obtain rfl:=p.one q;exact wpAny_bind (wpAny_rule (wpAny_pure (by simpa using z)))
 ·rw [if_neg ab];exact wpAny_bind (wpAny_richCompare_same_room (op:=.Eq) p.tuple q.tuple F.slot_tuple_eq
   (wpAny_call_entry F.slot_tuple_eq p.tuple F.entry_tuple_eq (oZ (by exact hu) p q ⟨_,rfl,(fun e=>nomatch e),wpAny_truthy_bool z⟩) (F.args_tuple_eq_2 _ _)) (by lia))
theorem j9 (m:Nat) {ks:List K} {a:Addr} {Q:Bool→Shared→Prop} (x:IsTupleKey kd s.heap ks a) (z:Q true s):wpAny (model prog w) A (eqIsQuiet (m+1) (.ref a)) Q E s:=by
 have ty:=x.typeIs;obtain ⟨o,its,n,p1,_,p3,p4⟩:=x;unfold eqIsQuiet;refine wpAny_bind (wpAny_specialOf ty F.slot_tuple_eq.lookup ?_);show wpAny _ _ (isInstance (.ref a) (.type "tuple") >>= _) _ _ s;refine wpAny_bind (wpAny_isInstance ty isSubtype_tuple_tuple ?_);simp only [Bool.not_true,Bool.false_eq_true,if_false];refine wpAny_bind (wpAny_seqItems p1 p3 ?_);refine wpAny_bind ?_;show wpAny _ _ (forIn its _ _) _ _ s;rw [← Array.forIn_toList];refine wpAny_forIn_list _ (fun rest r s'=>r.1=none∧s'=s∧∀ v∈rest,carriedByValue v=true) _ ?_ ?_ _ _ ⟨rfl,rfl,p4.byValue⟩
 ·rintro v rest r s' ⟨hr,rfl,al⟩;rw [eqIsQuiet_byValue _ (al v List.mem_cons_self)];refine wpAny_bind (wpAny_pure ?_);simp only [Bool.not_true,Bool.false_eq_true,if_false];exact wpAny_pure ⟨rfl,rfl,fun u hu'=>al u (List.mem_cons_of_mem _ hu')⟩
 ·rintro ⟨r1,r2⟩ s' ⟨hr,rfl,_⟩;simp only at hr;subst hr;exact wpAny_pure z
theorem nA {k:K} {a:Addr} {Q:Bool→Shared→Prop} (x:IsBoxKey kd k0 s.heap k a) (z:Q true s):wpAny (model prog w) A (eqIsQuiet 8 (.ref a)) Q E s:=by
 have ty:=x.tuple;obtain ⟨o,u,b,n,p1,_,p3,p4,p5⟩:=x;unfold eqIsQuiet;refine wpAny_bind (wpAny_specialOf ty F.slot_tuple_eq.lookup ?_);show wpAny _ _ (isInstance (.ref a) (.type "tuple") >>= _) _ _ s;refine wpAny_bind (wpAny_isInstance ty isSubtype_tuple_tuple ?_);simp only [Bool.not_true,Bool.false_eq_true,if_false];refine wpAny_bind (wpAny_seqItems p1 p3 ?_);refine wpAny_bind ?_;show wpAny _ _ (forIn #[u,Value.ref b] _ _) _ _ s;rw [← Array.forIn_toList];show wpAny _ _ (forIn [u,Value.ref b] _ _) _ _ s;rw [List.forIn_cons,eqIsQuiet_byValue _ (kd.byValue _ _ p4)];refine wpAny_bind (wpAny_bind (wpAny_pure ?_));simp only [Bool.not_true,Bool.false_eq_true,if_false];refine wpAny_pure ?_;show wpAny _ _ (forIn [Value.ref b] _ _) _ _ s;rw [List.forIn_cons];refine wpAny_bind (wpAny_bind (j9 _ p5 ?_));simp only [Bool.not_true,Bool.false_eq_true,if_false];refine wpAny_pure ?_;show wpAny _ _ (forIn ([]:List Value) _ _) _ _ s;rw [List.forIn_nil];exact wpAny_pure (wpAny_pure z)
end
def qG {prog:Program} {w:World} {K:Type} [DecidableEq K] (kd:KeyKind prog w K) (k0:K):HeapKind prog w K where
 is:=IsBoxKey kd k0
 hash:=iT kd k0
 draws:=fun _=>4
 room:=fun A=>A.units+2 < cLine
 inj:=fun p q=>p.one q
 keeps:=fun x q qd sb=>x.stay q qd sb
 pyHash:=fun hu x z=>oY (Nat.lt_trans (Nat.lt_succ_self _) hu) x z
 eqBool:=fun hu p q z=>wI hu p q z
 quiet:=fun x z=>nA x z
section
variable {prog:Program} {w:World} {K:Type} [DecidableEq K] {knd:HeapKind prog w K} {A:Around} {E:Value→Shared→Prop} {s:Shared}
end
end PySem
namespace L2
open PySem PySem.Spec PyProof.Rows
theorem ic {α β:Type} {F:α→β→Prop}:∀ {l:List α} {m:List β},Paired F l m→∀ {i:Nat} {p:α} {q:β},l[i]?=some p→m[i]?=some q→F p q
 | _,_,.nil,i,p,q,h,_=>by simp at h
 | _,_,.cons r t,0,p,q,h,g=>by
  obtain rfl:_=p:=by simpa using h
  obtain rfl:_=q:=by simpa using g
  exact r
 | _,_,.cons r t,i+1,p,q,h,g=>ic t (by simpa using h) (by simpa using g)
theorem pf {H:Hp} {a p:Addr} {o:Obj} {u:HO} (mu:Mut (H p)) (e:H a=some (.frz o u)):a≠p:=by
 intro c;subst c;rw [e] at mu;exact mu
mutual
theorem cU {K:PySem.W.Frag} {H H':Hp} {p:Addr} (mu:Mut (H p)) (g:But p H H'):∀ {d:Dt} {v:V},IsP K H d v→IsP K H' d v
 | _,_,.non=>.non
 | _,_,.bl=>.bl
 | _,_,.int=>.int
 | _,_,.str=>.str
 | _,_,.tup h pl q=>.tup (g.tup (by obtain ⟨o,u,e,dn⟩:=pl;exact pf mu e) h) (by
   obtain ⟨o,u,e,dn⟩:=pl;exact ⟨o,u,g _ _ (pf mu e) e,dn⟩) (kb mu g q)
theorem kb {K:PySem.W.Frag} {H H':Hp} {p:Addr} (mu:Mut (H p)) (g:But p H H'):∀ {l:List Dt} {xs:List V},IsPs K H l xs→IsPs K H' l xs
 | _,_,.nil=>.nil
 | _,_,.cons h q=>.cons (cU mu g h) (kb mu g q)
end
def wJ (k:Key):Dt:=.tup [.str "list",.tup [kDt k]]
abbrev mj (P:Program) (w:World):HeapKind P w Key:=qG (ag P w) (Sum.inr ("list" : Str))
def iU (P:Program) (w:World) (p:Addr) (ob:Obj) (xs:List (Key×Addr×Value)) (h:Heap):Prop :=
 h.get? p=some ob∧ob.ExactDict∧∃ es ep,ob.data=.dict es ep∧es.toList=xs.map (entryOfKey (mj P w))∧(xs.map (·.1)).Nodup
def DicO (P:Program) (w:World) (K:PySem.W.Frag) (H:Hp) (a:Addr) (ob:Obj) (kvs:List (Key×V)):Prop:=(a == sysModules)=false∧kvs.length≤sizeLine∧∃ xs,H a=some (.ext (iU P w a ob xs)) ∧
 Paired (fun (p:Key×V) (q:Key×Addr×Value)=>p.1=q.1∧IsP K H (wJ p.1) (.ref q.2.1)∧RelV p.2 q.2.2) kvs xs
def DicE (P:Program) (w:World) (m:Bool) (K:PySem.W.Frag) (H:Hp) (a:Addr) (kvs:List (Key×V)):Prop:=match m with
 | false=>H a=some (.dK kvs)
 | true=>(∃ ob,DicO P w K H a ob kvs)∨(kvs=[]∧H a=some (.dK []))
section
variable {P:Program} {w:World} {K:PySem.W.Frag} {m:Bool} {H H':Hp} {a:Addr} {ob:Obj} {kvs:List (Key×V)}
theorem DicE.ne {r:Addr} {ys:List V} (h:DicE P w m K H a kvs) (hr:H r=some (.lst ys)):r≠a:=by
 intro c;subst c
 cases m with
 | false=>rw [show H r=some (.dK kvs) from h] at hr;cases hr
 | true =>
  rcases h with ⟨ob,_,_,_,e,_⟩ | ⟨_,e⟩
  ·rw [e] at hr;cases hr
  ·rw [e] at hr;cases hr
end
section
variable {X:Cx} {pins:List (Addr×Obj)} {σ:St} {H:Hp} {s:Shared}
theorem wK (I:Inv X pins σ H s) {k:Key} {a:Addr} (h:IsP X.K H (wJ k) (.ref a)):IsBoxKey (ag X.prog X.w) (Sum.inr ("list" : Str)) s.heap k a:=by
 obtain ⟨b,ys,e,ha,_,ra⟩:=IsP.unref h
 cases e
 obtain ⟨its,r,⟨o,h1,h2,n,h3⟩,_⟩:=I.tuple ha
 cases ra with
 | cons d1 ra =>
  cases ra with
  | cons d2 ra =>
   cases ra
   cases d1
   obtain ⟨c,zs,rfl,hc,pc,rc⟩:=IsP.unref d2
   cases r with
   | cons q1 r =>
    cases r with
    | cons q2 r =>
     cases r
     cases q2
     exact ⟨o,_,c,n,h1,h2,h3,h7 (k:=Sum.inr ("list" : Str)) q1,dO I (ks:=[k]) (show IsP X.K H (.tup ([k].map kDt)) (.ref c) from d2)⟩
theorem DicO.dict {a:Addr} {ob:Obj} {kvs:List (Key×V)} (I:Inv X pins σ H s) (h:DicO X.prog X.w X.K H a ob kvs):(a == sysModules)=false∧kvs.length≤sizeLine∧∃ xs,s.heap.DictOfH (mj X.prog X.w) a xs∧iU X.prog X.w a ob xs s.heap∧H a=some (.ext (iU X.prog X.w a ob xs)) ∧
  Paired (fun (p:Key×V) (q:Key×Addr×Value)=>p.1=q.1∧IsP X.K H (wJ p.1) (.ref q.2.1)∧RelV p.2 q.2.2) kvs xs:=by
 obtain ⟨e0,e1,xs,e,r⟩:=h;obtain ⟨oo,_⟩:=(show ObjOk X.prog X.w H s.heap a (.ext (iU X.prog X.w a ob xs)) from I.hok a _ e);obtain ⟨h1,h2,es,ep,h3,h4,h5⟩:=id oo;refine ⟨e0,e1,xs,⟨ob,es,ep,h1,h2,h3,h4,fun y hy=>?_,h5⟩,oo,e,r⟩;obtain ⟨i,hi⟩:=List.getElem?_of_mem hy;have hl:i < kvs.length:=by rw [Paired.length r];exact (List.getElem?_eq_some_iff.mp hi).1
 have q:=ic r (List.getElem?_eq_getElem hl) hi;rw [← q.1];exact wK I q.2.1
end
section
variable {X:Cx} {P:Program} {w:World} {K:PySem.W.Frag} {o e f:Expr} {apos cpos pos:Pos} {td ty tx:TE}
end
section
variable {X:Cx} {tg:Expr} {P:Program} {w:World} {K:PySem.W.Frag}
end
section
variable {prog:Program} {w:World} {A:Around} {E:Value→Shared→Prop} {s:Shared}
end
section
variable {X:Cx} {K:PySem.W.Frag}
theorem mm {f:Nat→Int}:∀ (n m:Nat) {acc:List Value},acc.length=n→(∀ (j:Nat) (v:Value),acc[j]?=some v→∃ t,v=.int (f (m+j)) t)→Vals ((List.range' m n).map fun k=>V.int (f k)) acc
 | 0,m,[],_,_=>.nil
 | n+1,m,v :: acc,hl,h=>.cons (h 0 v rfl) (mm n (m+1) (by simpa using hl) fun j u hu=>by
   have:=h (j+1) u (by simpa using hu);rw [show m+1+j=m+(j+1) by lia];exact this)
end
end L2
namespace PySem
open PyProof.Rows PySem.Spec
section
variable {prog:Program} {w:World} {h₀:Heap} {k:Str} {tk:Tok} {a:Addr} {α:Type} {R:α→Value→Prop} {D:List (Str×α)}
theorem kc:MeetsIn prog w (Builtin.«dict.get» ⟨[.ref a,.str k tk],[]⟩) (fun _ Rr s=>KTD.TabOf R h₀ a D∧(∀ b o,h₀.get? b=some o→s.heap.get? b=some o)∧(∀ d v,KTD.datumAt k D=some d→R d v→Rr (.ok (.ret v)) { s with toks:=s.toks+1 }) ∧
  (KTD.datumAt k D=none→Rr (.ok (.ret .none)) { s with toks:=s.toks+1 })) :=
 .of_wp fun A Rr s ⟨T,kp,h1,h2⟩=>by
  show wpAny _ _ (dictGet a (.str k tk) >>= _) _ _ s;refine wpAny_bind (j8 T kp (fun d v ha hv=>wpAny_pure ⟨v,rfl,h1 d v ha hv⟩) fun hn=>wpAny_bind (m:=Builtin.Dict.missed a (.str k tk)) (wpAny_missed_other T.1 (wpAny_pure ⟨.none,rfl,h2 hn⟩)))
end
end PySem
namespace L2
open PySem PySem.Spec PyProof.Rows
section
variable {X:Cx}
def wL (D:List (Str×Addr)) (t:TA):TE:=fun σ H Q=>t σ H fun vs H1=>∃ k,vs=[.str k]∧Q (match ib k D with | some b=>.ref b | none=>.non) H1
theorem pe_kget1 {x:Str} {ad:Addr} {D:List (Str×Addr)} {e:Expr} {t:TA} {p apos cpos:Pos} (hD:iR X.K ad D) (hg:Gl X x) (hm:X.mg x=some (.ref ad)) (ha:PA X [e] t) (hdb:(x == ("__debug__" : Str))=false:=by decide)
  (hbase:attributeBase (.Name x p) "get" X.env (eval (.Name x p) X.env)=eval (.Name x p) X.env:=by rfl)
  (hfew:((backTo cpos (starEach [e] X.env)).all (fun x=>!x.1) && (backToKw cpos (keywordEach [] X.env)).all (fun x=>x.1.isSome)
   && decide (([e]:List Expr).length+([]:List Keyword).length+(if ([]:List Keyword).isEmpty then 0 else 1) < 30))=true:=by rfl)
  (hline:(apos.endLine == cpos.line)=true:=by rfl) (hs:starEach [e] X.env=(false,eval e X.env) :: starEach [] X.env:=by rfl) :
  PE X (.Call (.Attribute (.Name x p) "get" apos) [e] [] cpos) (wL D t):=by
 intro pins s σ H Q I h;have T:∀ {s':Shared} {σ':St} {H':Hp} {pins':List (Addr×Obj)},Inv X pins' σ' H' s'→KTD.TabOf (fun b v=>v=Value.ref b) X.base ad D:=fun J=>hD _ J.ok.mod.kin;have ty0:∀ {s':Shared} {σ':St} {H':Hp} {pins':List (Addr×Obj)},Inv X pins' σ' H' s'→s'.TypeIs (.ref ad) "dict" ∧(∀ b,Value.ref ad=.ref b→∃ ob,s'.heap.get? b=some ob∧ob.dict=none):=fun {s' σ' H' pins'} J=>by
  obtain ⟨_,o,_,_,ho,hc,_⟩:=T J;refine ⟨⟨o,J.bk _ _ ho,hc.1⟩,fun b q=>?_⟩;injection q with q
  subst q;exact ⟨o,J.bk _ _ ho,hc.2.1⟩
 refine wpAny_Call_method_late hbase hfew hline rfl (dA I hg hm ?_ hdb);refine ⟨"dict","dict.get",PySem.F.plainAttrs_dict,PySem.F.slot_dict_get,PySem.F.type_dict_get,(ty0 I).1,(ty0 I).2,?_⟩;have hA:=ha cpos pins s σ H _ I h;rw [hs] at hA ⊢;refine Calls.callWith_builtin (by rfl) (Calls.evalArgs_plain ?_);refine thn hA fun us s2 ⟨vs,H2,I2,r2,k,e2,q2⟩=>?_;subst e2;obtain ⟨u,rfl,ru⟩:=bX r2;obtain ⟨tk,rfl⟩:=ru;refine call_meetsIn PySem.F.slot_dict_get (ty0 I2).1 PySem.F.entry_dict_get (PySem.F.args_dict_get_2 _ _) (kc (h₀:=X.base) (D:=D) (R:=fun b v=>v=Value.ref b)) ⟨T I2,fun b o z=>I2.bk b o z,fun b v hb hv=>?_,fun hn=>?_⟩
 ·subst hv;rw [← fH,hb] at q2;exact ⟨.ref b,H2,I2.tok _,rfl,q2⟩
 ·rw [← fH,hn] at q2;exact ⟨.non,H2,I2.tok _,rfl,q2⟩
end
section
variable {X:Cx} {K:PySem.W.Frag}
end
end L2
namespace PySem
namespace StrLaws
open Builtin Builtin.Str
end StrLaws
end PySem
namespace L2
open PySem PySem.Spec PyProof.Rows
section
variable {X:Cx}
end
section
variable {X:Cx}
def D4 (K:PySem.W.Frag):R2:=fun x y H Q=>∃ (p:Addr) (as:List Addr) (ds:List Dt) (d:Dt),y=.ref p∧SqL K H p (as.map V.ref)∧as.Nodup∧IsDs K H ds (as.map V.ref)∧IsD K H d x∧lp ds≤60∧Q (.bl (ds.any fun e=>eqD e d)) H
theorem mn:∀ {as:List Addr} {us:List Value},Vals (as.map V.ref) us→us=as.map Value.ref
 | [],_,h=>by cases h;rfl
 | a :: as,_,h=>by
  cases h with
  | cons r t =>
   cases r
   rw [mn t]
   rfl
theorem wM {K:PySem.W.Frag} (hK:X.K=K) (hu:X.A.units+64 < cLine):OpR X (compareOp .In) (D4 K):=by
 subst hK;intro pins s σ H x y v u Q I rx ry h;obtain ⟨p,as,ds,d,rfl,hq,nd,hds,hd,hdep,q⟩:=h
 cases ry
 obtain ⟨its,r,pl,hz⟩:=I.list hq;have eu:=mn r;subst eu;have ld:ds.length=as.length:=by rw [hds.length,List.length_map]
 let f:Value→Bool:=fun w=>match w with
  | .ref a=>((as.zip ds).find? fun p=>p.1 == a).any fun p=>eqD p.2 d
  | _=>false
 have key:∀ (as:List Addr) (ds:List Dt),as.Nodup→ds.length=as.length→∀ (i:Nat) (a:Addr) (e:Dt),as[i]?=some a→ds[i]?=some e→(as.zip ds).find? (fun p=>p.1 == a)=some (a,e):=by
  intro as
  induction as with
  | nil=>intro ds _ _ i a e h;simp at h
  | cons b as ih =>
   intro ds nd l i a e h1 h2
   cases ds with
   | nil=>simp at l
   | cons g ds =>
    rw [List.zip_cons_cons,List.find?_cons]
    cases i with
    | zero=>cases h1;cases h2;simp
    | succ i =>
     have hm:a∈as:=List.mem_of_getElem? h1;have nb:(b == a)=false:=by
      rw [beq_eq_false_iff_ne];rintro rfl;exact (List.nodup_cons.mp nd).1 hm
     dsimp only;rw [nb];exact ih ds (List.nodup_cons.mp nd).2 (Nat.succ.inj l) i a e h1 h2
 have fa:∀ (i:Nat) (a:Addr) (e:Dt),as[i]?=some a→ds[i]?=some e→f (.ref a)=eqD e d:=fun i a e h1 h2=>by
  show ((as.zip ds).find? fun p=>p.1 == a).any _=_;rw [key as ds nd ld i a e h1 h2]
  rfl
 refine SeqAt.in_listAt f pl.isList (fun w hw=>?_) ⟨.bl _,H,I,rfl,?_⟩
 ·have hw':w∈as.map Value.ref:=by simpa using hw
  obtain ⟨i,hi⟩:=List.getElem?_of_mem hw';rw [List.getElem?_map] at hi;obtain ⟨a,ha,rfl⟩:=Option.map_eq_some_iff.mp hi;have il:=(List.getElem?_eq_some_iff.mp ha).1;obtain ⟨e,he⟩:∃ e,ds[i]?=some e:=⟨_,List.getElem?_eq_getElem (by lia)⟩;rw [fa i a e ha he];obtain ⟨x1,ex,dx⟩:=hds.get he;rw [List.getElem?_map,ha] at ex
  cases ex
  have j1:i < ds.length:=(List.getElem?_eq_some_iff.mp he).1;have dep1:e.dep≤60:=by
   have:=fE (l:=ds) j1;have e2:ds.getD i .non=e:=by rw [List.getD_eq_getElem?_getD,he];rfl
   rw [e2] at this;lia
  exact (ww I 60 e d (.ref a) x (.ref a) v X.A.in1 dep1 dx hd rfl rx (by rw [hG];lia)).1
 ·have e1:(as.map Value.ref).toArray.any f=ds.any fun e=>eqD e d:=by
   rw [show (as.map Value.ref).toArray.any f=(as.map Value.ref).any f by simp,List.any_map];have:∀ (as':List Addr) (ds':List Dt),ds'.length=as'.length→(∀ (i:Nat) (a:Addr) (e:Dt),as'[i]?=some a→ds'[i]?=some e→f (.ref a)=eqD e d)→as'.any (f ∘ Value.ref)=ds'.any fun e=>eqD e d:=by
    intro as'
    induction as' with
    | nil=>intro ds' l _;cases ds' with
     | nil=>rfl
     | cons g t=>simp at l
    | cons b as' ih =>
     intro ds' l h
     cases ds' with
     | nil=>simp at l
     | cons g ds' =>
      rw [List.any_cons,List.any_cons,ih ds' (Nat.succ.inj l) fun i a e h1 h2=>h (i+1) a e h1 h2];rw [show (f ∘ Value.ref) b=eqD g d from h 0 b g rfl rfl]
   exact this as ds ld fa
  rw [e1];exact q
end
section
variable {X:Cx}
end
section
variable {X:Cx}
end
section
variable {X:Cx}
end
section
variable {X:Cx} {K:PySem.W.Frag}
end
end L2
namespace PySem
open Sem (wp)
section
variable {prog:Program} {w:World} {A:Around} {E:Value→Shared→Prop} {s:Shared}
end
end PySem
namespace L2
open PySem PySem.Spec PyProof.Rows
section
variable {X:Cx} {pins:List (Addr×Obj)} {σ:St} {H:Hp} {s:Shared} {ea C:Addr} {K:PySem.W.Frag}
end
section
variable {X:Cx}
end
section
variable {X:Cx}
end
section
variable {X:Cx} {E:XK}
variable {pins:List (Addr×Obj)} {σ:St} {H:Hp} {s:Shared}
end
section
variable {X:Cx} {pins:List (Addr×Obj)} {σ:St} {H:Hp} {s:Shared}
end
abbrev smT (pl:Array Nat) (fg mv:Nat) (l p:Bool):SetTable:={ mask:=7,place:=pl,dummies:=#[],finger:=fg,led:=l,moves:=mv,plain:=p }
abbrev pbA (j pt:Nat):SetTable.Probe:=⟨j,0,j,pt,none⟩
theorem Dq {j fg mv:Nat} {l p:Bool}:(smT #[] fg mv l p).slot j=.empty:=by
 simp [SetTable.slot,SetTable.below,SetTable.below.go,SetTable.has]
theorem ke {q j fg mv:Nat} {l p:Bool}:(smT #[q] fg mv l p).slot j=if q=j then .live 0 else .empty:=by
 by_cases c:q < j
 ·have n:¬ q=j:=by lia
  simp [SetTable.slot,SetTable.below,SetTable.below.go,SetTable.has,c,n]
 ·by_cases e:q=j
  ·subst e;simp [SetTable.slot,SetTable.below,SetTable.below.go,SetTable.has]
  ·simp [SetTable.slot,SetTable.below,SetTable.below.go,SetTable.has,c,e]
theorem Dr {pl:Array Nat} {fg mv:Nat} {l p:Bool} {j pt:Nat}:(smT pl fg mv l p).advance (pbA j pt)=pbA ((j*5+1+pt / 32) % 8) (pt / 32):=by
 have e:¬ (j*5+1+pt / 32) % 8+9≤7:=by lia
 simp [SetTable.advance,SetTable.leap,SetTable.runEnd,e]
theorem ph {pl:Array Nat} {fg mv:Nat} {l p:Bool} {h:Int}:(smT pl fg mv l p).probeStart h=pbA (SetTable.bits h % 8) (SetTable.bits h):=by
 have e:¬ SetTable.bits h % 8+9≤7:=by lia
 simp [SetTable.probeStart,SetTable.runEnd,e]
theorem pi (h:Int):SetTable.bits h < 32 ^ 13:=by
 unfold SetTable.bits;have:=Int.emod_lt_of_pos h (show (0:Int) < 2 ^ 64 by decide);have:=Int.emod_nonneg h (show (2 ^ 64:Int)≠0 by decide);lia
theorem kf {q fg mv:Nat} {l p:Bool} {hs:Nat→Int} {h:Int} (ne:(hs 0 == h)=false):∀ (n f j pt:Nat),pt < 32 ^ n→n+2≤f→∃ j',SetTable.probe.go (smT #[q] fg mv l p) hs h f (pbA j pt)=some (.empty j' none)
 | n,0,_,_,_,z=>by lia
 | n,f+1,j,pt,hp,hf=>by
  unfold SetTable.probe.go;rw [ke]
  by_cases e:q=j
  ·subst e;rw [if_pos rfl];dsimp only;rw [ne,Dr]
   cases n with
   | zero =>
    have e0:pt=0:=by lia
    subst e0;obtain ⟨f,rfl⟩:∃ g,f=g+1:=⟨f - 1,by lia⟩;have e2:¬ q=(q*5+1+0 / 32) % 8:=by lia
    exact ⟨_,by unfold SetTable.probe.go;rw [ke,if_neg e2];rfl⟩
   | succ n =>
    exact kf ne n f _ _ (by rw [Nat.pow_succ] at hp;lia) (by lia)
  ·rw [if_neg e];exact ⟨j,rfl⟩
section
variable {P:Program} {w:World} {K:Type} [DecidableEq K] {kd:KeyKind P w K} {A:Around} {E:Value→Shared→Prop} {s:Shared}
theorem qH (n:Nat) {v:Value} (h:carriedByValue v=true):∃ b,hashByValue n v=pure b:=by
 cases v with
 | ref a=>simp [carriedByValue] at h
 | _=>first | exact ⟨_,rfl⟩ | (cases n <;> exact ⟨_,rfl⟩) | exact ⟨_,by unfold hashByValue;rfl⟩
theorem nB {ks:List K} {a:Addr} {Q:Bool→Shared→Prop} (hk:IsTupleKey kd s.heap ks a) (h:∀ b,Q b s):wpAny (model P w) A (hashByValue 8 (.ref a)) Q E s:=by
 have hT:=hk.typeIs;obtain ⟨o,items,n,ho,_,hd,hi⟩:=hk;unfold hashByValue;refine wpAny_bind (wpAny_specialOf hT F.slot_tuple_hash.lookup ?_);dsimp only;refine wpAny_bind (wpAny_seqItems ho hd ?_);refine wpAny_bind ?_;show wpAny _ _ (forIn items _ _) _ _ s;rw [← Array.forIn_toList];refine wpAny_forIn_list _ (fun rest r s'=>r.1=none∧s'=s∧∀ v∈rest,carriedByValue v=true) _ ?_ ?_ _ _ ⟨rfl,rfl,hi.byValue⟩
 ·rintro v rest r s' ⟨hr,rfl,hall⟩;obtain ⟨b,e⟩:=qH 7 (hall v List.mem_cons_self);rw [e];refine wpAny_bind (wpAny_pure ?_)
  cases b
  ·simp only [Bool.not_false,if_true];refine wpAny_pure ?_;exact wpAny_pure (h false)
  ·simp only [Bool.not_true,Bool.false_eq_true,if_false];exact wpAny_pure ⟨rfl,rfl,fun u hu'=>hall u (List.mem_cons_of_mem _ hu')⟩
 ·rintro ⟨r1,r2⟩ s' ⟨hr,rfl,_⟩;simp only at hr;subst hr;exact wpAny_pure (h true)
theorem qI (n:Nat) {v:Value} (h:carriedByValue v=true):ofAClassStatement n v=pure false:=by
 cases v with
 | ref a=>simp [carriedByValue] at h
 | _=>first | rfl | (unfold ofAClassStatement;rfl)
theorem ie {ks:List K} {a:Addr} {Q:Bool→Shared→Prop} (hk:IsTupleKey kd s.heap ks a) (h:Q false s):wpAny (model P w) A (ofAClassStatement 8 (.ref a)) Q E s:=by
 have hT:=hk.typeIs;obtain ⟨o,items,n,ho,_,hd,hi⟩:=hk;unfold ofAClassStatement;refine wpAny_bind (wpAny_typeOf hT ?_);dsimp only;rw [if_pos (by decide)];refine wpAny_bind (wpAny_pure ?_);simp only [Bool.not_true,Bool.false_eq_true,if_false];refine wpAny_bind (wpAny_seqItems ho hd ?_);dsimp only;refine wpAny_bind ?_;show wpAny _ _ (forIn items _ _) _ _ s;rw [← Array.forIn_toList];refine wpAny_forIn_list _ (fun rest r s'=>r.1=none∧s'=s∧∀ v∈rest,carriedByValue v=true) _ ?_ ?_ _ _ ⟨rfl,rfl,hi.byValue⟩
 ·rintro v rest r s' ⟨hr,rfl,hall⟩;rw [qI 7 (hall v List.mem_cons_self)];refine wpAny_bind (wpAny_pure ?_);simp only [Bool.false_eq_true,if_false];exact wpAny_pure ⟨rfl,rfl,fun u hu'=>hall u (List.mem_cons_of_mem _ hu')⟩
 ·rintro ⟨r1,r2⟩ s' ⟨hr,rfl,_⟩;simp only at hr;subst hr;exact wpAny_pure h
theorem iV {kx ky:List K} {x y:Addr} {Q:Bool→Shared→Prop} (hx:IsTupleKey kd s.heap kx x) (hy:IsTupleKey kd s.heap ky y) (h:Q false s):wpAny (model P w) A (searchCouldBeSeen (.ref x) [.ref y]) Q E s:=by
 unfold searchCouldBeSeen;simp only [List.forIn_cons,List.forIn_nil,carriedByValue,Bool.and_false,Bool.or_false]
 by_cases e:(x == y)=true
 ·simp only [e,if_true];exact wpAny_bind (wpAny_bind (wpAny_pure (wpAny_pure (wpAny_pure h))))
 ·simp only [e,if_false];refine wpAny_bind (wpAny_bind (wpAny_bind (wpAny_eqIsQuiet_tuple hx ?_)));simp only [Bool.not_true,Bool.false_eq_true,if_false];refine wpAny_bind (wpAny_eqIsQuiet_tuple hy ?_);simp only [Bool.not_true,Bool.false_eq_true,if_false];refine wpAny_bind (ie hx ?_);simp only [Bool.false_eq_true,if_false];refine wpAny_bind (ie hy ?_);simp only [Bool.false_eq_true,if_false];exact wpAny_pure (wpAny_pure (wpAny_pure h))
theorem pj {fg mv:Nat} {l p:Bool} {hs:Nat→Int} {h:Int} {f:Nat} {j pt:Nat}:SetTable.probe.go (smT #[] fg mv l p) hs h (f+1) (pbA j pt)=some (.empty j none):=by
 unfold SetTable.probe.go;rw [Dq]
theorem pp {q fg mv:Nat} {l p:Bool} {h0 h:Int} (e0:(h0 == h)=false) {n j pt:Nat} (hp:pt < 32 ^ n) (h13:n≤13) {hs:Nat→Int} {M:Option SetTable.Met} (hg:(smT #[q] fg mv l p).probe hs h (pbA j pt)=M) (e1:hs 0=h0):∃ j',M=some (.empty j' none):=by
 obtain ⟨j',e⟩:=kf (q:=q) (fg:=fg) (mv:=mv) (l:=l) (p:=p) (hs:=hs) (h:=h) (by rw [e1];exact e0) n (10*SetTable.turns 7) j pt hp (by show n+2≤220;lia);exact ⟨j',hg.symm.trans e⟩
theorem pq {q fg mv:Nat} {l p:Bool} {h0 h:Int} (e0:(h0 == h)=true) {j pt:Nat} {hs:Nat→Int} (e1:hs 0=h0):(smT #[q] fg mv l p).probe hs h (pbA j pt)=if q=j then some (.candidate j 0 (pbA ((j*5+1+pt / 32) % 8) (pt / 32))) else some (.empty j none):=by
 show SetTable.probe.go (smT #[q] fg mv l p) _ h (219+1) (pbA j pt)=_;unfold SetTable.probe.go;rw [ke]
 by_cases e:q=j
 ·subst e;rw [if_pos rfl,if_pos rfl,Dr];dsimp only;rw [e1,if_pos e0]
 ·rw [if_neg e,if_neg e]
theorem nD {q fg mv:Nat} {l p:Bool} {h:Int} {j pt:Nat} {hs:Nat→Int} (ne:¬ q=j):(smT #[q] fg mv l p).probe hs h (pbA j pt)=some (.empty j none):=by
 show SetTable.probe.go (smT #[q] fg mv l p) _ h (219+1) (pbA j pt)=_;unfold SetTable.probe.go;rw [ke,if_neg ne]
theorem lw {a:Addr} {x y:Value} {o:Obj} {q ep fg mv f j pt:Nat} {l p:Bool} {h0 h:Int} {Q:SetFound→Shared→Prop} (ho:s.heap.get? a=some o) (hd:o.data=.set #[(h0,y)] ep (smT #[q] fg mv l p)) (ne:¬ q=j) (hQ:Q (.free j false) s):wpAny (model P w) A (setSearchFrom a x h true (f+1) (some (pbA j pt))) Q E s:=by
 unfold setSearchFrom;refine wpAny_bind (wpAny_setState_of ho hd (by rfl) ?_);dsimp only;rw [show SetTable.gaveWay (smT #[q] fg mv l p)=false by simp [SetTable.gaveWay]];simp only [Bool.false_eq_true,if_false];rw [Option.getD_some,nD ne];exact wpAny_pure hQ
theorem mo {a x y:Addr} {o:Obj} {q ep fg mv:Nat} {l p:Bool} {h0 h:Int} {kx ky:List K} {Q:SetFound→Shared→Prop} (ho:s.heap.get? a=some o) (hd:o.data=.set #[(h0,.ref y)] ep (smT #[q] fg mv l p)) (hx:IsTupleKey kd s.heap kx x) (hy:IsTupleKey kd s.heap ky y) (ne:kx≠ky) (hu:A.units < cLine)
  (hQ:∀ j,Q (.free j false) s):∀ (n f j pt:Nat) (st:Option SetTable.Probe),st.getD ((smT #[q] fg mv l p).probeStart h)=pbA j pt→pt < 32 ^ n→n≤13→n+2≤f→wpAny (model P w) A (setSearchFrom a (.ref x) h true f st) Q E s
 | n,0,_,_,_,_,_,_,z=>by lia
 | n,f+1,j,pt,st,es,hp,h13,hf=>by
  unfold setSearchFrom;refine wpAny_bind (wpAny_setState_of ho hd (by rfl) ?_);dsimp only;rw [show SetTable.gaveWay (smT #[q] fg mv l p)=false by simp [SetTable.gaveWay],es];simp only [Bool.false_eq_true,if_false]
  by_cases e0:(h0 == h)=true
  rotate_left
  ·generalize hg:SetTable.probe _ _ _ _=M
   obtain ⟨j',rfl⟩:=pp (h0:=h0) (Bool.eq_false_iff.mpr e0) hp h13 hg rfl;exact wpAny_pure (hQ j')
  rw [pq e0 rfl]
  by_cases e:q=j
  rotate_left
  ·rw [if_neg e];exact wpAny_pure (hQ j)
  subst e;rw [if_pos rfl];dsimp only;have ef:(List.map (fun x=>x.2) ((#[(h0,Value.ref y)]:Array (Int×Value)).filter fun x=>x.1 == h).toList)=[Value.ref y]:=by
   simp [e0]
  rw [ef];have rest:∀ Q':Bool→Shared→Prop,Q' false s→wpAny (model P w) A (holding [Value.ref y] (eqBool (.ref y) (.ref x))) Q' E s:=by
   intro Q' hq;refine wpAny_holding (wpAny_eqBool_tuple hu hy hx ?_);rw [decide_eq_false fun z=>ne z.symm];exact hq
  have f2:∀ (R:Sem SetFound),wpAny (model P w) A R Q E s→wpAny (model P w) A (if (!l)=true then do
    let d ← searchCouldBeSeen (Value.ref x) [Value.ref y]
    if d=true then do
     unsupported "set:the-search-would-show-the-table"
     R
    else R
    else R) Q E s:=by
   intro R hR
   split
   ·refine wpAny_bind (iV hx hy ?_);simp only [Bool.false_eq_true,if_false];exact hR
   ·exact hR
  refine f2 _ ?_;simp only [List.getElem?_toArray,List.getElem?_cons_zero];refine wpAny_bind (rest _ ?_);refine wpAny_bind (wpAny_setState_of ho hd (by rfl) ?_);simp only [Bool.and_false,Bool.false_eq_true,if_false];rw [show (smT #[q] fg mv l p).sameMemory mv 7=some true by simp [SetTable.sameMemory]];dsimp only;rw [if_pos rfl,ke,if_pos rfl];simp only [List.getElem?_toArray,List.getElem?_cons_zero];refine wpAny_bind (wpAny_isSame_ref_self ?_);refine wpAny_bind (wpAny_pure ?_);simp only [if_true]
  cases n with
  | zero =>
   have e0:pt=0:=by lia
   subst e0;obtain ⟨f,rfl⟩:∃ g,f=g+1:=⟨f - 1,by lia⟩;exact lw ho hd (by lia) (hQ _)
  | succ n=>exact mo ho hd hx hy ne hu hQ n f _ _ (some _) rfl (by rw [Nat.pow_succ] at hp;lia) (by lia) (by lia)
theorem qJ {a:Addr} {x:Value} {o:Obj} {ep fg mv f:Nat} {l p:Bool} {h:Int} {Q:SetFound→Shared→Prop} (ho:s.heap.get? a=some o) (hd:o.data=.set #[] ep (smT #[] fg mv l p)) (hQ:∀ j,Q (.free j false) s):wpAny (model P w) A (setSearchFrom a x h true (f+1) none) Q E s:=by
 unfold setSearchFrom;refine wpAny_bind (wpAny_setState_of ho hd (by rfl) ?_);dsimp only;rw [show SetTable.gaveWay (smT #[] fg mv l p)=false by simp [SetTable.gaveWay]];simp only [Bool.false_eq_true,if_false];rw [Option.getD_none,ph]
 generalize hg:SetTable.probe _ _ _ _=M
 have e:M=some (.empty (SetTable.bits h % 8) none):=by
  rw [← hg];exact pj (f:=219)
 rw [e];exact wpAny_pure (hQ _)
def nE (h:Heap) (S:Addr) (n:Nat):Prop:=∃ o es ep t,h.get? S=some o∧o.ExactSet∧o.data=.set es ep t∧t.fits es.size=true∧es.size=n
theorem kg {S x:Addr} {o:Obj} {es es':Array (Int×Value)} {t0:SetTable} {pl:Array Nat} {fg mv ep:Nat} {l p:Bool} {kx:List K} {Q:Bool→Shared→Prop} {G:Sem Bool} (ho:s.heap.get? S=some o) (hd:o.data=.set es ep t0) (hx:IsTupleKey kd s.heap kx x) (hz:es'.size≤2) (hp:pl.size≤2)
  (hQ:∀ h' p',Heap.SameBut S s.heap h'→h'.get? S=some { o with data:=.set es' (ep+1) (smT pl fg mv l p') }→Q true { s with heap:=h' }) :
  wpAny (model P w) A (if p=true then do
    let byValue ← hashByValue 8 (Value.ref x)
    storeSet S es' (if byValue=true then smT pl fg mv l p else smT pl fg mv l false)
    if (!false && (if byValue=true then smT pl fg mv l p else smT pl fg mv l false).tooFull)=true then G else pure true
   else do
    let byValue ← pure true
    storeSet S es' (if byValue=true then smT pl fg mv l p else smT pl fg mv l false)
    if (!false && (if byValue=true then smT pl fg mv l p else smT pl fg mv l false).tooFull)=true then G else pure true) Q E s:=by
 have sz:es'.size≤sizeLine:=Nat.le_trans hz (by decide);have tf:∀ b:Bool,wpAny (model P w) A (do
   storeSet S es' (if b=true then smT pl fg mv l p else smT pl fg mv l false)
   if (!false && (if b=true then smT pl fg mv l p else smT pl fg mv l false).tooFull)=true then G else pure true) Q E s:=by
  intro b;obtain ⟨p',e⟩:∃ p',(if b=true then smT pl fg mv l p else smT pl fg mv l false)=smT pl fg mv l p':=by
   cases b
   ·exact ⟨false,rfl⟩
   ·exact ⟨p,rfl⟩
  rw [e];refine wpAny_bind (wpAny_storeSet_of ho hd ?_ sz);have e2:(smT pl fg mv l p').tooFull=false:=by
   simp only [SetTable.tooFull,SetTable.fill];refine decide_eq_false ?_;show ¬ (pl.size+0)*5≥7*3;lia
  rw [e2];refine wpAny_pure (hQ _ p' (Heap.SameBut.update _ _ _) ?_);have:=Heap.get?_update_self (Obj.putSet es' (smT pl fg mv l p')) ho (by rw [putSet_of es' _ hd];rfl);rw [putSet_of es' _ hd] at this;exact this
 split
 ·exact wpAny_bind (nB hx fun b=>tf b)
 ·exact wpAny_bind (wpAny_pure (tf true))
theorem D5 {S x:Addr} {o:Obj} {fg mv ep:Nat} {l p:Bool} {h:Int} {kx:List K} {Q:Bool→Shared→Prop} (ho:s.heap.get? S=some o) (hd:o.data=.set #[] ep (smT #[] fg mv l p)) (hx:IsTupleKey kd s.heap kx x)
  (hQ:∀ h' q p',Heap.SameBut S s.heap h'→h'.get? S=some { o with data:=.set #[(h,.ref x)] (ep+1) (smT #[q] fg mv l p') }→Q true { s with heap:=h' }):wpAny (model P w) A (setAddHashed S (.ref x) h) Q E s:=by
 unfold setAddHashed;refine wpAny_holding ?_;show wpAny _ _ (setAddHashedIn S (.ref x) h (99999+1)) Q E s;unfold setAddHashedIn;refine wpAny_bind (wpAny_setState_of ho hd (by rfl) ?_);dsimp only;rw [show byScan (.ref x) #[]=false by simp [byScan,Value.scannable]];simp only [Bool.false_eq_true,if_false];refine wpAny_bind (qJ (f:=99999) ho hd fun j=>?_);dsimp only;refine wpAny_bind (wpAny_setState_of ho hd (by rfl) ?_);dsimp only;rw [show SetTable.put (smT #[] fg mv l p) j=(smT #[j] fg mv l p,0) by simp [SetTable.put,SetTable.below,SetTable.below.go,SetTable.insertAt,SetTable.has]];dsimp only;rw [show SetTable.insertAt (#[]:Array (Int×Value)) 0 (h,Value.ref x)=#[(h,Value.ref x)] by simp [SetTable.insertAt]];exact kg ho hd hx (by show 1≤2;decide) (by show 1≤2;decide) fun h' p' sb e=>hQ h' j p' sb e
theorem D6 {S x y:Addr} {o:Obj} {q fg mv ep:Nat} {l p:Bool} {h0 h:Int} {kx ky:List K} {Q:Bool→Shared→Prop} (ho:s.heap.get? S=some o) (he:o.ExactSet) (hd:o.data=.set #[(h0,.ref y)] ep (smT #[q] fg mv l p)) (hx:IsTupleKey kd s.heap kx x) (hy:IsTupleKey kd s.heap ky y) (ne:kx≠ky) (hu:A.units < cLine)
  (hQ:∀ h',Heap.SameBut S s.heap h'→nE h' S 2→Q true { s with heap:=h' }):wpAny (model P w) A (setAddHashed S (.ref x) h) Q E s:=by
 unfold setAddHashed;refine wpAny_holding ?_;show wpAny _ _ (setAddHashedIn S (.ref x) h (99999+1)) Q E s;unfold setAddHashedIn;refine wpAny_bind (wpAny_setState_of ho hd (by rfl) ?_);dsimp only;rw [show byScan (.ref x) #[(h0,.ref y)]=false by simp [byScan,Value.scannable]];simp only [Bool.false_eq_true,if_false];unfold setSearch;refine wpAny_bind (mo ho hd hx hy ne hu (fun j=>?_) 13 100000 _ _ none ph (pi h) (by lia) (by lia));dsimp only;refine wpAny_bind (wpAny_setState_of ho hd (by rfl) ?_);dsimp only;obtain ⟨r,pl,e1,hr,hpl⟩:∃ r pl,SetTable.put (smT #[q] fg mv l p) j=(smT pl fg mv l p,r)∧r≤1∧pl.size=2:=by
  by_cases c:q < j
  ·exact ⟨1,#[q,j],by simp [SetTable.put,SetTable.below,SetTable.below.go,SetTable.insertAt,SetTable.has,c],by lia,rfl⟩
  ·exact ⟨0,#[j,q],by simp [SetTable.put,SetTable.below,SetTable.below.go,SetTable.insertAt,SetTable.has,c],by lia,rfl⟩
 rw [e1];dsimp only;have e2:(SetTable.insertAt (#[(h0,.ref y)]:Array (Int×Value)) r (h,Value.ref x)).size=2:=by
  obtain rfl | rfl:r=0∨r=1:=by lia
  ·simp [SetTable.insertAt]
  ·simp [SetTable.insertAt]
 refine kg ho hd hx (by rw [e2];decide) (by rw [hpl];decide) fun h' p' sb e=>hQ h' sb ⟨_,_,_,_,e,he,rfl,?_,e2⟩;rw [e2];simp [SetTable.fits,SetTable.fill,hpl]
end
section
variable {P:Program} {w:World} {A:Around} {R:Result→Shared→Prop} {it:Addr} {fp wr:List Addr} {G:Array GenState→Array GenState→Prop} {n:Nat} {Pt:Nat→Value→Prop} {St:Nat→Shared→Prop}
theorem nF (W:WalksS P w A.in1 it fp wr G n Pt St) (S:Addr) (hS0:S∉fp) (SI:Nat→Heap→Prop) (kept:∀ i h h',SI i h→(∀ b o,b∉wr→h.get? b=some o→h'.get? b=some o)→SI i h')
  (add:∀ i v (s:Shared) (Q:Bool→Shared→Prop) (E:Value→Shared→Prop),i < n→Pt i v→SI i s.heap→(∀ r h' tk,s.toks≤tk→Heap.SameBut S s.heap h'→SI (i+1) h'→Q r { s with heap:=h',toks:=tk })→wpAny (model P w) A.in1 (setAdd S v) Q E s) :
  ∀ (d i:Nat) (s:Shared),n - i=d→i≤n→St i s→SI i s.heap →
   (∀ s',Moved (S :: wr) G s s'→SI n s'.heap→R (.ok (.ret .none)) s')→codeAny (model P w) A (.builtin "set.update.loop" ⟨[.ref S,.ref it],[]⟩) R s:=by
 have nw:S∉wr:=fun z=>hS0 (W.sub _ z);have up:∀ b∈wr,b∈S :: wr:=fun b z=>List.mem_cons_of_mem _ z;intro d
 induction d with
 | zero =>
  intro i s e1 e2 st hS hR;obtain rfl:i=n:=by lia
  refine codeAny_builtin PyProof.Rows.F.entry_set_update_loop (by
   rw [Around.under_plainId PyProof.Rows.F.plain_set_update_loop _];show wpAny _ A.in1 (pyNext (.ref it) >>= _) _ _ s;refine wpAny_bind (W.done s _ _ st fun s' mv=>?_);exact wpAny_pure (hR s' (mv.mono up) (kept _ _ _ hS fun b o hb q=>mv.heap b o hb q)))
 | succ d ih =>
  intro i s e1 e2 st hS hR;have lt:i < n:=by lia
  refine codeAny_builtin PyProof.Rows.F.entry_set_update_loop (by
   rw [Around.under_plainId PyProof.Rows.F.plain_set_update_loop _];show wpAny _ A.in1 (pyNext (.ref it) >>= _) _ _ s;refine wpAny_bind (W.item i s _ _ lt st fun v s' pv st' mv=>?_);have hS':=kept _ _ s'.heap hS fun b o hb q=>mv.heap b o hb q;show wpAny _ A.in1 (holding [v] (setAdd S v) >>= _) _ _ s';refine wpAny_bind (wpAny_holding (add i v s' _ _ lt pv hS' fun r h2 tk htk sb hS3=>?_));refine wpAny_pure ⟨plainId_quiet PyProof.Rows.F.plain_set_update_loop _,ih (i+1) _ (by lia) lt (W.frame _ s' _ _ st' htk fun b hb o q=>?_) hS3 fun s3 mv3 hS4=>?_⟩
   ·rw [sb.2 b (fun z:b=S=>hS0 (by rw [← z];exact hb))];exact q
   ·refine hR s3 (Moved.trans W.gtrans ((mv.mono up).then_heap htk fun b o hb q=>?_) mv3) hS4;rw [sb.2 b (fun z:b=S=>hb (by rw [z];exact List.mem_cons_self))];exact q)
end
section
variable {P:Program} {w:World} {A:Around} {E:Value→Shared→Prop} {s:Shared}
def zI (P:Program) (w:World) (xs:List (Addr×List Key)) (S:Addr) (b:Bool) (i:Nat) (h:Heap):Prop :=
 (∀ p∈xs,IsTupleKey (ag P w) h p.2 p.1)∧match i with
  | 0=>∃ o,h.get? S=some o∧o.ExactSet∧o.data=.set #[] 0 (smT #[] 0 0 b true)
  | 1=>∃ o h0 x q ep p,h.get? S=some o∧o.ExactSet∧xs[0]?=some x∧o.data=.set #[(h0,.ref x.1)] ep (smT #[q] 0 0 b p)
  | _=>nE h S 2
theorem D7 {xs:List (Addr×List Key)} {S:Addr} {b:Bool} {i:Nat} {h:Heap} (hi:i≤2) (z:zI P w xs S b i h):nE h S i:=by
 obtain ⟨_,z⟩:=z;obtain rfl | rfl | rfl:i=0∨i=1∨i=2:=by lia
 ·obtain ⟨o,e,x,d⟩:=z;exact ⟨o,_,_,_,e,x,d,rfl,rfl⟩
 ·obtain ⟨o,h0,x,q,ep,p,e,ex,_,d⟩:=z;exact ⟨o,_,_,_,e,ex,d,rfl,rfl⟩
 ·exact z
theorem qK {xs:List (Addr×List Key)} {S:Addr} {b:Bool} {i:Nat} {h h':Heap} (z:zI P w xs S b i h) (k:∀ c o,(c=S∨∃ p∈xs,c=p.1)→h.get? c=some o→h'.get? c=some o):zI P w xs S b i h':=by
 obtain ⟨ks,z⟩:=z;refine ⟨fun p hp=>cz (ks p hp) fun o e=>k _ o (.inr ⟨p,hp,rfl⟩) e,?_⟩
 match i,z with
 | 0,⟨o,e,x,d⟩=>exact ⟨o,k _ _ (.inl rfl) e,x,d⟩
 | 1,⟨o,h0,x,q,ep,p,e,r⟩=>exact ⟨o,h0,x,q,ep,p,k _ _ (.inl rfl) e,r⟩
 | i+2,⟨o,es,ep,t,e,r⟩=>exact ⟨o,es,ep,t,k _ _ (.inl rfl) e,r⟩
theorem wN {xs:List (Addr×List Key)} {S:Addr} {b:Bool} {i:Nat} {v:Value} {Q:Bool→Shared→Prop} (hl:xs.length≤2) (nd:(xs.map (·.2)).Nodup) (hi:i < xs.length) (hv:∃ x,xs[i]?=some x∧v=.ref x.1) (hS:∀ x∈xs,x.1≠S) (hu:A.units < cLine) (z:zI P w xs S b i s.heap)
  (hQ:∀ r h' tk,s.toks≤tk→Heap.SameBut S s.heap h'→zI P w xs S b (i+1) h'→Q r { s with heap:=h',toks:=tk }):wpAny (model P w) A (setAdd S v) Q E s:=by
 obtain ⟨x,ex,rfl⟩:=hv;obtain ⟨ks,z⟩:=z;have kx:=ks x (List.mem_of_getElem? ex);have keep:∀ {h':Heap},Heap.SameBut S s.heap h'→∀ p∈xs,IsTupleKey (ag P w) h' p.2 p.1:=fun sb p hp=>cz (ks p hp) fun o e=>(sb.2 _ (hS p hp)).trans e;unfold setAdd;refine wpAny_holding (wpAny_bind (wpAny_pyHash_tuple hu kx ?_))
 match i,z,hi,ex with
 | 0,⟨o,e,xs',d⟩,hi,ex =>
  exact D5 (kd:=ag P w) (s:={ s with toks:=s.toks+(x.2.length+1) }) e d kx fun h' q p' sb e'=>hQ _ h' _ (Nat.le_add_right _ _) sb ⟨keep sb,_,_,x,q,_,p',e',xs',ex,rfl⟩
 | 1,⟨o,h0,y,q,ep,p,e,xs',ey,d⟩,hi,ex =>
  have ky:=ks y (List.mem_of_getElem? ey);have ne:x.2≠y.2:=by
   intro zz
   match xs,ex,ey,nd with
   | [_,_],rfl,rfl,nd =>
    have:=(List.nodup_cons.mp nd).1;exact this (List.mem_map.mpr ⟨x,List.mem_cons_self,zz⟩)
   | _ :: _ :: _ :: _,_,_,_=>simp at hl
  exact D6 (kd:=ag P w) (s:={ s with toks:=s.toks+(x.2.length+1) }) e xs' d kx ky ne hu fun h' sb e'=>hQ _ h' _ (Nat.le_add_right _ _) sb ⟨keep sb,e'⟩
 | i+2,_,hi,_=>lia
set_option maxHeartbeats 3200000 in
theorem iW {t:Addr} {its:Array Value} {xs:List (Addr×List Key)} {Q:Value→Shared→Prop} (hh:A.handled=none) (ht:s.heap.IsList t its) (hits:its=(xs.map fun x=>Value.ref x.1).toArray) (hl:xs.length≤2) (nd:(xs.map (·.2)).Nodup) (hk:∀ p∈xs,IsTupleKey (ag P w) s.heap p.2 p.1) (hu:A.units+8 < cLine)
  (h:∀ (h':Heap) (tk:Nat),nE h' s.heap.objs.size xs.length→(∀ b o,s.heap.get? b=some o→h'.get? b=some o)→Q (.ref s.heap.objs.size) { s with heap:=h',toks:=tk }) :
  wpAny (model P w) A (call (.type "set") [.ref t]) Q E s:=by
 obtain ⟨c0,tl,hmro⟩:=PySem.F.called_set.mro;have k1:=PySem.F.called_set.made;have k2:=PySem.F.called_set.sub;refine wpAny_call (codeAny_of_tree (by
  show wpAny _ _ (callAny (.type "set") _) _ _ _;refine wpAny_pure ⟨Code.quiet_builtin _ (by decide +kernel),codeAny_builtin PySem.F.entry_type_call ?_⟩;rw [Around.under_plain (weight_type_call_type "set" [.ref t] []) rfl];have k3:=PySem.F.called_set.notType;have k4:=PySem.F.called_set.canCreate;have k5:=PySem.F.typeCall_set_1 (.ref t)
  repeat (any_goals (first | assumption | wp_step))
  refine codeAny_mono (oX (.ref t) (E:=E) (Q₁:=fun ob s1=>∃ b:Bool,b=(!w.params.followText "set-order")∧ob=.ref s.heap.objs.size∧s1={ s with heap:=s.heap.push (cc b) }) ⟨_,rfl,rfl,rfl⟩) fun r s1 hr=>?_
  cases r with
  | error e=>exact hr
  | ok fl =>
   cases fl with
   | ret ob =>
    obtain ⟨b,eb,rfl,rfl⟩:=hr;have g1:(s.heap.push (cc b)).get? s.heap.objs.size=some (cc b):=Heap.get?_push_size _ rfl;have tS:Shared.TypeIs { s with heap:=s.heap.push (cc b) } (.ref s.heap.objs.size) "set" :=⟨_,g1,rfl⟩;have k6:=PySem.F.called_set.init.lookup;have k7:=PySem.F.called_set.init.bind (.ref s.heap.objs.size)
    repeat (any_goals (first | assumption | wp_step))
    refine codeAny_mono (codeAny_call_builtin (R:=wants (fun r s2=>r=.none∧∃ h' tk,s2={ s with heap:=h',toks:=tk }∧nE h' s.heap.objs.size xs.length∧(∀ b o,s.heap.get? b=some o→h'.get? b=some o)) E)
     PySem.F.called_set.init.plain PySem.F.entry_set_init (check_set_init_1 tS ?_)) fun r2 s2 hr2=>?_
    ·obtain ⟨⟨oc,od,oa,osl⟩,ho,hcl,nl,hdt⟩:=id ht;simp only at hcl hdt;subst hcl hdt;have ht1:(s.heap.push (cc b)).IsList t its:=⟨_,Heap.get?_push_of_some _ ho,rfl,nl,rfl⟩;have ho1:(s.heap.push (cc b)).get? t=some { cls:=.type "list",dict:=od,data:=.seq its nl,slots:=osl }:=Heap.get?_push_of_some _ ho;have k8:=(bQ "list" "set");have k9:=(bQ "list" "frozenset");have ka:(Value.type "list" == Value.type "dict")=false:=by decide
     unfold Builtin.«set.__init__» noKeywords Builtin.Frozenset.updateFrom
     generalize hPI:pyIter=PI
     wp_walk
     subst hPI;refine wpAny_pyIter_list ht1 ?_;refine wpAny_bind (wpAny_runValue ?_);have lt:s.heap.objs.size > t:=Heap.lt_size ho;have hh3:A.in1.in1.in1.handled=none:=by simp [hh]
     have sz:(s.heap.push (cc b)).objs.size=s.heap.objs.size+1:=Heap.size_push ..;have ne1:t≠(s.heap.push (cc b)).objs.size:=by rw [sz];exact Nat.ne_of_lt (Nat.lt_succ_of_lt lt)
     have nS:s.heap.objs.size∉[(s.heap.push (cc b)).objs.size,t]:=by
      rw [sz];intro z;rcases List.mem_cons.mp z with z | z
      ·exact absurd z (Nat.ne_of_lt (Nat.lt_succ_self _))
      ·exact absurd (List.mem_singleton.mp z) (Nat.ne_of_gt lt)
     have hsz:its.size=xs.length:=by rw [hits];simp
     have lowK:∀ p∈xs,p.1 < s.heap.objs.size:=fun p hp=>by
      obtain ⟨o,_,_,e,_⟩:=hk p hp;exact Heap.lt_size e
     refine nF ((Walks.list hh3 _ t ne1 its).toS) s.heap.objs.size nS (zI P w xs s.heap.objs.size b) ?_ ?_ (its.size - 0) 0 _ rfl (Nat.zero_le _) ⟨⟨_,Heap.get?_push_size _ rfl,rfl,rfl⟩,ht1.push _⟩ ?_ ?_
     ·intro i h1 h2 z k;refine qK z fun c o hc e=>k c o ?_ e;rw [sz];intro zz;rcases hc with rfl | ⟨p,hp,rfl⟩
      ·exact absurd (List.mem_singleton.mp zz) (Nat.ne_of_lt (Nat.lt_succ_self _))
      ·exact absurd (List.mem_singleton.mp zz) (Nat.ne_of_lt (Nat.lt_succ_of_lt (lowK p hp)))
     ·intro i v s1 Q1 E1 hi pv z hq;refine wN hl nd (by rw [← hsz];exact hi) ?_ (fun x hx=>Nat.ne_of_lt (lowK x hx)) ?_ z hq
      ·obtain ⟨x,hx⟩:∃ x,xs[i]?=some x:=⟨_,List.getElem?_eq_getElem (by rw [← hsz];exact hi)⟩;refine ⟨x,hx,?_⟩;rw [hits] at pv;simp [hx] at pv;exact pv.symm
      ·first | (show A.units+1 < cLine;lia) | (show A.units+2 < cLine;lia) | (show A.units+3 < cLine;lia) | (show A.units+4 < cLine;lia)  | (show A.units+5 < cLine;lia)
     ·exact ⟨fun p hp=>cz (hk p hp) fun o e=>Heap.get?_push_of_some _ (Heap.get?_push_of_some _ e),_,Heap.get?_push_of_some _ g1,⟨rfl,rfl,rfl⟩,rfl⟩
     ·intro s3 mv hS3;obtain ⟨h3,g3,d3,t3,o3⟩:=s3
      cases (mv.gens:g3=s.gens)
      cases (mv.drawn:d3=s.drawn)
      cases (mv.os:o3=s.os)
      refine wpAny_pure (wpAny_pure ⟨rfl,h3,t3,rfl,(by rw [hsz] at hS3;exact D7 hl hS3),fun c o q=>?_⟩);have lc:s.heap.objs.size > c:=Heap.lt_size q;refine mv.heap c o ?_ (Heap.get?_push_of_some _ (Heap.get?_push_of_some _ q));intro z;rcases List.mem_cons.mp z with z | z
      ·exact absurd z (Nat.ne_of_lt lc)
      ·exact absurd ((List.mem_singleton.mp z).trans sz) (Nat.ne_of_lt (Nat.lt_succ_of_lt lc))
    ·cases r2 with
     | error e=>exact hr2
     | ok fl2 =>
      cases fl2 with
      | ret r =>
       obtain ⟨rfl,h',tk,rfl,q1,q2⟩:=hr2
       repeat (any_goals (first | assumption | wp_step))
       exact h _ _ q1 q2
      | _=>exact hr2.elim
   | _=>exact hr.elim))
end
section
variable {X:Cx}
def kh (p:Addr) (n:Nat):HO:=.ext fun h=>nE h p n
theorem ig {K:PySem.W.Frag} {H:Hp}:∀ {ts:List (List Key)} {vs:List V},IsPs K H (ts.map fun t=>.tup (t.map kDt)) vs→∃ xs:List (Addr×List Key),vs=xs.map (fun x=>V.ref x.1)∧ts=xs.map (·.2)∧∀ x∈xs,IsP K H (.tup (x.2.map kDt)) (.ref x.1)
 | [],_,h=>by cases h;exact ⟨[],rfl,rfl,fun x hx=>nomatch hx⟩
 | t :: ts,_,h=>by
  cases h with
  | @cons _ v _ vs h r =>
   obtain ⟨a,ys,rfl,_⟩:=id h.unref;obtain ⟨xs,rfl,rfl,hx⟩:=ig r;exact ⟨(a,t) :: xs,rfl,rfl,fun x m=>by
    rcases List.mem_cons.mp m with rfl | m
    ·exact h
    ·exact hx x m⟩
theorem ii {K:PySem.W.Frag} (hK:X.K=K) (hc:X.calm=true) (hu:X.A.units+64 < cLine):aG X (.type "set") (fun xs H Q=>∃ (a:Addr) (ts:List (List Key)) (vs:List V),xs=[.ref a]∧SqL K H a vs∧IsPs K H (ts.map fun t=>.tup (t.map kDt)) vs∧ts.length≤2∧ts.Nodup∧∀ p,H p=none→Q (.ref p) (upd H p (kh p ts.length))):=by
 subst hK;intro pins s σ H xs us Q I r h;obtain ⟨a,ts,vs,rfl,ha,hp,hl,nd,q⟩:=h;obtain ⟨u,rfl,rx⟩:=bX r
 cases rx
 obtain ⟨its,rv,ht,hz⟩:=I.list ha;obtain ⟨xs,rfl,rfl,hx⟩:=ig hp;obtain ⟨o,n,ho,hcl,hdn,hdt⟩:=ht;have e1:its=xs.map fun x=>Value.ref x.1:=by
  clear ha hp hx nd hl q hdt hz
  induction xs generalizing its with
  | nil=>cases rv;rfl
  | cons x xs ih =>
   cases rv with
   | cons h r =>
    cases h
    rw [ih _ r];rfl
 refine iW (xs:=xs) (I.ok.hd hc) (show s.heap.IsList a its.toArray from ⟨o,ho,hcl,n,hdt⟩) (by rw [e1]) (by simpa using hl) nd (fun p hp=>dO I (hx p hp)) (by lia) fun h' tk hS kk=>?_;refine ⟨.ref s.heap.objs.size,_,I.laid (a:=s.heap.objs.size) (o:=kh s.heap.objs.size (xs.map (·.2)).length) kk (Nat.le_refl _) ?_,rfl,q _ (I.hok.fresh (Nat.le_refl _))⟩;rw [List.length_map];obtain ⟨o,es,ep,t,ho,r⟩:=id hS;exact ⟨hS,⟨o,ho⟩,fun h1 h2 ⟨o,es,ep,t,e,r⟩ k=>⟨o,es,ep,t,k o e,r⟩⟩
theorem ik:aG X (.builtin "len") (fun xs H Q=>∃ p n,xs=[.ref p]∧H p=some (kh p n)∧n≤2∧Q (.int n) H):=by
 intro pins s σ H xs us Q I r h;obtain ⟨p,n,rfl,e,h2,q⟩:=h;obtain ⟨u,rfl,rx⟩:=bX r
 cases rx
 obtain ⟨hS,_,_⟩:=I.hok p _ e;obtain ⟨o,es,ep,tb,ho,hex,hd,hf,hn⟩:=hS;exact call_len_set ho hex hd hf (by lia) ⟨.int n,H,I.tok _,⟨_,by rw [hn]⟩,q⟩
end
def wO (t:Bool):String:=if t then "tuple_iterator" else "list_iterator"
def D8 (t:Bool):String:=if t then "tuple" else "list"
def ItXe (t:Bool) (h:Heap) (a l:Addr) (i:Nat):Prop:=∃ o,h.get? a=some o∧o.cls=.type (wO t)∧o.data=.fields #[.ref l,.int i 0]
def TsXe (t:Bool) (h:Heap) (a:Addr) (items:Array Value):Prop:=∃ o,h.get? a=some o∧o.cls=.type (D8 t)∧∃ n,o.data=.seq items n
theorem ItXe.extBut {t:Bool} {h h':Heap} {a b l:Addr} {i:Nat} (x:ItXe t h a l i) (hs:Heap.ExtBut b h h') (hab:a≠b):ItXe t h' a l i:=let ⟨o,ho,r⟩:=x;⟨o,hs a o hab ho,r⟩
theorem TsXe.extBut {t:Bool} {h h':Heap} {a b:Addr} {items:Array Value} (x:TsXe t h a items) (hs:Heap.ExtBut b h h') (hab:a≠b):TsXe t h' a items:=let ⟨o,ho,r⟩:=x;⟨o,hs a o hab ho,r⟩
section
variable {prog:Program} {w:World} {A:Around} {E:Value→Shared→Prop} {s:Shared}
theorem cA {t':Bool} {b t:Addr} {k:Nat} {its:Array Value} {v:Value} {Q:Value→Shared→Prop} (hb:ItXe t' s.heap b t k) (ht:TsXe t' s.heap t its) (hv:its[k]?=some v)
  (q:∀ h',ItXe t' h' b t (k+1)→Heap.SameBut b s.heap h'→Q v { s with heap:=h' }):wpAny (model prog w) A (Builtin.SmallTypes.nextOf (.ref b)) Q E s:=by
 cases t'
 ·exact wpAny_nextOf_list_item hb ht hv q
 ·exact cf hb ht hv q
theorem fI {t':Bool} {b t:Addr} {k:Nat} {its:Array Value} {Q:Value→Shared→Prop} (hh:A.handled=none) (hb:ItXe t' s.heap b t k) (ht:TsXe t' s.heap t its) (hv:its[k]?=none)
  (q:∀ h' e,Heap.ExtBut b s.heap h'→(∃ o,h'.get? e=some o∧o.cls=.type "StopIteration")→E (.ref e) { s with heap:=h' }):wpAny (model prog w) A (Builtin.SmallTypes.nextOf (.ref b)) Q E s:=by
 cases t'
 ·exact wpAny_nextOf_list_end hh hb ht hv q
 ·exact eC hh hb ht hv q
end
section
variable {X:Cx} {pins:List (Addr×Obj)} {σ:St} {H:Hp} {s:Shared}
theorem Inv.seqE {t:Bool} {a:Addr} {xs:List V} (I:Inv X pins σ H s) (h:SqE t X.K H a xs):∃ its:List Value,Vals xs its∧TsXe t s.heap a its.toArray∧xs.length≤sizeLine:=by
 cases t
 ·obtain ⟨its,r,p,z⟩:=I.list h;exact ⟨its,r,p.isList,z⟩
 ·exact I.tuple h
theorem Inv.seqE_inj {t:Bool} {a:Addr} {xs ys:List V} (I:Inv X pins σ H s) (h:SqE t X.K H a xs) (h':SqE t X.K H a ys):xs=ys:=by
 cases t
 ·exact I.list_inj h h'
 ·exact I.tuple_inj h h'
end
section
variable {prog:Program} {w:World} {A:Around} {E:Value→Shared→Prop} {s:Shared}
theorem lA {ta tb:Bool} {z P0 P1 u v l m:Addr} {k:Nat} {xs ys:Array Value} {x y a b:Value} {Q:Option Value→Shared→Prop} (D:ZipApart z P0 P1 u v l m) (Z:IsZip s.heap z P0 P1 .none) (I0:IsPair s.heap P0 (.ref u) (.ref v)) (I1:IsPair s.heap P1 a b)
  (wu:ItXe ta s.heap u l k) (wv:ItXe tb s.heap v m k) (tl:TsXe ta s.heap l xs) (tm:TsXe tb s.heap m ys) (ex:xs[k]?=some x) (ey:ys[k]?=some y)
  (q:∀ h',IsZip h' z P0 P1 (rawInt s.heap.objs.size)→IsPair h' P1 x y→ItXe ta h' u l (k+1)→ItXe tb h' v m (k+1)→IsPair h' s.heap.objs.size x y→h'.objs.size=s.heap.objs.size+1 →
   (∀ c o,c≠z→c≠P1→c≠u→c≠v→s.heap.get? c=some o→h'.get? c=some o)→Q (some (.ref s.heap.objs.size)) { s with heap:=h' }):wpAny (model prog w) A (pyNext (.ref z)) Q E s:=by
 have hT:s.TypeIs (.ref z) "zip" :=⟨_,Z,rfl⟩;unfold pyNext;refine wpAny_bind (wpAny_attempt (wpAny_callSpecial?_slot (name:=Str.ofString "__next__") hT F.slot_zip_next (wpAny_call_entry F.slot_zip_next hT F.entry_zip_next ?_ (F.args_zip_next_1 _))));refine show wpAny _ _ (field (.ref z) 2 >>= _) _ _ _ from wpAny_bind (wpAny_field Z rfl (x:=.bool false) rfl ?_);refine show wpAny _ _ (field (.ref z) 3 >>= _) _ _ _ from wpAny_bind (wpAny_field Z rfl (x:=.ref P0) rfl (wpAny_bind (wpAny_seqItems I0 rfl ?_)));refine show wpAny _ _ (Builtin.SmallTypes.ownedTupleIsFree (.ref z) >>= _) _ _ _ from wpAny_bind ?_;unfold Builtin.SmallTypes.ownedTupleIsFree;refine wpAny_bind (wpAny_field Z rfl (x:=.none) rfl (wpAny_pure ?_));rw [if_pos rfl];refine wpAny_bind (wpAny_rule (wpAny_bind (wpAny_field Z rfl (x:=.ref P1) rfl (wpAny_bind (wpAny_setField_rec Z (by simp) fun ha Za sa=>?_)))));replace Za:IsZip ha z P0 P1 .ellipsis:=Za;refine wpAny_bind ?_;simp only [List.zipIdx_cons,List.forIn_cons,List.zipIdx_nil,List.forIn_nil];refine wpAny_bind (wpAny_bind (wpAny_onRaise ?_));refine show wpAny _ _ (Builtin.SmallTypes.nextOf (.ref u) >>= _) _ _ _ from wpAny_bind (cA (wu.extBut sa.extBut D.i1z) (tl.extBut sa.extBut D.l1z) ex fun hb wb sb=>wpAny_pure ?_);have Ib:IsPair hb P1 a b:=sb.extBut _ _ D.TOi1 (sa.extBut _ _ D.TOz I1);refine wpAny_bind (wpAny_seqItems Ib rfl (wpAny_bind (wpAny_updateSeq_pair Ib fun hc Ic sc=>wpAny_bind (wpAny_letGo (wpAny_pure ?_)))));replace Ic:IsPair hc P1 x b:=Ic;refine wpAny_bind (wpAny_bind (wpAny_onRaise ?_));refine show wpAny _ _ (Builtin.SmallTypes.nextOf (.ref v) >>= _) _ _ _ from wpAny_bind (cA (((wv.extBut sa.extBut D.i2z).extBut sb.extBut D.i12.symm).extBut sc.extBut D.TOi2.symm) (((tm.extBut sa.extBut D.l2z).extBut sb.extBut D.l2i1).extBut sc.extBut D.l2TO) ey fun hd wd sd=>wpAny_pure ?_);have Id:IsPair hd P1 x b:=sd.extBut _ _ D.TOi2 Ic;refine wpAny_bind (wpAny_seqItems Id rfl (wpAny_bind (wpAny_updateSeq_pair Id fun he Ie se=>wpAny_bind (wpAny_letGo (wpAny_pure (wpAny_pure ?_))))));replace Ie:IsPair he P1 x y:=Ie;refine wpAny_bind (wpAny_seqItems Ie rfl (wpAny_bind (wpAny_newTuple ?_)));have size:he.objs.size=s.heap.objs.size:=by rw [se.1,sd.1,sc.1,sb.1,sa.1]
 have Ze:IsZip he z P0 P1 .ellipsis:=se.extBut _ _ D.TOz.symm (sd.extBut _ _ D.i2z.symm (sc.extBut _ _ D.TOz.symm (sb.extBut _ _ D.i1z.symm Za)));have keep:∀ c o,c≠z→c≠P1→c≠u→c≠v→s.heap.get? c=some o→he.get? c=some o:=fun c o n1 n2 n3 n4 e=>se.extBut _ _ n2 (sd.extBut _ _ n4 (sc.extBut _ _ n2 (sb.extBut _ _ n3 (sa.extBut _ _ n1 e))));have we:ItXe ta he u l (k+1):=((wb.extBut sc.extBut D.TOi1.symm).extBut sd.extBut D.i12).extBut se.extBut D.TOi1.symm;have we':ItXe tb he v m (k+1):=wd.extBut se.extBut D.TOi2.symm;have ltz:z < he.objs.size:=Heap.lt_size Ze;refine show wpAny _ _ (Builtin.SmallTypes.ownedTupleHandOut (.ref z) (.ref he.objs.size) >>= _) _ _ _ from wpAny_bind ?_;unfold Builtin.SmallTypes.ownedTupleHandOut;have Zf:IsZip (he.push { cls:=.type "tuple",data:=.seq #[x,y] }) z P0 P1 .ellipsis:=Heap.get?_push_of_some _ Ze;refine wpAny_bind (wpAny_setField_rec Zf (by simp) fun hg Zg sg=>?_);replace Zg:IsZip hg z P0 P1 (rawInt he.objs.size):=Zg;refine wpAny_setField_rec Zg (by simp) fun hi Zi si=>?_;replace Zi:IsZip hi z P0 P1 (rawInt he.objs.size):=Zi;have up:∀ c o,c≠z→he.get? c=some o→hi.get? c=some o:=fun c o n e=>si.extBut _ _ n (sg.extBut _ _ n (Heap.get?_push_of_some _ e));have Ti:IsPair hi he.objs.size x y:=si.extBut _ _ (Nat.ne_of_gt ltz) (sg.extBut _ _ (Nat.ne_of_gt ltz) (Heap.get?_push_size _ rfl));have size':hi.objs.size=he.objs.size+1:=by rw [si.1,sg.1,Heap.size_push]
 refine wpAny_pure ⟨_,rfl,wpAny_pure ?_⟩;rw [size] at Zi Ti size';have go:=q hi Zi (up _ _ D.TOz Ie) (by obtain ⟨o,e,r⟩:=we;exact ⟨o,up _ o D.i1z e,r⟩) (by obtain ⟨o,e,r⟩:=we';exact ⟨o,up _ o D.i2z e,r⟩) Ti size' fun c o n1 n2 n3 n4 e=>up c o n1 (keep c o n1 n2 n3 n4 e);rw [← size] at go;exact go
theorem nI {ta tb:Bool} {z P0 P1 u v l m:Addr} {k:Nat} {xs ys:Array Value} {a b:Value} {Q:Option Value→Shared→Prop} (hh:A.handled=none) (D:ZipApart z P0 P1 u v l m) (Z:IsZip s.heap z P0 P1 .none) (I0:IsPair s.heap P0 (.ref u) (.ref v)) (I1:IsPair s.heap P1 a b)
  (wu:ItXe ta s.heap u l k) (wv:ItXe tb s.heap v m k) (tl:TsXe ta s.heap l xs) (tm:TsXe tb s.heap m ys) (no:xs[k]?=none∨ys[k]?=none)
  (q:∀ h',(∀ c o,c≠z→c≠P1→c≠u→c≠v→s.heap.get? c=some o→h'.get? c=some o)→Q none { s with heap:=h' }):wpAny (model prog w) A (pyNext (.ref z)) Q E s:=by
 have hT:s.TypeIs (.ref z) "zip" :=⟨_,Z,rfl⟩;unfold pyNext;refine wpAny_bind (wpAny_attempt (wpAny_callSpecial?_slot (name:=Str.ofString "__next__") hT F.slot_zip_next (wpAny_call_entry F.slot_zip_next hT F.entry_zip_next ?_ (F.args_zip_next_1 _))));refine show wpAny _ _ (field (.ref z) 2 >>= _) _ _ _ from wpAny_bind (wpAny_field Z rfl (x:=.bool false) rfl ?_);refine show wpAny _ _ (field (.ref z) 3 >>= _) _ _ _ from wpAny_bind (wpAny_field Z rfl (x:=.ref P0) rfl (wpAny_bind (wpAny_seqItems I0 rfl ?_)));refine show wpAny _ _ (Builtin.SmallTypes.ownedTupleIsFree (.ref z) >>= _) _ _ _ from wpAny_bind ?_;unfold Builtin.SmallTypes.ownedTupleIsFree;refine wpAny_bind (wpAny_field Z rfl (x:=.none) rfl (wpAny_pure ?_));rw [if_pos rfl];refine wpAny_bind (wpAny_rule (wpAny_bind (wpAny_field Z rfl (x:=.ref P1) rfl (wpAny_bind (wpAny_setField_rec Z (by simp) fun ha Za sa=>?_)))));replace Za:IsZip ha z P0 P1 .ellipsis:=Za;refine wpAny_bind ?_;simp only [List.zipIdx_cons,List.forIn_cons,List.zipIdx_nil,List.forIn_nil];refine wpAny_bind (wpAny_bind (wpAny_onRaise ?_));have stop:∀ {h':Heap} {e:Addr},(∃ o,h'.get? e=some o∧o.cls=.type "StopIteration")→IsZip h' z P0 P1 .ellipsis→e≠z:=fun he hz c=>by
  obtain ⟨o,ho,hc⟩:=he;subst c;rw [hz] at ho
  cases ho
  simp at hc
 have fin:∀ {h':Heap} {e:Addr},(∃ o,h'.get? e=some o∧o.cls=.type "StopIteration")→(∀ c o,c≠z→c≠P1→c≠u→c≠v→s.heap.get? c=some o→h'.get? c=some o) →
   wpAny (model prog w) A (do if (← isInstance (.ref e) (.type "StopIteration")) then pure none else throw (.ref e)) Q E { s with heap:=h' }:=fun {h' e} he hk=>by
  obtain ⟨o,ho,hc⟩:=he;exact wpAny_bind (wpAny_isInstance (T:= "StopIteration") (b:=true) ⟨o,ho,hc⟩ isSubtype_stop (wpAny_pure (q _ hk)))
 cases ex:xs[k]? with
 | none =>
  refine show wpAny _ _ (Builtin.SmallTypes.nextOf (.ref u) >>= _) _ _ _ from wpAny_bind (fI hh (wu.extBut sa.extBut D.i1z) (tl.extBut sa.extBut D.l1z) ex fun hb e sb he=>?_);have Zb:IsZip hb z P0 P1 .ellipsis:=sb _ _ D.i1z.symm Za;have ne:=stop he Zb;obtain ⟨o,ho,hc⟩:=he;exact wpAny_setField_rec Zb (by simp) fun hd _ sd=>fin ⟨o,sd.extBut _ _ ne ho,hc⟩ fun c o n1 _ n3 _ e=>sd.extBut _ _ n1 (sb _ _ n3 (sa.extBut _ _ n1 e))
 | some x =>
  have ey:ys[k]?=none:=no.resolve_left (by rw [ex];simp);refine show wpAny _ _ (Builtin.SmallTypes.nextOf (.ref u) >>= _) _ _ _ from wpAny_bind (cA (wu.extBut sa.extBut D.i1z) (tl.extBut sa.extBut D.l1z) ex fun hb wb sb=>wpAny_pure ?_);have Ib:IsPair hb P1 a b:=sb.extBut _ _ D.TOi1 (sa.extBut _ _ D.TOz I1);refine wpAny_bind (wpAny_seqItems Ib rfl (wpAny_bind (wpAny_updateSeq_pair Ib fun hc Ic sc=>wpAny_bind (wpAny_letGo (wpAny_pure (wpAny_bind (wpAny_bind (wpAny_onRaise ?_))))))));refine show wpAny _ _ (Builtin.SmallTypes.nextOf (.ref v) >>= _) _ _ _ from wpAny_bind (fI hh (((wv.extBut sa.extBut D.i2z).extBut sb.extBut D.i12.symm).extBut sc.extBut D.TOi2.symm) (((tm.extBut sa.extBut D.l2z).extBut sb.extBut D.l2i1).extBut sc.extBut D.l2TO) ey fun hd e sd he=>?_);have Zd:IsZip hd z P0 P1 .ellipsis:=sd _ _ D.i2z.symm (sc.extBut _ _ D.TOz.symm (sb.extBut _ _ D.i1z.symm Za));have ne:=stop he Zd;obtain ⟨o,ho,hcl⟩:=he;exact wpAny_setField_rec Zd (by simp) fun hf _ sf=>fin ⟨o,sf.extBut _ _ ne ho,hcl⟩ fun c o n1 n2 n3 n4 e=>sf.extBut _ _ n1 (sd _ _ n4 (sc.extBut _ _ n2 (sb.extBut _ _ n3 (sa.extBut _ _ n1 e))))
theorem pz {ta tb:Bool} (hh:A.handled=none) (z P0 P1 u v l m:Addr) (D:ZipApart z P0 P1 u v l m) (xs ys:Array Value) :
  WalksT prog w A z [z,P0,P1,u,v,l,m] [z,P1,u,v] (min xs.size ys.size) (fun i vals=>∃ x y,xs[i]?=some x∧ys[i]?=some y∧vals=#[x,y])
   (fun i h=>IsZip h z P0 P1 .none∧IsPair h P0 (.ref u) (.ref v)∧(∃ a b,IsPair h P1 a b)∧ItXe ta h u l i∧ItXe tb h v m i∧TsXe ta h l xs∧TsXe tb h m ys)
   (fun i T h=>IsZip h z P0 P1 (rawInt T)∧IsPair h P0 (.ref u) (.ref v)∧(∃ a b,IsPair h P1 a b)∧ItXe ta h u l (i+1)∧ItXe tb h v m (i+1)∧TsXe ta h l xs∧TsXe tb h m ys∧T≠z∧T≠P1∧T≠u∧T≠v) where
 sub:=fun c hc=>by
  simp only [List.mem_cons,List.not_mem_nil,or_false] at hc ⊢;rcases hc with h | h | h | h <;> simp [h]
 frame:=fun i h h' st kk=>by
  obtain ⟨Z,I0,⟨a,b,I1⟩,⟨o1,e1,r1⟩,⟨o2,e2,r2⟩,⟨o3,e3,r3⟩,⟨o4,e4,r4⟩⟩:=st;exact ⟨kk z (by simp) _ Z,kk P0 (by simp) _ I0,⟨a,b,kk P1 (by simp) _ I1⟩,⟨o1,kk u (by simp) _ e1,r1⟩,⟨o2,kk v (by simp) _ e2,r2⟩,⟨o3,kk l (by simp) _ e3,r3⟩,⟨o4,kk m (by simp) _ e4,r4⟩⟩
 item:=fun i s Q E hi st q=>by
  obtain ⟨Z,I0,⟨a,b,I1⟩,wu,wv,tl,tm⟩:=st;have h1:i < xs.size:=by lia
  have h2:i < ys.size:=by lia
  refine lA D Z I0 I1 wu wv tl tm (Array.getElem?_eq_getElem h1) (Array.getElem?_eq_getElem h2) fun h' a1 a2 a3 a4 a5 a6 kk=>?_;have far:∀ {c o},s.heap.get? c=some o→s.heap.objs.size≠c:=fun e=>Nat.ne_of_gt (Heap.lt_size e);obtain ⟨o1,e1,_⟩:=wu;obtain ⟨o2,e2,_⟩:=wv;obtain ⟨o3,e3,r3⟩:=tl;obtain ⟨o4,e4,r4⟩:=tm;refine q s.heap.objs.size #[xs[i],ys[i]] h' s.toks ⟨_,_,Array.getElem?_eq_getElem h1,Array.getElem?_eq_getElem h2,rfl⟩ (Nat.le_refl _) ⟨_,a5,rfl,_,rfl⟩ ⟨a1,kk _ _ D.TIz D.TITO D.TIi1 D.TIi2 I0,⟨_,_,a2⟩,a3,a4,⟨o3,kk _ _ D.l1z D.l1TO D.l1i1 D.l1i2 e3,r3⟩,⟨o4,kk _ _ D.l2z D.l2TO D.l2i1 D.l2i2 e4,r4⟩,far Z,far I1,far e1,far e2⟩ fun c o hc e=>?_;simp only [List.mem_cons,List.not_mem_nil,or_false,not_or] at hc;exact kk c o hc.1 hc.2.1 hc.2.2.1 hc.2.2.2 e
 go:=fun elts k pos i T s Q E st q=>by
  obtain ⟨Z,I0,⟨a,b,I1⟩,wu,wv,tl,tm,_⟩:=st;refine wpAny_letOwnedTupleGo_zip Z fun h' Z' s'=>q h' ⟨Z',s'.extBut _ _ D.TIz I0,⟨a,b,s'.extBut _ _ D.TOz I1⟩,wu.extBut s'.extBut D.i1z,wv.extBut s'.extBut D.i2z,tl.extBut s'.extBut D.l1z,tm.extBut s'.extBut D.l2z⟩ fun c o hc e=>?_;simp only [List.mem_cons,List.not_mem_nil,or_false,not_or] at hc;exact s'.extBut _ _ hc.1 e
 apart:=fun i T h st hT=>by
  obtain ⟨_,_,_,_,_,_,_,n1,n2,n3,n4⟩:=st;simp only [List.mem_cons,List.not_mem_nil,or_false] at hT;rcases hT with h | h | h | h
  ·exact n1 h
  ·exact n2 h
  ·exact n3 h
  ·exact n4 h
 done:=fun s Q E st q=>by
  obtain ⟨Z,I0,⟨a,b,I1⟩,wu,wv,tl,tm⟩:=st;have no:xs[min xs.size ys.size]?=none∨ys[min xs.size ys.size]?=none:=by
   rcases Nat.le_total xs.size ys.size with h | h
   ·exact .inl (Array.getElem?_eq_none (by lia))
   ·exact .inr (Array.getElem?_eq_none (by lia))
  refine nI hh D Z I0 I1 wu wv tl tm no fun h' kk=>q h' s.toks fun c o hc e=>?_;simp only [List.mem_cons,List.not_mem_nil,or_false,not_or] at hc;exact kk c o hc.1 hc.2.1 hc.2.2.1 hc.2.2.2 e
 self:=fun i s Q E st q=>wpAny_pyIter_zip st.1 q
abbrev qL (ta:Bool) (h:Heap) (l:Addr):Heap:=h.push { cls:=.type (wO ta),data:=.fields #[.ref l,.int 0 0] }
abbrev qM (ta tb:Bool) (h:Heap) (l m:Addr):Heap:=(qL ta h l).push { cls:=.type (wO tb),data:=.fields #[.ref m,.int 0 0] }
abbrev qN (ta tb:Bool) (h:Heap) (l m:Addr):Heap:=(qM ta tb h l m).push { cls:=.type "tuple",data:=.seq #[.ref h.objs.size,.ref (qL ta h l).objs.size] }
abbrev ki (ta tb:Bool) (h:Heap) (l m:Addr):Heap:=(qN ta tb h l m).push { cls:=.type "tuple",data:=.seq #[.none,.none] }
abbrev fJ (ta tb:Bool) (h:Heap) (l m:Addr):Heap:=(ki ta tb h l m).push { cls:=.type "zip",data:=.fields #[.none,.bool false,.bool false,.ref (qM ta tb h l m).objs.size,.ref (qN ta tb h l m).objs.size] }
set_option maxHeartbeats 2000000 in
theorem Ds (l m:Addr) (xs ys:Array Value) :
  Meets (Builtin.«zip.__new__» ⟨[.type "zip",.ref l,.ref m],[]⟩) (fun _ R s=>TsXe false s.heap l xs∧TsXe false s.heap m ys∧R (.ok (.ret (.ref (ki false false s.heap l m).objs.size))) { s with heap:=fJ false false s.heap l m }) :=
 .of_wp fun prog w A R s h=>by
  obtain ⟨hp,g,d,tk,os⟩:=s;obtain ⟨tl,tm,h⟩:=h;have sub:=sub_zip;have T1:Heap.IsList (Shared.heap ⟨hp,g,d,tk,os⟩) l xs:=tl;have T2:Heap.IsList (Shared.heap ⟨hp.push { cls:=.type "list_iterator",data:=.fields #[.ref l,.int 0 0] },g,d,tk,os⟩) m ys:=Heap.IsList.push tm _
  wp_walk using wpAny_pyIter_list T1,wpAny_pyIter_list T2
  exact ⟨_,rfl,h⟩
set_option maxHeartbeats 2000000 in
theorem Du (l m:Addr) (xs ys:Array Value) :
  Meets (Builtin.«zip.__new__» ⟨[.type "zip",.ref l,.ref m],[]⟩) (fun _ R s=>TsXe false s.heap l xs∧TsXe true s.heap m ys∧R (.ok (.ret (.ref (ki false true s.heap l m).objs.size))) { s with heap:=fJ false true s.heap l m }) :=
 .of_wp fun prog w A R s h=>by
  obtain ⟨hp,g,d,tk,os⟩:=s;obtain ⟨tl,tm,h⟩:=h;have sub:=sub_zip;have T1:Heap.IsList (Shared.heap ⟨hp,g,d,tk,os⟩) l xs:=tl;have T2:IsTup (Shared.heap ⟨hp.push { cls:=.type "list_iterator",data:=.fields #[.ref l,.int 0 0] },g,d,tk,os⟩) m ys:=IsTup.push tm _
  wp_walk using wpAny_pyIter_list T1,iter_tuple T2
  exact ⟨_,rfl,h⟩
set_option maxHeartbeats 2000000 in
theorem Dv (l m:Addr) (xs ys:Array Value) :
  Meets (Builtin.«zip.__new__» ⟨[.type "zip",.ref l,.ref m],[]⟩) (fun _ R s=>TsXe true s.heap l xs∧TsXe false s.heap m ys∧R (.ok (.ret (.ref (ki true false s.heap l m).objs.size))) { s with heap:=fJ true false s.heap l m }) :=
 .of_wp fun prog w A R s h=>by
  obtain ⟨hp,g,d,tk,os⟩:=s;obtain ⟨tl,tm,h⟩:=h;have sub:=sub_zip;have T1:IsTup (Shared.heap ⟨hp,g,d,tk,os⟩) l xs:=tl;have T2:Heap.IsList (Shared.heap ⟨hp.push { cls:=.type "tuple_iterator",data:=.fields #[.ref l,.int 0 0] },g,d,tk,os⟩) m ys:=Heap.IsList.push tm _
  wp_walk using iter_tuple T1,wpAny_pyIter_list T2
  exact ⟨_,rfl,h⟩
set_option maxHeartbeats 2000000 in
theorem Dw (l m:Addr) (xs ys:Array Value) :
  Meets (Builtin.«zip.__new__» ⟨[.type "zip",.ref l,.ref m],[]⟩) (fun _ R s=>TsXe true s.heap l xs∧TsXe true s.heap m ys∧R (.ok (.ret (.ref (ki true true s.heap l m).objs.size))) { s with heap:=fJ true true s.heap l m }) :=
 .of_wp fun prog w A R s h=>by
  obtain ⟨hp,g,d,tk,os⟩:=s;obtain ⟨tl,tm,h⟩:=h;have sub:=sub_zip;have T1:IsTup (Shared.heap ⟨hp,g,d,tk,os⟩) l xs:=tl;have T2:IsTup (Shared.heap ⟨hp.push { cls:=.type "tuple_iterator",data:=.fields #[.ref l,.int 0 0] },g,d,tk,os⟩) m ys:=IsTup.push tm _
  wp_walk using iter_tuple T1,iter_tuple T2
  exact ⟨_,rfl,h⟩
theorem kj (ta tb:Bool) (l m:Addr) (xs ys:Array Value) :
  Meets (Builtin.«zip.__new__» ⟨[.type "zip",.ref l,.ref m],[]⟩) (fun _ R s=>TsXe ta s.heap l xs∧TsXe tb s.heap m ys∧R (.ok (.ret (.ref (ki ta tb s.heap l m).objs.size))) { s with heap:=fJ ta tb s.heap l m }):=by
 cases ta <;> cases tb
 ·exact Ds l m xs ys
 ·exact Du l m xs ys
 ·exact Dv l m xs ys
 ·exact Dw l m xs ys
theorem lB {ta tb:Bool} {l m:Addr} {xs ys:Array Value} {Q:Value→Shared→Prop} (tl:TsXe ta s.heap l xs) (tm:TsXe tb s.heap m ys)
  (q:∀ h',IsZip h' (s.heap.objs.size+4) (s.heap.objs.size+2) (s.heap.objs.size+3) .none→IsPair h' (s.heap.objs.size+2) (.ref s.heap.objs.size) (.ref (s.heap.objs.size+1))→IsPair h' (s.heap.objs.size+3) .none .none →
   ItXe ta h' s.heap.objs.size l 0→ItXe tb h' (s.heap.objs.size+1) m 0→h'.objs.size=s.heap.objs.size+5→(∀ c o,s.heap.get? c=some o→h'.get? c=some o)→Q (.ref (s.heap.objs.size+4)) { s with heap:=h' }) :
  wpAny (model prog w) A (call (.type "zip") [.ref l,.ref m]) Q E s:=by
 refine callType_new F.called_zip (by decide) (F.typeCall_zip_2 _ _) (F.newCall_zip_2 _ _) (fun obj=>F.args_object_init_3 obj _ _) F.entry_zip_new (kj ta tb l m xs ys) ⟨tl,tm,?_⟩;have n1:(qL ta s.heap l).objs.size=s.heap.objs.size+1:=Heap.size_push ..;have n2:(qM ta tb s.heap l m).objs.size=s.heap.objs.size+2:=by rw [Heap.size_push,n1]
 have n3:(qN ta tb s.heap l m).objs.size=s.heap.objs.size+3:=by rw [Heap.size_push,n2]
 have n4:(ki ta tb s.heap l m).objs.size=s.heap.objs.size+4:=by rw [Heap.size_push,n3]
 have n5:(fJ ta tb s.heap l m).objs.size=s.heap.objs.size+5:=by rw [Heap.size_push,n4]
 have e5:(fJ ta tb s.heap l m).get? (ki ta tb s.heap l m).objs.size=some _:=Heap.get?_push_size _ rfl;have e4:(fJ ta tb s.heap l m).get? (qN ta tb s.heap l m).objs.size=some _:=Heap.get?_push_of_some _ (Heap.get?_push_size _ rfl);have e3:(fJ ta tb s.heap l m).get? (qM ta tb s.heap l m).objs.size=some _:=Heap.get?_push_of_some _ (Heap.get?_push_of_some _ (Heap.get?_push_size _ rfl));have e2:(fJ ta tb s.heap l m).get? (qL ta s.heap l).objs.size=some _:=Heap.get?_push_of_some _ (Heap.get?_push_of_some _ (Heap.get?_push_of_some _ (Heap.get?_push_size _ rfl)));have e1:(fJ ta tb s.heap l m).get? s.heap.objs.size=some _:=Heap.get?_push_of_some _ (Heap.get?_push_of_some _ (Heap.get?_push_of_some _ (Heap.get?_push_of_some _ (Heap.get?_push_size _ rfl))));refine show _∧_ from ?_;rw [n2,n3,n4] at e5;rw [n1,n2] at e3;rw [n3] at e4;rw [n1] at e2;rw [n4];exact ⟨⟨_,e5,rfl⟩,q _ e5 e3 e4 ⟨_,e1,rfl,rfl⟩ ⟨_,e2,rfl,rfl⟩ n5 fun c o x=>Heap.get?_push_of_some _ (Heap.get?_push_of_some _ (Heap.get?_push_of_some _ (Heap.get?_push_of_some _ (Heap.get?_push_of_some _ x))))⟩
end
def km (ta tb:Bool) (K:PySem.W.Frag) (a b:Addr):It :=
 ⟨fun i H=>∃ xs ys x y,SqE ta K H a xs∧SqE tb K H b ys∧xs[i]?=some x∧ys[i]?=some y,
  fun i H v H'=>∃ T x y,v=.ref T∧H T=none∧H'=upd H T (.tup [x,y])∧(∀ xs,SqE ta K H a xs→xs[i]?=some x)∧(∀ ys,SqE tb K H b ys→ys[i]?=some y),
  fun i H=>∃ xs ys,SqE ta K H a xs∧SqE tb K H b ys∧min xs.length ys.length=i⟩
def qO (ta tb:Bool) (z TI TO i1 i2 l1 l2:Addr) (i:Nat) (h:Heap):Prop:=IsZip h z TI TO .none∧IsPair h TI (.ref i1) (.ref i2)∧(∃ a b,IsPair h TO a b)∧ItXe ta h i1 l1 i∧ItXe tb h i2 l2 i
theorem lC {ta tb:Bool} {P:Program} {w:World} {K:PySem.W.Frag} {elts:List Expr} {k:Nat} {pos:Pos} (z TI TO i1 i2 l1 l2:Addr) (D:ZipApart z TI TO i1 i2 l1 l2) :
  Turn P w K (.Tuple elts k pos) (km ta tb K l1 l2) [z,TI,TO,i1,i2] z (qO ta tb z TI TO i1 i2 l1 l2) where
 mem:=by simp
 obj:=fun i h st b hb=>by
  obtain ⟨hz,hTI,⟨a,c,hTO⟩,⟨o1,e1,c1,d1⟩,⟨o2,e2,c2,d2⟩⟩:=st;simp only [List.mem_cons,List.not_mem_nil,or_false] at hb;rcases hb with rfl | rfl | rfl | rfl | rfl
  ·exact ⟨_,hz,fun v q=>by cases q⟩
  ·exact ⟨_,hTI,fun v q=>by cases q⟩
  ·exact ⟨_,hTO,fun v q=>by cases q⟩
  ·exact ⟨o1,e1,fun v q=>by rw [d1] at q;cases q⟩
  ·exact ⟨o2,e2,fun v q=>by rw [d2] at q;cases q⟩
 keep:=fun i h h' st kk=>by
  obtain ⟨hz,hTI,⟨a,c,hTO⟩,⟨o1,e1,r1⟩,⟨o2,e2,r2⟩⟩:=st;exact ⟨kk z (by simp) _ hz,kk TI (by simp) _ hTI,⟨a,c,kk TO (by simp) _ hTO⟩,⟨o1,kk i1 (by simp) _ e1,r1⟩,⟨o2,kk i2 (by simp) _ e2,r2⟩⟩
 item:=by
  intro X hP hw hK hc i pins s σ H E I hf st hg;subst hP hw hK;obtain ⟨xs,ys,x,y,hx,hy,ex,ey⟩:=hg;obtain ⟨its,rv,p,hz⟩:=I.seqE hx;obtain ⟨its2,rv2,p2,hz2⟩:=I.seqE hy;obtain ⟨s1,s2,s3,s4,s5⟩:=st;have W:=pz (ta:=ta) (tb:=tb) (prog:=X.prog) (w:=X.w) (I.ok.hd hc) z TI TO i1 i2 l1 l2 D its.toArray its2.toArray;have li:i < xs.length:=(List.getElem?_eq_some_iff.mp ex).1;have li2:i < ys.length:=(List.getElem?_eq_some_iff.mp ey).1;have el:=rv.length;have el2:=rv2.length;have wsub:∀ b∈[z,TO,i1,i2],b∈[z,TI,TO,i1,i2]:=fun b hb=>by
   simp only [List.mem_cons,List.not_mem_nil,or_false] at hb ⊢;rcases hb with rfl | rfl | rfl | rfl <;> simp
  refine W.item i s _ _ (by simp only [List.size_toArray];lia) ⟨s1,s2,s3,s4,s5,p,p2⟩ fun T vals h' tk hv hT hTup hm hk=>?_;obtain ⟨u,v,eu,ev,rfl⟩:=hv;obtain ⟨u',eu',ru⟩:=rv.get ex;obtain ⟨v',ev',rv'⟩:=rv2.get ey;have e1:u=u':=by
   have:its[i]?=some u:=by simpa using eu
   rw [eu'] at this;exact (Option.some.inj this).symm
  have e2:v=v':=by
   have:its2[i]?=some v:=by simpa using ev
   rw [ev'] at this;exact (Option.some.inj this).symm
  subst e1 e2;have hTn:H T=none:=I.hok.fresh hT;have I1:Inv X pins σ (upd H T (.tup [x,y])) { s with heap:=h',toks:=tk }:=I.turnedT hk (fun b hb=>hf b (wsub b hb)) hT ⟨by show 2≤sizeLine;decide,[u,v],.cons ru (.cons rv' .nil),hTup⟩;have ap:=W.apart i T h' hm;have f1:∀ b∈[z,TO,i1,i2],cw X pins (upd H T (.tup [x,y])) b:=fun b hb=>by
   obtain ⟨f0,f1⟩:=hf b (wsub b hb);exact ⟨by rw [ah (fun e:b=T=>ap (by rw [← e];exact hb))];exact f0,f1⟩
  refine ⟨_,rfl,W.go elts k pos i T _ _ _ hm fun h'' st2 hk2=>?_⟩;obtain ⟨t1,t2,t3,t4,t5,_,_⟩:=st2;refine ⟨.ref T,_,Inv.turnedL (s:={ s with heap:=h',toks:=tk }) (t':=tk) I1 hk2 f1,rfl,⟨T,x,y,rfl,hTn,rfl,fun zs q=>by rw [I.seqE_inj q hx];exact ex,fun zs q=>by rw [I.seqE_inj q hy];exact ey⟩,⟨t1,t2,t3,t4,t5⟩,fun b hb=>?_⟩;have fb:=(hf b hb).1
  by_cases e:b=T
  ·subst e;have lti:s.heap.objs.size > TI:=Heap.lt_size s2;simp only [List.mem_cons,List.not_mem_nil,or_false] at hb;rcases hb with rfl | rfl | rfl | rfl | rfl
   ·exact absurd (by simp) ap
   ·exact absurd lti (Nat.not_lt.mpr hT)
   ·exact absurd (by simp) ap
   ·exact absurd (by simp) ap
   ·exact absurd (by simp) ap
  ·rw [ah e];exact fb
 done:=by
  intro X hP hw hK hc i pins s σ H E I hf st hg;subst hP hw hK;obtain ⟨xs,ys,hx,hy,hi⟩:=hg;obtain ⟨its,rv,p,hz⟩:=I.seqE hx;obtain ⟨its2,rv2,p2,hz2⟩:=I.seqE hy;obtain ⟨s1,s2,s3,s4,s5⟩:=st;have W:=pz (ta:=ta) (tb:=tb) (prog:=X.prog) (w:=X.w) (I.ok.hd hc) z TI TO i1 i2 l1 l2 D its.toArray its2.toArray;have el:=rv.length;have el2:=rv2.length;have en:min its.toArray.size its2.toArray.size=i:=by simp only [List.size_toArray];lia
  have wsub:∀ b∈[z,TO,i1,i2],b∈[z,TI,TO,i1,i2]:=fun b hb=>by
   simp only [List.mem_cons,List.not_mem_nil,or_false] at hb ⊢;rcases hb with rfl | rfl | rfl | rfl <;> simp
  refine W.done s _ _ ?_ fun h' tk hk=>⟨rfl,I.turnedL hk fun b hb=>hf b (wsub b hb)⟩;rw [en];exact ⟨s1,s2,s3,s4,s5,p,p2⟩
 self:=fun _ _ _ _ _ st h=>wpAny_pyIter_zip st.1 h
section
variable {X:Cx} {elts:List Expr} {k:Nat} {tpos:Pos}
def wP (K:PySem.W.Frag) (te:TA):TI:=fun σ H R=>te σ H fun vs H1=>∃ (ta tb:Bool) (a b:Addr),vs=[.ref a,.ref b]∧(∃ xs,SqE ta K H1 a xs)∧(∃ ys,SqE tb K H1 b ys)∧R (km ta tb K a b) H1
theorem kn {a b:Expr} {te:TA} {p pos:Pos} (hg:Gl X "zip") (hm:X.mg "zip" = none) (ha:PA X [a,b] te) (hs:starEach [a,b] X.env=[(false,eval a X.env),(false,eval b X.env)]:=by rfl) (hs2:starEach [b] X.env=[(false,eval b X.env)]:=by rfl) :
  PI X (.Tuple elts k tpos) (.Call (.Name "zip" p) [a,b] [] pos) (wP X.K te):=by
 intro pins s σ H R I h;refine Call_ (bP I hg hm boot_zip (PyProof.Rows.callWith_type1 (thn (ha pos pins s σ H _ I h) fun us s1 ⟨vs,H1,I1,r1,q1⟩=>?_) (by rw [hs,hs2]) (by rw [hs2];rfl)));obtain ⟨ta,tb,l1,l2,e,⟨xs,hx⟩,⟨ys,hy⟩,q⟩:=q1;subst e;obtain ⟨u,v,rfl,ru,rv⟩:=r1.two
 cases ru
 cases rv
 obtain ⟨its,rr,pl,hz⟩:=I1.seqE hx;obtain ⟨its2,rr2,pl2,hz2⟩:=I1.seqE hy;have lt1:l1 < s1.heap.objs.size:=by obtain ⟨o,e,_⟩:=pl;exact Heap.lt_size e
 have lt2:l2 < s1.heap.objs.size:=by obtain ⟨o,e,_⟩:=pl2;exact Heap.lt_size e
 refine lB pl pl2 fun h' z1 z2 z3 z4 z5 zs kk=>?_;have I2:Inv X pins σ H1 { s1 with heap:=h' }:=I1.kept (t':=s1.toks) kk;refine wpAny_pyIter_zip z1 ?_;refine ⟨_,_,_,_,H1,rfl,I2,lC _ _ _ _ _ l1 l2 ?_,⟨z1,z2,⟨_,_,z3⟩,z4,z5⟩,fun b hb=>?_,q⟩
 ·have lt1':s1.heap.objs.size > l1:=lt1;have lt2':s1.heap.objs.size > l2:=lt2
  constructor <;> (show ¬ (@Eq Nat _ _)) <;> lia
 ·have:s1.heap.objs.size≤b:=by
   simp only [List.mem_cons,List.not_mem_nil,or_false] at hb;rcases hb with rfl | rfl | rfl | rfl | rfl <;> lia
  exact I1.fpOk this (I1.hok.fresh this)
end
theorem ko {K:PySem.W.Frag} {tp tq:Bool} {a b:Addr} {xs ys:List V} {g:TG} {tb:TS} {D:Ends} {σ:St} {H:Hp} (Pv:Nat→St→Hp→Prop) (h0:Pv 0 σ H) (hl:∀ i σ H,Pv i σ H→SqE tp K H a xs∧SqE tq K H b ys)
  (hs:∀ i x y T σ H,xs[i]?=some x→ys[i]?=some y→H T=none→Pv i σ H→g (.ref T) σ (upd H T (.tup [x,y])) fun σ2 H2=>tb { D with nx:=Pv (i+1),ct:=Pv (i+1),bk:=D.nx } σ2 H2) (hd:∀ σ H,Pv (min xs.length ys.length) σ H→D.nx σ H) :
  ∃ W:Nat→Nat→St→Hp→Prop,(∃ m,W 0 m σ H)∧∀ i m σ H,W i m σ H →
   ((km tp tq K a b).stop i H∧D.nx σ H)∨((km tp tq K a b).go i H∧∃ N:St→Hp→Prop,(∀ σ' H',N σ' H'→∃ m',m' < m∧W (i+1) m' σ' H')∧∀ x H',(km tp tq K a b).yld i H x H'→g x σ H' fun σ2 H2=>tb { D with nx:=N,ct:=N,bk:=D.nx } σ2 H2):=by
 refine ⟨fun i m σ H=>m=min xs.length ys.length - i∧i≤min xs.length ys.length∧Pv i σ H,⟨_,rfl,Nat.zero_le _,h0⟩,?_⟩;rintro i m σ H ⟨rfl,hi,p⟩;obtain ⟨sa,sb⟩:=hl i σ H p
 by_cases hlt:i < min xs.length ys.length
 ·obtain ⟨x,ex⟩:∃ x,xs[i]?=some x:=⟨_,List.getElem?_eq_getElem (by lia)⟩;obtain ⟨y,ey⟩:∃ y,ys[i]?=some y:=⟨_,List.getElem?_eq_getElem (by lia)⟩;refine .inr ⟨⟨xs,ys,x,y,sa,sb,ex,ey⟩,Pv (i+1),fun σ' H' p'=>⟨min xs.length ys.length - (i+1),by lia,rfl,by lia,p'⟩,fun v H' q=>?_⟩;obtain ⟨T,x',y',rfl,hT,rfl,q1,q2⟩:=q;have e1:=q1 xs sa;have e2:=q2 ys sb;rw [ex] at e1;rw [ey] at e2
  cases e1
  cases e2
  exact hs i x y T σ H ex ey hT p
 ·have e:i=min xs.length ys.length:=by lia
  subst e;exact .inl ⟨⟨xs,ys,sa,sb,rfl⟩,hd σ H p⟩
section
variable {X:Cx}
end
section
variable {X:Cx}
theorem dP {K:PySem.W.Frag} (hK:X.K=K):aG X (.builtin "divmod") (fun xs H Q=>∃ i j:Int,xs=[.int i,.int j]∧0 < j∧j < 1000000∧∀ v H',Same H H'→IsP K H' (.tup [.int (i / j),.int (i % j)]) v→Q v H'):=by
 subst hK;intro pins s σ H xs us Q I r h;obtain ⟨i,j,rfl,h0,h1,q⟩:=h;obtain ⟨u1,u2,rfl,⟨t,rfl⟩,⟨t',rfl⟩⟩:=jI r;refine divmod_int (by lia) ?_ (.inl (PyProof.noPylong_of_log2 ?_))
 ·rw [Int.fdiv_eq_ediv_of_nonneg i (by lia),Int.fmod_eq_emod_of_nonneg i (by lia)];obtain ⟨I2,hf⟩:=I.plain (t':=s.toks+1+1) (xs:=[V.int (i / j),.int (i % j)]) (us:=[.int (i / j) s.toks,.int (i % j) (s.toks+1)]) (.cons ⟨_,rfl⟩ (.cons ⟨_,rfl⟩ .nil)) (by show 2≤sizeLine;decide);obtain ⟨g,dp⟩:=dN (X:=X) (us:=[.int (i / j) s.toks,.int (i % j) (s.toks+1)]) hf (.cons .int (.cons .int .nil));exact ⟨.ref s.heap.objs.size,_,I2,rfl,q _ _ g dp⟩
 ·have h3:j.natAbs < 2 ^ 9000:=Nat.lt_of_lt_of_le (show j.natAbs < 1000000 by lia) (by decide +kernel);exact (Nat.log2_lt (by lia)).mpr h3
end
def DicG (P:Program) (w:World) (K:PySem.W.Frag) (H:Hp) (a:Addr) (kvs:List (List Key×Dt)):Prop:=DicT P w K H a kvs∨(kvs=[]∧H a=some (.dK []))
section
variable {X:Cx} {pins:List (Addr×Obj)} {σ:St} {H:Hp} {s:Shared}
theorem lD {a:Addr} (I:Inv X pins σ H s) (e:H a=some (.dK [])):(a == sysModules)=false∧s.heap.DictOfH (tupleKind (ag X.prog X.w)) a []:=by
 obtain ⟨_,hd,vs,rel,⟨ob,es,ep,h1,h2,h3,h4,h5,h6⟩⟩:=rp I.hok e
 cases rel
 refine ⟨hd,ob,es,ep,h1,h2,h3,?_,fun x hx=>by simp at hx,by simp⟩;have:=h5.length
 simpa using this
theorem DicG.dict {a:Addr} {kvs:List (List Key×Dt)} (I:Inv X pins σ H s) (h:DicG X.prog X.w X.K H a kvs):(a == sysModules)=false∧Mut (H a)∧∃ xs:List (List Key×Addr×Value),s.heap.DictOfH (tupleKind (ag X.prog X.w)) a xs ∧
  Paired (fun (a:List Key×Dt) (b:List Key×Addr×Value)=>a.1=b.1∧IsP X.K H (.tup (a.1.map kDt)) (.ref b.2.1)∧∃ v,RelV v b.2.2∧IsP X.K H a.2 v) kvs xs:=by
 rcases h with g | ⟨rfl,g⟩
 ·obtain ⟨hd,xs,dd,r⟩:=g.dict I;obtain ⟨_,xs',e,_⟩:=g;exact ⟨hd,by rw [e];exact True.intro,xs,dd,r⟩
 ·obtain ⟨hd,dd⟩:=lD I g;exact ⟨hd,by rw [g];exact True.intro,[],dd,.nil⟩
end
section
variable {X:Cx}
def Dx (P:Program) (w:World) (K:PySem.W.Frag) (ty td:TE):TE:=fun σ H Q=>ty σ H fun y H1=>td σ H1 fun x H2=>∃ a b kvs k,x=.ref a∧y=.ref b∧DicG P w K H2 a kvs∧IsP K H2 (.tup (k.map kDt)) (.ref b)∧Q (.bl (eD kvs k).isSome) H2
theorem qP {P:Program} {w:World} {K:PySem.W.Frag} {i o:Expr} {td ty:TE} (hP:X.prog=P) (hw:X.w=w) (hK:X.K=K) (hu:X.A.units+1 < cLine) (hi:PE X i ty) (ho:PE X o td):PC X .In i o (Dx P w K ty td):=by
 subst hP hw hK;intro pins s σ H Q I h;refine thn (hi pins s σ H _ I h) fun iv s1 ⟨y,H1,I1,ry,q1⟩=>thn (ho pins s1 σ H1 _ I1 q1) fun u s2 ⟨x,H2,I2,rx,a,b,kvs,k,ex,ey,g,hk,q2⟩=>?_;subst ex ey;obtain rfl:u=Value.ref a:=rx;obtain rfl:iv=Value.ref b:=ry;obtain ⟨hd,_,xs,dd,rel⟩:=g.dict I2;refine wpAny_in_heap (tupleKind_room_in1 hu) (dO I2 hk) hd dd ?_;rcases fG (k:=k) rel with ⟨e1,e2⟩ | ⟨z,p,v,e1,e2,rv,iv⟩
 ·rw [e2];exact ⟨.bl (eD kvs k).isSome,H2,I2.tok _,(by rw [e1];rfl),q2⟩
 ·rw [e2];exact ⟨.bl (eD kvs k).isSome,H2,I2.tok _,(by rw [e1];rfl),q2⟩
def wQ (P:Program) (w:World) (K:PySem.W.Frag) (td ty tv:TE):TS:=fun D σ H=>tv σ H fun v H1=>td σ H1 fun x H2=>ty σ H2 fun y H3=>∃ a b kvs k d,x=.ref a∧y=.ref b∧DicG P w K H3 a kvs∧IsP K H3 (.tup (k.map kDt)) (.ref b)∧IsP K H3 d v∧eD kvs k=none∧kvs.length≤1000 ∧
 ∀ H4,But a H3 H4→Mut (H3 a)→DicG P w K H4 a (kvs++[(k,d)])→D.nx σ H4
theorem pA {P:Program} {w:World} {K:PySem.W.Frag} {o i value:Expr} {pos pos':Pos} {td ty tv:TE} (hP:X.prog=P) (hw:X.w=w) (hK:X.K=K) (hu:X.A.units+1 < cLine) (ho:PE X o td) (hi:PE X i ty) (hv:PE X value tv) (hs:swapsWith value (some (.Subscript o i pos')) pos.line X.env=pure false) :
  PS X (.Assign [.Subscript o i pos'] value pos) (wQ P w K td ty tv):=by
 subst hP hw hK;intro pins s σ H D I h;refine wpAny_Assign_Subscript (thn (hv pins s σ H _ I h) fun r s1 ⟨v,H1,I1,rv,q1⟩=>thn (ho pins s1 σ H1 _ I1 q1) fun u s2 ⟨x,H2,I2,rx,q2⟩=>thn (hi pins s2 σ H2 _ I2 q2) fun iv s3 ⟨y,H3,I3,ry,a,b,kvs,k,d,ex,ey,g,hk,hdv,nk,hl,q3⟩=>?_) hs;subst ex ey;obtain rfl:u=Value.ref a:=rx;obtain rfl:iv=Value.ref b:=ry;obtain ⟨hd,mu,xs,dd,rel⟩:=g.dict I3;have lx:=Paired.length rel;have e2:atKey xs k=none:=by
  rcases fG (k:=k) rel with ⟨_,e2⟩ | ⟨z,p,v,e1,_⟩
  ·exact e2
  ·rw [nk] at e1;cases e1
 refine wpAny_setItem_heap (knd:=tupleKind (ag X.prog X.w)) (tupleKind_room_in1 hu) (dO I3 hk) dd (fun h' dd' hs=>?_) (Nat.le_trans (show xs.length≤1000 by lia) (by decide));rw [storedH_new e2] at dd';obtain ⟨ob,es,ep,m1,m2,m3,m4,m5,m6⟩:=dd';have notT:∀ {d:Dt} {v:V},IsP X.K H3 d v→IsP X.K (upd H3 a (.ext (j7 X.prog X.w a (xs++[(k,b,r)])))) d v:=fun h=>cU mu But.put h;refine ⟨σ,upd H3 a (.ext (j7 X.prog X.w a (xs++[(k,b,r)]))),?_,q3 _ But.put mu (.inl ⟨hd,xs++[(k,b,r)],ac,Paired.snoc (L2.Paired.mapP rel fun p q ⟨z1,z2,v,z3,z4⟩=>⟨z1,notT z2,v,z3,notT z4⟩) ⟨rfl,notT hk,v,rv,notT hdv⟩⟩)⟩;exact iO (ob:=.ext (j7 X.prog X.w a (xs++[(k,b,r)]))) I3 mu hs ⟨ob,m1⟩ ⟨⟨ob,es,ep,m1,m2,m3,m4,m6⟩,⟨ob,m1⟩,fun x1 x2 ⟨o',es',ep',g1,g⟩ kk=>⟨o',es',ep',kk o' g1,g⟩⟩
end
section
variable {P:Program} {w:World} {A:Around} {E:Value→Shared→Prop} {s:Shared}
theorem nJ {R:Result→Shared→Prop} {q:Addr} {x y:Int} {k1 k2 k3:Tok} {n:Nat} (free:A.handled=none) (rq:IsRange s.heap q x y 1 k1 k2 k3) (big:Builtin.Range.small x y 1=false) (en:Builtin.Range.rangeSize x y 1=n) (n1000:n≤1000) (S:Addr) (out:Value) (g0:Nat) (eS:s.heap.get? S=some { cls:=.type "list",data:=.seq #[] g0 })
  (fin:∀ h2 tk acc g,(∀ b o,b≠S→s.heap.get? b=some o→h2.get? b=some o)→h2.get? S=some { cls:=.type "list",dict:=none,data:=.seq acc g,slots:=#[] }→ItemsOf (fun i v=>∃ t,v=.int (x+i*1) t) acc n→R (.ok (.ret out)) { s with heap:=h2,toks:=tk }) :
  wpAny (model P w) A.in1 (Builtin.List.listExtendWith (.ref S) (.ref q) out) (fun z s'=>match z with | .done f=>R (.ok f) s' | .again cd=>cd.quiet=true∧codeAny (model P w) A cd R s') (fun e s'=>R (.error e) s') s:=by
 have apart:S≠q:=fun e=>by rw [e,rq] at eS;simp at eS
 have below:S < s.heap.objs.size:=Heap.lt_size eS;have ne:S≠s.heap.objs.size:=Nat.ne_of_lt below
 let io:Obj:={ cls:=.type "longrange_iterator",data:=.fields #[rawInt x,rawInt (Builtin.Range.rangeSize x y 1),rawInt 1] }
 have go:∀ (h:Heap) (g tk:Nat),IsLongIter h s.heap.objs.size (x+((0:Nat):Int)*1) ((n:Int) - ((0:Nat):Int)) 1→(∀ b o,b≠S→s.heap.get? b=some o→h.get? b=some o)→h.get? S=some { cls:=.type "list",data:=.seq #[] g } →
   codeAny (model P w) A (.builtin "list.extend.loop" ⟨[.ref S,.ref s.heap.objs.size,out],[]⟩) R { s with heap:=h,toks:=tk }:=fun h g tk st kp hS=>by
  refine codeAny_extend_loopS ((Walks.longrange (prog:=P) (w:=w) (A:=A.in1) free s.heap.objs.size x 1 n).toS) (by rw [sizeLine_eq];lia) S (fun m=>ne (List.mem_singleton.mp m)) out n 0 _ #[] g rfl (Nat.zero_le _) st hS (ItemsOf.nil _) fun s2 acc g2 mv hS2 its=>?_;rw [Moved.eq_with mv];refine fin s2.heap s2.toks acc g2 (fun b o nb e=>mv.heap b o (fun m=>?_) (kp b o nb e)) hS2 its;rcases List.mem_cons.mp m with z | m
  ·exact nb z
  ·exact Nat.lt_irrefl _ (List.mem_singleton.mp m ▸ Heap.lt_size e)
 unfold Builtin.List.listExtendWith;refine wpAny_bind (wpAny_typeOf (T:= "range") ⟨_,rq,rfl⟩ ?_);simp only [show Builtin.List.listSameRef (.ref S) (.ref q)=false by simp [Builtin.List.listSameRef,apart],show (Value.type "range" == Value.type "list")=false by decide,show (Value.type "range" == Value.type "tuple")=false by decide,Bool.or_false,Bool.false_eq_true,if_false];refine wpAny_bind (wpAny_pyIter_longrange rq big ?_);refine wpAny_bind (wpAny_holding (wpAny_hint_range (n:=n) (Heap.get?_push_of_some _ rq) en (by lia) ?_));have st:IsLongIter (s.heap.push io) s.heap.objs.size (x+((0:Nat):Int)*1) ((n:Int) - ((0:Nat):Int)) 1:=by
  show IsLongIter _ _ _ _ _;rw [show io={ cls:=.type "longrange_iterator",data:=.fields #[rawInt x,rawInt (Builtin.Range.rangeSize x y 1),rawInt 1] } from rfl,en]
  simpa using Heap.get?_push_size _ rfl
 have e1:=Heap.get?_push_of_some io eS;refine wpAny_ite_split (fun _=>?_) (fun _=>wpAny_pure ⟨plainId_quiet F.plain_extend_loop _,go _ g0 _ st (fun b o _ e=>Heap.get?_push_of_some _ e) e1⟩);refine wpAny_bind (wpAny_rule (wpAny_bind ?_));refine show wpAny _ _ (updateSeq S (·.push .none) >>= fun _=>updateSeq S (·.pop)) _ _ _ from wpAny_bind (wpAny_updateSeq e1 rfl ?_);have e2:=Heap.get?_update_self (Obj.mapSeq (·.push Value.none)) e1 rfl;refine wpAny_updateSeq (hz:=by seq_fits) e2 rfl ?_;have e3:=Heap.get?_update_self (Obj.mapSeq (·.pop)) e2 rfl;refine wpAny_pure ⟨plainId_quiet F.plain_extend_loop _,go _ _ _ ((Heap.get?_update_other _ _ ne).trans ((Heap.get?_update_other _ _ ne).trans st)) (fun b o nb e=>?_) e3⟩;exact (Heap.get?_update_other _ _ nb.symm).trans ((Heap.get?_update_other _ _ nb.symm).trans (Heap.get?_push_of_some _ e))
theorem nK {R:Result→Shared→Prop} {q:Addr} {x y:Int} {k1 k2 k3:Tok} {n:Nat} (free:A.handled=none) (rq:IsRange s.heap q x y 1 k1 k2 k3) (big:Builtin.Range.small x y 1=false) (en:Builtin.Range.rangeSize x y 1=n) (n1000:n≤1000) (S:Addr) (eS:s.heap.get? S=some { cls:=.type "list",data:=.seq #[] })
  (fin:∀ h2 tk acc g,(∀ b o,b≠S→s.heap.get? b=some o→h2.get? b=some o)→h2.get? S=some { cls:=.type "list",dict:=none,data:=.seq acc g,slots:=#[] }→ItemsOf (fun i v=>∃ t,v=.int (x+i*1) t) acc n→R (.ok (.ret .none)) { s with heap:=h2,toks:=tk }) :
  wpAny (model P w) A.in1 (Builtin.«list.__init__» ⟨[.ref S,.ref q],[]⟩) (fun z s'=>match z with | .done f=>R (.ok f) s' | .again cd=>cd.quiet=true∧codeAny (model P w) A cd R s') (fun e s'=>R (.error e) s') s:=by
 have apart:S≠q:=fun e=>by rw [e,rq] at eS;simp at eS
 refine show wpAny _ _ (do let old ← Builtin.List.listItems (.ref S);Builtin.List.listUpdate (.ref S) (fun _=>#[]);letGo old.toList.reverse;Builtin.List.listExtendWith (.ref S) (.ref q) .none) _ _ s from wpAny_bind ?_;unfold Builtin.List.listItems;refine wpAny_bind (wpAny_seqItems eS rfl (wpAny_pure ?_));refine show wpAny _ _ (updateSeq S (fun _=>#[]) >>= fun _=>letGo (#[]:Array Value).toList.reverse >>= fun _=>Builtin.List.listExtendWith (.ref S) (.ref q) .none) _ _ s from wpAny_bind (wpAny_updateSeq eS rfl ?_);have e2:=Heap.get?_update_self (Obj.mapSeq (fun _=>(#[]:Array Value))) eS rfl;have kp:∀ b o,b≠S→s.heap.get? b=some o→(s.heap.update S (Obj.mapSeq (fun _=>(#[]:Array Value)))).get? b=some o:=fun b o nb e=>(Heap.get?_update_other _ _ nb.symm).trans e;refine wpAny_bind (wpAny_letGo (nJ free (kp q _ apart.symm rq) big en n1000 S .none _ e2 fun h2 tk acc g k2 hS its=>?_));exact fin h2 tk acc g (fun b o nb e=>k2 b o nb (kp b o nb e)) hS its
theorem lE {Q:Value→Shared→Prop} {q:Addr} {x y:Int} {k1 k2 k3:Tok} {n:Nat} (free:A.handled=none) (rq:IsRange s.heap q x y 1 k1 k2 k3) (en:Builtin.Range.rangeSize x y 1=n) (n1000:n≤1000)
  (fin:∀ h2 tk acc g,(∀ b o,s.heap.get? b=some o→h2.get? b=some o)→h2.get? s.heap.objs.size=some { cls:=.type "list",dict:=none,data:=.seq acc g,slots:=#[] }→ItemsOf (fun i v=>∃ t,v=.int (x+i*1) t) acc n→Q (.ref s.heap.objs.size) { s with heap:=h2,toks:=tk }) :
  wpAny (model P w) A (call (.type "list") [.ref q]) Q E s:=by
 cases small:Builtin.Range.small x y 1
 ·refine callType_codes (Q₁:=fun obj s1=>obj=.ref s.heap.objs.size∧s1={ s with heap:=s.heap.push { cls:=.type "list",data:=.seq #[] } }) F.called_list (F.typeCall_list_1 _) F.entry_list_init (code_list_new _ ⟨rfl,rfl⟩) fun obj s1 h1=>?_;obtain ⟨rfl,rfl⟩:=h1;have eS:(s.heap.push { cls:=.type "list",data:=.seq #[] }).get? s.heap.objs.size=some { cls:=.type "list",data:=.seq #[] }:=Heap.get?_push_size _ rfl;refine ⟨⟨_,eS,rfl⟩,F.args_list_init_2 _ _,nK (A:=A.in1) free (Heap.get?_push_of_some _ rq) small en n1000 _ eS fun h2 tk acc g kp hS its=>⟨rfl,fin h2 tk acc g (fun b o e=>kp b o (Nat.ne_of_lt (Heap.lt_size e)) (Heap.get?_push_of_some _ e)) hS its⟩⟩
 ·exact call_list_range free rq small en (by lia) fin
end
section
variable {X:Cx}
def nL (ta:TA):TE:=fun σ H Q=>ta σ H fun vs H1=>∃ i j:Int,vs=[.int i,.int j]∧i≤j∧j≤i+1000∧∀ p,H1 p=none→Q (.ref p) (upd H1 p (.lst ((List.range (j - i).toNat).map fun (k:Nat)=>V.int (i+k))))
theorem kq {a b:Expr} {ta:TA} {p1 p2 pos1 pos2:Pos} (hc:X.calm=true) (hg1:Gl X "list") (hm1:X.mg "list" = none) (hg2:Gl X "range") (hm2:X.mg "range" = none) (ha:PA X [a,b] ta) (hs:starEach [a,b] X.env=[(false,eval a X.env),(false,eval b X.env)]:=by rfl) (hs2:starEach [b] X.env=[(false,eval b X.env)]:=by rfl) :
  PE X (.Call (.Name "list" p1) [.Call (.Name "range" p2) [a,b] [] pos2] [] pos1) (nL ta):=by
 intro pins s σ H Q I h;refine wpAny_Call_Name_kw (bP I hg1 hm1 (u:=.type "list") rfl ?_);refine PyProof.Rows.callWith_type1 ?_ rfl rfl;refine show wpAny _ _ (spliced ((false,eval (.Call (.Name "range" p2) [a,b] [] pos2) X.env) :: backTo pos1 (starEach [] X.env))) _ _ s from Calls.spliced_cons ?_;refine Call_ (bP I hg2 hm2 boot_range (PyProof.Rows.callWith_type1 (thn (ha pos2 pins s σ H _ I h) fun us s1 ⟨vs,H1,I1,r1,q1⟩=>?_) (by rw [hs,hs2]) (by rw [hs2];rfl)));obtain ⟨i,j,e,k2,k3,q⟩:=q1;subst e;obtain ⟨u1,u2,rfl,⟨t,rfl⟩,⟨t',rfl⟩⟩:=jI r1;refine call_range_2 (Calls.spliced_nil ?_);refine lE (n:=(j - i).toNat) (I1.ok.hd hc) (IsRange.new ..) (by rw [rangeSize_one];split <;> lia) (by lia) fun h' tk acc c kk ls out=>?_;have low:s1.heap.objs.size≤(s1.heap.push { cls:=.type "range",data:=.fields #[.int i t,.int j t',.int 1 s1.toks] }).objs.size:=by rw [Heap.size_push];exact Nat.le_succ _
 refine ⟨.ref _,_,I1.laid (t':=tk) (o:=.lst ((List.range (j - i).toNat).map fun (k:Nat)=>V.int (i+k))) (fun b ob q=>kk b ob (Heap.get?_push_of_some _ q)) low ?_,rfl,q _ (I1.hok.fresh low)⟩;obtain ⟨o1,o2⟩:=out;refine ⟨by rw [List.length_map,List.length_range];exact Nat.le_trans (show (j - i).toNat≤2000 by lia) (by decide),acc.toList,c,?_,by rw [Array.toArray_toList];exact ls⟩;rw [List.range_eq_range'];exact mm (f:=fun k=>i+k) _ 0 (by rw [Array.length_toList,o1]) fun j v hv=>by
  obtain ⟨t,e⟩:=o2 j v (by simpa using hv);exact ⟨t,by rw [e,Nat.zero_add,Int.mul_one]⟩
end
end L2
namespace K26
open PySem L2 PyProof.Rows
abbrev eJ:Stmt:=top 16
abbrev dr:Stmt:=top 17
abbrev aW:Stmt:=top 18
abbrev cD:Stmt:=top 19
abbrev aT:Stmt:=top 20
abbrev cE:Stmt:=top 21
abbrev cg:Stmt:=top 22
abbrev cF:Stmt:=top 23
abbrev aM:Stmt:=top 24
abbrev bE:Stmt:=top 25
abbrev bF:Stmt:=top 26
abbrev ci:Stmt:=top 27
abbrev cG:Stmt:=top 28
abbrev bG:Stmt:=top 29
abbrev bN:Stmt:=top 30
abbrev nQ:Stmt:=top 33
abbrev rg:Stmt:=top 34
abbrev jm:Stmt:=top 35
abbrev gH:Stmt:=top 36
abbrev gI:Stmt:=top 37
abbrev f9:Stmt:=top 38
abbrev jn:Stmt:=top 39
abbrev kN:Stmt:=top 40
abbrev gJ:Stmt:=top 41
abbrev du:Stmt:=top 42
abbrev bO:Stmt:=top 43
abbrev bR:Stmt:=top 44
abbrev aN:Stmt:=top 45
abbrev jo:Stmt:=top 52
abbrev kO:Stmt:=top 53
abbrev eK:Stmt:=top 54
abbrev cH:Stmt:=top 55
abbrev gK:Stmt:=top 56
abbrev jp:Stmt:=top 57
abbrev eL:Stmt:=top 58
abbrev gc:Stmt:=top 59
abbrev fo:Stmt:=top 60
abbrev gd:Stmt:=top 61
abbrev lV:Stmt:=top 62
abbrev jq:Stmt:=top 63
abbrev kP:Stmt:=top 64
abbrev pV:Stmt:=top 65
abbrev kQ:Stmt:=top 66
abbrev gL:Stmt:=top 67
abbrev bS:Stmt:=top 70
abbrev cj:Stmt:=top 71
abbrev bn:Stmt:=top 72
abbrev a9:Stmt:=top 73
abbrev eM:Stmt:=top 74
abbrev ck:Stmt:=top 75
abbrev cI:Stmt:=top 76
abbrev bT:Stmt:=top 77
abbrev nR:Stmt:=top 78
abbrev ge:Stmt:=top 79
abbrev cm:Stmt:=top 80
abbrev cn:Stmt:=top 81
abbrev cp:Stmt:=top 82
abbrev eO:Stmt:=top 83
abbrev bU:Stmt:=top 84
abbrev bq:Stmt:=top 85
abbrev cq:Stmt:=top 86
abbrev bV:Stmt:=top 87
abbrev pW:Stmt:=top 88
abbrev pX:Stmt:=top 89
abbrev dv:Stmt:=top 90
abbrev bo:Stmt:=top 91
abbrev bH:Stmt:=top 92
abbrev cJ:Stmt:=top 93
abbrev cK:Stmt:=top 95
abbrev cr:Stmt:=top 96
abbrev cL:Stmt:=top 97
abbrev mG:Stmt:=top 98
theorem lW:FnScope ["text"] ["text"] (aa eJ):=by constructor <;> first | rfl | decide +kernel
theorem kR:FnScope ["thing"] ["thing"] (aa dr):=by constructor <;> first | rfl | decide +kernel
theorem dz:FnScope ["thing","low","high"] ["thing","low","high"] (aa aW):=by constructor <;> first | rfl | decide +kernel
theorem jr:FnScope ["kind"] ["kind"] (aa cD):=by constructor <;> first | rfl | decide +kernel
theorem sc_is_formed:FnScope ["thing","room","word"] ["thing","room"] (aa aT):=by constructor <;> first | rfl | decide +kernel
theorem js:FnScope ["thing"] ["thing"] (aa cE):=by constructor <;> first | rfl | decide +kernel
theorem gM:FnScope ["low","high"] ["low","high"] (aa cg):=by constructor <;> first | rfl | decide +kernel
theorem jt:FnScope ["words"] ["words"] (aa cF):=by constructor <;> first | rfl | decide +kernel
theorem c9:FnScope ["fields","room","names"] ["fields","room"] (aa aM):=by constructor <;> first | rfl | decide +kernel
theorem kS:FnScope ["field","room"] ["field","room"] (aa bE):=by constructor <;> first | rfl | decide +kernel
theorem sc_are_rows:FnScope ["key","items","room","key_kind"] ["key","items","room"] (aa bF):=by constructor <;> first | rfl | decide +kernel
theorem bW:FnScope ["kind","name","own","inner"] ["kind","name"] (aa ci):=by constructor <;> first | rfl | decide +kernel
theorem ju:FnScope ["kind"] ["kind"] (aa cG):=by constructor <;> first | rfl | decide +kernel
theorem cu:FnScope ["kind","inner"] ["kind"] (aa bG):=by constructor <;> first | rfl | decide +kernel
theorem jv:FnScope ["kind"] ["kind"] (aa bN):=by constructor <;> first | rfl | decide +kernel
theorem cM:FnScope ["record","name","own","value"] ["record","name"] (aa du):=by constructor <;> first | rfl | decide +kernel
theorem jw:FnScope ["fields"] ["fields"] (aa bO):=by constructor <;> first | rfl | decide +kernel
theorem aX:FnScope ["record","names","values","fields","name","value"] ["record","names","values"] (aa bR):=by constructor <;> first | rfl | decide +kernel
theorem dZ:FnScope ["record","names"] ["record","names"] (aa aN):=by constructor <;> first | rfl | decide +kernel
theorem lX:FnScope ["number","low","high"] ["number","low","high"] (aa eK):=by constructor <;> first | rfl | decide +kernel
theorem jx:FnScope ["thing"] ["thing"] (aa cH):=by constructor <;> first | rfl | decide +kernel
theorem cN:FnScope ["piece","word"] ["piece"] (aa bS):=by constructor <;> first | rfl | decide +kernel
theorem da:FnScope ["piece","word"] ["piece"] (aa cj):=by constructor <;> first | rfl | decide +kernel
theorem sc_record_behind:FnScope ["piece","kind","kinds"] ["piece","kind"] (aa bn):=by constructor <;> first | rfl | decide +kernel
theorem sc_has_piece_form:FnScope ["piece","form"] ["piece"] (aa a9):=by constructor <;> first | rfl | decide +kernel
theorem lY:FnScope ["part","sort"] ["part","sort"] (aa eM):=by constructor <;> first | rfl | decide +kernel
theorem cO:FnScope ["piece","kind","paths","kinds"] ["piece","kind"] (aa ck):=by constructor <;> first | rfl | decide +kernel
theorem br:FnScope ["kind","path","here","name"] ["kind","path"] (aa cI):=by constructor <;> first | rfl | decide +kernel
theorem cP:FnScope ["piece","kinds","word"] ["piece","kinds"] (aa bT):=by constructor <;> first | rfl | decide +kernel
theorem gN:FnScope ["low","high","factor"] ["low","high","factor"] (aa cm):=by constructor <;> first | rfl | decide +kernel
theorem de:FnScope ["piece","kinds","word"] ["piece","kinds"] (aa cn):=by constructor <;> first | rfl | decide +kernel
theorem cQ:FnScope ["piece","kind","paths","rest"] ["piece","kind"] (aa cp):=by constructor <;> first | rfl | decide +kernel
theorem gf:FnScope ["kind","path","outer"] ["kind","path"] (aa eO):=by constructor <;> first | rfl | decide +kernel
theorem bI:FnScope ["piece","kind","word","elder"] ["piece","kind"] (aa bU):=by constructor <;> first | rfl | decide +kernel
theorem gO:FnScope ["piece","record"] ["piece","record"] (aa bq):=by constructor <;> first | rfl | decide +kernel
theorem bg:FnScope ["record","path","here","name"] ["record","path"] (aa cq):=by constructor <;> first | rfl | decide +kernel
theorem cR:FnScope ["piece","kind","values","word"] ["piece","kind","values"] (aa bV):=by constructor <;> first | rfl | decide +kernel
theorem bi:FnScope ["piece","kind","record","values","told","path","value"] ["piece","kind","record","values"] (aa dv):=by constructor <;> first | rfl | decide +kernel
theorem aO:FnScope ["piece","record","rest","path"] ["piece","record"] (aa bo):=by constructor <;> first | rfl | decide +kernel
theorem fq:FnScope ["record","path","box"] ["record","path"] (aa bH):=by constructor <;> first | rfl | decide +kernel
theorem jy:FnScope ["record","path","value","box"] ["record","path","value"] (aa cJ):=by constructor <;> first | rfl | decide +kernel
theorem d0:FnScope ["cell","k","stir"] ["cell","k"] (aa cK):=by constructor <;> first | rfl | decide +kernel
theorem aB:FnScope ["script","k","cell","j","found"] ["script","k"] (aa cr):=by constructor <;> first | rfl | decide +kernel
theorem ed:FnScope ["row","many","digit"] ["row","many"] (aa cL):=by constructor <;> first | rfl | decide +kernel
theorem aF:FnScope ["script","j","row","low","high","k","kind","part","behind","about","met","first","number","parts","turn","one","two","due"] ["script"] (aa mG):=by constructor <;> first | rfl | decide +kernel
theorem pi1 {K:PySem.W.Frag} {X:Cx} {a:Expr} {ta:TE} {i j pos pos'} (hK:X.K=K) (ha:PE X a ta):PE X (.Subscript a (.Constant (.int i) j pos) pos') (tOp (Di K) ta (tC (.int i))):=cY (fF hK) ha pe_int fun _ _=>rfl
theorem isS {K : PySem.W.Frag} {H : Hp} {z : Str} {Q : V → Prop} (h : Q (.str z)) : ∀ v, IsP K H (.str z) v → Q v := fun v hv => by cases hv; exact h
theorem isI {K : PySem.W.Frag} {H : Hp} {z : Int} {Q : V → Prop} (h : Q (.int z)) : ∀ v, IsP K H (.int z) v → Q v := fun v hv => by cases hv; exact h
theorem sz1 : 1 ≤ sizeLine := by decide
theorem sz2 : 2 ≤ sizeLine := by decide
theorem sz3 : 3 ≤ sizeLine := by decide
theorem pcl {X:Cx} {x:Str} {st:Stmt} {ps:List Str} {f:Addr} {fd:FuncData} {k:Nat} {sp:Sp} {e:Expr} {es:List Expr} {t:TA} {p pos:Pos} (D:Gn X.K X.mg x st ps f fd) (F:FnOk X.prog X.w X.K X.mg X.base CX0 k f fd ps sp) (hr:Room k X.A) (hg:Gl X x) (ha:PA X (e :: es) t) (hdb:(x == ("__debug__" : Str))=false:=by decide) (he:starEach (e :: es) X.env=(false,eval e X.env) :: starEach es X.env:=by rfl) (hpl:(backTo pos (starEach es X.env)).any (·.1)=false:=by rfl):PE X (.Call (.Name x p) (e :: es) [] pos) (rl sp [] E0 t):=pe_call F hr hg D.m D.F.kp D.b .nil C5 ha hdb he hpl
theorem pa1 {X:Cx} {e:Expr} {te:TE} (ha:PE X e te) (hs:starEach [e] X.env=(false,eval e X.env) :: starEach [] X.env):PA X [e] (cx te mP):=pa_cons ha iA hs
theorem pa2 {X:Cx} {e f:Expr} {te tf:TE} (ha:PE X e te) (hb:PE X f tf) (hs:starEach [e,f] X.env=(false,eval e X.env) :: starEach [f] X.env) (ht:starEach [f] X.env=(false,eval f X.env) :: starEach [] X.env):PA X [e,f] (cx te (cx tf mP)):=pa_cons ha (pa_cons hb iA ht) hs
theorem pa3 {X:Cx} {e f g:Expr} {te tf tg:TE} (ha:PE X e te) (hb:PE X f tf) (hc:PE X g tg) (hs:starEach [e,f,g] X.env=(false,eval e X.env) :: starEach [f,g] X.env) (ht:starEach [f,g] X.env=(false,eval f X.env) :: starEach [g] X.env) (hu:starEach [g] X.env=(false,eval g X.env) :: starEach [] X.env):PA X [e,f,g] (cx te (cx tf (cx tg mP))):=pa_cons ha (pa_cons hb (pa_cons hc iA hu) ht) hs
structure Ads where
 HandError:Addr
 BadKind:Addr
 BadTurn:Addr
 BadPiece:Addr
structure Tx (K:PySem.W.Frag) (mg:Str→Option Value) (ad:Ads):Prop where
 is_name:∃ f fd,Gn K mg "is_name" eJ ["text"] f fd
 is_whole:∃ f fd,Gn K mg "is_whole" dr ["thing"] f fd
 is_whole_within:∃ f fd,Gn K mg "is_whole_within" aW ["thing","low","high"] f fd
 made_kind:∃ f fd,Gn K mg "made_kind" cD ["kind"] f fd
 is_formed:∃ f fd,Gn K mg "is_formed" aT ["thing","room"] f fd
 has_parts:∃ f fd,Gn K mg "has_parts" cE ["thing"] f fd
 are_bounds:∃ f fd,Gn K mg "are_bounds" cg ["low","high"] f fd
 are_words:∃ f fd,Gn K mg "are_words" cF ["words"] f fd
 are_fields:∃ f fd,Gn K mg "are_fields" aM ["fields","room"] f fd
 is_field:∃ f fd,Gn K mg "is_field" bE ["field","room"] f fd
 are_rows:∃ f fd,Gn K mg "are_rows" bF ["key","items","room"] f fd
 field_kind:∃ f fd,Gn K mg "field_kind" ci ["kind","name"] f fd
 item_kind:∃ f fd,Gn K mg "item_kind" cG ["kind"] f fd
 kinds_within:∃ f fd,Gn K mg "kinds_within" bG ["kind"] f fd
 kind_many:∃ f fd,Gn K mg "kind_many" bN ["kind"] f fd
 is_sign:∃ f fd,Gn K mg "is_sign" nQ ["letter"] f fd
 is_of:∃ f fd,Gn K mg "is_of" rg ["value","kind"] f fd
 is_text_of:∃ f fd,Gn K mg "is_text_of" jm ["value","most"] f fd
 holds_tuple:∃ f fd,Gn K mg "holds_tuple" gH ["value","word"] f fd
 holds_items:∃ f fd,Gn K mg "holds_items" gI ["value","word","kind","most"] f fd
 is_record_of:∃ f fd,Gn K mg "is_record_of" f9 ["value","fields"] f fd
 is_pair_of:∃ f fd,Gn K mg "is_pair_of" jn ["pair","field"] f fd
 are_keyed:∃ f fd,Gn K mg "are_keyed" kN ["items","key"] f fd
 least_value:∃ f fd,Gn K mg "least_value" gJ ["kind"] f fd
 field_of:∃ f fd,Gn K mg "field_of" du ["record","name"] f fd
 record_of:∃ f fd,Gn K mg "record_of" bO ["fields"] f fd
 with_fields:∃ f fd,Gn K mg "with_fields" bR ["record","names","values"] f fd
 without_fields:∃ f fd,Gn K mg "without_fields" aN ["record","names"] f fd
 figures_of:∃ f fd,Gn K mg "figures_of" jo ["number"] f fd
 number_of:∃ f fd,Gn K mg "number_of" kO ["text"] f fd
 nearest:∃ f fd,Gn K mg "nearest" eK ["number","low","high"] f fd
 is_factor:∃ f fd,Gn K mg "is_factor" cH ["thing"] f fd
 kind_behind:∃ f fd,Gn K mg "kind_behind" gK ["turn","kind"] f fd
 is_turn_of:∃ f fd,Gn K mg "is_turn_of" jp ["turn","kind"] f fd
 has_turn_parts:∃ f fd,Gn K mg "has_turn_parts" eL ["thing"] f fd
 most_figures:∃ f fd,Gn K mg "most_figures" gc ["low","high"] f fd
 are_led_words:∃ f fd,Gn K mg "are_led_words" fo ["forth","back","elder"] f fd
 words_behind:∃ f fd,Gn K mg "words_behind" gd ["back"] f fd
 led_kind:∃ f fd,Gn K mg "led_kind" lV ["turn","kind"] f fd
 turn_about:∃ f fd,Gn K mg "turn_about" jq ["turn","kind"] f fd
 led_about:∃ f fd,Gn K mg "led_about" kP ["turn","kind"] f fd
 turned:∃ f fd,Gn K mg "turned" pV ["turn","kind","value"] f fd
 led_value:∃ f fd,Gn K mg "led_value" kQ ["turn","kind","value"] f fd
 read_number:∃ f fd,Gn K mg "read_number" gL ["text","kind"] f fd
 taken_paths:∃ f fd,Gn K mg "taken_paths" bS ["piece"] f fd
 made_paths:∃ f fd,Gn K mg "made_paths" cj ["piece"] f fd
 record_behind:∃ f fd,Gn K mg "record_behind" bn ["piece","kind"] f fd
 has_piece_form:∃ f fd,Gn K mg "has_piece_form" a9 ["piece"] f fd
 is_part:∃ f fd,Gn K mg "is_part" eM ["part","sort"] f fd
 can_take:∃ f fd,Gn K mg "can_take" ck ["piece","kind"] f fd
 kind_down:∃ f fd,Gn K mg "kind_down" cI ["kind","path"] f fd
 takes_kinds:∃ f fd,Gn K mg "takes_kinds" bT ["piece","kinds"] f fd
 is_kind:∃ f fd,Gn K mg "is_kind" nR ["thing"] f fd
 is_separator:∃ f fd,Gn K mg "is_separator" ge ["text"] f fd
 part_kinds:∃ f fd,Gn K mg "part_kinds" cm ["low","high","factor"] f fd
 made_kinds:∃ f fd,Gn K mg "made_kinds" cn ["piece","kinds"] f fd
 can_make:∃ f fd,Gn K mg "can_make" cp ["piece","kind"] f fd
 is_free:∃ f fd,Gn K mg "is_free" eO ["kind","path"] f fd
 piece_about:∃ f fd,Gn K mg "piece_about" bU ["piece","kind"] f fd
 old_values:∃ f fd,Gn K mg "old_values" bq ["piece","record"] f fd
 value_down:∃ f fd,Gn K mg "value_down" cq ["record","path"] f fd
 made_values:∃ f fd,Gn K mg "made_values" bV ["piece","kind","values"] f fd
 halves:∃ f fd,Gn K mg "halves" pW ["text","separator"] f fd
 joined:∃ f fd,Gn K mg "joined" pX ["one","two","separator","most"] f fd
 with_new:∃ f fd,Gn K mg "with_new" dv ["piece","kind","record","values"] f fd
 without_taken:∃ f fd,Gn K mg "without_taken" bo ["piece","record"] f fd
 without_down:∃ f fd,Gn K mg "without_down" bH ["record","path"] f fd
 with_down:∃ f fd,Gn K mg "with_down" cJ ["record","path","value"] f fd
 law_mixed:∃ f fd,Gn K mg "_law_mixed" cK ["cell","k"] f fd
 law_stream:∃ f fd,Gn K mg "_law_stream" cr ["script","k"] f fd
 law_digit:∃ f fd,Gn K mg "_law_digit" cL ["row","many"] f fd
 law:∃ f fd,Gn K mg "law" mG ["script"] f fd
 x_HandError:ExC K mg "HandError" ad.HandError
 x_BadKind:ExC K mg "BadKind" ad.BadKind
 x_BadTurn:ExC K mg "BadTurn" ad.BadTurn
 x_BadPiece:ExC K mg "BadPiece" ad.BadPiece
 LETTERS:∃ t,mg "LETTERS" = some (.str "abcdefghijklmnopqrstuvwxyz" t)
 LONGEST_NAME:∃ t,mg "LONGEST_NAME" = some (.int 8 t)
 EACH:∃ t,mg "EACH" = some (.str "each" t)
 MOST_SIGNS:∃ t,mg "MOST_SIGNS" = some (.int 60 t)
 MOST_WORDS:∃ t,mg "MOST_WORDS" = some (.int 8 t)
 MOST_FIELDS:∃ t,mg "MOST_FIELDS" = some (.int 8 t)
 MOST_ITEMS:∃ t,mg "MOST_ITEMS" = some (.int 8 t)
 MOST_KINDS:∃ t,mg "MOST_KINDS" = some (.int 40 t)
 DEEPEST:∃ t,mg "DEEPEST" = some (.int 5 t)
 PART_COUNTS:∃ a,mg "PART_COUNTS" = some (.ref a)∧jV K a [("number",3),("text",2),("choice",2),("list",3),("record",2),("rows",4)]
 PERCENT:∃ t,mg "PERCENT" = some (.int 37 t)
 FIGURES:∃ t,mg "FIGURES" = some (.str "0123456789" t)
 LEAST_FACTOR:∃ t,mg "LEAST_FACTOR" = some (.int 2 t)
 GREATEST_FACTOR:∃ t,mg "GREATEST_FACTOR" = some (.int 1000 t)
 TURN_COUNTS:∃ a,mg "TURN_COUNTS" = some (.ref a)∧jV K a [("bounds",3),("scale",2),("shrink",2),("figures",2),("number",3),("words",3),("cut",2),("first",2),("one",2),("out",1),("items",2)]
 TURN_SORTS:mg "TURN_SORTS" = some (.ref 238)∧iR K 238 [("bounds",239),("scale",240),("shrink",241),("figures",242),("number",243),("words",244),("cut",245),("first",246),("out",247),("items",248)]∧oW K [(239,["number"]),(240,["number"]),(241,["number"]),(242,["number"]),(243,["text"]),(244,["choice"]),(245,["text"]),(246,["list","rows"]),(247,["list"]),(248,["list"])]
 PIECE_FORMS:mg "PIECE_FORMS" = some (.ref 351)∧iR K 351 [("put",352),("drop",353),("name",354),("sink",355),("lift",356),("turn",357),("split",358),("join",359),("part",360),("whole",361)]∧oW K [(352,["text","tuple","any"]),(353,["text","any"]),(354,["text","text"]),(355,["text","text"]),(356,["text","text"]),(357,["text","tuple"]),(358,["text","text","text","text"]),(359,["text","text","text","text"]),(360,["text","number","text","text"]),(361,["text","text","number","text","number","number"])]
 z_all:mg "all" = none
 z_bool:mg "bool" = none
 z_dict:mg "dict" = none
 z_divmod:mg "divmod" = none
 z_int:mg "int" = none
 z_isinstance:mg "isinstance" = none
 z_len:mg "len" = none
 z_list:mg "list" = none
 z_max:mg "max" = none
 z_min:mg "min" = none
 z_ord:mg "ord" = none
 z_range:mg "range" = none
 z_set:mg "set" = none
 z_sorted:mg "sorted" = none
 z_str:mg "str" = none
 z_sum:mg "sum" = none
 z_tuple:mg "tuple" = none
 z_zip:mg "zip" = none
abbrev depth:Nat:=60
abbrev letters:Str:= "abcdefghijklmnopqrstuvwxyz"
def inB (c:Nat):Bool:=!(Builtin.Str.occurrences letters ⟨#[c]⟩ 0 letters.length 1).isEmpty
def ay (z:Str):Bool:=decide (1≤z.length) && decide (z.length≤8) && !decide (z= "each") && z.cps.toList.all inB
def ltS (a b:Str):Prop:=a.cps.toList < b.cps.toList
instance (a b:Str):Decidable (ltS a b):=inferInstanceAs (Decidable (a.cps.toList < b.cps.toList))
def lF (ws:List Str):Bool:=decide (1≤ws.length) && decide (ws.length≤8) && ws.all ay && decide ws.Nodup
abbrev G4:=Str×Dt×Nat×Nat
abbrev nk (g:G4):Str×Dt:=(g.1,g.2.1)
abbrev prG (g:G4):Dt:=.tup [.str g.1,g.2.1]
def sumN:List Nat→Nat
 | []=>0
 | n :: r=>n+sumN r
def gm:List Nat→Nat
 | []=>0
 | n :: r=>max n (gm r)
def D9 (l:List Dt) (z:Str):Prop:=∃ w r,Dt.tup [.str z,.tup (.str w :: r)]∈l∧(w= "number" ∨w= "text")
inductive FK:Nat→Nat→Dt→Prop
 | text (i:Int):0≤i→i≤60→FK 1 1 (.tup [.str "text",.int i])
 | choice (ws:List Str):lF ws=true→FK 1 1 (.tup [.str "choice",.tup (ws.map Dt.str)])
 | number (i j:Int):-1000000000000000000000000000000≤i→i≤j→j≤1000000000000000000000000000000→FK 1 1 (.tup [.str "number",.int i,.int j])
 | list {a c:Nat} {k:Dt} {i:Int}:FK a c k→0≤i→i≤8→FK (a+1) (c+1) (.tup [.str "list",k,.int i])
 | rows {a c:Nat} {z:Str} {l:List Dt} {i:Int}:FK a c (.tup [.str "record",.tup l])→D9 l z→0≤i→i≤8→FK (a+1) (c+1) (.tup [.str "rows",.str z,.tup [.str "record",.tup l],.int i])
 | rcd {gs:List G4}:(∀ g∈gs,FK g.2.2.1 g.2.2.2 g.2.1)→(gs.map (·.1)).Pairwise ltS→(∀ g∈gs,ay g.1=true)→gs.length≤8→FK (gm (gs.map (·.2.2.1))+1) (sumN (gs.map (·.2.2.2))+1) (.tup [.str "record",.tup (gs.map prG)])
theorem FK.pos {a c:Nat} {d:Dt} (h:FK a c d):1≤a:=by cases h <;> lia
theorem lG {n:Nat}:∀ {l:List Nat},n∈l→n≤gm l
 | m :: l,h=>by
  show n≤max m (gm l);rcases List.mem_cons.mp h with rfl | h
  ·exact Nat.le_max_left _ _
  ·exact Nat.le_trans (lG h) (Nat.le_max_right _ _)
theorem max_le {b:Nat}:∀ {l:List Nat},(∀ n∈l,n≤b)→gm l≤b
 | [],_=>Nat.zero_le _
 | m :: l,h=>by
  show max m (gm l)≤b;exact Nat.max_le.mpr ⟨h m List.mem_cons_self,max_le fun n hn=>h n (List.mem_cons_of_mem _ hn)⟩
def Dy (d:Dt):Option Dt:=match d with
 | .tup [.str w,k,_]=>if w= "list" then some k else none
 | .tup [.str w,_,k,_]=>if w= "rows" then some k else none
 | _=>none
def Dz (K:PySem.W.Frag) (H:Hp) (r:Option Dt) (Q:VK):Prop:=match r with
 | none=>Q .non H
 | some e=>∀ v,IsP K H e v→Q v H
mutual
def okD:Dt→Bool
 | .int _=>true
 | .str z=>decide (z.length≤1000)
 | .tup l=>iX l
 | _=>false
def iX:List Dt→Bool
 | []=>true
 | d :: l=>okD d && iX l
end
theorem aL:∀ {l:List Dt},iX l=true→∀ d∈l,okD d=true
 | e :: l,h,d,hd=>by
  rw [iX,Bool.and_eq_true] at h;rcases List.mem_cons.mp hd with rfl | hd
  ·exact h.1
  ·exact aL h.2 d hd
theorem lH:∀ {l:List Dt},(∀ d∈l,okD d=true)→iX l=true
 | [],_=>rfl
 | e :: l,h=>by rw [iX,h e List.mem_cons_self,lH fun d hd=>h d (List.mem_cons_of_mem _ hd)];rfl
def aQ:Dt→Bool
 | .str z=>ay z
 | _=>false
def wR:Dt→Bool
 | .int _=>true
 | _=>false
def be (d:Dt) (j k:Int):Bool:=match d with
 | .int i=>decide (j≤i) && decide (i≤k)
 | _=>false
def mq (d e:Dt):Bool:=match d,e with
 | .int i,.int j=>decide (-1000000000000000000000000000000≤i) && decide (i≤j) && decide (j≤1000000000000000000000000000000)
 | _,_=>false
abbrev mr:List (Str×Int):=[("number",3),("text",2),("choice",2),("list",3),("record",2),("rows",4)]
def bB:Dt→Bool
 | .tup (.str u :: l)=>decide (bh u mr=.int ((l.length+1:Nat):Int))
 | _=>false
def nM:Dt→Str
 | .str z=>z
 | _=> ""
def kr (ws:List Str):Nat:=(L2.eA (ws.map (Sum.inr:Str→Key)) (ws.map (Sum.inr:Str→Key)).length).length
def pB:Dt→Bool
 | .tup ws=>decide (1≤ws.length) && decide (ws.length≤8) && ws.all aQ && decide (kr (ws.map nM)=ws.length)
 | _=>false
def aA (f:Dt→Bool):Dt→Bool
 | .tup [a,b]=>aQ a && f b
 | _=>false
def nmD:Dt→Str
 | .tup [.str z,_]=>z
 | _=> ""
def nN (ns:List Str):Bool:=(ns.zip (ns.drop 1)).all fun p=>decide (ltS p.1 p.2)
def iY (f:Dt→Bool):Dt→Bool
 | .tup fs=>decide (fs.length≤8) && fs.all (aA f) && nN (fs.map nmD)
 | _=>false
def fK (key:Dt):Dt→Bool
 | .tup [o,_]=>eqD o key
 | _=>false
def aV (fs:List Dt) (key:Dt):Option Dt:=match fs.find? (fK key) with
 | some (.tup [_,k])=>some k
 | _=>none
def mw:Option Dt→Bool
 | some (.tup (.str u :: _))=>decide (u= "number") || decide (u= "text")
 | _=>false
def cZ (f:Dt→Bool) (key items:Dt):Bool:=f items && (match items with
 | .tup [.str u,.tup fs]=>decide (u= "record") && mw (aV fs key)
 | _=>false)
def am:Nat→Dt→Bool
 | 0,_=>false
 | n+1,.tup [.str u,a]=>if u= "text" then be a 0 60 else if u= "choice" then pB a else if u= "record" then iY (am n) a else false
 | n+1,.tup [.str u,a,b]=>if u= "number" then mq a b else if u= "list" then am n a && be b 0 8 else false
 | n+1,.tup [.str u,a,b,c]=>if u= "rows" then cZ (am n) a b && be c 0 8 else false
 | _,_=>false
def lI (K:PySem.W.Frag) (_:Ads):Sp:=fun vs H Q _=>∃ (d:Dt) (x:V),vs=[x]∧IsP K H d x∧okD d=true∧∀ H',Same H H'→Q (.bl (aQ d)) H'
def kt (K:PySem.W.Frag) (_:Ads):Sp:=fun vs H Q _=>∃ (d:Dt) (x:V),vs=[x]∧IsP K H d x∧okD d=true∧Q (.bl (wR d)) H
def di (K:PySem.W.Frag) (_:Ads):Sp:=fun vs H Q _=>∃ (d:Dt) (x:V) (j k:Int),vs=[x,.int j,.int k]∧IsP K H d x∧okD d=true∧Q (.bl (be d j k)) H
def gn (K:PySem.W.Frag) (_:Ads):Sp:=fun vs H Q _=>∃ (d e:Dt) (x y:V),vs=[x,y]∧IsP K H d x∧IsP K H e y∧okD d=true∧okD e=true∧Q (.bl (mq d e)) H
def iZ (K:PySem.W.Frag) (_:Ads):Sp:=fun vs H Q _=>∃ (d:Dt) (x:V),vs=[x]∧IsP K H d x∧okD d=true∧Q (.bl (bB d)) H
def i0 (K:PySem.W.Frag) (_:Ads):Sp:=fun vs H Q _=>∃ (d:Dt) (x:V),vs=[x]∧IsP K H d x∧okD d=true∧∀ H',Same H H'→Q (.bl (pB d)) H'
def i3 (K:PySem.W.Frag) (_:Ads):Sp:=fun vs H Q _=>∃ (a c:Nat) (d:Dt) (x:V),vs=[x]∧IsP K H d x∧FK a c d∧Dz K H (Dy d) Q
def i4 (_:PySem.W.Frag) (_:Ads):Sp:=fun vs H Q _=>∃ i k:Int,vs=[.int i,.int k]∧∀ c,Q (.int c) H
def dQ (_:PySem.W.Frag) (_:Ads):Sp:=fun vs H Q _=>∃ (r:Addr) (n m:Int),vs=[.ref r,.int m]∧H r=some (.lst [.int n])∧0 < m∧m < 10000000000000000000000000000000000000000000000000000000000000∧Q (.int (n % m)) (upd H r (.lst [.int (n / m)]))
def DA (K:PySem.W.Frag):Sp:=fun vs H Q _=>∃ (a:Addr) (ns:List Int),vs=[.ref a]∧SqL K H a (ns.map V.int)∧ns.length≤63∧∀ H',Q (.bl true) H'
abbrev wS (K:PySem.W.Frag) (_:Ads):Sp:=DA K
theorem small {n:Nat} (h:n≤1000):n≤sizeLine:=Nat.le_of_lt (au h)
theorem bt {α β:Type} {xs:List α} {i:Nat} {x:α} (f:α→β) (h:xs[i]?=some x):(xs.take i).map f++[f x]=(xs.take (i+1)).map f:=by
 rw [List.take_add_one,h,List.map_append];rfl
theorem cB {l:List Str} (h:l.Pairwise ltS):l.Nodup:=List.Pairwise.imp (fun {a b} hab e=>by
 subst e;exact absurd hab (List.lt_irrefl _)) h
section
variable {P:Program} {w:World} {K:PySem.W.Frag} {mg:Str→Option Value} {base:Heap} {ad:Ads}
theorem wT {K:PySem.W.Frag} {H:Hp} {l:Addr} {z:Str} {Q:VK} {nm:L2.St} (hl:H l=none) (hz:z.length≤sizeLine) (q:∀ H',Same H H'→Q (.bl (z.cps.toList.all inB)) H')
  (hn:nm=[none]):∃ W:Nat→Nat→List V→L2.St→Hp→Prop,(∃ m,W 0 m [] nm (upd H l (.lst [])))∧∀ i m ys σ' H',W i m ys σ' H'→((Its z).stop i H'∧(fun (v:V) (H':Hp)=>∃ p ys,[v]=[V.ref p]∧true=true∧SqL K H' p (bls ys)∧Q (.bl (ys.all id)) H') (.ref l) H') ∨
   ((Its z).go i H'∧∀ x H'',(Its z).yld i H' x H''→jF 0 x σ' H'' fun σ2 H2=>cEl (tOp (fun x y H Q=>∃ i j,x=.str i∧y=.str j∧Q (.bl (!(Builtin.Str.occurrences j i 0 j.length 1).isEmpty)) H) (kT 0) (tC (.str letters))) ys l σ2 H2 fun ys' σ3 H3=>∃ m',m' < m∧W (i+1) m' ys' σ3 H3):=by
 subst hn;refine oy (Q:=fun (v:V) (H':Hp)=>∃ p ys,[v]=[V.ref p]∧true=true∧SqL K H' p (bls ys)∧Q (.bl (ys.all id)) H') (fun i ys σ H'=>ys=bls ((z.cps.toList.take i).map inB)∧H'=upd H l (.lst ys)∧σ.length=1) ⟨rfl,rfl,rfl⟩ ?_ ?_
 ·rintro i c ys σ H1 N hc ⟨rfl,rfl,hσ⟩ next;have hc':z.cps.toList[i]?=some c:=by rw [Array.getElem?_toList];exact hc
  have hi:i < z.cps.toList.length:=(List.getElem?_eq_some_iff.mp hc').1;have hlen:(bls ((z.cps.toList.take i).map inB)).length < sizeLine:=by
   have:z.length=z.cps.toList.length:=by simp [Str.length]
   simp only [bls,List.length_map,List.length_take];lia
  match σ,hσ with
  | [_],_ =>
   refine ⟨.str ⟨#[c]⟩,rfl,_,_,rfl,rfl,ac,hlen,next _ _ _ ⟨?_,pY,rfl⟩⟩;show bls ((z.cps.toList.take i).map inB)++[V.bl (inB c)]=bls ((z.cps.toList.take (i+1)).map inB);unfold bls;rw [List.map_map,List.map_map];exact bt (V.bl ∘ inB) hc'
 ·rintro ys σ H1 ⟨rfl,rfl,hσ⟩;refine ⟨l,(z.cps.toList).map inB,rfl,rfl,SqL.of ?_,?_⟩
  ·rw [ac];have:z.cps.toList.take z.cps.size=z.cps.toList:=List.take_of_length_le (by simp);rw [this]
  ·rw [List.all_map];exact q _ (ae hl _)
theorem dj (T:Tx K mg ad) {f:Addr} {fd:FuncData} (F:Gn K mg "is_name" eJ ["text"] f fd):FnOk P w K mg base CX0 1 f fd ["text"] (lI K ad):=by
 obtain ⟨t_LONGEST_NAME,c_LONGEST_NAME⟩:=T.LONGEST_NAME;obtain ⟨t_EACH,c_EACH⟩:=T.EACH;obtain ⟨t_LETTERS,c_LETTERS⟩:=T.LETTERS;refine F.F.ok lW (fun vs H Q E h=>?_) (fun cdv A outer s H vs Q E hr h=>?_)
 ·obtain ⟨d,x,rfl,_⟩:=h
  rfl
 obtain ⟨d,x,rfl,hd,ok,q⟩:=h;refine ⟨_,(@pss_cons _ _ _ _ _ (@ps_if _ _ _ _ _ _ _ _ (PW.pt (@pw_or _ _ _ _ _ _ _ (@pt_not _ _ _ _ (@pt_val _ _ _ (pe_callB (ar (K:=K) rfl) rfl T.z_isinstance boot_isinstance (@pa2 _ _ _ _ _ (pv 0) (aU rfl T.z_str boot_str) (by rfl) (by rfl))) (by intro _;rfl))) (@pw_or1 _ _ _ _ (@pt_not _ _ _ _ (pt_chain op_le op_le pe_int (pe_callB call_len_str rfl T.z_len PySem.boot_len (@pa1 _ _ _ (pv 0) (by rfl))) (pe_gint rfl c_LONGEST_NAME)))))) (@pss_one _ _ _ (@ps_ret _ _ _ _ pe_bl)) pss_nil) (@pss_one _ _ _ (@ps_ret _ _ _ _ (pe_and (pe_cmpR op_ne (pv 0) (pe_gstr rfl c_EACH) (nomark _)) (pe_one (pe_callB (call_allN (K:=K) rfl rfl) rfl T.z_all boot_all (@pa1 _ _ _ (bd rfl (cs0 (NL:=["letter"]) rfl (by decide +kernel) (by decide +kernel)) (wq (pv 0)) (fun _ _ _ _=>(ai (i:=0) (show List.Nodup (α:=Str) ["letter"] by decide +kernel) rfl (Or.inl rfl))) (fun _ _ _ _=>(pe_cmpR mO (pv 0) (pe_gstr rfl c_LETTERS) rfl))) (by rfl)))))))),?_⟩
 cases hd with
 | non=>cases ok
 | bl=>cases ok
 | int=>exact ⟨_,rfl,_,_,_,rfl,.int_str,_,rfl,az (az (q H (Same.refl H)))⟩
 | tup ht _ _=>exact ⟨_,rfl,_,_,_,rfl,.tup_str ht,_,rfl,az (az (q H (Same.refl H)))⟩
 | @str z =>
  have hz:z.length≤sizeLine:=small (of_decide_eq_true ok);replace q:∀ H',Same H H'→Q (.bl (ay z)) H':=q;refine ⟨_,rfl,_,_,_,rfl,.str_str,_,rfl,aH ?_⟩;refine ⟨_,rfl,z,rfl,hz,_,_,rfl,rfl,_,rfl,?_⟩;refine ej (fun c1=>?_) (fun c1=>?_)
  ·refine ⟨_,_,rfl,rfl,_,rfl,?_⟩;refine ej (fun c2=>?_) (fun c2=>?_)
   ·have e:ay z=false:=by
     have c2':¬ ((z.length:Int)≤8):=by simpa using c2
     have:¬ z.length≤8:=by lia
     simp [ay,this]
    rw [← e];exact q H (Same.refl H)
   ·have l1:1≤z.length:=by
     have:(1:Int)≤z.length:=of_decide_eq_true c1;lia
    have l2:z.length≤8:=by
     have:((z.length:Int)≤8):=by simpa using c2
     lia
    refine ⟨_,rfl,rfl,_,rfl,?_⟩;refine ej (fun c3=>?_) (fun c3=>?_)
    ·refine ⟨_,rfl,z,rfl,fun l hl=>wT (K:=K) hl hz (fun H' g=>?_) rfl⟩;have n3:¬ (z= "each"):=by simpa using c3
     have e:ay z=z.cps.toList.all inB:=by simp [ay,l1,l2,n3]
     rw [← e];exact q H' g
    ·have n3:z= "each" :=by simpa using c3
     have e:ay z=false:=by simp [ay,n3]
     rw [← e];exact q H (Same.refl H)
  ·refine ⟨_,rfl,az ?_⟩;have e:ay z=false:=by
    have:¬ (1:Int)≤z.length:=by simpa using c1
    have:¬ 1≤z.length:=by lia
    simp [ay,this]
   rw [← e];exact q H (Same.refl H)
theorem aP {K:PySem.W.Frag} {H:Hp} {w:Str} {v:V} (h:IsP K H (.str w) v):v=.str w:=by cases h;rfl
theorem cv {A B:Prop} {x:V} (h:A):if decide (x=x)=true then A else B:=by rw [if_pos (decide_eq_true rfl)];exact h
theorem iteN {A B:Prop} {x y:V} (n:x≠y) (h:B):if decide (x=y)=true then A else B:=by rw [if_neg (fun c=>n (of_decide_eq_true c))];exact h
theorem rA {A B:Prop} {x y:V} (n:x≠y) (h:A):if (!decide (x=y))=true then A else B:=by rw [if_pos (by rw [decide_eq_false n];rfl)];exact h
theorem im {A B:Prop} {x:V} (h:B):if (!decide (x=x))=true then A else B:=by rw [if_neg (by rw [decide_eq_true rfl];decide)];exact h
theorem aE {a b:Str} (h:a≠b):V.str a≠V.str b:=fun e=>h (V.str.inj e)
theorem i5 (T:Tx K mg ad) {f:Addr} {fd:FuncData} (F:Gn K mg "item_kind" cG ["kind"] f fd):FnOk P w K mg base CX0 1 f fd ["kind"] (i3 K ad):=by
 refine F.F.ok ju (fun vs H Q E h=>?_) (fun cdv A outer s H vs Q E hr h=>?_)
 ·obtain ⟨a,c,d,x,rfl,_⟩:=h
  rfl
 obtain ⟨a,c,d,x,rfl,hd,gk,q⟩:=h;refine ⟨_,(@pss_cons _ _ _ _ _ (@ps_if _ _ _ _ _ _ _ _ (pt_cmpR op_eq (@pi1 K _ _ _ _ _ _ _ rfl (pv 0)) pe_str (nomark _)) (@pss_one _ _ _ (@ps_ret _ _ _ _ (@pi1 K _ _ _ _ _ _ _ rfl (pv 0)))) pss_nil) (@pss_cons _ _ _ _ _ (@ps_if _ _ _ _ _ _ _ _ (pt_cmpR op_eq (@pi1 K _ _ _ _ _ _ _ rfl (pv 0)) pe_str (nomark _)) (@pss_one _ _ _ (@ps_ret _ _ _ _ (@pi1 K _ _ _ _ _ _ _ rfl (pv 0)))) pss_nil) (@pss_one _ _ _ (@ps_ret _ _ _ _ pe_non)))),?_⟩
 cases gk with
 | list g =>
  refine ⟨_,rfl,_,_,_,hd,rfl,rfl,isS ?_⟩;refine ⟨rfl,_,rfl,cv ⟨_,rfl,_,_,_,hd,rfl,rfl,fun v hv=>?_⟩⟩;exact q v hv
 | rows g =>
  refine ⟨_,rfl,_,_,_,hd,rfl,rfl,isS ?_⟩;refine ⟨rfl,_,rfl,iteN (aE (by decide)) ⟨_,rfl,_,_,_,hd,rfl,rfl,fun v hv=>?_⟩⟩;obtain rfl:=aP hv;refine ⟨rfl,_,rfl,cv ⟨_,rfl,_,_,_,hd,rfl,rfl,fun v hv=>?_⟩⟩;exact q v hv
 | _ =>
  refine ⟨_,rfl,_,_,_,hd,rfl,rfl,isS ?_⟩;refine ⟨rfl,_,rfl,iteN (aE (by decide)) ⟨_,rfl,_,_,_,hd,rfl,rfl,fun v hv=>?_⟩⟩;obtain rfl:=aP hv;exact ⟨rfl,_,rfl,iteN (aE (by decide)) q⟩
theorem cC (T:Tx K mg ad) {f:Addr} {fd:FuncData} (F:Gn K mg "is_whole" dr ["thing"] f fd):FnOk P w K mg base CX0 1 f fd ["thing"] (kt K ad):=by
 refine F.F.ok kR (fun vs H Q E h=>?_) (fun cdv A outer s H vs Q E hr h=>?_)
 ·obtain ⟨d,x,rfl,_⟩:=h
  rfl
 obtain ⟨d,x,rfl,hd,ok,q⟩:=h;refine ⟨_,(@pss_one _ _ _ (@ps_ret _ _ _ _ (pe_and (pe_callB (ar (K:=K) rfl) rfl T.z_isinstance boot_isinstance (@pa2 _ _ _ _ _ (pv 0) (aU rfl T.z_int boot_int) (by rfl) (by rfl))) (pe_one (vW (pe_callB (ar (K:=K) rfl) rfl T.z_isinstance boot_isinstance (@pa2 _ _ _ _ _ (pv 0) (aU rfl T.z_bool boot_bool) (by rfl) (by rfl)))))))),?_⟩
 cases hd with
 | non=>cases ok
 | bl=>cases ok
 | int=>exact ⟨_,rfl,_,_,_,rfl,.int_int,_,rfl,az ⟨_,rfl,_,_,_,rfl,.int_bool,_,rfl,q⟩⟩
 | str=>exact ⟨_,rfl,_,_,_,rfl,.str_int,_,rfl,aH q⟩
 | tup ht _ _=>exact ⟨_,rfl,_,_,_,rfl,.tup_int ht,_,rfl,aH q⟩
theorem bC (T:Tx K mg ad) {f:Addr} {fd:FuncData} (F:Gn K mg "is_whole_within" aW ["thing","low","high"] f fd):FnOk P w K mg base CX0 2 f fd ["thing","low","high"] (di K ad):=by
 obtain ⟨_,_,Eg⟩:=T.is_whole;have Eo:=cC (P:=P) (w:=w) (base:=base) T Eg;refine F.F.ok dz (fun vs H Q E h=>?_) (fun cdv A outer s H vs Q E hr h=>?_)
 ·obtain ⟨d,x,j,k,rfl,_⟩:=h
  rfl
 obtain ⟨d,x,j,k,rfl,hd,ok,q⟩:=h;refine ⟨_,(@pss_one _ _ _ (@ps_ret _ _ _ _ (pe_and (pcl Eg Eo (hr.mono (by lia)) rfl (@pa1 _ _ _ (pv 0) (by rfl))) (pe_one (oe op_le op_le (pv 1) (pv 0) (pv 2)))))),?_⟩;refine ⟨_,rfl,d,x,rfl,hd,ok,?_⟩
 cases hd with
 | non=>cases ok
 | bl=>cases ok
 | str=>exact ⟨_,rfl,aH q⟩
 | tup ht _ _=>exact ⟨_,rfl,aH q⟩
 | @int i =>
  replace q:Q (.bl (decide (j≤i) && decide (i≤k))) H:=q;refine ⟨_,rfl,az ?_⟩;refine ⟨_,rfl,_,rfl,_,_,rfl,rfl,_,rfl,?_⟩;refine ej (fun c=>⟨_,rfl,_,_,rfl,rfl,?_⟩) (fun c=>?_)
  ·show Q (.bl (decide (i≤k))) H;rw [c,Bool.true_and] at q;exact q
  ·rw [Bool.eq_false_iff.mpr c,Bool.false_and] at q;exact q
theorem at0 {α:Type} (c:α) (r:List α):atI (c :: r) 0=some c:=by
 have e:atI (c :: r) ((0:Nat):Int)=some c:=iF (by rfl);exact e
theorem mx:(10:Int) ^ (30:Int).toNat=1000000000000000000000000000000:=by decide +kernel
theorem gp (T:Tx K mg ad) {f:Addr} {fd:FuncData} (F:Gn K mg "are_bounds" cg ["low","high"] f fd):FnOk P w K mg base CX0 2 f fd ["low","high"] (gn K ad):=by
 obtain ⟨_,_,Eg⟩:=T.is_whole;have Eo:=cC (P:=P) (w:=w) (base:=base) T Eg;refine F.F.ok gM (fun vs H Q E h=>?_) (fun cdv A outer s H vs Q E hr h=>?_)
 ·obtain ⟨d,e,x,y,rfl,_⟩:=h
  rfl
 obtain ⟨d,e,x,y,rfl,hd,he,ok,ok',q⟩:=h;refine ⟨_,(@pss_cons _ _ _ _ _ (@ps_if _ _ _ _ _ _ _ _ (PW.pt (@pw_or _ _ _ _ _ _ _ (@pt_not _ _ _ _ (@pt_val _ _ _ (pcl Eg Eo (hr.mono (by lia)) rfl (@pa1 _ _ _ (pv 0) (by rfl))) (by intro _;rfl))) (@pw_or1 _ _ _ _ (@pt_not _ _ _ _ (@pt_val _ _ _ (pcl Eg Eo (hr.mono (by lia)) rfl (@pa1 _ _ _ (pv 1) (by rfl))) (by intro _;rfl)))))) (@pss_one _ _ _ (@ps_ret _ _ _ _ pe_bl)) pss_nil) (@pss_one _ _ _ (@ps_ret _ _ _ _ (pe_chain3 op_le op_le op_le (@pe_un _ _ _ _ _ _ un_neg (@pe_op _ _ _ _ _ _ _ _ op_pow pe_int pe_int)) (pv 0) (pv 1) (@pe_op _ _ _ _ _ _ _ _ op_pow pe_int pe_int))))),?_⟩;refine ⟨_,rfl,d,x,rfl,hd,ok,_,rfl,?_⟩
 cases hd with
 | non=>cases ok
 | bl=>cases ok
 | str=>exact az (az q)
 | tup ht _ _=>exact az (az q)
 | @int i =>
  refine aH ⟨_,rfl,e,y,rfl,he,ok',_,rfl,?_⟩
  cases he with
  | non=>cases ok'
  | bl=>cases ok'
  | str=>exact az q
  | tup ht _ _=>exact az q
  | @int j =>
   replace q:Q (.bl (decide (-1000000000000000000000000000000≤i) && decide (i≤j) && decide (j≤1000000000000000000000000000000))) H:=q;refine aH ?_;refine ⟨_,_,rfl,rfl,⟨by decide,by decide,by decide⟩,_,rfl,_,rfl,_,_,rfl,rfl,_,rfl,?_⟩;rw [mx];refine ej (fun c=>⟨_,rfl,_,_,rfl,rfl,_,rfl,?_⟩) (fun c=>?_)
   ·replace c:decide (-1000000000000000000000000000000≤i)=true:=c;rw [c,Bool.true_and] at q;refine ej (fun c=>?_) (fun c=>?_)
    ·refine ⟨_,_,rfl,rfl,⟨by decide,by decide,by decide⟩,_,_,rfl,rfl,?_⟩;rw [mx];replace c:decide (i≤j)=true:=c;rw [c,Bool.true_and] at q;exact q
    ·replace c:¬ decide (i≤j)=true:=c;rw [Bool.eq_false_iff.mpr c,Bool.false_and] at q;exact q
   ·replace c:¬ decide (-1000000000000000000000000000000≤i)=true:=c;rw [Bool.eq_false_iff.mpr c,Bool.false_and,Bool.false_and] at q;exact q
theorem ip (u:Str) (n:Int):∀ l:List (Str×Int),wg (bh u l) (.int n)=true
 | []=>rfl
 | (x,i) :: D=>by
  unfold bh
  split
  ·rfl
  ·exact ip u n D
theorem i6 (T:Tx K mg ad) {f:Addr} {fd:FuncData} (F:Gn K mg "has_parts" cE ["thing"] f fd):FnOk P w K mg base CX0 1 f fd ["thing"] (iZ K ad):=by
 obtain ⟨t_PART_COUNTS,c_PART_COUNTS,d_PART_COUNTS⟩:=T.PART_COUNTS;refine F.F.ok js (fun vs H Q E h=>?_) (fun cdv A outer s H vs Q E hr h=>?_)
 ·obtain ⟨d,x,rfl,_⟩:=h
  rfl
 obtain ⟨d,x,rfl,hd,ok,q⟩:=h;refine ⟨_,(@pss_cons _ _ _ _ _ (@ps_if _ _ _ _ _ _ _ _ (PW.pt (@pw_or _ _ _ _ _ _ _ (@pt_not _ _ _ _ (@pt_val _ _ _ (pe_callB (ar (K:=K) rfl) rfl T.z_isinstance boot_isinstance (@pa2 _ _ _ _ _ (pv 0) (aU rfl T.z_tuple boot_tuple) (by rfl) (by rfl))) (by intro _;rfl))) (@pw_or _ _ _ _ _ _ _ (pt_cmpR op_eq (pe_callB (call_lenDN (K:=K) rfl) rfl T.z_len PySem.boot_len (@pa1 _ _ _ (pv 0) (by rfl))) pe_int (nomark _)) (@pw_or1 _ _ _ _ (@pt_not _ _ _ _ (@pt_val _ _ _ (pe_callB (ar (K:=K) rfl) rfl T.z_isinstance boot_isinstance (@pa2 _ _ _ _ _ (@pi1 K _ _ _ _ _ _ _ rfl (pv 0)) (aU rfl T.z_str boot_str) (by rfl) (by rfl))) (by intro _;rfl))))))) (@pss_one _ _ _ (@ps_ret _ _ _ _ pe_bl)) pss_nil) (@pss_one _ _ _ (@ps_ret _ _ _ _ (pe_cmpR op_eq (pe_kget d_PART_COUNTS rfl c_PART_COUNTS (@pa1 _ _ _ (@pi1 K _ _ _ _ _ _ _ rfl (pv 0)) (by rfl))) (pe_callB (call_lenDN (K:=K) rfl) rfl T.z_len PySem.boot_len (@pa1 _ _ _ (pv 0) (by rfl))) (nomark _))))),?_⟩
 cases d with
 | non=>cases ok
 | bl=>cases ok
 | int i =>
  cases hd
  exact ⟨_,rfl,_,_,_,rfl,.int_tuple,_,rfl,az (az q)⟩
 | str z =>
  cases hd
  exact ⟨_,rfl,_,_,_,rfl,.str_tuple,_,rfl,az (az q)⟩
 | tup l =>
  obtain ⟨a,xs,rfl,ha,pa,ra⟩:=id hd.unref;refine ⟨_,rfl,_,_,_,rfl,.tup_tuple ha,_,rfl,aH ?_⟩;refine ⟨_,rfl,_,_,rfl,hd.d,rfl,_,rfl,?_⟩
  cases l with
  | nil=>exact cv (az q)
  | cons e l =>
   refine iteN (fun z=>?_) ?_
   ·injection z with z
    rw [List.length_cons] at z;lia
   have oke:=aL ok e List.mem_cons_self;refine ⟨_,rfl,_,_,_,hd,rfl,at0 _ _,fun v hv=>?_⟩
   cases e with
   | non=>cases oke
   | bl=>cases oke
   | int i =>
    cases hv
    exact ⟨_,_,_,rfl,.int_str,_,rfl,az q⟩
   | tup l =>
    obtain ⟨a1,xs1,rfl,ha1,_,_⟩:=id hv.unref;exact ⟨_,_,_,rfl,.tup_str ha1,_,rfl,az q⟩
   | str u =>
    obtain rfl:=aP hv;refine ⟨_,_,_,rfl,.str_str,_,rfl,aH ?_⟩;refine ⟨_,rfl,_,_,_,hd,rfl,at0 _ _,isS ?_⟩;refine ⟨_,rfl,_,rfl,_,_,rfl,hd.d,ip u _ _,q⟩
theorem fM:∀ {l:List Dt},l.all aQ=true→l=(l.map nM).map Dt.str
 | [],_=>rfl
 | d :: l,h=>by
  rw [List.all_cons,Bool.and_eq_true] at h;rw [List.map_cons,List.map_cons,← fM h.2]
  cases d with
  | str z=>rfl
  | _=>exact absurd h.1 Bool.false_ne_true
theorem dk {K:PySem.W.Frag} {H:Hp}:∀ {ws:List Str} {xs:List V},IsPs K H (ws.map Dt.str) xs→xs=ws.map V.str
 | [],xs,h=>by cases h;rfl
 | w :: ws,xs,h=>by
  cases h with
  | cons h1 h2=>rw [aP h1,dk h2];rfl
theorem qQ (m n:Nat):decide (V.int (m:Int)=V.int (n:Int))=decide (m=n):=by
 rw [Bool.eq_iff_iff];simp;lia
theorem i7 (T:Tx K mg ad) {f:Addr} {fd:FuncData} (F:Gn K mg "are_words" cF ["words"] f fd):FnOk P w K mg base CX0 2 f fd ["words"] (i0 K ad):=by
 obtain ⟨_,_,En⟩:=T.is_name;have Ey:=dj (P:=P) (w:=w) (base:=base) T En;obtain ⟨t_MOST_WORDS,c_MOST_WORDS⟩:=T.MOST_WORDS;refine F.F.ok jt (fun vs H Q E h=>?_) (fun cdv A outer s H vs Q E hr h=>?_)
 ·obtain ⟨d,x,rfl,_⟩:=h
  rfl
 obtain ⟨d,x,rfl,hd,ok,q⟩:=h;refine ⟨_,(@pss_cons _ _ _ _ _ (@ps_if _ _ _ _ _ _ _ _ (PW.pt (@pw_or _ _ _ _ _ _ _ (@pt_not _ _ _ _ (@pt_val _ _ _ (pe_callB (ar (K:=K) rfl) rfl T.z_isinstance boot_isinstance (@pa2 _ _ _ _ _ (pv 0) (aU rfl T.z_tuple boot_tuple) (by rfl) (by rfl))) (by intro _;rfl))) (@pw_or1 _ _ _ _ (@pt_not _ _ _ _ (pt_chain op_le op_le pe_int (pe_callB (call_lenDN (K:=K) rfl) rfl T.z_len PySem.boot_len (@pa1 _ _ _ (pv 0) (by rfl))) (pe_gint rfl c_MOST_WORDS)))))) (@pss_one _ _ _ (@ps_ret _ _ _ _ pe_bl)) pss_nil) (@pss_one _ _ _ (@ps_ret _ _ _ _ (pe_and (pe_callB (call_allN (K:=K) rfl rfl) rfl T.z_all boot_all (@pa1 _ _ _ (bd rfl (cs0 (NL:=["word"]) rfl (by decide +kernel) (by decide +kernel)) (bp (K:=K) rfl (pv 0)) (fun _ _ _ _=>(ai (i:=0) (show List.Nodup (α:=Str) ["word"] by decide +kernel) rfl (Or.inl rfl))) (fun _ _ _ _=>(pcl En Ey (hr.mono (by lia)) rfl (@pa1 _ _ _ (pv 0) (by rfl))))) (by rfl))) (pe_one (pe_cmpR op_eq (pe_callB nj rfl T.z_len PySem.boot_len (@pa1 _ _ _ (a8 (ni rfl) rfl T.z_set boot_set (@pa1 _ _ _ (pv 0) (by rfl))) (by rfl))) (pe_callB (call_lenDN (K:=K) rfl) rfl T.z_len PySem.boot_len (@pa1 _ _ _ (pv 0) (by rfl))) (nomark _))))))),?_⟩
 cases d with
 | non=>cases ok
 | bl=>cases ok
 | int i =>
  cases hd
  exact ⟨_,rfl,_,_,_,rfl,.int_tuple,_,rfl,az (az (q H (Same.refl H)))⟩
 | str z =>
  cases hd
  exact ⟨_,rfl,_,_,_,rfl,.str_tuple,_,rfl,az (az (q H (Same.refl H)))⟩
 | tup ds =>
  obtain ⟨a,xs,rfl,hT,pa,ra⟩:=id hd.unref;have el:=ra.length;replace q:∀ H',Same H H'→Q (.bl (decide (1≤ds.length) && decide (ds.length≤8) && ds.all aQ && decide (kr (ds.map nM)=ds.length))) H':=q;refine ⟨_,rfl,_,_,_,rfl,.tup_tuple hT,_,rfl,aH ?_⟩;refine ⟨_,rfl,_,_,rfl,hd.d,_,_,rfl,rfl,_,rfl,ej (fun c1=>?_) (fun c1=>?_)⟩
  ·have l1:1≤ds.length:=by
    have:(1:Int)≤ds.length:=of_decide_eq_true c1;lia
   refine ⟨_,_,rfl,rfl,_,rfl,ej (fun c2=>?_) (fun c2=>?_)⟩
   ·have l2:¬ ds.length≤8:=by
     have c2':¬ ((ds.length:Int)≤8):=by simpa using c2
     lia
    rw [decide_eq_false l2,Bool.and_false,Bool.false_and,Bool.false_and] at q;exact q H (Same.refl H)
   ·have l2:ds.length≤8:=by
     have:((ds.length:Int)≤8):=by simpa using c2
     lia
    rw [decide_eq_true l1,decide_eq_true l2,Bool.true_and,Bool.true_and] at q;refine ⟨_,rfl,a,rfl,⟨_,hT⟩,fun l hln=>?_⟩;refine bZ (K:=K) (xs:=xs) (fun i ys σ H'=>ys=bls ((ds.take i).map aQ)∧Same H H'∧H' l=some (.lst ys)∧σ.length=1) ⟨rfl,ae hln _,ac,rfl⟩ (fun i ys σ H' _ r=>r.2.1.tup hT) ?_ ?_
    ·rintro i y ys σ H1 N hy ⟨rfl,g,e1,hσ⟩ next;obtain ⟨d,hdi,hp⟩:=ra.get' hy;have nx:bls ((ds.take i).map aQ)++[V.bl (aQ d)]=bls ((ds.take (i+1)).map aQ):=by
      show List.map V.bl _++[V.bl (aQ d)]=List.map V.bl _;rw [List.map_map,List.map_map];exact bt (V.bl ∘ aQ) hdi
     have hlen:(bls ((ds.take i).map aQ)).length < sizeLine:=by
      simp only [bls,List.length_map,List.length_take];exact au (by lia)
     match σ,hσ with
     | [_],_=>exact ⟨_,rfl,d,y,rfl,hp.same g,aL ok d (List.mem_of_getElem? hdi),fun H2 g2=>⟨g2 _ _ e1,hlen,next _ _ _ ⟨nx,aD hln (g.trans g2),ac,rfl⟩⟩⟩
    ·rintro ys σ H1 ⟨rfl,g,e1,_⟩;rw [← el,List.take_length] at e1;refine ⟨l,ds.map aQ,rfl,rfl,SqL.of e1,_,rfl,?_⟩;have ea:(ds.map aQ).all id=ds.all aQ:=by rw [List.all_map];rfl
     rw [ea]
     cases hb:ds.all aQ with
     | false =>
      rw [hb,Bool.false_and] at q;exact aH (q H1 g)
     | true =>
      rw [hb,Bool.true_and] at q;have es:=fM hb;rw [es] at ra;have ex:=dk ra;subst ex;refine az ?_;refine ⟨_,rfl,a,(ds.map nM).map Sum.inr,rfl,by rw [List.map_map];exact g.tup hT,by rw [List.length_map,List.length_map];lia,fun p hp=>?_⟩;refine ⟨p,_,rfl,ac,?_⟩;refine ⟨_,rfl,_,_,rfl,((hd.same g).same (ae hp _)).d,rfl,?_⟩;rw [qQ];exact q _ (g.trans (ae hp _))
  ·have l1:¬ 1≤ds.length:=by
    have:¬ (1:Int)≤ds.length:=by simpa using c1
    lia
   refine ⟨_,rfl,az ?_⟩;rw [decide_eq_false l1,Bool.false_and,Bool.false_and,Bool.false_and] at q;exact q H (Same.refl H)
def ku (K:PySem.W.Frag) (n:Nat):Sp:=fun vs H Q _=>∃ (r:Nat) (d:Dt) (x:V),r < n∧vs=[x,.int r]∧IsP K H d x∧okD d=true∧∀ H',Same H H'→Q (.bl (am r d)) H'
def pC (K:PySem.W.Frag) (n:Nat):Sp:=fun vs H Q _=>∃ (r:Nat) (d:Dt) (x:V),r < n∧vs=[x,.int r]∧IsP K H d x∧okD d=true∧∀ H',Same H H'→Q (.bl (aA (am r) d)) H'
def my (K:PySem.W.Frag) (n:Nat):Sp:=fun vs H Q _=>∃ (r:Nat) (d:Dt) (x:V),r < n∧vs=[x,.int r]∧IsP K H d x∧okD d=true∧∀ H',Same H H'→Q (.bl (iY (am r) d)) H'
def pD (K:PySem.W.Frag) (n:Nat):Sp:=fun vs H Q _=>∃ (r:Nat) (d e:Dt) (x y:V),r < n∧vs=[x,y,.int r]∧IsP K H d x∧IsP K H e y∧okD d=true∧okD e=true∧∀ H',Same H H'→Q (.bl (cZ (am r) d e)) H'
theorem kw (T:Tx K mg ad) {f ff:Addr} {fd fdf:FuncData} (n:Nat) (F:Gn K mg "is_field" bE ["field","room"] f fd) (Eh:Gn K mg "is_formed" aT ["thing","room"] ff fdf)
  (Em:FnOk P w K mg base CX0 (3*n+3) ff fdf ["thing","room"] (ku K n)):FnOk P w K mg base CX0 (3*n+3+1) f fd ["field","room"] (pC K n):=by
 obtain ⟨_,_,En⟩:=T.is_name;have Ey:=dj (P:=P) (w:=w) (base:=base) T En;refine F.F.ok kS (fun vs H Q E h=>?_) (fun cdv A outer s H vs Q E hr h=>?_)
 ·obtain ⟨r,d,x,_,rfl,_⟩:=h
  rfl
 obtain ⟨r,d,x,hrn,rfl,hd,ok,q⟩:=h;refine ⟨_,(@pss_cons _ _ _ _ _ (@ps_if _ _ _ _ _ _ _ _ (PW.pt (@pw_or _ _ _ _ _ _ _ (@pt_not _ _ _ _ (@pt_val _ _ _ (pe_callB (ar (K:=K) rfl) rfl T.z_isinstance boot_isinstance (@pa2 _ _ _ _ _ (pv 0) (aU rfl T.z_tuple boot_tuple) (by rfl) (by rfl))) (by intro _;rfl))) (@pw_or1 _ _ _ _ (pt_cmpR op_ne (pe_callB (call_lenDN (K:=K) rfl) rfl T.z_len PySem.boot_len (@pa1 _ _ _ (pv 0) (by rfl))) pe_int (nomark _))))) (@pss_one _ _ _ (@ps_ret _ _ _ _ pe_bl)) pss_nil) (@pss_one _ _ _ (@ps_ret _ _ _ _ (pe_and (pcl En Ey (hr.mono (by lia)) rfl (@pa1 _ _ _ (@pi1 K _ _ _ _ _ _ _ rfl (pv 0)) (by rfl))) (pe_one (pcl Eh Em (hr.mono (by lia)) rfl (@pa2 _ _ _ _ _ (@pi1 K _ _ _ _ _ _ _ rfl (pv 0)) (pv 1) (by rfl) (by rfl)))))))),?_⟩
 cases d with
 | non=>cases ok
 | bl=>cases ok
 | int i =>
  cases hd
  exact ⟨_,rfl,_,_,_,rfl,.int_tuple,_,rfl,az (az (q H (Same.refl H)))⟩
 | str z =>
  cases hd
  exact ⟨_,rfl,_,_,_,rfl,.str_tuple,_,rfl,az (az (q H (Same.refl H)))⟩
 | tup l =>
  obtain ⟨a,xs,rfl,ha,pa,ra⟩:=id hd.unref;refine ⟨_,rfl,_,_,_,rfl,.tup_tuple ha,_,rfl,aH ?_⟩;refine ⟨_,rfl,_,_,rfl,hd.d,rfl,_,rfl,?_⟩
  by_cases h2:l.length=2
  ·match l,h2 with
   | [e,e'],_ =>
    refine im ?_;refine ⟨_,rfl,_,_,_,hd,rfl,rfl,fun v hv=>?_⟩;refine ⟨e,v,rfl,hv,aL ok e List.mem_cons_self,fun H1 g1=>?_⟩;replace q:∀ H',Same H H'→Q (.bl (aQ e && am r e')) H':=q;refine ⟨_,rfl,?_⟩
    cases hb:aQ e with
    | false =>
     rw [hb,Bool.false_and] at q;exact aH (q H1 g1)
    | true =>
     rw [hb,Bool.true_and] at q;refine az ?_;refine ⟨_,rfl,_,_,_,hd.same g1,rfl,rfl,fun v hv=>?_⟩;exact ⟨_,rfl,r,e',v,hrn,rfl,hv,aL ok e' (List.mem_cons_of_mem _ List.mem_cons_self),fun H2 g2=>q H2 (g1.trans g2)⟩
  ·have e0:aA (am r) (.tup l)=false:=by
    unfold aA
    split
    ·rename_i h;injection h with h;subst h;exact absurd rfl h2
    ·rfl
   rw [e0] at q;refine rA (fun z=>?_) (q H (Same.refl H));injection z with z
   lia
theorem cV {K:PySem.W.Frag} {H:Hp} {a b:Dt} {v:V} (h:IsP K H (.tup [a,b]) v):∃ c x y,v=.ref c∧SqT K H c [x,y]∧IsP K H a x∧IsP K H b y:=by
 obtain ⟨c,xs,rfl,hc,pc,rc⟩:=h.unref
 cases rc with
 | cons r1 rc =>
  cases rc with
  | cons r2 rc =>
   cases rc
   exact ⟨c,_,_,rfl,hc,r1,r2⟩
theorem dm {f:Dt→Bool} {d:Dt} (h:aA f d=true):∃ z k,d=.tup [.str z,k]∧ay z=true∧f k=true:=by
 unfold aA at h
 split at h
 ·rw [Bool.and_eq_true] at h
  rename_i a b
  cases a with
  | str z=>exact ⟨z,b,rfl,h.1,h.2⟩
  | _=>exact absurd h.1 Bool.false_ne_true
 ·cases h
theorem nO (xs:List V):eW xs (some 1) none=xs.drop 1:=by
 unfold eW
 cases xs with
 | nil=>rfl
 | cons x r =>
  have e1:HT.sIx (x :: r).length 0 (some 1)=1:=by
   have:=HT.sIx_nat (x :: r).length 0 1;rw [List.length_cons] at this ⊢;rw [show (1:Int)=((1:Nat):Int) from rfl,this];lia
  have e2:HT.sIx (x :: r).length (x :: r).length none=(x :: r).length:=rfl;rw [e1,e2];apply List.take_of_length_le;rw [List.length_drop];exact Nat.le_refl _
theorem gq (T:Tx K mg ad) {f ff:Addr} {fd fdf:FuncData} (n:Nat) (F:Gn K mg "are_fields" aM ["fields","room"] f fd) (FA:Gn K mg "is_field" bE ["field","room"] ff fdf)
  (Fw:FnOk P w K mg base CX0 (3*n+4) ff fdf ["field","room"] (pC K n)):FnOk P w K mg base CX0 (3*n+4+1) f fd ["fields","room"] (my K n):=by
 obtain ⟨t_MOST_FIELDS,c_MOST_FIELDS⟩:=T.MOST_FIELDS;refine F.F.ok c9 (fun vs H Q E h=>?_) (fun cdv A outer s H vs Q E hr h=>?_)
 ·obtain ⟨r,d,x,_,rfl,_⟩:=h
  rfl
 obtain ⟨r,d,x,hrn,rfl,hd,ok,q⟩:=h;refine ⟨_,(@pss_cons _ _ _ _ _ (@ps_if _ _ _ _ _ _ _ _ (PW.pt (@pw_or _ _ _ _ _ _ _ (@pt_not _ _ _ _ (@pt_val _ _ _ (pe_callB (ar (K:=K) rfl) rfl T.z_isinstance boot_isinstance (@pa2 _ _ _ _ _ (pv 0) (aU rfl T.z_tuple boot_tuple) (by rfl) (by rfl))) (by intro _;rfl))) (@pw_or1 _ _ _ _ (pt_cmpR op_gt (pe_callB (call_lenDN (K:=K) rfl) rfl T.z_len PySem.boot_len (@pa1 _ _ _ (pv 0) (by rfl))) (pe_gint rfl c_MOST_FIELDS) (nomark _))))) (@pss_one _ _ _ (@ps_ret _ _ _ _ pe_bl)) pss_nil) (@pss_cons _ _ _ _ _ (@ps_if _ _ _ _ _ _ _ _ (@pt_not _ _ _ _ (@pt_val _ _ _ (pe_callB (call_allN (K:=K) rfl rfl) rfl T.z_all boot_all (@pa1 _ _ _ (bd rfl (csR (sc:=aa aM) (NL:=["field"]) (N:=["fields","room","names"]) (ρ:=[1]) (N':=["field","room"]) rfl rfl rfl (by decide +kernel) (by decide +kernel) (by decide +kernel) rfl (by decide +kernel)) (bp (K:=K) rfl (pv 0)) (fun _ _ _ _=>(ai (i:=0) (show List.Nodup (α:=Str) ["field","room"] by decide +kernel) rfl (Or.inl rfl))) (fun _ _ _ _=>(pcl FA Fw (hr.mono (by lia)) rfl (@pa2 _ _ _ _ _ (pv 0) (pv 1) (by rfl) (by rfl))))) (by rfl))) (by intro _;rfl))) (@pss_one _ _ _ (@ps_ret _ _ _ _ pe_bl)) pss_nil) (@pss_cons _ _ _ _ _ (ps_setC (j:=2) c9.nd rfl (Or.inl rfl) rfl (cs0 (NL:=["name","kind"]) rfl (by decide +kernel) (by decide +kernel)) (bp (K:=K) rfl (pv 0)) (fun _ _ _ _=>(ft (K:=K) (n:=2) rfl rfl (aw (ai (i:=0) (show List.Nodup (α:=Str) ["name","kind"] by decide +kernel) rfl (Or.inl rfl)) (aw (ai (i:=1) (show List.Nodup (α:=Str) ["name","kind"] by decide +kernel) rfl (Or.inl rfl)) bL)))) (fun _ _ _ _=>(pv 0))) (@pss_one _ _ _ (@ps_ret _ _ _ _ (pe_callB (call_allN (K:=K) rfl rfl) rfl T.z_all boot_all (@pa1 _ _ _ (bd rfl (cs0 (NL:=["ahead","behind"]) rfl (by decide +kernel) (by decide +kernel)) (wE rfl T.z_zip (@pa2 _ _ _ _ _ (pv 2) (dE (j5 (K:=K) rfl) (pv 2) (dD pe_int) iC) (by rfl) (by rfl))) (fun _ _ _ _=>(ft (K:=K) (n:=2) rfl rfl (aw (ai (i:=0) (show List.Nodup (α:=Str) ["ahead","behind"] by decide +kernel) rfl (Or.inl rfl)) (aw (ai (i:=1) (show List.Nodup (α:=Str) ["ahead","behind"] by decide +kernel) rfl (Or.inl rfl)) bL)))) (fun _ _ _ _=>(pe_cmpR mM (pv 0) (pv 1) (nomark _)))) (by rfl)))))))),?_⟩
 cases d with
 | non=>cases ok
 | bl=>cases ok
 | int i =>
  cases hd
  exact ⟨_,rfl,_,_,_,rfl,.int_tuple,_,rfl,az (az (q H (Same.refl H)))⟩
 | str z =>
  cases hd
  exact ⟨_,rfl,_,_,_,rfl,.str_tuple,_,rfl,az (az (q H (Same.refl H)))⟩
 | tup ds =>
  obtain ⟨a,xs,rfl,ha,pa,ra⟩:=id hd.unref;have el:=ra.length;replace q:∀ H',Same H H'→Q (.bl (decide (ds.length≤8) && ds.all (aA (am r)) && nN (ds.map nmD))) H':=q;refine ⟨_,rfl,_,_,_,rfl,.tup_tuple ha,_,rfl,aH ?_⟩;refine ⟨_,rfl,_,_,rfl,hd.d,_,_,rfl,rfl,_,rfl,ej (fun c1=>?_) (fun c1=>?_)⟩
  ·have l2:¬ ds.length≤8:=by
    have:(8:Int) < ds.length:=of_decide_eq_true c1;lia
   rw [decide_eq_false l2,Bool.false_and,Bool.false_and] at q;exact q H (Same.refl H)
  have l2:ds.length≤8:=by
   have:¬ ((8:Int) < ds.length):=by simpa using c1
   lia
  rw [decide_eq_true l2,Bool.true_and] at q;refine ⟨_,rfl,a,rfl,⟨_,ha⟩,fun l hln=>?_⟩;refine bZ (K:=K) (xs:=xs) (fun i ys σ H'=>ys=bls ((ds.take i).map (aA (am r)))∧Same H H'∧H' l=some (.lst ys)∧∃ v,σ=[v,some (.int r)]) ⟨rfl,ae hln _,ac,none,rfl⟩ (fun i ys σ H' _ r=>r.2.1.tup ha) ?_ ?_
  ·rintro i y ys σ H1 N hy ⟨rfl,g,e1,v,rfl⟩ next;obtain ⟨d,hdi,hp⟩:=ra.get' hy;have nx:bls ((ds.take i).map (aA (am r)))++[V.bl (aA (am r) d)]=bls ((ds.take (i+1)).map (aA (am r))):=by
    show List.map V.bl _++[V.bl _]=List.map V.bl _;rw [List.map_map,List.map_map];exact bt (V.bl ∘ aA (am r)) hdi
   have hlen:(bls ((ds.take i).map (aA (am r)))).length < sizeLine:=by
    simp only [bls,List.length_map,List.length_take];exact au (by lia)
   exact ⟨_,rfl,_,rfl,r,d,y,hrn,rfl,hp.same g,aL ok d (List.mem_of_getElem? hdi),fun H2 g2=>⟨g2 _ _ e1,hlen,next _ _ _ ⟨nx,aD hln (g.trans g2),ac,_,rfl⟩⟩⟩
  ·rintro ys σ H1 ⟨rfl,g,e1,v,rfl⟩;rw [← el,List.take_length] at e1;refine ⟨l,ds.map (aA (am r)),rfl,rfl,SqL.of e1,_,rfl,?_⟩;have ea:(ds.map (aA (am r))).all id=ds.all (aA (am r)):=by rw [List.all_map];rfl
   rw [ea]
   cases hb:ds.all (aA (am r)) with
   | false =>
    rw [hb,Bool.false_and] at q;exact az (q H1 g)
   | true =>
    rw [hb,Bool.true_and] at q;refine aH ?_;refine ⟨_,rfl,a,rfl,⟨_,g.tup ha⟩,fun l2 hl2=>?_⟩;refine bZ (K:=K) (xs:=xs) (fun i ys σ H'=>ys=(ds.take i).map (fun d=>V.str (nmD d))∧Same H1 H'∧H' l2=some (.lst ys)∧σ.length=2) ⟨rfl,ae hl2 _,ac,rfl⟩ (fun i ys σ H' _ r=>(g.trans r.2.1).tup ha) ?_ ?_
    ·rintro i y ys σ H2 N hy ⟨rfl,g2,e2,hσ⟩ next;obtain ⟨d,hdi,hp⟩:=ra.get' hy;obtain ⟨z,k,rfl,_,_⟩:=dm (List.all_eq_true.mp hb d (List.mem_of_getElem? hdi));obtain ⟨b,x1,y2,rfl,hb',hp1,hp2⟩:=cV ((hp.same g).same g2);obtain rfl:=aP hp1
     match σ,hσ with
     | [_,_],_ =>
      refine ⟨b,_,rfl,hb',rfl,_,_,rfl,_,_,rfl,rfl,?_⟩;refine ⟨_,rfl,e2,?_,next _ _ _ ⟨bt (fun d=>V.str (nmD d)) hdi,aD hl2 g2,ac,rfl⟩⟩;rw [List.length_map,List.length_take];exact au (by lia)
    ·rintro ys σ H2 ⟨rfl,g2,e2,hσ⟩;rw [← el,List.take_length] at e2;have en:ds.map (fun d=>V.str (nmD d))=(ds.map nmD).map V.str:=by rw [List.map_map];rfl
     rw [en] at e2;have lns:(ds.map nmD).length=ds.length:=List.length_map ..
     generalize ds.map nmD=ns at *
     refine ⟨_,rfl,_,rfl,_,rfl,l2,_,rfl,SqL.of e2,fun l3 hl3=>?_⟩;have n23:l2≠l3:=aq e2 hl3;have ec:eW (ns.map V.str) (some 1) none=(ns.drop 1).map V.str:=by rw [nO,List.map_drop]
     rw [ec];have e2':(upd H2 l3 (.lst ((ns.drop 1).map V.str))) l2=some (.lst (ns.map V.str)):=by rw [ah n23];exact e2
     refine ⟨l2,l3,rfl,⟨_,SqL.of e2'⟩,⟨_,SqL.of ac⟩,fun l4 hl4=>?_⟩;have g4:=(ae hl3 (.lst ((ns.drop 1).map V.str)));refine nn (K:=K) (xs:=ns.map V.str) (ys:=(ns.drop 1).map V.str) (fun i ys σ H'=>ys=bls (((ns.zip (ns.drop 1)).take i).map fun p=>decide (ltS p.1 p.2))∧Same (upd H2 l3 (.lst ((ns.drop 1).map V.str))) H'∧H' l4=some (.lst ys)∧σ.length=2) ⟨rfl,ae hl4 _,ac,rfl⟩ (fun i us σ H' r=>⟨SqL.of (r.2.1 _ _ e2'),SqL.of (r.2.1 _ _ ac)⟩) ?_ ?_
     ·rintro i x y T us σ H5 N hx hy hT ⟨rfl,g5,e5,hσ⟩ next;rw [List.getElem?_map] at hx hy;obtain ⟨a1,ha1,rfl⟩:=Option.map_eq_some_iff.mp hx;obtain ⟨b1,hb1,rfl⟩:=Option.map_eq_some_iff.mp hy;have n4:l4≠T:=aq e5 hT;have hz:(ns.zip (ns.drop 1))[i]?=some (a1,b1):=List.getElem?_zip_eq_some.mpr ⟨ha1,hb1⟩;have li:=(List.getElem?_eq_some_iff.mp hz).1;rw [List.length_zip] at li
      match σ,hσ with
      | [_,_],_ =>
       refine ⟨T,_,rfl,.inl (.inl ac),rfl,_,_,rfl,_,_,rfl,rfl,?_⟩;refine ⟨_,rfl,_,rfl,_,_,rfl,rfl,by rw [ah n4];exact e5,?_,next _ _ _ ⟨?_,?_,ac,rfl⟩⟩
       ·simp only [bls,List.length_map,List.length_take];exact au (by lia)
       ·show List.map V.bl _++[V.bl (decide (ltS a1 b1))]=List.map V.bl _;rw [List.map_map,List.map_map];exact bt (V.bl ∘ fun p:Str×Str=>decide (ltS p.1 p.2)) hz
       ·exact aD hl4 (g5.trans (ae hT _))
     ·rintro us σ H5 ⟨rfl,g5,e5,hσ⟩;rw [List.length_map,List.length_map,← List.length_zip,List.take_length] at e5;refine ⟨l4,_,rfl,rfl,SqL.of e5,?_⟩;rw [List.all_map];exact q H5 (((g.trans g2).trans g4).trans g5)
def gr (K:PySem.W.Frag) (_:Ads):Sp:=fun vs H Q _=>∃ (fs:List Dt) (key:Dt) (x y:V),vs=[x,y]∧IsP K H (.tup [.str "record",.tup fs]) x∧IsP K H key y∧(∀ d∈fs,∃ z k,d=.tup [.str z,k])∧Dz K H (aV fs key) Q
theorem lJ {fs:List Dt} {key:Dt} (h:∀ d∈fs,fK key d=false):aV fs key=none:=by
 unfold aV;rw [List.find?_eq_none.mpr (fun d hd=>by rw [h d hd];exact Bool.false_ne_true)]
theorem kz {fs:List Dt} {key o k:Dt} {i:Nat} (h:fs[i]?=some (.tup [o,k])) (hk:eqD o key=true) (pre:∀ j d,j < i→fs[j]?=some d→fK key d=false):aV fs key=some k:=by
 have e:fs.find? (fK key)=some (.tup [o,k]):=by
  obtain ⟨li,ei⟩:=List.getElem?_eq_some_iff.mp h;rw [List.find?_eq_some_iff_getElem];refine ⟨hk,i,li,ei,fun j hj=>?_⟩;have:=pre j _ hj (List.getElem?_eq_getElem (Nat.lt_trans hj li));rw [this]
  rfl
 unfold aV;rw [e]
theorem bf (T:Tx K mg ad) {f:Addr} {fd:FuncData} (F:Gn K mg "field_kind" ci ["kind","name"] f fd):FnOk P w K mg base CX0 1 f fd ["kind","name"] (gr K ad):=by
 refine F.F.ok bW (fun vs H Q E h=>?_) (fun cdv A outer s H vs Q E hr h=>?_)
 ·obtain ⟨fs,key,x,y,rfl,_⟩:=h
  rfl
 obtain ⟨fs,key,x,y,rfl,hd,hk,prs,q'⟩:=h;refine ⟨_,(@pss_cons _ _ _ _ _ (@ps_if _ _ _ _ _ _ _ _ (pt_cmpR op_ne (@pi1 K _ _ _ _ _ _ _ rfl (pv 0)) pe_str (nomark _)) (@pss_one _ _ _ (@ps_ret _ _ _ _ pe_non)) pss_nil) (@pss_cons _ _ _ _ _ (bj PassesOwn.never rfl (bp (K:=K) rfl (@pi1 K _ _ _ _ _ _ _ rfl (pv 0))) (fw rfl (aw (ai (i:=2) bW.nd rfl (Or.inl rfl)) (aw (ai (i:=3) bW.nd rfl (Or.inl rfl)) bL)))
    (@pss_one _ _ _ (@ps_if _ _ _ _ _ _ _ _ (pt_cmpR (qB (K:=K) rfl hr.units) (pv 2) (pv 1) (nomark _)) (@pss_one _ _ _ (@ps_ret _ _ _ _ (pv 3))) pss_nil))) (@pss_one _ _ _ (@ps_ret _ _ _ _ pe_non)))),?_⟩
 refine ⟨_,rfl,_,_,_,hd,rfl,rfl,isS ?_⟩;refine ⟨rfl,_,rfl,im ⟨_,rfl,_,_,_,hd,rfl,rfl,fun v hv=>?_⟩⟩;obtain ⟨a,xs,rfl,ha,pa,ra⟩:=hv.unref;have el:=ra.length;refine ⟨a,rfl,⟨xs,ha⟩,dB (xs:=xs) (fun i σ H'=>H'=H∧(∀ j d,j < i→fs[j]?=some d→fK key d=false)∧∃ v1 v2,σ=[some x,some y,v1,v2]) ⟨rfl,fun j f hj=>absurd hj (Nat.not_lt_zero _),_,_,rfl⟩ (fun i σ H' _ p=>p.1 ▸ ha) ?_ ?_⟩
 ·rintro i u σ H' hu ⟨rfl,pre,v1,v2,rfl⟩;obtain ⟨e,he,hp⟩:=ra.get' hu;obtain ⟨z,k,rfl⟩:=prs e (List.mem_of_getElem? he);obtain ⟨b,x1,y2,rfl,hb,hp1,hp2⟩:=cV hp;refine ⟨b,_,rfl,hb,rfl,_,_,rfl,_,_,rfl,rfl,?_⟩;refine ⟨_,rfl,_,rfl,.str z,key,hp1.d,hk.d,(by show 0≤60;decide),_,rfl,ej (fun c=>?_) (fun c=>?_)⟩
  ·rw [kz he c pre] at q';exact ⟨_,rfl,q' _ hp2⟩
  ·refine ⟨rfl,fun j f hj hjf=>?_,_,_,rfl⟩;rcases Nat.lt_succ_iff_lt_or_eq.mp hj with h1 | h1
   ·exact pre j f h1 hjf
   ·subst h1;rw [he] at hjf;obtain rfl:=Option.some.inj hjf;exact Bool.eq_false_iff.mpr c
 ·rintro σ H' ⟨rfl,pre,v1,v2,rfl⟩;rw [lJ (fun d hd=>by
   obtain ⟨j,hj,e⟩:=List.mem_iff_getElem.mp hd;exact pre j d (by lia) (by rw [List.getElem?_eq_getElem hj,e]))] at q'
  exact q'
theorem wU (w:Str):inV (.str w) [.str "number",.str "text"]=(decide (w= "number") || decide (w= "text")):=by
 have e:∀ a:Str,eqV (.str a) (.str w)=decide (w=a):=fun a=>by
  show (a == w)=decide (w=a);rw [Bool.eq_iff_iff,decide_eq_true_iff,beq_iff_eq];exact ⟨Eq.symm,Eq.symm⟩
 show (eqV (.str "number") (.str w) || (eqV (.str "text") (.str w) || false))=_;rw [e,e,Bool.or_false]
theorem aS (d:Dt):am 0 d=false:=by simp [am]
theorem fN {r:Nat} {d:Dt} (h:am r d=true):∃ u l,d=.tup (.str u :: l):=by
 unfold am at h
 split at h <;> first | exact ⟨_,_,rfl⟩ | cases h
theorem pE {r:Nat} {l:List Dt} (h:am r (.tup (.str "record" :: l))=true):∃ r' fs,r=r' + 1∧l=[.tup fs]∧fs.all (aA (am r'))=true:=by
 cases r with
 | zero=>rw [aS] at h;cases h
 | succ r =>
  match l with
  | []=>cases h
  | [a] =>
   have h':iY (am r) a=true:=h
   cases a with
   | tup fs =>
    have h2:(decide (fs.length≤8) && fs.all (aA (am r)) && nN (fs.map nmD))=true:=h';rw [Bool.and_eq_true,Bool.and_eq_true] at h2;exact ⟨r,fs,rfl,rfl,h2.1.2⟩
   | _=>cases h'
  | [a,b]=>cases h
  | [a,b,c]=>cases h
  | a :: b :: c :: e :: l=>cases h
theorem qR {f:Dt→Bool} {key:Dt} {u:Str} {l:List Dt} (h:u≠ "record"):cZ f key (.tup (.str u :: l))=false:=by
 unfold cZ
 split
 ·rename_i e
  injection e with e
  injection e with e _
  injection e with e
  subst e;rw [decide_eq_false h,Bool.false_and,Bool.and_false]
 ·exact Bool.and_false _
theorem pF {fs:List Dt} {key k:Dt} (h:aV fs key=some k):∃ o,.tup [o,k]∈fs:=by
 unfold aV at h
 split at h
 ·rename_i o k' e
  obtain rfl:=Option.some.inj h;exact ⟨o,List.mem_of_find?_eq_some e⟩
 ·cases h
theorem kA (T:Tx K mg ad) {f ff:Addr} {fd fdf:FuncData} (n:Nat) (F:Gn K mg "are_rows" bF ["key","items","room"] f fd) (Eh:Gn K mg "is_formed" aT ["thing","room"] ff fdf)
  (Em:FnOk P w K mg base CX0 (3*n+3) ff fdf ["thing","room"] (ku K n)):FnOk P w K mg base CX0 (3*n+3+1) f fd ["key","items","room"] (pD K n):=by
 obtain ⟨_,_,Ec⟩:=T.field_kind;have Ej:=bf (P:=P) (w:=w) (base:=base) T Ec;refine F.F.ok sc_are_rows (fun vs H Q E h=>?_) (fun cdv A outer s H vs Q E hr h=>?_)
 ·obtain ⟨r,key,items,x,y,_,rfl,_⟩:=h
  rfl
 obtain ⟨r,key,items,x,y,hrn,rfl,hx,hy,okk,oki,q⟩:=h;refine ⟨_,(@pss_cons _ _ _ _ _ (@ps_if _ _ _ _ _ _ _ _ (PW.pt (@pw_or _ _ _ _ _ _ _ (@pt_not _ _ _ _ (@pt_val _ _ _ (pcl Eh Em (hr.mono (by lia)) rfl (@pa2 _ _ _ _ _ (pv 1) (pv 2) (by rfl) (by rfl))) (by intro _;rfl))) (@pw_or1 _ _ _ _ (pt_cmpR op_ne (@pi1 K _ _ _ _ _ _ _ rfl (pv 1)) pe_str (nomark _))))) (@pss_one _ _ _ (@ps_ret _ _ _ _ pe_bl)) pss_nil) (@pss_cons _ _ _ _ _ (@ps_set _ _ 3 _ _ _ _ sc_are_rows.nd rfl (Or.inl rfl) (pcl Ec Ej (hr.mono (by lia)) rfl (@pa2 _ _ _ _ _ (pv 1) (pv 0) (by rfl) (by rfl))) (by rfl) (by first | exact .inl rfl | exact .inr rfl | assumption)) (@pss_one _ _ _ (@ps_ret _ _ _ _ (pe_and (pe_cmpR op_notN (pv 3) pe_non (nomark _)) (pe_one (pe_cmpR (op_in_seqK (K:=K) rfl) (@pi1 K _ _ _ _ _ _ _ rfl (pv 3)) (@aj _ K _ _ _ _ rfl (@pa2 _ _ _ _ _ pe_str pe_str (by rfl) (by rfl))) rfl))))))),?_⟩;refine ⟨_,rfl,_,rfl,r,items,y,hrn,rfl,hy,oki,fun H1 g1=>⟨_,rfl,?_⟩⟩
 cases hb:am r items with
 | false =>
  have e:cZ (am r) key items=false:=by unfold cZ;rw [hb,Bool.false_and]
  rw [e] at q;exact az (az (q H1 g1))
 | true =>
  obtain ⟨u,l,rfl⟩:=fN hb;refine aH ?_;refine ⟨_,rfl,_,_,_,hy.same g1,rfl,at0 _ _,fun v hv=>?_⟩;obtain rfl:=aP hv;refine ⟨rfl,_,rfl,?_⟩
  by_cases hu:u= "record"
  ·subst hu;obtain ⟨r',fs,rfl,rfl,hall⟩:=pE hb;have e:cZ (am (r' + 1)) key (.tup [.str "record",.tup fs])=mw (aV fs key):=by
    unfold cZ;rw [hb]
    rfl
   rw [e] at q;refine im ?_;refine ⟨_,rfl,_,rfl,fs,key,y,x,rfl,hy.same g1,hx.same g1,fun d hd=>?_,?_⟩
   ·obtain ⟨z,k,rfl,_⟩:=dm (List.all_eq_true.mp hall d hd);exact ⟨z,k,rfl⟩
   cases hl:aV fs key with
   | none =>
    rw [hl] at q;exact ⟨_,rfl,rfl,_,rfl,aH (q H1 g1)⟩
   | some k =>
    rw [hl] at q;obtain ⟨o,hm⟩:=pF hl;obtain ⟨z,k',e2,_,fk⟩:=dm (List.all_eq_true.mp hall _ hm);injection e2 with e2
    injection e2 with e2 e3
    injection e3 with e3 _
    subst e3;obtain ⟨w1,l1,rfl⟩:=fN fk;intro v hv;obtain ⟨av,xv,rfl,_⟩:=id hv.unref;refine ⟨_,rfl,rfl,_,rfl,?_⟩;rw [decide_eq_false (show ¬ (V.ref av=V.non) by intro z;cases z)];refine az ?_;refine ⟨_,rfl,_,_,_,hv,rfl,at0 _ _,isS ?_⟩;refine ⟨[.str "number",.str "text"],.cons .str (.cons .str .nil),sz2,fun v3 H3 g3 hv3=>?_⟩;obtain ⟨a3,x3,rfl,hT3,_,r3⟩:=id hv3.unref;obtain rfl:=dk (ws:=["number","text"]) r3;refine ⟨a3,_,rfl,.inr hT3,rfl,rfl,?_⟩;show Q (.bl (inV (.str w1) [.str "number",.str "text"])) H3;rw [wU];exact q H3 (g1.trans g3)
  ·rw [qR hu] at q;exact rA (aE hu) (q H1 g1)
theorem kB {d:Dt} (h:bB d=true):(∃ a b,d=.tup [.str "number",a,b])∨(∃ a,d=.tup [.str "text",a])∨(∃ a,d=.tup [.str "choice",a])∨(∃ a b,d=.tup [.str "list",a,b])∨(∃ a,d=.tup [.str "record",a])∨(∃ a b c,d=.tup [.str "rows",a,b,c]):=by
 unfold bB at h
 split at h
 ·rename_i u l
  have h:=of_decide_eq_true h;have l1:∀ {l:List Dt},(2:Int)=((l.length+1:Nat):Int)→∃ a,l=[a]:=fun {l} e=>by
   match l with
   | []=>exact absurd e (by decide)
   | [a]=>exact ⟨a,rfl⟩
   | a :: b :: l=>exact absurd e (by simp only [List.length_cons];lia)
  have l2:∀ {l:List Dt},(3:Int)=((l.length+1:Nat):Int)→∃ a b,l=[a,b]:=fun {l} e=>by
   match l with
   | []=>exact absurd e (by decide)
   | [a]=>exact absurd e (by simp only [List.length_cons,List.length_nil];lia)
   | [a,b]=>exact ⟨a,b,rfl⟩
   | a :: b :: c :: l=>exact absurd e (by simp only [List.length_cons];lia)
  have l3:∀ {l:List Dt},(4:Int)=((l.length+1:Nat):Int)→∃ a b c,l=[a,b,c]:=fun {l} e=>by
   match l with
   | []=>exact absurd e (by decide)
   | [a]=>exact absurd e (by simp only [List.length_cons,List.length_nil];lia)
   | [a,b]=>exact absurd e (by simp only [List.length_cons,List.length_nil];lia)
   | [a,b,c]=>exact ⟨a,b,c,rfl⟩
   | a :: b :: c :: d :: l=>exact absurd e (by simp only [List.length_cons];lia)
  by_cases e1:u= "number"
  ·subst e1;obtain ⟨a,b,rfl⟩:=l2 (V.int.inj h);exact .inl ⟨a,b,rfl⟩
  by_cases e2:u= "text"
  ·subst e2;obtain ⟨a,rfl⟩:=l1 (V.int.inj h);exact .inr (.inl ⟨a,rfl⟩)
  by_cases e3:u= "choice"
  ·subst e3;obtain ⟨a,rfl⟩:=l1 (V.int.inj h);exact .inr (.inr (.inl ⟨a,rfl⟩))
  by_cases e4:u= "list"
  ·subst e4;obtain ⟨a,b,rfl⟩:=l2 (V.int.inj h);exact .inr (.inr (.inr (.inl ⟨a,b,rfl⟩)))
  by_cases e5:u= "record"
  ·subst e5;obtain ⟨a,rfl⟩:=l1 (V.int.inj h);exact .inr (.inr (.inr (.inr (.inl ⟨a,rfl⟩))))
  by_cases e6:u= "rows"
  ·subst e6;obtain ⟨a,b,c,rfl⟩:=l3 (V.int.inj h);exact .inr (.inr (.inr (.inr (.inr ⟨a,b,c,rfl⟩))))
  exfalso
  simp only [mr,bh,e1,e2,e3,e4,e5,e6,if_false] at h
  cases h
 ·cases h
theorem wV:bh "number" [("number",3),("text",2),("choice",2),("list",3),("record",2),("rows",4)]=.int 3:=by decide +kernel
theorem wW:bh "text" [("number",3),("text",2),("choice",2),("list",3),("record",2),("rows",4)]=.int 2:=by decide +kernel
theorem wX:bh "choice" [("number",3),("text",2),("choice",2),("list",3),("record",2),("rows",4)]=.int 2:=by decide +kernel
theorem wY:bh "list" [("number",3),("text",2),("choice",2),("list",3),("record",2),("rows",4)]=.int 3:=by decide +kernel
theorem wZ:bh "record" [("number",3),("text",2),("choice",2),("list",3),("record",2),("rows",4)]=.int 2:=by decide +kernel
theorem w9:bh "rows" [("number",3),("text",2),("choice",2),("list",3),("record",2),("rows",4)]=.int 4:=by decide +kernel
theorem lK {r:Nat} {d:Dt} (h:bB d=false):am r d=false:=by
 cases hb:am r d with
 | false=>rfl
 | true =>
  exfalso
  unfold am at hb
  split at hb
  ·cases hb
  ·rename_i u a
   split at hb
   ·subst_vars
    rw [show bB (.tup [.str "text",a])=true from decide_eq_true wW] at h
    cases h
   ·split at hb
    ·subst_vars
     rw [show bB (.tup [.str "choice",a])=true from decide_eq_true wX] at h
     cases h
    ·split at hb
     ·subst_vars
      rw [show bB (.tup [.str "record",a])=true from decide_eq_true wZ] at h
      cases h
     ·cases hb
  ·rename_i u a b
   split at hb
   ·subst_vars
    rw [show bB (.tup [.str "number",a,b])=true from decide_eq_true wV] at h
    cases h
   ·split at hb
    ·subst_vars
     rw [show bB (.tup [.str "list",a,b])=true from decide_eq_true wY] at h
     cases h
    ·cases hb
  ·rename_i u a b c
   split at hb
   ·subst_vars
    rw [show bB (.tup [.str "rows",a,b,c])=true from decide_eq_true w9] at h
    cases h
   ·cases hb
  ·cases hb
theorem i8 (T:Tx K mg ad) {f ff fr:Addr} {fd fdf fdr:FuncData} (n:Nat) (Eh:Gn K mg "is_formed" aT ["thing","room"] f fd) (Fl:Gn K mg "are_fields" aM ["fields","room"] ff fdf) (Fy:Gn K mg "are_rows" bF ["key","items","room"] fr fdr)
  (Em:FnOk P w K mg base CX0 (3*n+3) f fd ["thing","room"] (ku K n)) (Fg:FnOk P w K mg base CX0 (3*n+5) ff fdf ["fields","room"] (my K n)) (Fu:FnOk P w K mg base CX0 (3*n+4) fr fdr ["key","items","room"] (pD K n)) :
  FnOk P w K mg base CX0 (3*n+5+1) f fd ["thing","room"] (ku K (n+1)):=by
 obtain ⟨_,_,ES⟩:=T.has_parts;have Fp:=i6 (P:=P) (w:=w) (base:=base) T ES;obtain ⟨_,_,EL⟩:=T.are_bounds;have Fk:=gp (P:=P) (w:=w) (base:=base) T EL;obtain ⟨_,_,Ee⟩:=T.is_whole_within;have Ei:=bC (P:=P) (w:=w) (base:=base) T Ee;obtain ⟨_,_,EX⟩:=T.are_words;have Fm:=i7 (P:=P) (w:=w) (base:=base) T EX;obtain ⟨t_MOST_SIGNS,c_MOST_SIGNS⟩:=T.MOST_SIGNS;obtain ⟨t_MOST_ITEMS,c_MOST_ITEMS⟩:=T.MOST_ITEMS;refine Eh.F.ok sc_is_formed (fun vs H Q E h=>?_) (fun cdv A outer s H vs Q E hr h=>?_)
 ·obtain ⟨r,d,x,_,rfl,_⟩:=h
  rfl
 obtain ⟨r,d,x,hrn,rfl,hd,ok,q⟩:=h;refine ⟨_,(@pss_cons _ _ _ _ _ (@ps_if _ _ _ _ _ _ _ _ (PW.pt (@pw_or _ _ _ _ _ _ _ (pt_cmpR op_eq (pv 1) pe_int (nomark _)) (@pw_or1 _ _ _ _ (@pt_not _ _ _ _ (@pt_val _ _ _ (pcl ES Fp (hr.mono (by lia)) rfl (@pa1 _ _ _ (pv 0) (by rfl))) (by intro _;rfl)))))) (@pss_one _ _ _ (@ps_ret _ _ _ _ pe_bl)) pss_nil) (@pss_cons _ _ _ _ _ (@ps_set _ _ 2 _ _ _ _ sc_is_formed.nd rfl (Or.inl rfl) (@pi1 K _ _ _ _ _ _ _ rfl (pv 0)) (by rfl) (by first | exact .inl rfl | exact .inr rfl | assumption)) (@pss_cons _ _ _ _ _ (@ps_if _ _ _ _ _ _ _ _ (pt_cmpR op_eq (pv 2) pe_str (nomark _)) (@pss_one _ _ _ (@ps_ret _ _ _ _ (pcl EL Fk (hr.mono (by lia)) rfl (@pa2 _ _ _ _ _ (@pi1 K _ _ _ _ _ _ _ rfl (pv 0)) (@pi1 K _ _ _ _ _ _ _ rfl (pv 0)) (by rfl) (by rfl))))) pss_nil) (@pss_cons _ _ _ _ _ (@ps_if _ _ _ _ _ _ _ _ (pt_cmpR op_eq (pv 2) pe_str (nomark _)) (@pss_one _ _ _ (@ps_ret _ _ _ _ (pcl Ee Ei (hr.mono (by lia)) rfl (@pa3 _ _ _ _ _ _ _ (@pi1 K _ _ _ _ _ _ _ rfl (pv 0)) pe_int (pe_gint rfl c_MOST_SIGNS) (by rfl) (by rfl) (by rfl))))) pss_nil) (@pss_cons _ _ _ _ _ (@ps_if _ _ _ _ _ _ _ _ (pt_cmpR op_eq (pv 2) pe_str (nomark _)) (@pss_one _ _ _ (@ps_ret _ _ _ _ (pcl EX Fm (hr.mono (by lia)) rfl (@pa1 _ _ _ (@pi1 K _ _ _ _ _ _ _ rfl (pv 0)) (by rfl))))) pss_nil) (@pss_cons _ _ _ _ _ (@ps_if _ _ _ _ _ _ _ _ (pt_cmpR op_eq (pv 2) pe_str (nomark _)) (@pss_one _ _ _ (@ps_ret _ _ _ _ (pe_and (pcl Eh Em (hr.mono (by lia)) rfl (@pa2 _ _ _ _ _ (@pi1 K _ _ _ _ _ _ _ rfl (pv 0)) (@pe_op _ _ _ _ _ _ _ _ op_sub (pv 1) pe_int) (by rfl) (by rfl))) (pe_one (pcl Ee Ei (hr.mono (by lia)) rfl (@pa3 _ _ _ _ _ _ _ (@pi1 K _ _ _ _ _ _ _ rfl (pv 0)) pe_int (pe_gint rfl c_MOST_ITEMS) (by rfl) (by rfl) (by rfl))))))) pss_nil) (@pss_cons _ _ _ _ _ (@ps_if _ _ _ _ _ _ _ _ (pt_cmpR op_eq (pv 2) pe_str (nomark _)) (@pss_one _ _ _ (@ps_ret _ _ _ _ (pcl Fl Fg (hr.mono (by lia)) rfl (@pa2 _ _ _ _ _ (@pi1 K _ _ _ _ _ _ _ rfl (pv 0)) (@pe_op _ _ _ _ _ _ _ _ op_sub (pv 1) pe_int) (by rfl) (by rfl))))) pss_nil) (@pss_one _ _ _ (@ps_ret _ _ _ _ (pe_and (pcl Fy Fu (hr.mono (by lia)) rfl (@pa3 _ _ _ _ _ _ _ (@pi1 K _ _ _ _ _ _ _ rfl (pv 0)) (@pi1 K _ _ _ _ _ _ _ rfl (pv 0)) (@pe_op _ _ _ _ _ _ _ _ op_sub (pv 1) pe_int) (by rfl) (by rfl) (by rfl))) (pe_one (pcl Ee Ei (hr.mono (by lia)) rfl (@pa3 _ _ _ _ _ _ _ (@pi1 K _ _ _ _ _ _ _ rfl (pv 0)) pe_int (pe_gint rfl c_MOST_ITEMS) (by rfl) (by rfl) (by rfl)))))))))))))),?_⟩;refine ⟨_,rfl,rfl,_,rfl,?_⟩
 cases r with
 | zero =>
  rw [aS] at q;exact cv (az (q H (Same.refl H)))
 | succ r =>
  refine iteN (fun z=>by have:=V.int.inj z;lia) ?_;have e1:(((r+1:Nat):Int)) - 1=(r:Int):=by lia
  refine ⟨_,rfl,d,x,rfl,hd,ok,_,rfl,?_⟩
  cases hb:bB d with
  | false =>
   rw [lK hb] at q;exact az (q H (Same.refl H))
  | true =>
   refine aH ?_;rcases kB hb with ⟨a,b,rfl⟩ | ⟨a,rfl⟩ | ⟨a,rfl⟩ | ⟨a,b,rfl⟩ | ⟨a,rfl⟩ | ⟨a,b,c,rfl⟩
   ·refine ⟨_,rfl,_,_,_,hd,rfl,rfl,isS ?_⟩;refine ⟨_,rfl,rfl,_,rfl,cv ?_⟩;refine ⟨_,rfl,_,_,_,hd,rfl,rfl,fun va hva=>?_⟩;refine ⟨_,rfl,_,_,_,hd,rfl,rfl,fun vb hvb=>?_⟩;exact ⟨a,b,va,vb,rfl,hva,hvb,aL ok a (by simp),aL ok b (by simp),q H (Same.refl H)⟩
   ·refine ⟨_,rfl,_,_,_,hd,rfl,rfl,isS ?_⟩;refine ⟨_,rfl,rfl,_,rfl,iteN (aE (by decide)) ?_⟩;refine ⟨_,rfl,rfl,_,rfl,cv ?_⟩;refine ⟨_,rfl,_,_,_,hd,rfl,rfl,fun va hva=>?_⟩;exact ⟨a,va,0,60,rfl,hva,aL ok a (by simp),q H (Same.refl H)⟩
   ·refine ⟨_,rfl,_,_,_,hd,rfl,rfl,isS ?_⟩;refine ⟨_,rfl,rfl,_,rfl,iteN (aE (by decide)) ?_⟩;refine ⟨_,rfl,rfl,_,rfl,iteN (aE (by decide)) ?_⟩;refine ⟨_,rfl,rfl,_,rfl,cv ?_⟩;refine ⟨_,rfl,_,_,_,hd,rfl,rfl,fun va hva=>?_⟩;exact ⟨a,va,rfl,hva,aL ok a (by simp),q⟩
   ·replace q:∀ H',Same H H'→Q (.bl (am r a && be b 0 8)) H':=q;refine ⟨_,rfl,_,_,_,hd,rfl,rfl,isS ?_⟩;refine ⟨_,rfl,rfl,_,rfl,iteN (aE (by decide)) ?_⟩;refine ⟨_,rfl,rfl,_,rfl,iteN (aE (by decide)) ?_⟩;refine ⟨_,rfl,rfl,_,rfl,iteN (aE (by decide)) ?_⟩;refine ⟨_,rfl,rfl,_,rfl,cv ?_⟩;refine ⟨_,rfl,_,_,_,hd,rfl,rfl,fun va hva=>?_⟩;refine ⟨_,rfl,_,_,rfl,rfl,r,a,va,by lia,(by show [va,V.int (((r+1:Nat):Int) - 1)]=_;rw [e1]),hva,aL ok a (by simp),fun H1 g1=>⟨_,rfl,?_⟩⟩
    cases hf:am r a with
    | false =>
     rw [hf,Bool.false_and] at q;exact aH (q H1 g1)
    | true =>
     rw [hf,Bool.true_and] at q;refine az ?_;refine ⟨_,rfl,_,_,_,hd.same g1,rfl,rfl,fun vb hvb=>?_⟩;exact ⟨b,vb,0,8,rfl,hvb,aL ok b (by simp),q H1 g1⟩
   ·refine ⟨_,rfl,_,_,_,hd,rfl,rfl,isS ?_⟩;refine ⟨_,rfl,rfl,_,rfl,iteN (aE (by decide)) ?_⟩;refine ⟨_,rfl,rfl,_,rfl,iteN (aE (by decide)) ?_⟩;refine ⟨_,rfl,rfl,_,rfl,iteN (aE (by decide)) ?_⟩;refine ⟨_,rfl,rfl,_,rfl,iteN (aE (by decide)) ?_⟩;refine ⟨_,rfl,rfl,_,rfl,cv ?_⟩;refine ⟨_,rfl,_,_,_,hd,rfl,rfl,fun va hva=>?_⟩;exact ⟨_,rfl,_,_,rfl,rfl,r,a,va,by lia,(by show [va,V.int (((r+1:Nat):Int) - 1)]=_;rw [e1]),hva,aL ok a (by simp),q⟩
   ·replace q:∀ H',Same H H'→Q (.bl (cZ (am r) a b && be c 0 8)) H':=q;refine ⟨_,rfl,_,_,_,hd,rfl,rfl,isS ?_⟩;refine ⟨_,rfl,rfl,_,rfl,iteN (aE (by decide)) ?_⟩;refine ⟨_,rfl,rfl,_,rfl,iteN (aE (by decide)) ?_⟩;refine ⟨_,rfl,rfl,_,rfl,iteN (aE (by decide)) ?_⟩;refine ⟨_,rfl,rfl,_,rfl,iteN (aE (by decide)) ?_⟩;refine ⟨_,rfl,rfl,_,rfl,iteN (aE (by decide)) ?_⟩;refine ⟨_,rfl,_,_,_,hd,rfl,rfl,fun va hva=>?_⟩;refine ⟨_,rfl,_,_,_,hd,rfl,rfl,fun vb hvb=>?_⟩;refine ⟨_,rfl,_,_,rfl,rfl,r,a,b,va,vb,by lia,(by show [va,vb,V.int (((r+1:Nat):Int) - 1)]=_;rw [e1]),hva,hvb,aL ok a (by simp),aL ok b (by simp),fun H1 g1=>⟨_,rfl,?_⟩⟩
    cases hf:cZ (am r) a b with
    | false =>
     rw [hf,Bool.false_and] at q;exact aH (q H1 g1)
    | true =>
     rw [hf,Bool.true_and] at q;refine az ?_;refine ⟨_,rfl,_,_,_,hd.same g1,rfl,rfl,fun vc hvc=>?_⟩;exact ⟨c,vc,0,8,rfl,hvc,aL ok c (by simp),q H1 g1⟩
theorem fP (T:Tx K mg ad) {f ff fr fi:Addr} {fd fdf fdr fdi:FuncData} (A:Gn K mg "is_formed" aT ["thing","room"] f fd) (B:Gn K mg "are_fields" aM ["fields","room"] ff fdf) (C:Gn K mg "are_rows" bF ["key","items","room"] fr fdr) (D:Gn K mg "is_field" bE ["field","room"] fi fdi) :
  ∀ n,FnOk P w K mg base CX0 (3*n+3) f fd ["thing","room"] (ku K n)
 | 0=>mh fun vs H Q E z=>by obtain ⟨_,_,_,e,_⟩:=z;lia
 | n+1=>by
  have a:=fP T A B C D n;exact i8 T n A B C a (gq T n B D (kw T n D A a)) (kA T n C A a)
theorem qS {a c:Nat} {d:Dt} (h:FK a c d):∃ w l,d=.tup (.str w :: l):=by
 cases h <;> exact ⟨_,_,rfl⟩
theorem pG {K:PySem.W.Frag} {H:Hp} {z:Str} {d:Dt} {v:V} (h:IsP K H (prD (z,d)) v):∃ b y,v=.ref b∧SqT K H b [.str z,y]∧IsP K H d y:=by
 obtain ⟨b,ys,rfl,hb,pb,rb⟩:=h.unref
 cases rb with
 | cons r1 rb =>
  cases rb with
  | @cons _ _ y2 _ r2 rb =>
   cases rb
   obtain rfl:=aP r1;exact ⟨b,_,rfl,hb,r2⟩
theorem mz {z:Str} (h:ay z=true):okD (.str z)=true:=by
 simp only [ay,Bool.and_eq_true,decide_eq_true_eq] at h;exact decide_eq_true (by lia)
theorem dR {ws:List Str} (h:lF ws=true):1≤ws.length∧ws.length≤8∧ws.all ay=true∧ws.Nodup:=by
 simp only [lF,Bool.and_eq_true,decide_eq_true_eq] at h;exact ⟨h.1.1.1,h.1.1.2,h.1.2,h.2⟩
theorem lL {ws:List Str} (h:ws.Nodup):kr ws=ws.length:=by
 unfold kr L2.eA;rw [List.take_length,mi,List.length_reverse,List.length_map];exact List.pairwise_reverse.mpr (List.Pairwise.map _ (fun a b n e=>n (Sum.inr.inj e).symm) h)
theorem lM {a b:Dt} (ha:okD a=true) (hb:okD b=true):okD (.tup [a,b])=true:=by
 show (okD a && (okD b && true))=true;rw [ha,hb]
 rfl
theorem DB {a c:Nat} {d:Dt} (h:FK a c d):okD d=true:=by
 induction h with
 | text i=>rfl
 | choice ws hw =>
  obtain ⟨_,_,hn,_⟩:=dR hw;refine lM (by decide +kernel) (lH fun d hd=>?_);obtain ⟨z,hz,rfl⟩:=List.mem_map.mp hd;exact mz (List.all_eq_true.mp hn z hz)
 | number i j=>rfl
 | list g _ _ ih =>
  show (okD (.str "list") && (okD _ && (true && true)))=true;rw [ih]
  decide +kernel
 | @rows a c z l i g hz _ _ ih =>
  have hl:iX l=true:=by
   have:(okD (.str "record") && (iX l && true))=true:=ih;rw [Bool.and_eq_true,Bool.and_true] at this;exact this.2
  obtain ⟨w1,l1,hm,_⟩:=hz;have h2:(okD (.str z) && iX [.tup (.str w1 :: l1)])=true:=aL hl _ hm;rw [Bool.and_eq_true] at h2;show (okD (.str "rows") && (okD (.str z) && (okD (.tup [.str "record",.tup l]) && (true && true))))=true;rw [h2.1,ih]
  decide +kernel
 | @rcd gs g hs hn hl ih =>
  refine lM (by decide +kernel) (lH fun d hd=>?_);obtain ⟨u,hu,rfl⟩:=List.mem_map.mp hd;exact lM (mz (hn u hu)) (ih u hu)
theorem xf {a c:Nat} {l:List Dt} (h:FK a c (.tup [.str "record",.tup l])):∃ gs:List G4,l=gs.map prG∧a=gm (gs.map (·.2.2.1))+1∧c=sumN (gs.map (·.2.2.2))+1∧(∀ g∈gs,FK g.2.2.1 g.2.2.2 g.2.1)∧(gs.map (·.1)).Pairwise ltS∧(∀ g∈gs,ay g.1=true)∧gs.length≤8:=by
 cases h with
 | rcd h1 h2 h3 h4=>exact ⟨_,rfl,rfl,rfl,h1,h2,(fun g hg=>(h3 g hg)),h4⟩
theorem DC {gs:List G4} (nd:(gs.map (·.1)).Pairwise ltS) {g:G4} (h:g∈gs):aV (gs.map prG) (.str g.1)=some g.2.1:=by
 obtain ⟨i,hi,e⟩:=List.mem_iff_getElem.mp h;have e1:gs[i]?=some g:=by rw [List.getElem?_eq_getElem hi,e]
 refine kz (i:=i) (o:=.str g.1) (by rw [List.getElem?_map,e1];rfl) (bv _) fun j d hj hf=>?_;rw [List.getElem?_map] at hf;obtain ⟨g',hg',rfl⟩:=Option.map_eq_some_iff.mp hf;have hjl:=(List.getElem?_eq_some_iff.mp hg').1;have nd':=cB nd;show (g'.1 == g.1)=false;rw [beq_eq_false_iff_ne];intro c;have f1:(gs.map (·.1))[j]'(by simpa using hjl)=g.1:=by
  rw [List.getElem_map,(List.getElem?_eq_some_iff.mp hg').2];exact c
 have f2:(gs.map (·.1))[i]'(by simpa using hi)=g.1:=by
  rw [List.getElem_map,(List.getElem?_eq_some_iff.mp e1).2]
 exact List.pairwise_iff_getElem.mp nd' j i (by simpa using hjl) (by simpa using hi) hj (f1.trans f2.symm)
theorem pH:∀ {ns:List Str},ns.Pairwise ltS→nN ns=true
 | [],_=>rfl
 | [_],_=>rfl
 | a :: b :: l,h=>by
  have h':=List.pairwise_cons.mp h;have:=pH h'.2;unfold nN at this ⊢;rw [List.drop_one,List.tail_cons,List.zip_cons_cons,List.all_cons,Bool.and_eq_true];exact ⟨decide_eq_true (h'.1 b List.mem_cons_self),this⟩
theorem qT {a c:Nat} {d:Dt} (h:FK a c d):∀ n,am n d=decide (a≤n):=by
 induction h with
 | text i h1 h2 =>
  intro n
  cases n with
  | zero=>rw [aS];rfl
  | succ n =>
   show be (.int i) 0 60=_;simp [be,h1,h2]
 | choice ws hw =>
  obtain ⟨h1,h2,hn,nd⟩:=dR hw;intro n
  cases n with
  | zero=>rw [aS];rfl
  | succ n =>
   show (decide (1≤(ws.map Dt.str).length) && decide ((ws.map Dt.str).length≤8) && (ws.map Dt.str).all aQ && decide (kr ((ws.map Dt.str).map nM)=(ws.map Dt.str).length))=_;have e1:(ws.map Dt.str).map nM=ws:=by rw [List.map_map];exact List.map_id _
   have e2:(ws.map Dt.str).all aQ=true:=by rw [List.all_map];exact hn
   rw [e1,e2,List.length_map,lL nd];simp [h1,h2]
 | number i j h1 h12 h2 =>
  intro n
  cases n with
  | zero=>rw [aS];rfl
  | succ n =>
   show (decide (-1000000000000000000000000000000≤i) && decide (i≤j) && decide (j≤1000000000000000000000000000000))=_;simp [h1,h12,h2]
 | @list a c k i g h1 h2 ih =>
  intro n
  cases n with
  | zero=>rw [aS];simp
  | succ n =>
   show (am n k && (decide ((0:Int)≤i) && decide (i≤8)))=_;rw [ih n];simp [h1,h2]
 | @rows a c z l i g hz h1 h2 ih =>
  intro n
  cases n with
  | zero=>rw [aS];simp
  | succ n =>
   show ((am n (.tup [.str "record",.tup l]) && (decide (Str.ofString "record" = "record") && mw (aV l (.str z)))) && (decide ((0:Int)≤i) && decide (i≤8)))=_;obtain ⟨gs,rfl,_,_,_,nd,_,_⟩:=xf g;obtain ⟨w1,l1,hm,hw⟩:=hz;obtain ⟨u,hu,eu⟩:=List.mem_map.mp hm;have e1:u.1=z:=by injection eu with e;injection e with e _;injection e
   have e2:u.2.1=.tup (.str w1 :: l1):=by injection eu with e;injection e with _ e;injection e
   have e3:=DC nd hu;rw [e1,e2] at e3;rw [ih n,e3,show mw (some (.tup (.str w1 :: l1)))=true by show (decide (w1= "number") || decide (w1= "text"))=true;simpa using hw];simp [h1,h2]
 | @rcd gs g hs hn hl ih =>
  intro n
  cases n with
  | zero=>rw [aS];simp
  | succ n =>
   show (decide ((gs.map prG).length≤8) && (gs.map prG).all (aA (am n)) && nN ((gs.map prG).map nmD))=_;have e1:(gs.map prG).map nmD=gs.map (·.1):=by rw [List.map_map];rfl
   have e2:(gs.map prG).all (aA (am n))=decide (gm (gs.map (·.2.2.1))≤n):=by
    rw [List.all_map,Bool.eq_iff_iff,List.all_eq_true,decide_eq_true_iff]
    constructor
    ·intro h;refine max_le fun m hm=>?_;obtain ⟨u,hu,rfl⟩:=List.mem_map.mp hm;have:=h u hu;have h':(ay u.1 && am n u.2.1)=true:=this;rw [Bool.and_eq_true,ih u hu n] at h';exact of_decide_eq_true h'.2
    ·intro h u hu;show (ay u.1 && am n u.2.1)=true;rw [(hn u hu),ih u hu n,Bool.true_and];exact decide_eq_true (Nat.le_trans (lG (List.mem_map.mpr ⟨u,hu,rfl⟩)) h)
   rw [e1,pH hs,e2,List.length_map,decide_eq_true hl];simp
structure Wi (a c:Nat) (ks:List (Dt×Nat×Nat)):Prop where
 deep:a=gm (ks.map (·.2.1))+1
 many:c=sumN (ks.map (·.2.2))+1
 each:∀ k∈ks,FK k.2.1 k.2.2 k.1
 few:ks.length≤8
def qU (K:PySem.W.Frag):Sp:=fun vs H Q _=>∃ (a c:Nat) (d:Dt) (x:V),vs=[x]∧IsP K H d x∧FK a c d∧∀ p ys ks H',Same H H'→H p=none→H' p=some (.lst ys)→IsPs K H' (ks.map (·.1)) ys→Wi a c ks→Q (.ref p) H'
abbrev fe (K:PySem.W.Frag) (_:Ads):Sp:=qU K
theorem pI {a c:Nat} {k:Dt} (g:FK a c k):Wi (a+1) (c+1) [(k,a,c)]:=⟨by show a+1=max a 0+1;lia,rfl,fun k' hk=>by rw [List.mem_singleton.mp hk];exact g,by show 1≤8;decide⟩
theorem i9:Wi 1 1 []:=⟨rfl,rfl,(fun k hk=>by cases hk),by decide⟩
theorem xh {gs:List G4} (g:∀ g∈gs,FK g.2.2.1 g.2.2.2 g.2.1) (hl:gs.length≤8):Wi (gm (gs.map (·.2.2.1))+1) (sumN (gs.map (·.2.2.2))+1) (gs.map (·.2)):=by
 refine ⟨by rw [List.map_map];rfl,by rw [List.map_map];rfl,fun k hk=>?_,by rw [List.length_map];exact hl⟩;obtain ⟨g0,h0,rfl⟩:=List.mem_map.mp hk;exact g g0 h0
theorem fh (T:Tx K mg ad) {f:Addr} {fd:FuncData} (F:Gn K mg "kinds_within" bG ["kind"] f fd):FnOk P w K mg base CX0 2 f fd ["kind"] (fe K ad):=by
 obtain ⟨_,_,EU⟩:=T.item_kind;have Ft:=i5 (P:=P) (w:=w) (base:=base) T EU;refine F.F.ok cu (fun vs H Q E h=>?_) (fun cdv A outer s H vs Q E hr h=>?_)
 ·obtain ⟨a0,c0,d,x,rfl,_⟩:=h
  rfl
 obtain ⟨a0,c0,d,x,rfl,hd,pk,q⟩:=h;refine ⟨_,(@pss_cons _ _ _ _ _ (@ps_if _ _ _ _ _ _ _ _ (pt_cmpR op_eq (@pi1 K _ _ _ _ _ _ _ rfl (pv 0)) pe_str (nomark _)) (@pss_one _ _ _ (@ps_ret _ _ _ _ (bd rfl (cs0 (NL:=["name","inner"]) rfl (by decide +kernel) (by decide +kernel)) (bp (K:=K) rfl (@pi1 K _ _ _ _ _ _ _ rfl (pv 0))) (fun _ _ _ _=>(ft (K:=K) (n:=2) rfl rfl (aw (ai (i:=0) (show List.Nodup (α:=Str) ["name","inner"] by decide +kernel) rfl (Or.inl rfl)) (aw (ai (i:=1) (show List.Nodup (α:=Str) ["name","inner"] by decide +kernel) rfl (Or.inl rfl)) bL)))) (fun _ _ _ _=>(pv 1))))) pss_nil) (@pss_cons _ _ _ _ _ (@ps_set _ _ 1 _ _ _ _ cu.nd rfl (Or.inl rfl) (pcl EU Ft (hr.mono (by lia)) rfl (@pa1 _ _ _ (pv 0) (by rfl))) (by rfl) (by first | exact .inl rfl | exact .inr rfl | assumption)) (@pss_one _ _ _ (@ps_ret _ _ _ _ (jD (pt_cmpR op_isN (pv 1) pe_non (nomark _)) (@bu _ _ _ _ iA) (@bu _ _ _ _ (@pa1 _ _ _ (pv 1) (by rfl)))))))),?_⟩
 cases pk
 case rcd gs g hs hnm hl =>
  refine ⟨_,rfl,_,_,_,hd,rfl,rfl,isS ?_⟩;refine ⟨rfl,_,rfl,cv ?_⟩;refine ⟨_,rfl,_,_,_,hd,rfl,rfl,fun v hv=>?_⟩;obtain ⟨a,xs,rfl,ha,pa,ra⟩:=id hv.unref;have el:=ra.length;rw [List.length_map] at el;refine ⟨a,rfl,⟨_,ha⟩,fun l hln=>?_⟩;refine bZ (K:=K) (xs:=xs) (fun i ys σ H'=>Same H H'∧H' l=some (.lst ys)∧IsPs K H' ((gs.take i).map (·.2.1)) ys∧σ.length=2) ⟨ae hln _,ac,.nil,rfl⟩ (fun i ys σ H' _ r=>r.1.tup ha) ?_ ?_
  ·rintro i y ys σ H1 N hy ⟨g1,e1,hp1,hσ⟩ next;obtain ⟨d1,hdi,hp⟩:=ra.get' hy;rw [List.getElem?_map] at hdi;obtain ⟨⟨z,k,u1,u2⟩,hfi,rfl⟩:=Option.map_eq_some_iff.mp hdi;obtain ⟨b,y2,rfl,hb,hp2⟩:=pG (hp.same g1);have ly:=hp1.length;rw [List.length_map,List.length_take] at ly
   match σ,hσ with
   | [_,_],_ =>
    refine ⟨b,_,rfl,hb,rfl,_,_,rfl,_,_,rfl,rfl,?_⟩;refine ⟨_,rfl,e1,au (by lia),next _ _ _ ⟨aD hln g1,ac,?_,rfl⟩⟩;have e:(gs.take (i+1)).map (·.2.1)=(gs.take i).map (·.2.1)++[k]:=by rw [List.take_add_one,hfi,List.map_append];rfl
    rw [e];have bb:But l H1 (upd H1 l (.lst (ys++[y2]))):=But.put;exact (hp1.append (.cons hp2 .nil)).but e1 bb
  ·rintro ys σ H1 ⟨g1,e1,hp1,_⟩;rw [← el,List.take_length] at hp1;refine q l ys (gs.map (·.2)) H1 g1 hln e1 (by rw [List.map_map];exact hp1) (xh g hl)
 case list a1 c1 k i g h1 h2 =>
  refine ⟨_,rfl,_,_,_,hd,rfl,rfl,isS ?_⟩;refine ⟨rfl,_,rfl,iteN (aE (by decide)) ?_⟩;refine ⟨_,rfl,_,_,_,x,rfl,hd,.list g h1 h2,fun v hv=>?_⟩;refine ⟨_,rfl,rfl,_,rfl,iteN (by obtain ⟨w0,l,rfl⟩:=qS g;obtain ⟨a,_,rfl,_⟩:=hv.unref;intro e;cases e) ?_⟩;exact ⟨_,rfl,sz1,fun p hp=>q p _ [(k,a1,c1)] _ (ae hp _) hp ac (.cons (hv.same (ae hp _)) .nil) (pI g)⟩
 case rows a1 c1 z l i g hz h1 h2 =>
  refine ⟨_,rfl,_,_,_,hd,rfl,rfl,isS ?_⟩;refine ⟨rfl,_,rfl,iteN (aE (by decide)) ?_⟩;refine ⟨_,rfl,_,_,_,x,rfl,hd,.rows g hz h1 h2,fun v hv=>?_⟩;refine ⟨_,rfl,rfl,_,rfl,iteN (by obtain ⟨a,_,rfl,_⟩:=hv.unref;intro e;cases e) ?_⟩;exact ⟨_,rfl,sz1,fun p hp=>q p _ [(_,a1,c1)] _ (ae hp _) hp ac (.cons (hv.same (ae hp _)) .nil) (pI g)⟩
 case text i h1 h2 =>
  refine ⟨_,rfl,_,_,_,hd,rfl,rfl,isS ?_⟩;refine ⟨rfl,_,rfl,iteN (aE (by decide)) ?_⟩;refine ⟨_,rfl,_,_,_,x,rfl,hd,.text i h1 h2,?_⟩;exact ⟨_,rfl,rfl,_,rfl,cv ⟨(by show 0≤sizeLine;decide),fun p hp=>q p _ [] _ (ae hp _) hp ac .nil i9⟩⟩
 case choice ws h1 =>
  refine ⟨_,rfl,_,_,_,hd,rfl,rfl,isS ?_⟩;refine ⟨rfl,_,rfl,iteN (aE (by decide)) ?_⟩;refine ⟨_,rfl,_,_,_,x,rfl,hd,.choice ws h1,?_⟩;exact ⟨_,rfl,rfl,_,rfl,cv ⟨(by show 0≤sizeLine;decide),fun p hp=>q p _ [] _ (ae hp _) hp ac .nil i9⟩⟩
 case number i j h1 h12 h2 =>
  refine ⟨_,rfl,_,_,_,hd,rfl,rfl,isS ?_⟩;refine ⟨rfl,_,rfl,iteN (aE (by decide)) ?_⟩;refine ⟨_,rfl,_,_,_,x,rfl,hd,.number i j h1 h12 h2,?_⟩;exact ⟨_,rfl,rfl,_,rfl,cv ⟨(by show 0≤sizeLine;decide),fun p hp=>q p _ [] _ (ae hp _) hp ac .nil i9⟩⟩
def pJ (K:PySem.W.Frag) (n:Nat):Sp:=fun vs H Q _=>∃ (a c:Nat) (d:Dt) (x:V),a≤n∧vs=[x]∧IsP K H d x∧FK a c d∧∀ H',Same H H'→Q (.int c) H'
theorem mB:∀ l:List Nat,(l.map fun n:Nat=>(n:Int)).sum=((sumN l:Nat):Int)
 | []=>rfl
 | n :: l=>by
  rw [List.map_cons,List.sum_cons,mB l];show _=((n+sumN l:Nat):Int);lia
theorem ja (T:Tx K mg ad) {f:Addr} {fd:FuncData} (n:Nat) (Es:Gn K mg "kind_many" bN ["kind"] f fd) (ED:FnOk P w K mg base CX0 (n+3) f fd ["kind"] (pJ K n)):FnOk P w K mg base CX0 (n+3+1) f fd ["kind"] (pJ K (n+1)):=by
 obtain ⟨_,_,EG⟩:=T.kinds_within;have E7:=fh (P:=P) (w:=w) (base:=base) T EG;refine Es.F.ok jv (fun vs H Q E h=>?_) (fun cdv A outer s H vs Q E hr h=>?_)
 ·obtain ⟨a0,c0,d,x,_,rfl,_⟩:=h
  rfl
 obtain ⟨a0,c0,d,x,hle,rfl,hd,pk,q⟩:=h;refine ⟨_,(@pss_one _ _ _ (@ps_ret _ _ _ _ (@pe_op _ _ _ _ _ _ _ _ aC pe_int (pe_callB ox rfl T.z_sum boot_sum (@pa1 _ _ _ (bd rfl (cs0 (NL:=["inner"]) rfl (by decide +kernel) (by decide +kernel)) (bA (K:=K) rfl (pcl EG E7 (hr.mono (by lia)) rfl (@pa1 _ _ _ (pv 0) (by rfl)))) (fun _ _ _ _=>(ai (i:=0) (show List.Nodup (α:=Str) ["inner"] by decide +kernel) rfl (Or.inl rfl))) (fun _ _ _ _=>(pcl Es ED (hr.mono (by lia)) rfl (@pa1 _ _ _ (pv 0) (by rfl))))) (by rfl)))))),?_⟩;refine ⟨_,rfl,a0,c0,d,x,rfl,hd,pk,fun p ys ks H1 g1 hpn e1 hks wi=>?_⟩;have ly:=hks.length;rw [List.length_map] at ly;have few:=wi.few;refine ⟨p,rfl,⟨_,SqL.of e1⟩,fun l hln=>?_⟩;refine bx (K:=K) (xs:=ys) (fun i us σ H'=>us=((ks.take i).map fun k=>V.int (k.2.2:Nat))∧Same H1 H'∧H' l=some (.lst us)∧σ.length=1) ⟨rfl,ae hln _,ac,rfl⟩ (fun i us σ H' _ r=>SqL.of (r.2.1 _ _ e1)) ?_ ?_
 ·rintro i y us σ H2 N hy ⟨rfl,g2,e2,hσ⟩ next;obtain ⟨k0,hk0,hp⟩:=hks.get' hy;rw [List.getElem?_map] at hk0;obtain ⟨k,hk,rfl⟩:=Option.map_eq_some_iff.mp hk0;have mem:=List.mem_of_getElem? hk;have dl:=lG (List.mem_map.mpr ⟨k,mem,rfl⟩:k.2.1∈ks.map (·.2.1));have dd:=wi.deep
  match σ,hσ with
  | [_],_ =>
   refine ⟨_,rfl,k.2.1,k.2.2,k.1,y,by lia,rfl,hp.same g2,wi.each k mem,fun H3 g3=>⟨g3 _ _ e2,?_,next _ _ _ ⟨bt (fun k:Dt×Nat×Nat=>V.int (k.2.2:Nat)) hk,aD hln (g2.trans g3),ac,rfl⟩⟩⟩;rw [List.length_map,List.length_take];exact au (by lia)
 ·rintro us σ H2 ⟨rfl,g2,e2,_⟩;rw [← ly,List.take_length] at e2;have e2':H2 l=some (.lst (((ks.map (·.2.2)).map fun n:Nat=>(n:Int)).map V.int)):=by rw [e2,List.map_map,List.map_map];rfl
  refine ⟨l,_,rfl,rfl,SqL.of e2',_,_,rfl,rfl,?_⟩;rw [mB];show Q (.int ((1:Int)+((sumN (ks.map (·.2.2)):Nat):Int))) H2;have e:(1:Int)+((sumN (ks.map (·.2.2)):Nat):Int)=((c0:Nat):Int):=by rw [wi.many];lia
  rw [e];exact q H2 (g1.trans g2)
theorem kC (T:Tx K mg ad) {f:Addr} {fd:FuncData} (A:Gn K mg "kind_many" bN ["kind"] f fd):∀ n,FnOk P w K mg base CX0 (n+3) f fd ["kind"] (pJ K n)
 | 0=>mh fun vs H Q E z=>by obtain ⟨_,_,_,_,h,_,_,pk,_⟩:=z;have:=pk.pos;lia
 | n+1=>ja T n A (kC T A n)
def jb (K:PySem.W.Frag) (ad:Ads):Sp:=fun vs H Q E=>∃ (d:Dt) (x:V),vs=[x]∧IsP K H d x∧okD d=true ∧
 ((am 5 d=false∧∀ H',Same H H'→E (.ref ad.BadKind) none H')∨(∃ a c,FK a c d∧a≤5∧(c≤40→∀ H',Same H H'→Q x H')∧(40 < c→∀ H',Same H H'→E (.ref ad.BadKind) none H')))
theorem jc (T:Tx K mg ad) {f:Addr} {fd:FuncData} (F:Gn K mg "made_kind" cD ["kind"] f fd):FnOk P w K mg base (CXE P w) 22 f fd ["kind"] (jb K ad):=by
 obtain ⟨_,_,Eh⟩:=T.is_formed;obtain ⟨f1,d1,D1⟩:=T.are_fields;obtain ⟨f2,d2,D2⟩:=T.are_rows;obtain ⟨f3,d3,D3⟩:=T.is_field;have Em:=fP (P:=P) (w:=w) (base:=base) T Eh D1 D2 D3 6;obtain ⟨_,_,Es⟩:=T.kind_many;have ED:=kC (P:=P) (w:=w) (base:=base) T Es 5;obtain ⟨t_DEEPEST,c_DEEPEST⟩:=T.DEEPEST;obtain ⟨t_MOST_KINDS,c_MOST_KINDS⟩:=T.MOST_KINDS;refine F.F.okE jr (fun vs H Q E h=>?_) (fun cdv A outer s H vs Q E hr h=>?_)
 ·obtain ⟨d,x,rfl,_⟩:=h
  rfl
 obtain ⟨d,x,rfl,hd,ok,q⟩:=h;refine ⟨_,(@pss_cons _ _ _ _ _ (@ps_if _ _ _ _ _ _ _ _ (@pt_not _ _ _ _ (@pt_val _ _ _ (pcl Eh Em (hr.mono (by lia)) rfl (@pa2 _ _ _ _ _ (pv 0) (pe_gint rfl c_DEEPEST) (by rfl) (by rfl))) (by intro _;rfl))) (@pss_one _ _ _ (ps_raise xeOf rfl rfl rfl rfl T.x_BadKind rfl (@pa1 _ _ _ pe_str (by rfl)))) pss_nil) (@pss_cons _ _ _ _ _ (@ps_if _ _ _ _ _ _ _ _ (pt_cmpR op_gt (pcl Es ED (hr.mono (by lia)) rfl (@pa1 _ _ _ (pv 0) (by rfl))) (pe_gint rfl c_MOST_KINDS) (nomark _)) (@pss_one _ _ _ (ps_raise xeOf rfl rfl rfl rfl T.x_BadKind rfl (@pa1 _ _ _ pe_str (by rfl)))) pss_nil) (@pss_one _ _ _ (@ps_ret _ _ _ _ (pv 0))))),?_⟩;refine ⟨_,rfl,5,d,x,by decide,rfl,hd,ok,fun H1 g1=>⟨_,rfl,?_⟩⟩;rcases q with ⟨bad,q⟩ | ⟨a,c,fk,ha,q1,q2⟩
 ·rw [bad];exact az ⟨sz1,q H1 g1⟩
 ·rw [qT fk,decide_eq_true ha];refine aH ?_;refine ⟨_,rfl,a,c,d,x,ha,rfl,hd.same g1,fk,fun H2 g2=>⟨_,_,rfl,rfl,_,rfl,ej (fun c1=>?_) (fun c1=>?_)⟩⟩
  ·have c':((c:Nat):Int) > 40:=of_decide_eq_true c1;exact ⟨sz1,q2 (by lia) H2 (g1.trans g2)⟩
  ·have c':¬ ((c:Nat):Int) > 40:=fun z=>c1 (decide_eq_true z);exact ⟨_,rfl,q1 (by lia) H2 (g1.trans g2)⟩
def gu (K:PySem.W.Frag) (_:Ads):Sp:=fun vs H Q _=>∃ (a:Addr) (ns:List Int) (k:Int),vs=[.ref a,.int k]∧SqL K H a (ns.map V.int)∧ns.length≤64∧0≤k∧k < 1000 ∧
 ∀ r n H',H r=none→Same H H'→H' r=some (.lst [.int n])→Q (.ref r) H'
theorem jd (T:Tx K mg ad) {f:Addr} {fd:FuncData} (F:Gn K mg "_law_mixed" cK ["cell","k"] f fd):FnOk P w K mg base CX0 1 f fd ["cell","k"] (i4 K ad):=by
 refine F.F.ok d0 (fun vs H Q E h=>?_) (fun cdv A outer s H vs Q E hr h=>?_)
 ·obtain ⟨i,k,rfl,_⟩:=h
  rfl
 obtain ⟨i,k,rfl,q⟩:=h;refine ⟨_,(@pss_cons _ _ _ _ _ (@ps_set _ _ 2 _ _ _ _ d0.nd rfl (Or.inl rfl) (@pe_op _ _ _ _ _ _ _ _ eh (@pe_op _ _ _ _ _ _ _ _ b8 (@pe_op _ _ _ _ _ _ _ _ aC (@pe_op _ _ _ _ _ _ _ _ aC (@pe_op _ _ _ _ _ _ _ _ eh (pv 0) pe_int) (@pe_op _ _ _ _ _ _ _ _ b8 pe_int (pv 1))) pe_int) pe_int) pe_int) (by rfl) (by first | exact .inl rfl | exact .inr rfl | assumption)) (@pss_one _ _ _ (@ps_ret _ _ _ _ (@pe_op _ _ _ _ _ _ _ _ eh (@pe_op _ _ _ _ _ _ _ _ b8 (@pe_op _ _ _ _ _ _ _ _ eh (@pe_op _ _ _ _ _ _ _ _ b8 (pv 2) (pv 2)) pe_int) pe_int) pe_int)))),?_⟩;refine ⟨_,rfl,_,_,rfl,rfl,(by show (0:Int) < 1000000007;decide),_,rfl,_,_,rfl,rfl,.inl ⟨by decide,by decide⟩,_,_,rfl,rfl,_,_,rfl,rfl,_,_,rfl,rfl,.inr ⟨by decide,by decide⟩,_,_,rfl,rfl,(by show (0:Int) < 2147483647;decide),?_⟩;have b0:(0:Int)≤(i % 1000000007+7919*k+1)*48271 % 2147483647:=Int.emod_nonneg _ (by decide);have b1:(i % 1000000007+7919*k+1)*48271 % 2147483647 < 2147483647:=Int.emod_lt_of_pos _ (by decide);exact ⟨_,rfl,_,rfl,_,_,rfl,rfl,.inl ⟨by lia,by lia⟩,_,_,rfl,rfl,(by show (0:Int) < 2147483629;decide),_,_,rfl,rfl,.inr ⟨by decide,by decide⟩,_,_,rfl,rfl,(by show (0:Int) < 2147483647;decide),q _⟩
theorem je (T:Tx K mg ad) {f:Addr} {fd:FuncData} (F:Gn K mg "_law_digit" cL ["row","many"] f fd):FnOk P w K mg base CX0 1 f fd ["row","many"] (dQ K ad):=by
 refine F.F.ok ed (fun vs H Q E h=>?_) (fun cdv A outer s H vs Q E hr h=>?_)
 ·obtain ⟨r,n,m,rfl,_⟩:=h
  rfl
 obtain ⟨r,n,m,rfl,hr0,h0,h1,q⟩:=h;refine ⟨_,(@pss_cons _ _ _ _ _ (@ps_set _ _ 2 _ _ _ _ ed.nd rfl (Or.inl rfl) (@pe_op _ _ _ _ _ _ _ _ eh (@cY _ _ _ _ _ _ _ (bz (K:=K) rfl) (pv 0) pe_int (fun _ _=>rfl)) (pv 1)) (by rfl) (by first | exact .inl rfl | exact .inr rfl | assumption)) (@pss_cons _ _ _ _ _ (vZ (@pe_op _ _ _ _ _ _ _ _ bw (@cY _ _ _ _ _ _ _ (bz (K:=K) rfl) (pv 0) pe_int (fun _ _=>rfl)) (pv 1)) (vY (pv 0) pe_int oh)) (@pss_one _ _ _ (@ps_ret _ _ _ _ (pv 2))))),?_⟩;have e0:atI [V.int n] 0=some (.int n):=rfl;exact ⟨_,rfl,r,_,_,_,rfl,rfl,SqL.of hr0,e0,_,rfl,_,_,rfl,rfl,h0,_,rfl,r,_,_,_,rfl,rfl,SqL.of hr0,e0,_,rfl,_,_,rfl,rfl,⟨h0,h1⟩,_,rfl,r,_,_,_,rfl,rfl,hr0,rfl,_,rfl,q⟩
theorem xi {α:Type} {xs:List α} {d:Int} (h0:0≤d) (h1:d < (xs.length:Int)):∃ v,v∈xs∧atI xs d=some v:=by
 have hk:d.toNat < xs.length:=by lia
 have ek:((d.toNat:Nat):Int)=d:=by lia
 have e:atI xs ((d.toNat:Nat):Int)=some xs[d.toNat]:=iF (by simp [hk]);rw [ek] at e;exact ⟨xs[d.toNat],List.getElem_mem hk,e⟩
theorem pK (n:Int) {m:Int} (h:0 < m):0≤n % m∧n % m < m:=⟨Int.emod_nonneg _ (by lia),Int.emod_lt_of_pos _ h⟩
theorem xj (x:Int):Builtin.Int.intBits (x % 10 ^ (60:Int).toNat)≤200:=by
 have h0:(0:Int) < 10 ^ (60:Int).toNat:=by decide +kernel
 refine qx (Int.emod_nonneg _ (Int.ne_of_gt h0)) (Int.lt_trans (Int.emod_lt_of_pos _ h0) ?_)
 decide +kernel
theorem mC:Builtin.Int.intBits ((10:Int) ^ (60:Int).toNat)≤200:=by decide +kernel
theorem lN {lo c:Int} {n:Nat} {g:TG} {tb:TS} {D:Ends} {σ:L2.St} {H:Hp} (Pv:Nat→L2.St→Hp→Prop) (h0:Pv 0 σ H)
  (hs:∀ i σ H,i < n→Pv i σ H→g (.int (lo+i*c)) σ H fun σ2 H2=>tb { D with nx:=Pv (i+1),ct:=Pv (i+1),bk:=D.nx } σ2 H2) (hd:∀ σ H,Pv n σ H→D.nx σ H) :
  ∃ W:Nat→Nat→L2.St→Hp→Prop,(∃ m,W 0 m σ H)∧∀ i m σ H,W i m σ H →
   ((oK lo c n).stop i H∧D.nx σ H)∨((oK lo c n).go i H∧∃ N:L2.St→Hp→Prop,(∀ σ' H',N σ' H'→∃ m',m' < m∧W (i+1) m' σ' H')∧∀ x H',(oK lo c n).yld i H x H'→g x σ H' fun σ2 H2=>tb { D with nx:=N,ct:=N,bk:=D.nx } σ2 H2):=by
 refine ⟨fun i m σ H=>m=n - i∧i≤n∧Pv i σ H,⟨n,by simp,Nat.zero_le _,h0⟩,?_⟩;rintro i m σ H ⟨rfl,hi,p⟩
 by_cases hlt:i < n
 ·refine .inr ⟨hlt,Pv (i+1),fun σ' H' p'=>⟨n - (i+1),by lia,rfl,hlt,p'⟩,fun x H' y=>?_⟩;obtain ⟨e,y⟩:=y;subst e y;exact hs i σ _ hlt p
 ·have e:i=n:=by lia
  subst e;exact .inl ⟨Nat.le_refl _,hd σ H p⟩
theorem gv (T:Tx K mg ad) {f:Addr} {fd:FuncData} (F:Gn K mg "_law_stream" cr ["script","k"] f fd):FnOk P w K mg base CX0 2 f fd ["script","k"] (gu K ad):=by
 obtain ⟨_,_,EW⟩:=T.law_mixed;have Fo:=jd (P:=P) (w:=w) (base:=base) T EW;refine F.F.ok aB (fun vs H Q E h=>?_) (fun cdv A outer s H vs Q E hr h=>?_)
 ·obtain ⟨a,ns,k,rfl,_⟩:=h
  rfl
 obtain ⟨a,ns,k,rfl,hS,h63,h0,h1,q⟩:=h;refine ⟨_,(@pss_cons _ _ _ _ _ (@ps_set _ _ 2 _ _ _ _ aB.nd rfl (Or.inl rfl) pe_int (by rfl) (by first | exact .inl rfl | exact .inr rfl | assumption)) (@pss_cons _ _ _ _ _ (bj PassesOwn.never rfl (nh rfl T.z_range (@pa3 _ _ _ _ _ _ _ (pv 1) (pe_callB (call_len_seqN (K:=K) rfl) rfl T.z_len PySem.boot_len (@pa1 _ _ _ (pv 0) (by rfl))) pe_int (by rfl) (by rfl) (by rfl))) (ai (i:=3) aB.nd rfl (Or.inl rfl))
    (@pss_one _ _ _ (@ps_set _ _ 2 _ _ _ _ aB.nd rfl (Or.inl rfl) (@pe_op _ _ _ _ _ _ _ _ aC (@pe_op _ _ _ _ _ _ _ _ qv (pv 2) (@pe_op _ _ _ _ _ _ _ _ op_pow pe_int pe_int)) (@pe_op _ _ _ _ _ _ _ _ eh (@cY _ _ _ _ _ _ _ (bz (K:=K) rfl) (pv 0) (pv 3) (fun _ _=>rfl)) (@pe_op _ _ _ _ _ _ _ _ op_pow pe_int pe_int))) (by rfl) (by first | exact .inl rfl | exact .inr rfl | assumption)))) (@pss_cons _ _ _ _ _ (@ps_if _ _ _ _ _ _ _ _ (pt_cmpR CZ (pv 2) (@pe_op _ _ _ _ _ _ _ _ op_pow pe_int pe_int) (nomark _)) (@pss_one _ _ _ (@ps_ret _ _ _ _ (@bu _ _ _ _ (@pa1 _ _ _ (pv 2) (by rfl))))) pss_nil) (@pss_cons _ _ _ _ _ (@ps_set _ _ 4 _ _ _ _ aB.nd rfl (Or.inl rfl) pe_int (by rfl) (by first | exact .inl rfl | exact .inr rfl | assumption)) (@pss_cons _ _ _ _ _ (bj PassesOwn.never rfl (ee rfl T.z_range (@pa1 _ _ _ pe_int (by rfl))) (ai (i:=3) aB.nd rfl (Or.inl rfl))
    (@pss_one _ _ _ (@ps_set _ _ 4 _ _ _ _ aB.nd rfl (Or.inl rfl) (@pe_op _ _ _ _ _ _ _ _ aC (@pe_op _ _ _ _ _ _ _ _ b8 (pv 4) pe_int) (pcl EW Fo (hr.mono (by lia)) rfl (@pa2 _ _ _ _ _ (@pe_op _ _ _ _ _ _ _ _ aC (@pe_op _ _ _ _ _ _ _ _ aC (pv 2) (@pe_op _ _ _ _ _ _ _ _ b8 pe_int (pv 1))) (pe_callB (call_len_seqN (K:=K) rfl) rfl T.z_len PySem.boot_len (@pa1 _ _ _ (pv 0) (by rfl)))) (pv 3) (by rfl) (by rfl)))) (by rfl) (by first | exact .inl rfl | exact .inr rfl | assumption)))) (@pss_one _ _ _ (@ps_ret _ _ _ _ (@bu _ _ _ _ (@pa1 _ _ _ (@pe_op _ _ _ _ _ _ _ _ bw (pv 4) pe_int) (by rfl)))))))))),?_⟩
 have hlen:(ns.map V.int).length=ns.length:=List.length_map _;have hn:rngN k ns.length 9≤64:=by
  have:=mf (a:=k) (b:=ns.length) (c:=9) (by decide)
  split at this <;> lia
 refine ⟨_,rfl,_,rfl,a,_,rfl,.inl hS,_,_,_,rfl,⟨h0,by lia,by lia,by rw [hlen];lia,by decide,by decide⟩,?_⟩;rw [hlen];refine lN (lo:=k) (c:=9) (n:=rngN k ns.length 9) (fun i σ H'=>H'=H∧∃ x v,Builtin.Int.intBits x≤1+402*i∧σ=[some (.ref a),some (.int k),some (.int x),v,none]) ⟨rfl,0,none,by decide,rfl⟩ ?_ ?_
 ·rintro i σ H' hi ⟨rfl,x,v,hx,rfl⟩;have hlt:=qw (a:=k) (b:=ns.length) (c:=9) (by decide) hi;have hk:(k+i*9).toNat < ns.length:=by lia
  have ek:(((k+i*9).toNat:Nat):Int)=k+i*9:=by lia
  have e:atI (ns.map V.int) (((k+i*9).toNat:Nat):Int)=some (.int ns[(k+i*9).toNat]):=iF (by simp [hk]);rw [ek] at e;refine ⟨_,rfl,_,_,rfl,rfl,⟨by decide,by decide,by decide⟩,_,_,rfl,rfl,mulOk_of_bits (m:=1+402*i) (n:=200) hx mC (by lia),?_⟩;refine ⟨_,rfl,_,rfl,a,_,_,_,rfl,rfl,hS,e,_,_,rfl,rfl,⟨by decide,by decide,by decide⟩,_,_,rfl,rfl,(by show (0:Int) < 10 ^ (60:Int).toNat;decide +kernel),_,_,rfl,rfl,?_⟩;refine ⟨rfl,_,_,?_,rfl⟩;refine Nat.le_trans (intBits_add_le (intBits_mul_le hx mC) (xj _)) ?_;lia
 ·rintro σ H' ⟨rfl,x,v,hx,rfl⟩;refine ⟨_,rfl,_,_,rfl,rfl,⟨by decide,by decide,by decide⟩,_,_,rfl,rfl,_,rfl,?_⟩;refine ej (fun c1=>?_) (fun c1=>?_)
  ·exact ⟨_,rfl,sz1,fun r hr'=>q r x _ hr' (ae hr' _) ac⟩
  refine ⟨9,rfl,by decide,by decide,eg (lo:=0) (n:=(9:Int).toNat) (fun i σ H1=>H1=H'∧∃ y v,σ=[some (.ref a),some (.int k),some (.int x),v,some (.int y)]) ⟨rfl,0,_,rfl⟩ ?_ ?_⟩
  ·rintro i σ H1 hi ⟨rfl,y,v,rfl⟩;refine ⟨_,rfl,_,_,rfl,rfl,.inr ⟨by decide,by decide⟩,?_⟩;refine ⟨_,rfl,_,rfl,_,_,rfl,rfl,.inl ⟨by decide,by decide⟩,_,_,rfl,rfl,_,rfl,a,_,rfl,.inl hS,_,_,rfl,rfl,_,rfl,_,_,rfl,fun m=>?_⟩;exact ⟨_,_,rfl,rfl,rfl,_,_,rfl⟩
  ·rintro σ H1 ⟨rfl,y,v,rfl⟩;exact ⟨_,rfl,_,_,rfl,rfl,⟨by decide,by decide⟩,sz1,fun r hr'=>q r _ _ hr' (ae hr' _) ac⟩
def kD (K:PySem.W.Frag) (_:Ads):Sp:=fun vs H Q _=>∃ (gs:List (Str×Dt)) (z:Str) (e:Dt) (x:V),vs=[x,.str z]∧IsP K H (.tup [.str "record",.tup (gs.map prD)]) x∧ak gs z=some e∧∀ v,IsP K H e v→Q v H
theorem iq {z:Str} {d:Dt}:∀ {fs:List (Str×Dt)} {i:Nat},fs[i]?=some (z,d)→(∀ j f,j < i→fs[j]?=some f→f.1≠z)→ak fs z=some d
 | [],i,h,_=>by simp at h
 | f :: fs,0,h,_=>by
  obtain rfl:f=(z,d):=by simpa using h
  simp [ak]
 | f :: fs,i+1,h,pre=>by
  have hz:¬ f.1=z:=pre 0 f (Nat.succ_pos _) rfl;have h2:fs[i]?=some (z,d):=by simpa using h
  have e:ak (f :: fs) z=ak fs z:=by simp [ak,hz]
  rw [e];exact iq h2 fun j g hj hg=>pre (j+1) g (Nat.succ_lt_succ hj) (by simpa using hg)
theorem mD {z:Str}:∀ {fs:List (Str×Dt)},(∀ f∈fs,f.1≠z)→ak fs z=none
 | [],_=>by simp [ak]
 | f :: fs,h=>by
  have hz:¬ f.1=z:=h f List.mem_cons_self;have e:ak (f :: fs) z=ak fs z:=by simp [ak,hz]
  rw [e];exact mD fun g hg=>h g (List.mem_cons_of_mem _ hg)
theorem kE (T:Tx K mg ad) {f:Addr} {fd:FuncData} (F:Gn K mg "field_of" du ["record","name"] f fd):FnOk P w K mg base CX0 1 f fd ["record","name"] (kD K ad):=by
 refine F.F.ok cM (fun vs H Q E h=>?_) (fun cdv A outer s H vs Q E hr h=>?_)
 ·obtain ⟨gs,z,e,x,rfl,_⟩:=h
  rfl
 obtain ⟨gs,z,e0,x,rfl,hd,lk,q⟩:=h;refine ⟨_,(@pss_cons _ _ _ _ _ (bj PassesOwn.never rfl (bp (K:=K) rfl (@pi1 K _ _ _ _ _ _ _ rfl (pv 0))) (fw rfl (aw (ai (i:=2) cM.nd rfl (Or.inl rfl)) (aw (ai (i:=3) cM.nd rfl (Or.inl rfl)) bL)))
    (@pss_one _ _ _ (@ps_if _ _ _ _ _ _ _ _ (pt_cmpR op_eq (pv 2) (pv 1) (nomark _)) (@pss_one _ _ _ (@ps_ret _ _ _ _ (pv 3))) pss_nil))) (@pss_one _ _ _ (@ps_ret _ _ _ _ pe_non))),?_⟩
 refine ⟨_,rfl,_,_,_,hd,rfl,rfl,fun v hv=>?_⟩;obtain ⟨a,xs,rfl,ha,pa,ra⟩:=hv.unref;have el:=ra.length;rw [List.length_map] at el;refine ⟨a,rfl,⟨xs,ha⟩,dB (xs:=xs) (fun i σ H'=>H'=H∧(∀ j f,j < i→gs[j]?=some f→f.1≠z)∧∃ v1 v2,σ=[some x,some (.str z),v1,v2]) ⟨rfl,fun j f hj=>absurd hj (Nat.not_lt_zero _),_,_,rfl⟩ (fun i σ H' _ p=>p.1 ▸ ha) ?_ ?_⟩
 ·rintro i y σ H' hy ⟨rfl,pre,v1,v2,rfl⟩;obtain ⟨e,he,hp⟩:=ra.get' hy;rw [List.getElem?_map] at he;obtain ⟨⟨w,e'⟩,hf,rfl⟩:=Option.map_eq_some_iff.mp he;obtain ⟨b,ys,rfl,hb,pb,rb⟩:=hp.unref
  cases rb with
  | cons r1 rb =>
   cases rb with
   | @cons _ _ y2 _ r2 rb =>
    cases rb
    obtain rfl:=aP r1;refine ⟨b,_,rfl,hb,rfl,_,_,rfl,_,_,rfl,rfl,?_⟩;refine ⟨_,rfl,_,rfl,rfl,_,rfl,?_⟩
    by_cases hz:w=z
    ·subst hz;rw [iq hf pre] at lk;obtain rfl:=Option.some.inj lk;exact cv ⟨_,rfl,q _ r2⟩
    ·refine iteN (aE hz) ⟨rfl,fun j f hj hjf=>?_,_,_,rfl⟩;rcases Nat.lt_succ_iff_lt_or_eq.mp hj with h1 | h1
     ·exact pre j f h1 hjf
     ·subst h1;rw [hf] at hjf;obtain rfl:=Option.some.inj hjf;exact hz
 ·rintro σ H' ⟨rfl,pre,v1,v2,rfl⟩;rw [mD (fun f hf=>by
   obtain ⟨j,hj,e⟩:=List.mem_iff_getElem.mp hf;exact pre j f (by lia) (by rw [List.getElem?_eq_getElem hj,e]))] at lk
  cases lk
theorem kF:∀ {a b:List Str},a.Pairwise ltS→b.Pairwise ltS→a.Perm b→a=b
 | [],b,_,_,h=>(List.nil_perm.mp h).symm
 | x :: a,[],_,_,h=>absurd (List.perm_nil.mp h) (by simp)
 | x :: a,y :: b,ha,hb,h=>by
  have ha':=List.pairwise_cons.mp ha;have hb':=List.pairwise_cons.mp hb;have e:x=y:=by
   rcases List.mem_cons.mp (h.mem_iff.mp (List.mem_cons_self:x∈x :: a)) with e | hx
   ·exact e
   ·rcases List.mem_cons.mp (h.mem_iff.mpr (List.mem_cons_self:y∈y :: b)) with e | hy
    ·exact e.symm
    ·exact absurd (List.lt_trans (hb'.1 x hx) (ha'.1 y hy)) (List.lt_irrefl _)
  subst e;rw [kF ha'.2 hb'.2 (List.Perm.cons_inv h)]
theorem pL {a b:Str} (h:¬ ltS b a) (n:a≠b):ltS a b:=by
 by_cases c:ltS a b
 ·exact c
 ·refine absurd ?_ n;have e:a.cps.toList=b.cps.toList:=List.le_antisymm (List.not_lt.mp h) (List.not_lt.mp c)
  cases a
  cases b
  simp only at e;rw [Array.toList_inj.mp e]
theorem ir:∀ (l:List Str) (p:Str),risingS p l=true→(p :: l).Nodup→(p :: l).Pairwise ltS
 | [],p,_,_=>List.pairwise_singleton _ _
 | x :: l,p,h,nd=>by
  simp only [risingS,ltCps_eq,Bool.and_eq_true,Bool.not_eq_true',decide_eq_false_iff_not] at h;have nd':=List.nodup_cons.mp nd;have ih:=ir l x h.2 nd'.2;have px:ltS p x:=pL h.1 fun e=>nd'.1 (e ▸ List.mem_cons_self);refine List.pairwise_cons.mpr ⟨fun y hy=>?_,ih⟩;rcases List.mem_cons.mp hy with rfl | hy
  ·exact px
  ·exact List.lt_trans px ((List.pairwise_cons.mp ih).1 y hy)
theorem nP {l:List Str} (h:sortedS l=true) (nd:l.Nodup):l.Pairwise ltS:=by
 cases l with
 | nil=>exact .nil
 | cons x l=>exact ir l x h nd
mutual
theorem fQ {K:PySem.W.Frag} {H H':Hp} {p:Addr} {kvs:List (Key×V)} (hp:H p=some (.dK kvs)) (g:But p H H'):∀ {d:Dt} {v:V},IsP K H d v→IsP K H' d v
 | _,_,.non=>.non
 | _,_,.bl=>.bl
 | _,_,.int=>.int
 | _,_,.str=>.str
 | _,_,.tup h pl q=>.tup (g.tup (by obtain ⟨o,u,e,dn⟩:=pl;exact cX e hp (by intro c;cases c)) h) (by
   obtain ⟨o,u,e,dn⟩:=pl;exact ⟨o,u,g _ _ (cX e hp (by intro c;cases c)) e,dn⟩) (eE hp g q)
theorem eE {K:PySem.W.Frag} {H H':Hp} {p:Addr} {kvs:List (Key×V)} (hp:H p=some (.dK kvs)) (g:But p H H'):∀ {l:List Dt} {xs:List V},IsPs K H l xs→IsPs K H' l xs
 | _,_,.nil=>.nil
 | _,_,.cons h q=>.cons (fQ hp g h) (eE hp g q)
end
abbrev fl (ss:List Str) (f:Str→Dt):List (Str×Dt):=ss.map fun z=>(z,f z)
abbrev bJ (fs:List (Str×Dt)):Dt:=.tup [.str "record",.tup (fs.map prD)]
theorem qV {ss:List Str} {f:Str→Dt} {j:Nat} {z:Str} (h:ss[j]?=some z):(fl (ss.take (j+1)) f).map prD=(fl (ss.take j) f).map prD++[.tup [.str z,f z]]:=by
 rw [List.take_add_one,h];simp
theorem pM {z:Str} {fs:List (Str×Dt)} (h:z∈fs.map (·.1)):∃ d,ak fs z=some d:=by
 induction fs with
 | nil=>simp at h
 | cons g fs ih =>
  by_cases e:g.1=z
  ·exact ⟨g.2,by simp [ak,e]⟩
  ·have e2:ak (g :: fs) z=ak fs z:=by simp [ak,e]
   rw [e2];refine ih ?_;rcases List.mem_cons.mp h with q | q
   ·exact absurd q.symm e
   ·exact q
theorem pN (z:Str):∀ ws:List Str,inV (V.str z) (ws.map V.str)=decide (z∈ws)
 | []=>by simp [inV]
 | w :: ws=>by
  have ih:=pN z ws;have e:inV (V.str z) ((w :: ws).map V.str)=(eqV (V.str w) (V.str z) || inV (V.str z) (ws.map V.str)):=rfl;have e2:eqV (V.str w) (V.str z)=decide (w=z):=rfl;rw [e,ih,e2,Bool.eq_iff_iff];simp only [Bool.or_eq_true,decide_eq_true_eq,List.mem_cons];exact ⟨fun h=>h.imp Eq.symm id,fun h=>h.imp Eq.symm id⟩
theorem pO (ws:List Str):(ws.map V.str).all dF=true:=by rw [List.all_map];exact List.all_eq_true.mpr fun _ _=>rfl
theorem qW {a b:List Str} (ha:a.Pairwise ltS) (hb:b.Pairwise ltS) (h:∀ z,z∈a↔z∈b):a=b :=
 kF ha hb ((List.perm_ext_iff_of_nodup (cB ha) (cB hb)).mpr h)
def jf (K:PySem.W.Frag) (_:Ads):Sp:=fun vs H Q _=>∃ (p:Addr) (ns:List Str) (f:Str→Dt),vs=[.ref p]∧DicN K H p ns f∧ns.Nodup∧ns.length≤60∧∀ v H' ss,Same H H'→ss.Perm ns→ss.Pairwise ltS→IsP K H' (bJ (fl ss f)) v→Q v H'
theorem jg (T:Tx K mg ad) {f:Addr} {fd:FuncData} (F:Gn K mg "record_of" bO ["fields"] f fd):FnOk P w K mg base CX0 1 f fd ["fields"] (jf K ad):=by
 refine F.F.ok jw (fun vs H Q E h=>?_) (fun cdv A outer s H vs Q E hr h=>?_)
 ·obtain ⟨p,ns,f,rfl,_⟩:=h
  rfl
 obtain ⟨p,ns,f,rfl,⟨kvs,ep,ek,kv⟩,nd,l60,q⟩:=h;refine ⟨_,(@pss_one _ _ _ (@ps_ret _ _ _ _ (@aj _ K _ _ _ _ rfl (@pa2 _ _ _ _ _ pe_str (a8 (ce (K:=K) rfl) rfl T.z_tuple boot_tuple (@pa1 _ _ _ (bd rfl (csR (sc:=aa bO) (NL:=["name"]) (N:=["fields"]) (ρ:=[0]) (N':=["name","fields"]) rfl rfl rfl (by decide +kernel) (by decide +kernel) (by decide +kernel) rfl (by decide +kernel)) (bA (K:=K) rfl (pe_callB (j3 rfl) rfl T.z_sorted boot_sorted (@pa1 _ _ _ (pv 0) (by rfl)))) (fun _ _ _ _=>(ai (i:=0) (show List.Nodup (α:=Str) ["name","fields"] by decide +kernel) rfl (Or.inl rfl))) (fun _ _ _ _=>(aj (K:=K) rfl (@pa2 _ _ _ _ _ (pv 0) (@qp _ _ _ _ _ _ (u1 hr.units) (pv 1) (pv 0) (fun _ _=>rfl)) (by rfl) (by rfl))))) (by rfl))) (by rfl) (by rfl))))),?_⟩;refine ⟨_,rfl,p,kvs,ns,rfl,.inl ep,ek,by lia,fun a ss ha pm srt=>?_⟩;have g1:=ae ha (.lst (ss.map V.str));have e1:(upd H a (.lst (ss.map V.str))) a=some (.lst (ss.map V.str)):=ac
 generalize upd H a (.lst (ss.map V.str))=H1 at g1 e1 ⊢
 have ls:ss.length≤60:=by rw [pm.length_eq];exact l60
 refine ⟨a,rfl,⟨_,SqL.of e1⟩,fun l hl=>?_⟩;refine bx (K:=K) (xs:=ss.map V.str) (fun j ys σ H'=>Same H1 H'∧H' l=some (.lst ys)∧IsPs K H' ((fl (ss.take j) f).map prD) ys∧∃ v1,σ=[v1,some (.ref p)])
  ⟨ae hl _,ac,.nil,none,rfl⟩ (fun j ys σ H' _ pv=>SqL.of (pv.1 _ _ e1)) ?_ ?_
 ·rintro j u ys σ H2 N hu ⟨s2,e2,d2,v1,rfl⟩ next;rw [List.getElem?_map] at hu;obtain ⟨z,hz,rfl⟩:=Option.map_eq_some_iff.mp hu;obtain ⟨v,hv1,hv2⟩:=kv z (pm.mem_iff.mp (List.mem_of_getElem? hz));have hv3:=hv2.same (g1.trans s2);have ly:ys.length < sizeLine:=by
   rw [← d2.length,List.length_map,List.length_map];exact au (by have:=List.length_take_le' j ss;lia)
  refine ⟨_,rfl,_,rfl,_,rfl,p,v,rfl,.inl ⟨kvs,Sum.inr z,.inl (s2 _ _ (g1 _ _ ep)),rfl,hv1.symm⟩,?_⟩;refine ⟨[.str z,f z],.cons .str (.cons hv3 .nil),sz2,fun vt H3 g3 hvt=>?_⟩;have g4:Same H2 (upd H3 l (.lst (ys++[vt])))∨True:=.inr trivial;refine ⟨g3 _ _ e2,ly,next _ _ _ ⟨aD hl (s2.trans g3),ac,?_,_,rfl⟩⟩;rw [qV hz];exact IsPs.but (g3 _ _ e2) But.put ((d2.same g3).append (.cons hvt .nil))
 ·rintro ys σ H2 ⟨s2,e2,d2,v1,rfl⟩;rw [List.length_map,List.take_length] at d2;refine ⟨l,ys,_,rfl,SqL.of e2,d2,fun vt H3 g3 hvt=>?_⟩;refine ⟨[.str "record",.tup ((fl ss f).map prD)],.cons .str (.cons hvt .nil),sz2,fun vr H4 g4 hvr=>?_⟩;exact q vr H4 ss (((g1.trans s2).trans g3).trans g4) pm (nP srt (pm.nodup_iff.mpr nd)) hvr
theorem pP {K:PySem.W.Frag} {H:Hp} {p:Addr} {ns:List Str} {f:Str→Dt} {z:Str} {d:Dt} {v:V} {kvs:List (Key×V)} (ep:H p=some (.dK kvs)) (ek:kvs.map (·.1)=ns.map (Sum.inr:Str→Key)) (kv:∀ z∈ns,∃ v,aI kvs (Sum.inr z:Key)=some v∧IsP K H (f z) v) (hd:IsP K H d v) :
  DicN K (upd H p (.dK (ca kvs (Sum.inr z:Key) v))) p (if z∈ns then ns else ns++[z]) (fun y=>if y=z then d else f y):=by
 refine ⟨_,ac,ny kvs ns z v ek,fun y hy=>?_⟩;show ∃ u,aI (ca kvs (Sum.inr z:Key) v) (Sum.inr y)=some u∧IsP K _ (if y=z then d else f y) u;rw [oE]
 by_cases e:y=z
 ·subst e;rw [if_pos rfl,if_pos rfl];exact ⟨v,rfl,fQ ep But.put hd⟩
 ·rw [if_neg (fun q=>e (Sum.inr.inj q)),if_neg e];have hn:y∈ns:=by
   split at hy
   ·exact hy
   ·rcases List.mem_append.mp hy with h | h
    ·exact h
    ·exact absurd (List.mem_singleton.mp h) e
  obtain ⟨u,h1,h2⟩:=kv y hn;exact ⟨u,h1,fQ ep But.put h2⟩
def fR (K:PySem.W.Frag) (_:Ads):Sp:=fun vs H Q _=>∃ (tp tq:Bool) (fs:List (Str×Dt)) (ns:List Str) (f:Str→Dt) (x:V) (a b:Addr) (xs:List V),vs=[x,.ref a,.ref b]∧IsP K H (bJ fs) x∧(fs.map (·.1)).Nodup∧fs.length≤8∧ns.length≤8 ∧
 SqE tp K H a (ns.map V.str)∧SqE tq K H b xs∧IsPs K H (ns.map f) xs∧∀ v H' ss,Same H H'→ss.Pairwise ltS→(∀ z,z∈ss↔z∈fs.map (·.1)∨z∈ns)→IsP K H' (bJ (fl ss fun z=>if z∈ns then f z else (ak fs z).getD .non)) v→Q v H'
theorem fS {K:PySem.W.Frag} {H:Hp} {p:Addr} {ns:List Str} {f g:Str→Dt} (h:DicN K H p ns f) (e:∀ z∈ns,f z=g z):DicN K H p ns g:=by
 obtain ⟨kvs,a,b,c⟩:=h;exact ⟨kvs,a,b,fun z hz=>by rw [← e z hz];exact c z hz⟩
theorem fU (T:Tx K mg ad) {f:Addr} {fd:FuncData} (F:Gn K mg "with_fields" bR ["record","names","values"] f fd):FnOk P w K mg base CX0 2 f fd ["record","names","values"] (fR K ad):=by
 obtain ⟨_,_,ET⟩:=T.record_of;have Fn:=jg (P:=P) (w:=w) (base:=base) T ET;refine F.F.ok aX (fun vs H Q E h=>?_) (fun cdv A outer s H vs Q E hr h=>?_)
 ·obtain ⟨tp,tq,fs,ns,f,x,a,b,xs,rfl,_⟩:=h
  rfl
 obtain ⟨tp,tq,fs,ns,f,x,a,b,xs,rfl,hd,nd,l8,n8,ha,hb,dx,q⟩:=h;refine ⟨_,(@pss_cons _ _ _ _ _ (@ps_set _ _ 3 _ _ _ _ aX.nd rfl (Or.inl rfl) (a8 (j6 (K:=K) rfl rfl) rfl T.z_dict boot_dict (@pa1 _ _ _ (@pi1 K _ _ _ _ _ _ _ rfl (pv 0)) (by rfl))) (by rfl) (by first | exact .inl rfl | exact .inr rfl | assumption)) (@pss_cons _ _ _ _ _ (bj PassesOwn.never rfl (kn rfl T.z_zip (@pa2 _ _ _ _ _ (pv 1) (pv 2) (by rfl) (by rfl))) (fw rfl (aw (ai (i:=4) aX.nd rfl (Or.inl rfl)) (aw (ai (i:=5) aX.nd rfl (Or.inl rfl)) bL)))
    (@pss_one _ _ _ (qq (u1 hr.units) (pv 3) (pv 4) (pv 5) rfl))) (@pss_one _ _ _ (@ps_ret _ _ _ _ (pcl ET Fn (hr.mono (by lia)) rfl (@pa1 _ _ _ (pv 3) (by rfl))))))),?_⟩
 refine ⟨_,rfl,_,_,_,hd,rfl,rfl,fun v1 hv1=>?_⟩;refine ⟨v1,fs,rfl,hv1,nd,by lia,fun p H1 hpn g1 dq=>?_⟩;obtain ⟨kvs,ep,ek,kval⟩:=dq;have dn:DicN K H1 p (fs.map (·.1)) (fun z=>(ak fs z).getD .non):=⟨kvs,ep,by rw [ek,List.map_map];rfl,fun z hz=>by
  obtain ⟨d,hd⟩:=pM hz;obtain ⟨v,h1,h2⟩:=(kval z).2 d hd;exact ⟨v,h1,by show IsP K H1 ((ak fs z).getD .non) v;rw [hd];exact h2⟩⟩
 have lx:xs.length=ns.length:=by rw [← dx.length,List.length_map]
 have lmin:min (ns.map V.str).length xs.length=ns.length:=by rw [List.length_map,lx,Nat.min_self]
 refine ⟨_,rfl,_,rfl,tp,tq,a,b,rfl,⟨_,ha.same g1⟩,⟨_,hb.same g1⟩,ko (tp:=tp) (tq:=tq) (K:=K) (xs:=ns.map V.str) (ys:=xs) (fun i σ H'=>∃ (l:List Str) (v4 v5:Option V),Same H H'∧SqE tp K H' a (ns.map V.str)∧SqE tq K H' b xs∧IsPs K H' (ns.map f) xs∧l.Nodup∧l.length≤fs.length+i∧(∀ z,z∈l↔z∈fs.map (·.1)∨z∈ns.take i)∧DicN K H' p l (fun z=>if z∈ns.take i then f z else (ak fs z).getD .non)∧i≤ns.length∧σ=[some x,some (.ref a),some (.ref b),some (.ref p),v4,v5])
  ⟨_,none,none,g1,ha.same g1,hb.same g1,dx.same g1,nd,by rw [List.length_map];lia,fun z=>by simp,fS dn fun z _=>by simp,Nat.zero_le _,rfl⟩ (fun i σ H' pv=>by
   obtain ⟨_,_,_,_,h1,h2,_⟩:=pv;exact ⟨h1,h2⟩) ?_ ?_⟩
 ·rintro i u y T σ H2 hu hy hT ⟨l,v4,v5,s2,a2,b2,d2,nl,ll,ml,⟨kvs2,ep2,ek2,kv2⟩,li,rfl⟩;rw [List.getElem?_map] at hu;obtain ⟨z,hz,rfl⟩:=Option.map_eq_some_iff.mp hu;obtain ⟨d,hdz,hpd⟩:=d2.get' hy;rw [List.getElem?_map,hz] at hdz;obtain rfl:f z=d:=Option.some.inj hdz;have gT:=ae hT (.tup [V.str z,y]);have eT:(upd H2 T (.tup [V.str z,y])) T=some (.tup [V.str z,y]):=ac
  generalize upd H2 T (.tup [V.str z,y])=H3 at gT eT ⊢
  have hi:=(List.getElem?_eq_some_iff.mp hz).1;have lk:kvs2.length=l.length:=by have:=congrArg List.length ek2;simpa using this
  refine ⟨T,_,rfl,.inl (.inl eT),rfl,_,_,rfl,_,_,rfl,rfl,?_⟩;refine ⟨_,rfl,_,rfl,_,rfl,p,_,rfl,.inl ⟨kvs2,Sum.inr z,gT _ _ ep2,rfl,au (by lia),rfl⟩,?_⟩;have ep3:=gT _ _ ep2;have B:But p H3 (upd H3 p (.dK (ca kvs2 (Sum.inr z:Key) y))):=But.put;have dn3:=pP (z:=z) ep3 ek2 (fun z hz=>by obtain ⟨v,h1,h2⟩:=kv2 z hz;exact ⟨v,h1,h2.same gT⟩) (hpd.same gT);have tk:ns.take (i+1)=ns.take i++[z]:=by rw [List.take_add_one,hz];rfl
  refine ⟨_,_,_,fun c o ec=>B c o (aq ec hpn) (gT _ _ (s2 _ _ ec)),(a2.same gT).butD ep3 B,(b2.same gT).butD ep3 B,eE ep3 B (d2.same gT),?_,?_,?_,fS dn3 ?_,hi,rfl⟩
  ·split
   ·exact nl
   ·exact List.nodup_append.mpr ⟨nl,(by simp),fun c hc d hd=>by
     obtain rfl:=List.mem_singleton.mp hd;intro e;subst e
     contradiction⟩
  ·split
   ·lia
   ·rw [List.length_append,List.length_singleton];lia
  ·intro y;rw [tk,List.mem_append,List.mem_singleton];have:=ml y
   split
   ·rename_i hzl
    rw [this]
    constructor
    ·rintro (h | h)
     ·exact .inl h
     ·exact .inr (.inl h)
    ·rintro (h | h | h)
     ·exact .inl h
     ·exact .inr h
     ·subst h;exact (ml y).mp hzl
   ·rw [List.mem_append,this,List.mem_singleton,or_assoc]
  ·intro y _;rw [tk]
   by_cases e:y=z
   ·subst e;simp
   ·simp [e]
 ·rintro σ H2 ⟨l,v4,v5,s2,a2,b2,d2,nl,ll,ml,dn2,li,rfl⟩;rw [lmin] at ml dn2 ll;rw [List.take_length] at ml dn2;refine ⟨_,rfl,p,l,_,rfl,dn2,nl,by lia,fun v H3 ss g3 pm asc hv=>?_⟩;exact q v H3 ss (s2.trans g3) asc (fun z=>by rw [pm.mem_iff];exact ml z) hv
theorem eV {gs:List (Str×Dt)} {p:Str×Dt→Bool} {j:Nat} {g:Str×Dt} (h:gs[j]?=some g):(gs.take (j+1)).filter p=(gs.take j).filter p++(if p g=true then [g] else []):=by
 rw [List.take_add_one,h,List.filter_append]
 congr 1
 by_cases e:p g=true
 ·simp [e]
 ·simp [e]
def dS (K:PySem.W.Frag) (_:Ads):Sp:=fun vs H Q _=>∃ (gs:List (Str×Dt)) (ns:List Str) (x:V) (a:Addr),vs=[x,.ref a]∧IsP K H (bJ gs) x∧gs.length≤8∧(SqL K H a (ns.map V.str)∨SqT K H a (ns.map V.str))∧∀ v H',Same H H'→IsP K H' (bJ (gs.filter fun g=>!decide (g.1∈ns))) v→Q v H'
theorem dU (T:Tx K mg ad) {f:Addr} {fd:FuncData} (F:Gn K mg "without_fields" aN ["record","names"] f fd):FnOk P w K mg base CX0 1 f fd ["record","names"] (dS K ad):=by
 refine F.F.ok dZ (fun vs H Q E h=>?_) (fun cdv A outer s H vs Q E hr h=>?_)
 ·obtain ⟨gs,ns,x,a,rfl,_⟩:=h
  rfl
 obtain ⟨gs,ns,x,a,rfl,hd,l8,ha,q⟩:=h;refine ⟨_,(@pss_one _ _ _ (@ps_ret _ _ _ _ (@aj _ K _ _ _ _ rfl (@pa2 _ _ _ _ _ pe_str (a8 (ce (K:=K) rfl) rfl T.z_tuple boot_tuple (@pa1 _ _ _ (mW rfl (csR (sc:=aa aN) (NL:=["pair"]) (N:=["record","names"]) (ρ:=[1]) (N':=["pair","names"]) rfl rfl rfl (by decide +kernel) (by decide +kernel) (by decide +kernel) rfl (by decide +kernel)) (bp (K:=K) rfl (@pi1 K _ _ _ _ _ _ _ rfl (pv 0))) (fun _ _ _ _=>(ai (i:=0) (show List.Nodup (α:=Str) ["pair","names"] by decide +kernel) rfl (Or.inl rfl))) (fun _ _ _ _=>(pt_cmpR (gj (K:=K) rfl) (@pi1 K _ _ _ _ _ _ _ rfl (pv 0)) (pv 1) rfl)) (fun _ _ _ _=>(pv 0))) (by rfl))) (by rfl) (by rfl))))),?_⟩;refine ⟨_,rfl,_,_,_,hd,rfl,rfl,fun v1 hv1=>?_⟩;obtain ⟨b,xs,rfl,hb,pb,rb⟩:=hv1.unref;have el:=rb.length;rw [List.length_map] at el;refine ⟨b,rfl,⟨xs,hb⟩,fun l hl=>?_⟩;refine bZ (K:=K) (xs:=xs) (fun j ys σ H'=>Same H H'∧H' l=some (.lst ys)∧IsPs K H' (((gs.take j).filter fun g=>!decide (g.1∈ns)).map prD) ys∧∃ v1,σ=[v1,some (.ref a)])
  ⟨ae hl _,ac,.nil,none,rfl⟩ (fun j ys σ H' _ pv=>pv.1.tup hb) ?_ ?_
 ·rintro j u ys σ H2 N hu ⟨s2,e2,d2,v1,rfl⟩ next;obtain ⟨e,he,hp⟩:=rb.get' hu;rw [List.getElem?_map] at he;obtain ⟨⟨z,d⟩,hf,rfl⟩:=Option.map_eq_some_iff.mp he;have hp2:=hp.same s2;have ha2:SqL K H2 a (ns.map V.str)∨SqT K H2 a (ns.map V.str):=ha.imp s2.seq s2.tup;have ly:ys.length < sizeLine:=by
   rw [← d2.length,List.length_map];exact au (by have:=List.length_filter_le (fun g:Str×Dt=>!decide (g.1∈ns)) (gs.take j);have:=List.length_take_le' j gs;lia)
  refine ⟨_,rfl,_,_,_,hp2,rfl,rfl,isS ?_⟩;refine ⟨_,rfl,a,_,rfl,ha2,rfl,pO _,_,rfl,?_⟩;rw [pN];refine ej (fun c=>?_) (fun c=>?_)
  ·refine ⟨_,rfl,e2,ly,next _ _ _ ⟨aD hl s2,ac,?_,_,rfl⟩⟩;rw [eV hf];have c':(!decide ((z,d).1∈ns))=true:=c;rw [if_pos c',List.map_append];exact IsPs.but e2 But.put (d2.append (.cons hp2 .nil))
  ·refine next _ _ _ ⟨s2,e2,?_,_,rfl⟩;rw [eV hf];have c':¬ (!decide ((z,d).1∈ns))=true:=c;rw [if_neg c',List.append_nil];exact d2
 ·rintro ys σ H2 ⟨s2,e2,d2,v1,rfl⟩;rw [← el,List.take_length] at d2;refine ⟨l,ys,_,rfl,SqL.of e2,d2,fun vt H3 g3 hvt=>?_⟩;refine ⟨[.str "record",.tup ((gs.filter fun g=>!decide (g.1∈ns)).map prD)],.cons .str (.cons hvt .nil),sz2,fun vr H4 g4 hvr=>?_⟩;exact q vr H4 ((s2.trans g3).trans g4) hvr
theorem aR {i:Nat} {u u':Str} {A b:TS} {D:Ends} {σ:L2.St} {H:Hp} (hσ:σ[i]?=some (some (.str u'))) (hn:u'≠u) (h:b D σ H):nW (nX (gQ (tOp rEq (kT i) (tC (.str u)))) A jE) b D σ H:=⟨_,hσ,rfl,_,rfl,iteN (aE hn) h⟩
theorem fV {i:Nat} {u:Str} {A b:TS} {D:Ends} {σ:L2.St} {H:Hp} (hσ:σ[i]?=some (some (.str u))) (h:A { D with nx:=b D } σ H):nW (nX (gQ (tOp rEq (kT i) (tC (.str u)))) A jE) b D σ H:=⟨_,hσ,rfl,_,rfl,cv h⟩
theorem pQ {K:PySem.W.Frag} {H:Hp} {u1 u2:Str} {v:V} (h:IsP K H (.tup [.str u1,.str u2]) v):∃ p,v=.ref p∧SqT K H p [.str u1,.str u2]:=by
 obtain ⟨p,x,y,rfl,hp,h1,h2⟩:=cV h;rw [aP h1,aP h2] at hp;exact ⟨p,rfl,hp⟩
theorem rB {i:Nat} {u' u1 u2:Str} {K:PySem.W.Frag} {A b:TS} {D:Ends} {σ:L2.St} {H:Hp} (hσ:σ[i]?=some (some (.str u'))) (h1:u'≠u1) (h2:u'≠u2) (h:∀ H',Same H H'→b D σ H'):nW (nX (gQ (tOp (rIn K false) (kT i) (me K (cx (tC (.str u1)) (cx (tC (.str u2)) mP))))) A jE) b D σ H:=by
 refine ⟨_,hσ,[.str u1,.str u2],.cons .str (.cons .str .nil),sz2,fun v H1 g1 hv=>?_⟩;obtain ⟨p,rfl,hp⟩:=pQ hv;refine ⟨p,_,rfl,.inr hp,rfl,rfl,_,rfl,?_⟩;rw [show inV (V.str u') [V.str u1,.str u2]=false from by
  show (decide (u1=u') || (decide (u2=u') || false))=false;rw [decide_eq_false (Ne.symm h1),decide_eq_false (Ne.symm h2)];rfl]
 exact aH (h H1 g1)
theorem DD {i:Nat} {u1 u2:Str} {K:PySem.W.Frag} {A b:TS} {D:Ends} {σ:L2.St} {H:Hp} (hσ:σ[i]?=some (some (.str u2))) (ne:u1≠u2) (h:∀ H',Same H H'→A { D with nx:=b D } σ H'):nW (nX (gQ (tOp (rIn K false) (kT i) (me K (cx (tC (.str u1)) (cx (tC (.str u2)) mP))))) A jE) b D σ H:=by
 refine ⟨_,hσ,[.str u1,.str u2],.cons .str (.cons .str .nil),sz2,fun v H1 g1 hv=>?_⟩;obtain ⟨p,rfl,hp⟩:=pQ hv;refine ⟨p,_,rfl,.inr hp,rfl,rfl,_,rfl,?_⟩;rw [show inV (V.str u2) [V.str u1,.str u2]=true from by
  show (decide (u1=u2) || (decide (u2=u2) || false))=true;rw [decide_eq_false ne,decide_eq_true rfl];rfl]
 exact az (h H1 g1)
abbrev aY (i j:Int):Dt:=.tup [.str "number",.int i,.int j]
abbrev spD (z0:Str) (c:Int) (z1 z2:Str):Dt:=.tup [.str "part",.str z0,.int c,.str z1,.str z2]
abbrev pth (z:Str):Dt:=.tup [.str z]
def fW (K:PySem.W.Frag) (_:Ads):Sp:=fun vs H Q _=>∃ (z0:Str) (c:Int) (z1 z2:Str) (x:V),vs=[x]∧IsP K H (spD z0 c z1 z2) x∧∀ a v H',H a=none→Same H H'→H' a=some (.lst [v])→IsP K H' (pth z0) v→Q (.ref a) H'
theorem bD (T:Tx K mg ad) {f:Addr} {fd:FuncData} (F:Gn K mg "taken_paths" bS ["piece"] f fd):FnOk P w K mg base CX0 1 f fd ["piece"] (fW K ad):=by
 refine F.F.ok cN (fun vs H Q E h=>?_) (fun cdv A outer s H vs Q E hr h=>?_)
 ·obtain ⟨z0,c,z1,z2,x,rfl,_⟩:=h
  rfl
 obtain ⟨z0,c,z1,z2,x,rfl,hp,q⟩:=h;refine ⟨_,(@pss_cons _ _ _ _ _ (@ps_set _ _ 1 _ _ _ _ cN.nd rfl (Or.inl rfl) (@pi1 K _ _ _ _ _ _ _ rfl (pv 0)) (by rfl) (by first | exact .inl rfl | exact .inr rfl | assumption)) (@pss_cons _ _ _ _ _ (@ps_if _ _ _ _ _ _ _ _ (pt_cmpR op_eq (pv 1) pe_str (nomark _)) af pss_nil) (@pss_cons _ _ _ _ _ (@ps_if _ _ _ _ _ _ _ _ (pt_cmpR op_eq (pv 1) pe_str (nomark _)) af pss_nil) (@pss_cons _ _ _ _ _ (@ps_if _ _ _ _ _ _ _ _ (pt_cmpR (op_in_seqK (K:=K) rfl) (pv 1) (@aj _ K _ _ _ _ rfl (@pa2 _ _ _ _ _ pe_str pe_str (by rfl) (by rfl))) rfl) af pss_nil) (@pss_one _ _ _ (@ps_ret _ _ _ _ (@bu _ _ _ _ (@pa1 _ _ _ (@aj _ K _ _ _ _ rfl (@pa1 _ _ _ (@pi1 K _ _ _ _ _ _ _ rfl (pv 0)) (by rfl))) (by rfl))))))))),?_⟩;refine ⟨_,rfl,_,_,_,hp,rfl,rfl,isS ?_⟩;refine aR rfl (by decide) ?_;refine aR rfl (by decide) ?_;refine rB rfl (by decide) (by decide) fun H1 g1=>?_;refine ⟨_,rfl,_,_,_,hp.same g1,rfl,rfl,fun v hv=>⟨[.str z0],.cons hv .nil,sz1,fun v2 H2 g2 hv2=>?_⟩⟩;refine ⟨sz1,fun a ha=>q a v2 _ ((g1.trans g2).free ha) ((g1.trans g2).trans (ae ha _)) ac (hv2.same (ae ha _))⟩
def gw (K:PySem.W.Frag) (_:Ads):Sp:=fun vs H Q _=>∃ (z0:Str) (c:Int) (z1 z2:Str) (x:V),vs=[x]∧IsP K H (spD z0 c z1 z2) x∧∀ a v1 v2 H',H a=none→Same H H'→H' a=some (.lst [v1,v2])→IsP K H' (pth z1) v1→IsP K H' (pth z2) v2→Q (.ref a) H'
theorem c5 (T:Tx K mg ad) {f:Addr} {fd:FuncData} (F:Gn K mg "made_paths" cj ["piece"] f fd):FnOk P w K mg base CX0 1 f fd ["piece"] (gw K ad):=by
 refine F.F.ok da (fun vs H Q E h=>?_) (fun cdv A outer s H vs Q E hr h=>?_)
 ·obtain ⟨z0,c,z1,z2,x,rfl,_⟩:=h
  rfl
 obtain ⟨z0,c,z1,z2,x,rfl,hp,q⟩:=h;refine ⟨_,(@pss_cons _ _ _ _ _ (@ps_set _ _ 1 _ _ _ _ da.nd rfl (Or.inl rfl) (@pi1 K _ _ _ _ _ _ _ rfl (pv 0)) (by rfl) (by first | exact .inl rfl | exact .inr rfl | assumption)) (@pss_cons _ _ _ _ _ (@ps_if _ _ _ _ _ _ _ _ (pt_cmpR op_eq (pv 1) pe_str (nomark _)) af pss_nil) (@pss_cons _ _ _ _ _ (@ps_if _ _ _ _ _ _ _ _ (pt_cmpR op_eq (pv 1) pe_str (nomark _)) af pss_nil) (@pss_cons _ _ _ _ _ (@ps_if _ _ _ _ _ _ _ _ (pt_cmpR (op_in_seqK (K:=K) rfl) (pv 1) (@aj _ K _ _ _ _ rfl (@pa2 _ _ _ _ _ pe_str pe_str (by rfl) (by rfl))) rfl) af pss_nil) (@pss_cons _ _ _ _ _ (@ps_if _ _ _ _ _ _ _ _ (pt_cmpR (op_in_seqK (K:=K) rfl) (pv 1) (@aj _ K _ _ _ _ rfl (@pa2 _ _ _ _ _ pe_str pe_str (by rfl) (by rfl))) rfl) (@pss_one _ _ _ (@ps_ret _ _ _ _ (@bu _ _ _ _ (@pa2 _ _ _ _ _ (@aj _ K _ _ _ _ rfl (@pa1 _ _ _ (@pi1 K _ _ _ _ _ _ _ rfl (pv 0)) (by rfl))) (@aj _ K _ _ _ _ rfl (@pa1 _ _ _ (@pi1 K _ _ _ _ _ _ _ rfl (pv 0)) (by rfl))) (by rfl) (by rfl))))) pss_nil) af))))),?_⟩;refine ⟨_,rfl,_,_,_,hp,rfl,rfl,isS ?_⟩;refine aR rfl (by decide) ?_;refine aR rfl (by decide) ?_;refine rB rfl (by decide) (by decide) fun H1 g1=>?_;refine DD rfl (by decide) fun H2 g2=>?_;have g3:=g1.trans g2;refine ⟨_,rfl,_,_,_,hp.same g3,rfl,rfl,fun v hv=>⟨[.str z1],.cons hv .nil,sz1,fun v2 H4 g4 hv2=>?_⟩⟩;have g5:=g3.trans g4;refine ⟨_,rfl,_,_,_,hp.same g5,rfl,rfl,fun v hv=>⟨[.str z2],.cons hv .nil,sz1,fun v3 H6 g6 hv3=>?_⟩⟩;have g7:=g5.trans g6;refine ⟨sz2,fun a ha=>q a v2 v3 _ (g7.free ha) (g7.trans (ae ha _)) ac ((hv2.same g6).same (ae ha _)) (hv3.same (ae ha _))⟩
theorem pR (a b:Str):eqD (.str a) (.str b)=decide (a=b):=by
 show (a == b)=_
 by_cases h:a=b <;> simp [h]
theorem eF (z:Str):∀ fs:List (Str×Dt),aV (fs.map prD) (.str z)=ak fs z
 | []=>by simp [aV,ak]
 | (n,k) :: fs=>by
  have ih:=eF z fs
  by_cases e:n=z
  ·have h1:fK (.str z) (prD (n,k))=true:=(pR n z).trans (decide_eq_true e);have h2:aV ((prD (n,k)) :: fs.map prD) (.str z)=some k:=by
    unfold aV;rw [List.find?_cons,h1]
   rw [List.map_cons,h2];simp [ak,e]
  ·have h1:fK (.str z) (prD (n,k))=false:=(pR n z).trans (decide_eq_false e);have h2:aV ((prD (n,k)) :: fs.map prD) (.str z)=aV (fs.map prD) (.str z):=by simp [aV,List.find?_cons,h1]
   rw [List.map_cons,h2,ih];simp [ak,e]
theorem mE (fs:List (Str×Dt)):∀ d∈fs.map prD,∃ z k,d=.tup [.str z,k]:=fun d hd=>by
 obtain ⟨f,_,rfl⟩:=List.mem_map.mp hd;exact ⟨_,_,rfl⟩
def jh (K:PySem.W.Frag) (_:Ads):Sp:=fun vs H Q _=>∃ (fs:List (Str×Dt)) (ns:List Str) (x y:V),vs=[x,y]∧IsP K H (bJ fs) x∧IsP K H (.tup (ns.map Dt.str)) y∧((ns=[]∧Q x H)∨∃ z d,ns=[z]∧ak fs z=some d∧∀ v,IsP K H d v→Q v H)
theorem dW (T:Tx K mg ad) {f:Addr} {fd:FuncData} (F:Gn K mg "kind_down" cI ["kind","path"] f fd):FnOk P w K mg base CX0 2 f fd ["kind","path"] (jh K ad):=by
 obtain ⟨_,_,Ec⟩:=T.field_kind;have Ej:=bf (P:=P) (w:=w) (base:=base) T Ec;refine F.F.ok br (fun vs H Q E h=>?_) (fun cdv A outer s H vs Q E hr h=>?_)
 ·obtain ⟨fs,ns,x,y,rfl,_⟩:=h
  rfl
 obtain ⟨fs,ns,x,y,rfl,hx,hy,q⟩:=h;refine ⟨_,(@pss_cons _ _ _ _ _ (@ps_set _ _ 2 _ _ _ _ br.nd rfl (Or.inl rfl) (pv 0) (by rfl) (by first | exact .inl rfl | exact .inr rfl | assumption)) (@pss_cons _ _ _ _ _ (bj PassesOwn.never rfl (bp (K:=K) rfl (pv 1)) (ai (i:=3) br.nd rfl (Or.inl rfl))
    (@pss_one _ _ _ (@ps_set _ _ 2 _ _ _ _ br.nd rfl (Or.inl rfl) (jD (pt_cmpR op_isN (pv 2) pe_non (nomark _)) pe_non (pcl Ec Ej (hr.mono (by lia)) rfl (@pa2 _ _ _ _ _ (pv 2) (pv 3) (by rfl) (by rfl)))) (by rfl) (by first | exact .inl rfl | exact .inr rfl | assumption)))) (@pss_one _ _ _ (@ps_ret _ _ _ _ (pv 2))))),?_⟩
 obtain ⟨a,xs,rfl,ha,pa,ra⟩:=hy.unref;rcases q with ⟨rfl,q⟩ | ⟨z,d,rfl,lk,q⟩
 ·cases ra
  refine ⟨_,rfl,_,rfl,a,rfl,⟨[],ha⟩,dB (xs:=[]) (fun i σ H'=>H'=H∧∃ v1,σ=[some x,some (.ref a),some x,v1]) ⟨rfl,_,rfl⟩ (fun i σ H' _ p=>p.1 ▸ ha) (fun i u σ H' hu=>by simp at hu) ?_⟩;rintro σ H' ⟨rfl,v1,rfl⟩;exact ⟨_,rfl,q⟩
 ·cases ra with
  | cons r1 rb =>
   cases rb
   obtain rfl:=aP r1;refine ⟨_,rfl,_,rfl,a,rfl,⟨_,ha⟩,dB (xs:=[.str z]) (fun i σ H'=>H'=H∧∃ v v1,(i=0→v=x)∧(i=1→IsP K H d v)∧σ=[some x,some (.ref a),some v,v1]) ⟨rfl,_,_,fun _=>rfl,(fun h=>by cases h),rfl⟩ (fun i σ H' _ p=>p.1 ▸ ha) ?_ ?_⟩
   ·rintro i u σ H' hu ⟨rfl,v,v1,hv,_,rfl⟩
    match i,hu with
    | 0,hu =>
     obtain rfl:V.str z=u:=by simpa using hu
     obtain rfl:=hv rfl;obtain ⟨b,ys,rfl,_⟩:=id hx.unref;refine ⟨_,rfl,rfl,_,rfl,iteN (by intro z;cases z) ?_⟩;refine ⟨_,rfl,_,rfl,fs.map prD,.str z,.ref b,.str z,rfl,hx,.str,mE fs,?_⟩;rw [eF,lk];exact fun v hv=>⟨rfl,v,_,(fun h=>by cases h),fun _=>hv,rfl⟩
    | i+1,hu=>simp at hu
   ·rintro σ H' ⟨rfl,v,v1,_,hv,rfl⟩;exact ⟨_,rfl,q v (hv rfl)⟩
def gx (K:PySem.W.Frag) (_:Ads):Sp:=fun vs H Q _=>∃ (fs:List (Str×Dt)) (z:Str) (d:Dt) (x y:V),vs=[x,y]∧IsP K H (bJ fs) x∧IsP K H (pth z) y∧ak fs z=some d∧∀ v,IsP K H d v→Q v H
theorem gy (T:Tx K mg ad) {f:Addr} {fd:FuncData} (F:Gn K mg "value_down" cq ["record","path"] f fd):FnOk P w K mg base CX0 2 f fd ["record","path"] (gx K ad):=by
 obtain ⟨_,_,E3⟩:=T.field_of;have Fz:=kE (P:=P) (w:=w) (base:=base) T E3;refine F.F.ok bg (fun vs H Q E h=>?_) (fun cdv A outer s H vs Q E hr h=>?_)
 ·obtain ⟨fs,z,d,x,y,rfl,_⟩:=h
  rfl
 obtain ⟨fs,z,d,x,y,rfl,hx,hy,lk,q⟩:=h;refine ⟨_,(@pss_cons _ _ _ _ _ (@ps_set _ _ 2 _ _ _ _ bg.nd rfl (Or.inl rfl) (pv 0) (by rfl) (by first | exact .inl rfl | exact .inr rfl | assumption)) (@pss_cons _ _ _ _ _ (bj PassesOwn.never rfl (bp (K:=K) rfl (pv 1)) (ai (i:=3) bg.nd rfl (Or.inl rfl))
    (@pss_one _ _ _ (@ps_set _ _ 2 _ _ _ _ bg.nd rfl (Or.inl rfl) (pcl E3 Fz (hr.mono (by lia)) rfl (@pa2 _ _ _ _ _ (pv 2) (pv 3) (by rfl) (by rfl))) (by rfl) (by first | exact .inl rfl | exact .inr rfl | assumption)))) (@pss_one _ _ _ (@ps_ret _ _ _ _ (pv 2))))),?_⟩
 obtain ⟨a,xs,rfl,ha,pa,ra⟩:=hy.unref
 cases ra with
 | cons r1 rb =>
  cases rb
  obtain rfl:=aP r1;refine ⟨_,rfl,_,rfl,a,rfl,⟨_,ha⟩,dB (xs:=[.str z]) (fun i σ H'=>H'=H∧∃ v v1,(i=0→v=x)∧(i=1→IsP K H d v)∧σ=[some x,some (.ref a),some v,v1]) ⟨rfl,_,_,fun _=>rfl,(fun h=>by cases h),rfl⟩ (fun i σ H' _ p=>p.1 ▸ ha) ?_ ?_⟩
  ·rintro i u σ H' hu ⟨rfl,v,v1,hv,_,rfl⟩
   match i,hu with
   | 0,hu =>
    obtain rfl:V.str z=u:=by simpa using hu
    obtain rfl:=hv rfl;exact ⟨_,rfl,_,rfl,fs,z,d,_,rfl,hx,lk,fun v hv=>⟨rfl,v,_,(fun h=>by cases h),fun _=>hv,rfl⟩⟩
   | i+1,hu=>simp at hu
  ·rintro σ H' ⟨rfl,v,v1,_,hv,rfl⟩;exact ⟨_,rfl,q v (hv rfl)⟩
def lO (K:PySem.W.Frag) (_:Ads):Sp:=fun vs H Q _=>(∃ z:Str,vs=[.str z,.str "text"]∧Q (.bl true) H)∨∃ i:Int,vs=[.int i,.str "number"]∧Q (.bl true) H
theorem lP (T:Tx K mg ad) {f:Addr} {fd:FuncData} (F:Gn K mg "is_part" eM ["part","sort"] f fd):FnOk P w K mg base CX0 2 f fd ["part","sort"] (lO K ad):=by
 obtain ⟨_,_,Eg⟩:=T.is_whole;have Eo:=cC (P:=P) (w:=w) (base:=base) T Eg;refine F.F.ok lY (fun vs H Q E h=>?_) (fun cdv A outer s H vs Q E hr h=>?_)
 ·rcases h with ⟨z,rfl,_⟩ | ⟨i,rfl,_⟩ <;> rfl
 rcases h with ⟨z,rfl,q⟩ | ⟨i,rfl,q⟩
 ·refine ⟨_,(@pss_cons _ _ _ _ _ (@ps_if _ _ _ _ _ _ _ _ (pt_cmpR op_eq (pv 1) pe_str (nomark _)) (@pss_one _ _ _ (@ps_ret _ _ _ _ (pe_callB (ar (K:=K) rfl) rfl T.z_isinstance boot_isinstance (@pa2 _ _ _ _ _ (pv 0) (aU rfl T.z_str boot_str) (by rfl) (by rfl))))) pss_nil) (@pss_cons _ _ _ _ _ (@ps_if _ _ _ _ _ _ _ _ (pt_cmpR op_eq (pv 1) pe_str (nomark _)) (@pss_one _ _ _ (@ps_ret _ _ _ _ (pcl Eg Eo (hr.mono (by lia)) rfl (@pa1 _ _ _ (pv 0) (by rfl))))) pss_nil) (@pss_one _ _ _ (@ps_ret _ _ _ _ (rh (pe_cmpR op_eq (pv 1) pe_str (nomark _)) (pe_one (pe_callB (ar (K:=K) rfl) rfl T.z_isinstance boot_isinstance (@pa2 _ _ _ _ _ (pv 0) (aU rfl T.z_tuple boot_tuple) (by rfl) (by rfl))))))))),?_⟩;refine fV rfl ?_;exact ⟨_,rfl,_,_,_,rfl,.str_str,q⟩
 ·refine ⟨_,(@pss_cons _ _ _ _ _ (@ps_if _ _ _ _ _ _ _ _ (pt_cmpR op_eq (pv 1) pe_str (nomark _)) (@pss_one _ _ _ (@ps_ret _ _ _ _ (pe_callB (ar (K:=K) rfl) rfl T.z_isinstance boot_isinstance (@pa2 _ _ _ _ _ (pv 0) (aU rfl T.z_str boot_str) (by rfl) (by rfl))))) pss_nil) (@pss_cons _ _ _ _ _ (@ps_if _ _ _ _ _ _ _ _ (pt_cmpR op_eq (pv 1) pe_str (nomark _)) (@pss_one _ _ _ (@ps_ret _ _ _ _ (pcl Eg Eo (hr.mono (by lia)) rfl (@pa1 _ _ _ (pv 0) (by rfl))))) pss_nil) (@pss_one _ _ _ (@ps_ret _ _ _ _ (rh (pe_cmpR op_eq (pv 1) pe_str (nomark _)) (pe_one (pe_callB (ar (K:=K) rfl) rfl T.z_isinstance boot_isinstance (@pa2 _ _ _ _ _ (pv 0) (aU rfl T.z_tuple boot_tuple) (by rfl) (by rfl))))))))),?_⟩;refine aR rfl (by decide) ?_;refine fV rfl ?_;exact ⟨_,rfl,.int i,_,rfl,.int,rfl,q⟩
def ji (K:PySem.W.Frag) (_:Ads):Sp:=fun vs H Q _=>∃ (d:Dt) (x:V),vs=[x]∧IsP K H d x∧okD d=true∧Q (.bl (be d 2 1000)) H
theorem jj (T:Tx K mg ad) {f:Addr} {fd:FuncData} (F:Gn K mg "is_factor" cH ["thing"] f fd):FnOk P w K mg base CX0 3 f fd ["thing"] (ji K ad):=by
 obtain ⟨_,_,Ee⟩:=T.is_whole_within;have Ei:=bC (P:=P) (w:=w) (base:=base) T Ee;obtain ⟨t_LEAST_FACTOR,c_LEAST_FACTOR⟩:=T.LEAST_FACTOR;obtain ⟨t_GREATEST_FACTOR,c_GREATEST_FACTOR⟩:=T.GREATEST_FACTOR;refine F.F.ok jx (fun vs H Q E h=>?_) (fun cdv A outer s H vs Q E hr h=>?_)
 ·obtain ⟨d,x,rfl,_⟩:=h
  rfl
 obtain ⟨d,x,rfl,hd,ok,q⟩:=h;refine ⟨_,(@pss_one _ _ _ (@ps_ret _ _ _ _ (pcl Ee Ei (hr.mono (by lia)) rfl (@pa3 _ _ _ _ _ _ _ (pv 0) (pe_gint rfl c_LEAST_FACTOR) (pe_gint rfl c_GREATEST_FACTOR) (by rfl) (by rfl) (by rfl))))),?_⟩;exact ⟨_,rfl,d,x,2,1000,rfl,hd,ok,q⟩
def kG (x i j:Int):Int:=if j < (if i > x then i else x) then j else (if i > x then i else x)
def lQ (_:PySem.W.Frag) (_:Ads):Sp:=fun vs H Q _=>∃ x i j:Int,vs=[.int x,.int i,.int j]∧Q (.int (kG x i j)) H
theorem lR (T:Tx K mg ad) {f:Addr} {fd:FuncData} (F:Gn K mg "nearest" eK ["number","low","high"] f fd):FnOk P w K mg base CX0 1 f fd ["number","low","high"] (lQ K ad):=by
 refine F.F.ok lX (fun vs H Q E h=>?_) (fun cdv A outer s H vs Q E hr h=>?_)
 ·obtain ⟨x,i,j,rfl,_⟩:=h
  rfl
 obtain ⟨x,i,j,rfl,q⟩:=h;refine ⟨_,(@pss_one _ _ _ (@ps_ret _ _ _ _ (pe_callB (cS rfl) rfl T.z_min boot_min (@pa2 _ _ _ _ _ (pe_callB (gR rfl) rfl T.z_max boot_max (@pa2 _ _ _ _ _ (pv 0) (pv 1) (by rfl) (by rfl))) (pv 2) (by rfl) (by rfl))))),?_⟩;exact ⟨_,rfl,_,rfl,_,_,rfl,_,rfl,_,_,rfl,q⟩
def gz (K:PySem.W.Frag) (_:Ads):Sp:=fun vs H Q _=>∃ i j k:Int,vs=[.int i,.int j,.int k]∧2≤k∧k≤1000∧∀ v H',Same H H'→IsP K H' (.tup [aY (i / k) (j / k),aY 0 (k - 1)]) v→Q v H'
theorem gA (T:Tx K mg ad) {f:Addr} {fd:FuncData} (F:Gn K mg "part_kinds" cm ["low","high","factor"] f fd):FnOk P w K mg base CX0 1 f fd ["low","high","factor"] (gz K ad):=by
 refine F.F.ok gN (fun vs H Q E h=>?_) (fun cdv A outer s H vs Q E hr h=>?_)
 ·obtain ⟨i,j,k,rfl,_⟩:=h
  rfl
 obtain ⟨i,j,k,rfl,h1,h2,q⟩:=h;refine ⟨_,(@pss_one _ _ _ (@ps_ret _ _ _ _ (@aj _ K _ _ _ _ rfl (@pa2 _ _ _ _ _ (@aj _ K _ _ _ _ rfl (@pa3 _ _ _ _ _ _ _ pe_str (@pe_op _ _ _ _ _ _ _ _ bw (pv 0) (pv 2)) (@pe_op _ _ _ _ _ _ _ _ bw (pv 1) (pv 2)) (by rfl) (by rfl) (by rfl))) (@aj _ K _ _ _ _ rfl (@pa3 _ _ _ _ _ _ _ pe_str pe_int (@pe_op _ _ _ _ _ _ _ _ op_sub (pv 2) pe_int) (by rfl) (by rfl) (by rfl))) (by rfl) (by rfl))))),?_⟩;refine ⟨_,rfl,_,rfl,_,_,rfl,rfl,⟨by lia,by lia⟩,_,rfl,_,rfl,_,_,rfl,rfl,⟨by lia,by lia⟩,[.str "number",.int (i / k),.int (j / k)],.cons .str (.cons .int (.cons .int .nil)),sz3,fun v1 H1 g1 hv1=>?_⟩;refine ⟨_,rfl,_,_,rfl,rfl,[.str "number",.int 0,.int (k - 1)],.cons .str (.cons .int (.cons .int .nil)),sz3,fun v2 H2 g2 hv2=>?_⟩;exact ⟨[aY (i / k) (j / k),aY 0 (k - 1)],.cons (hv1.same g2) (.cons hv2 .nil),sz2,fun v3 H3 g3 hv3=>q v3 H3 ((g1.trans g2).trans g3) hv3⟩
theorem mF (n:Nat):(List.replicate n true).all id=true:=List.all_eq_true.mpr fun b hb=>(List.mem_replicate.mp hb).2 ▸ rfl
def dX (K:PySem.W.Frag) (_:Ads):Sp:=fun vs H Q _=>∃ (z0:Str) (c:Int) (z1 z2:Str) (x:V),vs=[x]∧IsP K H (spD z0 c z1 z2) x∧∀ H',Same H H'→Q (.bl true) H'
theorem dY (T:Tx K mg ad) {f:Addr} {fd:FuncData} (F:Gn K mg "has_piece_form" a9 ["piece"] f fd):FnOk P w K mg base CX0 3 f fd ["piece"] (dX K ad):=by
 obtain ⟨_,_,E8⟩:=T.is_part;have FC:=lP (P:=P) (w:=w) (base:=base) T E8;obtain ⟨c_PIECE_FORMS,d_PIECE_FORMS,s_PIECE_FORMS⟩:=T.PIECE_FORMS;refine F.F.ok sc_has_piece_form (fun vs H Q E h=>?_) (fun cdv A outer s H vs Q E hr h=>?_)
 ·obtain ⟨z0,c,z1,z2,x,rfl,_⟩:=h
  rfl
 obtain ⟨z0,c,z1,z2,x,rfl,hp,q⟩:=h;refine ⟨_,(@pss_cons _ _ _ _ _ (@ps_if _ _ _ _ _ _ _ _ (PW.pt (@pw_or _ _ _ _ _ _ _ (@pt_not _ _ _ _ (@pt_val _ _ _ (pe_callB (ar (K:=K) rfl) rfl T.z_isinstance boot_isinstance (@pa2 _ _ _ _ _ (pv 0) (aU rfl T.z_tuple boot_tuple) (by rfl) (by rfl))) (by intro _;rfl))) (@pw_or _ _ _ _ _ _ _ (pt_cmpR op_eq (pe_callB (call_lenDN (K:=K) rfl) rfl T.z_len PySem.boot_len (@pa1 _ _ _ (pv 0) (by rfl))) pe_int (nomark _)) (@pw_or1 _ _ _ _ (@pt_not _ _ _ _ (@pt_val _ _ _ (pe_callB (ar (K:=K) rfl) rfl T.z_isinstance boot_isinstance (@pa2 _ _ _ _ _ (@pi1 K _ _ _ _ _ _ _ rfl (pv 0)) (aU rfl T.z_str boot_str) (by rfl) (by rfl))) (by intro _;rfl))))))) (@pss_one _ _ _ (@ps_ret _ _ _ _ pe_bl)) pss_nil) (@pss_cons _ _ _ _ _ (@ps_set _ _ 1 _ _ _ _ sc_has_piece_form.nd rfl (Or.inl rfl) (pe_kget1 d_PIECE_FORMS rfl c_PIECE_FORMS (@pa1 _ _ _ (@pi1 K _ _ _ _ _ _ _ rfl (pv 0)) (by rfl))) (by rfl) (by first | exact .inl rfl | exact .inr rfl | assumption)) (@pss_cons _ _ _ _ _ (@ps_if _ _ _ _ _ _ _ _ (PW.pt (@pw_or _ _ _ _ _ _ _ (pt_cmpR op_isN (pv 1) pe_non (nomark _)) (@pw_or1 _ _ _ _ (pt_cmpR op_ne (pe_callB (call_len_seqN (K:=K) rfl) rfl T.z_len PySem.boot_len (@pa1 _ _ _ (pv 1) (by rfl))) (@pe_op _ _ _ _ _ _ _ _ op_sub (pe_callB (call_lenDN (K:=K) rfl) rfl T.z_len PySem.boot_len (@pa1 _ _ _ (pv 0) (by rfl))) pe_int) (nomark _))))) (@pss_one _ _ _ (@ps_ret _ _ _ _ pe_bl)) pss_nil) (@pss_one _ _ _ (@ps_ret _ _ _ _ (pe_callB (call_allN (K:=K) rfl rfl) rfl T.z_all boot_all (@pa1 _ _ _ (bd rfl (cs0 (NL:=["part","sort"]) rfl (by decide +kernel) (by decide +kernel)) (qC rfl T.z_zip (@pa2 _ _ _ _ _ (dE (j4 (K:=K) rfl) (pv 0) (dD pe_int) iC) (pv 1) (by rfl) (by rfl))) (fun _ _ _ _=>(ft (K:=K) (n:=2) rfl rfl (aw (ai (i:=0) (show List.Nodup (α:=Str) ["part","sort"] by decide +kernel) rfl (Or.inl rfl)) (aw (ai (i:=1) (show List.Nodup (α:=Str) ["part","sort"] by decide +kernel) rfl (Or.inl rfl)) bL)))) (fun _ _ _ _=>(pcl E8 FC (hr.mono (by lia)) rfl (@pa2 _ _ _ _ _ (pv 0) (pv 1) (by rfl) (by rfl))))) (by rfl)))))))),?_⟩;obtain ⟨a,xs,rfl,ha,pa,ra⟩:=id hp.unref;refine ⟨_,rfl,_,_,_,rfl,.tup_tuple ha,_,rfl,aH ?_⟩;refine ⟨_,rfl,_,_,rfl,hp.d,rfl,_,rfl,aH ?_⟩;refine ⟨_,rfl,_,_,_,hp,rfl,at0 _ _,isS ?_⟩;refine ⟨_,_,_,rfl,.str_str,_,rfl,aH ?_⟩;refine ⟨_,rfl,_,_,_,hp,rfl,at0 _ _,isS ?_⟩;have hf:SqT K H 360 [.str "text",.str "number",.str "text",.str "text"]:=(s_PIECE_FORMS (360,["text","number","text","text"]) (by simp) _);refine ⟨_,rfl,?_⟩;rw [show ib "part" [(("put" : Str),(352:Addr)),("drop",353),("name",354),("sink",355),("lift",356),("turn",357),("split",358),("join",359),("part",360),("whole",361)]=some 360 from by decide];refine ⟨_,rfl,rfl,_,rfl,iteN (by intro z;cases z) ?_⟩;refine ⟨_,rfl,360,_,rfl,.inr hf,_,rfl,_,_,rfl,hp.d,_,_,rfl,rfl,rfl,_,rfl,aH ?_⟩;refine ⟨_,rfl,_,rfl,_,hp,fun v1 H1 g1 hv1=>?_⟩;have hv2:IsP K H1 (.tup [.str z0,.int c,.str z1,.str z2]) v1:=hv1;obtain ⟨b,xs2,rfl,hb,pb,rb⟩:=id hv2.unref;have ex:xs2=[.str z0,.int c,.str z1,.str z2]:=by
  cases rb with
  | cons r1 rb=>cases rb with
   | cons r2 rb=>cases rb with
    | cons r3 rb=>cases rb with
     | cons r4 rb=>cases rb;rw [aP r1,aP r3,aP r4];cases r2;rfl
 subst ex;have hf1:=g1.tup hf;refine ⟨_,rfl,b,360,rfl,⟨_,hb⟩,⟨_,hf1⟩,fun l hln=>?_⟩;refine lv (K:=K) (xs:=[.str z0,.int c,.str z1,.str z2]) (ys:=[.str "text",.str "number",.str "text",.str "text"]) (fun i us σ H'=>us=bls (List.replicate i true)∧i≤4∧Same H1 H'∧H' l=some (.lst us)∧∃ v1 v2,σ=[v1,v2]) ⟨rfl,Nat.zero_le _,ae hln _,ac,none,none,rfl⟩ (fun i us σ H' r=>⟨r.2.2.1.tup hb,r.2.2.1.tup hf1⟩) ?_ ?_
 ·rintro i u y T us σ H2 N hu hy hT ⟨rfl,hi,g2,e2,v1,v2,rfl⟩ next;have hi4:i < 4:=(List.getElem?_eq_some_iff.mp hu).1;have hp4:(∃ z:Str,u=.str z∧y=.str "text")∨∃ k:Int,u=.int k∧y=.str "number" :=by
   match i,hu,hy with
   | 0,hu,hy=>exact .inl ⟨_,(Option.some.inj hu).symm,(Option.some.inj hy).symm⟩
   | 1,hu,hy=>exact .inr ⟨_,(Option.some.inj hu).symm,(Option.some.inj hy).symm⟩
   | 2,hu,hy=>exact .inl ⟨_,(Option.some.inj hu).symm,(Option.some.inj hy).symm⟩
   | 3,hu,hy=>exact .inl ⟨_,(Option.some.inj hu).symm,(Option.some.inj hy).symm⟩
   | i+4,hu,_=>simp at hu
  have n4:l≠T:=aq e2 hT;rcases hp4 with ⟨z,rfl,rfl⟩ | ⟨k,rfl,rfl⟩
  ·have gT:=ae hT (.tup [V.str z,V.str "text"]);refine ⟨T,_,rfl,.inl (.inl ac),rfl,_,_,rfl,_,_,rfl,rfl,?_⟩;refine ⟨_,rfl,_,rfl,.inl ⟨z,rfl,?_⟩⟩;refine ⟨gT _ _ e2,?_,next _ _ _ ⟨?_,by lia,aD hln (g2.trans gT),ac,_,_,rfl⟩⟩
   ·rw [bls,List.length_map,List.length_replicate];exact au (by lia)
   ·unfold bls;rw [List.replicate_succ',List.map_append]
    rfl
  ·have gT:=ae hT (.tup [V.int k,V.str "number"]);refine ⟨T,_,rfl,.inl (.inl ac),rfl,_,_,rfl,_,_,rfl,rfl,?_⟩;refine ⟨_,rfl,_,rfl,.inr ⟨k,rfl,?_⟩⟩;refine ⟨gT _ _ e2,?_,next _ _ _ ⟨?_,by lia,aD hln (g2.trans gT),ac,_,_,rfl⟩⟩
   ·rw [bls,List.length_map,List.length_replicate];exact au (by lia)
   ·unfold bls;rw [List.replicate_succ',List.map_append]
    rfl
 ·rintro us σ H2 ⟨rfl,hi,g2,e2,v1,v2,rfl⟩;refine ⟨l,_,rfl,rfl,SqL.of e2,?_⟩;rw [mF];exact q H2 (g1.trans g2)
theorem iu {f:Str×Dt}:∀ {fs:List (Str×Dt)},(fs.map (·.1)).Nodup→f∈fs→ak fs f.1=some f.2
 | [],_,h=>by simp at h
 | g :: fs,nd,h=>by
  have nd':=List.nodup_cons.mp nd;rcases List.mem_cons.mp h with rfl | h
  ·simp [ak]
  ·have e:¬ g.1=f.1:=fun q=>nd'.1 (List.mem_map.mpr ⟨f,h,q.symm⟩);have e2:ak (g :: fs) f.1=ak fs f.1:=by simp [ak,e]
   rw [e2];exact iu nd'.2 h
def fj (K:PySem.W.Frag) (_:Ads):Sp:=fun vs H Q _=>∃ (fs:List (Str×Dt)) (z:Str) (x y:V),vs=[x,y]∧IsP K H (bJ fs) x∧fs.length≤8∧IsP K H (pth z) y∧∀ v H',Same H H'→IsP K H' (bJ (fs.filter fun g=>!decide (g.1∈[z]))) v→Q v H'
theorem iw {K:PySem.W.Frag} {H:Hp} {z:Str} {v:V} (h:IsP K H (pth z) v):∃ a,v=.ref a∧SqT K H a [.str z]:=by
 obtain ⟨a,xs,rfl,ha,pa,ra⟩:=h.unref
 cases ra with
 | cons r1 rb =>
  cases rb
  obtain rfl:=aP r1;exact ⟨a,rfl,ha⟩
theorem fm (T:Tx K mg ad) {f:Addr} {fd:FuncData} (F:Gn K mg "without_down" bH ["record","path"] f fd):FnOk P w K mg base CX0 2 f fd ["record","path"] (fj K ad):=by
 obtain ⟨_,_,EA⟩:=T.without_fields;have EY:=dU (P:=P) (w:=w) (base:=base) T EA;refine F.F.ok fq (fun vs H Q E h=>?_) (fun cdv A outer s H vs Q E hr h=>?_)
 ·obtain ⟨fs,z,x,y,rfl,_⟩:=h
  rfl
 obtain ⟨fs,z,x,y,rfl,hx,l8,hy,q⟩:=h;refine ⟨_,(@pss_cons _ _ _ _ _ (@ps_if _ _ _ _ _ _ _ _ (pt_cmpR op_eq (pe_callB (call_lenDN (K:=K) rfl) rfl T.z_len PySem.boot_len (@pa1 _ _ _ (pv 1) (by rfl))) pe_int (nomark _)) (@pss_one _ _ _ (@ps_ret _ _ _ _ (pcl EA EY (hr.mono (by lia)) rfl (@pa2 _ _ _ _ _ (pv 0) (pv 1) (by rfl) (by rfl))))) pss_nil) af),?_⟩;obtain ⟨a,rfl,ha⟩:=iw hy;refine ⟨_,rfl,_,_,rfl,hy.d,rfl,_,rfl,cv ?_⟩;exact ⟨_,rfl,_,rfl,fs,[z],x,a,rfl,hx,l8,.inr ha,q⟩
def jk (K:PySem.W.Frag) (_:Ads):Sp:=fun vs H Q _=>∃ (fs:List (Str×Dt)) (z:Str) (d:Dt) (x y w:V),vs=[x,y,w]∧IsP K H (bJ fs) x∧(fs.map (·.1)).Pairwise ltS∧(∀ f∈fs,ltS f.1 z)∧fs.length≤7∧IsP K H (pth z) y∧IsP K H d w∧∀ v H',Same H H'→IsP K H' (bJ (fs++[(z,d)])) v→Q v H'
theorem xl {fs:List (Str×Dt)} {z:Str} {d:Dt} (pw:(fs.map (·.1)).Pairwise ltS) (lt:∀ f∈fs,ltS f.1 z) {ss:List Str} (asc:ss.Pairwise ltS) (hm:∀ y,y∈ss↔y∈fs.map (·.1)∨y∈[z]) :
  fl ss (fun y=>if y∈[z] then d else (ak fs y).getD .non)=fs++[(z,d)]:=by
 have e:ss=fs.map (·.1)++[z]:=by
  refine qW asc ?_ fun y=>by rw [hm y,List.mem_append]
  rw [List.pairwise_append];refine ⟨pw,List.pairwise_singleton _ _,fun a ha b hb=>?_⟩;obtain ⟨f,hf,rfl⟩:=List.mem_map.mp ha;obtain rfl:=List.mem_singleton.mp hb;exact lt f hf
 subst e;show (fs.map (·.1)++[z]).map (fun y=>(y,if y∈[z] then d else (ak fs y).getD .non))=_;rw [List.map_append,List.map_map];have e1:fs.map ((fun y=>(y,if y∈[z] then d else (ak fs y).getD .non)) ∘ (·.1))=fs.map id:=by
  refine List.map_congr_left fun f hf=>?_;have n:¬ f.1=z:=fun q=>absurd (q ▸ lt f hf) (List.lt_irrefl _);show (f.1,if f.1∈[z] then d else (ak fs f.1).getD .non)=f;rw [if_neg (fun h=>n (List.mem_singleton.mp h)),iu (cB pw) hf]
  rfl
 rw [e1,List.map_id];simp
theorem jl (T:Tx K mg ad) {f:Addr} {fd:FuncData} (F:Gn K mg "with_down" cJ ["record","path","value"] f fd):FnOk P w K mg base CX0 3 f fd ["record","path","value"] (jk K ad):=by
 obtain ⟨_,_,EH⟩:=T.with_fields;have Fb:=fU (P:=P) (w:=w) (base:=base) T EH;refine F.F.ok jy (fun vs H Q E h=>?_) (fun cdv A outer s H vs Q E hr h=>?_)
 ·obtain ⟨fs,z,d,x,y,w,rfl,_⟩:=h
  rfl
 obtain ⟨fs,z,d,x,y,w,rfl,hx,pw,lt,l7,hy,hw,q⟩:=h;refine ⟨_,(@pss_cons _ _ _ _ _ (@ps_if _ _ _ _ _ _ _ _ (pt_cmpR op_eq (pe_callB (call_lenDN (K:=K) rfl) rfl T.z_len PySem.boot_len (@pa1 _ _ _ (pv 1) (by rfl))) pe_int (nomark _)) (@pss_one _ _ _ (@ps_ret _ _ _ _ (pcl EH Fb (hr.mono (by lia)) rfl (@pa3 _ _ _ _ _ _ _ (pv 0) (pv 1) (@bu _ _ _ _ (@pa1 _ _ _ (pv 2) (by rfl))) (by rfl) (by rfl) (by rfl))))) pss_nil) af),?_⟩;obtain ⟨a,rfl,ha⟩:=iw hy;refine ⟨_,rfl,_,_,rfl,hy.d,rfl,_,rfl,cv ?_⟩;refine ⟨_,rfl,_,rfl,_,rfl,sz1,fun p hp=>?_⟩;have g1:=ae hp (.lst [w]);refine ⟨true,false,fs,[z],(fun _=>d),x,a,p,[w],rfl,hx.same g1,cB pw,by lia,by show 1≤8;decide,g1.tup ha,SqL.of ac,.cons (hw.same g1) .nil,fun v H' ss g2 asc hm hv=>q v H' (g1.trans g2) ?_⟩;rw [xl pw lt asc hm] at hv;exact hv
def eG (K:PySem.W.Frag) (_:Ads):Sp:=fun vs H Q _=>∃ (z0:Str) (c:Int) (z1 z2:Str) (d:Dt) (x y:V),vs=[x,y]∧IsP K H (spD z0 c z1 z2) x∧IsP K H (bJ [(z0,d)]) y∧∀ v H',Same H H'→IsP K H' (bJ []) v→Q v H'
theorem b6 (T:Tx K mg ad) {f:Addr} {fd:FuncData} (F:Gn K mg "without_taken" bo ["piece","record"] f fd):FnOk P w K mg base CX0 3 f fd ["piece","record"] (eG K ad):=by
 obtain ⟨_,_,Ef⟩:=T.taken_paths;have Ep:=bD (P:=P) (w:=w) (base:=base) T Ef;obtain ⟨_,_,EF⟩:=T.without_down;have E6:=fm (P:=P) (w:=w) (base:=base) T EF;refine F.F.ok aO (fun vs H Q E h=>?_) (fun cdv A outer s H vs Q E hr h=>?_)
 ·obtain ⟨z0,c,z1,z2,d,x,y,rfl,_⟩:=h
  rfl
 obtain ⟨z0,c,z1,z2,d,x,y,rfl,hx,hy,q⟩:=h;refine ⟨_,(@pss_cons _ _ _ _ _ (@ps_set _ _ 2 _ _ _ _ aO.nd rfl (Or.inl rfl) (pv 1) (by rfl) (by first | exact .inl rfl | exact .inr rfl | assumption)) (@pss_cons _ _ _ _ _ (bj PassesOwn.never rfl (bA (K:=K) rfl (pcl Ef Ep (hr.mono (by lia)) rfl (@pa1 _ _ _ (pv 0) (by rfl)))) (ai (i:=3) aO.nd rfl (Or.inl rfl))
    (@pss_one _ _ _ (@ps_set _ _ 2 _ _ _ _ aO.nd rfl (Or.inl rfl) (pcl EF E6 (hr.mono (by lia)) rfl (@pa2 _ _ _ _ _ (pv 2) (pv 3) (by rfl) (by rfl))) (by rfl) (by first | exact .inl rfl | exact .inr rfl | assumption)))) (@pss_one _ _ _ (@ps_ret _ _ _ _ (pv 2))))),?_⟩
 refine ⟨_,rfl,_,rfl,z0,c,z1,z2,x,rfl,hx,fun a v0 H1 ha g1 e1 hv0=>?_⟩;refine ⟨a,rfl,⟨_,SqL.of e1⟩,jH (xs:=[v0]) (fun i σ H'=>Same H1 H'∧∃ v v3,(i=0→v=y)∧(i=1→IsP K H' (bJ []) v)∧σ=[some x,some y,some v,v3]) ⟨Same.refl _,_,_,fun _=>rfl,(fun h=>by cases h),rfl⟩ (fun i σ H' _ p=>SqL.of (p.1 _ _ e1)) ?_ ?_⟩
 ·rintro i u σ H2 hu ⟨g2,v,v3,hv,_,rfl⟩
  match i,hu with
  | 0,hu =>
   obtain rfl:v0=u:=by simpa using hu
   obtain rfl:=hv rfl;refine ⟨_,rfl,_,rfl,[(z0,d)],z0,_,_,rfl,(hy.same g1).same g2,by show 1≤8;decide,hv0.same g2,fun v H3 g3 hv=>⟨g2.trans g3,v,_,(fun h=>by cases h),fun _=>?_,rfl⟩⟩;have e:[(z0,d)].filter (fun g=>!decide (g.1∈[z0]))=[]:=by simp
   rw [e] at hv;exact hv
  | i+1,hu=>simp at hu
 ·rintro σ H2 ⟨g2,v,v3,_,hv,rfl⟩;exact ⟨_,rfl,q v H2 (g1.trans g2) (hv rfl)⟩
def kH (K:PySem.W.Frag) (_:Ads):Sp:=fun vs H Q _=>∃ (z0:Str) (c:Int) (z1 z2:Str) (d e1 e2:Dt) (x y y' w:V),vs=[x,y',y,w]∧IsP K H (spD z0 c z1 z2) x∧IsP K H (bJ [(z0,d)]) y∧IsP K H (.tup [e1,e2]) w∧ltS z1 z2∧∀ v H',Same H H'→IsP K H' (bJ [(z1,e1),(z2,e2)]) v→Q v H'
theorem kI (T:Tx K mg ad) {f:Addr} {fd:FuncData} (F:Gn K mg "with_new" dv ["piece","kind","record","values"] f fd):FnOk P w K mg base CX0 4 f fd ["piece","kind","record","values"] (kH K ad):=by
 obtain ⟨_,_,El⟩:=T.without_taken;have Ev:=b6 (P:=P) (w:=w) (base:=base) T El;obtain ⟨_,_,Er⟩:=T.made_paths;have EB:=c5 (P:=P) (w:=w) (base:=base) T Er;obtain ⟨_,_,ER⟩:=T.with_down;have Fr:=jl (P:=P) (w:=w) (base:=base) T ER;refine F.F.ok bi (fun vs H Q E h=>?_) (fun cdv A outer s H vs Q E hr h=>?_)
 ·obtain ⟨z0,c,z1,z2,d,e1,e2,x,y,y',w,rfl,_⟩:=h
  rfl
 obtain ⟨z0,c,z1,z2,d,d1,d2,x,y,y',w,rfl,hx,hy,hw,lt,q⟩:=h;refine ⟨_,(@pss_cons _ _ _ _ _ (@ps_set _ _ 4 _ _ _ _ bi.nd rfl (Or.inl rfl) (pcl El Ev (hr.mono (by lia)) rfl (@pa2 _ _ _ _ _ (pv 0) (pv 2) (by rfl) (by rfl))) (by rfl) (by first | exact .inl rfl | exact .inr rfl | assumption)) (@pss_cons _ _ _ _ _ (bj PassesOwn.never rfl (kn rfl T.z_zip (@pa2 _ _ _ _ _ (pcl Er EB (hr.mono (by lia)) rfl (@pa1 _ _ _ (pv 0) (by rfl))) (pv 3) (by rfl) (by rfl))) (fw rfl (aw (ai (i:=5) bi.nd rfl (Or.inl rfl)) (aw (ai (i:=6) bi.nd rfl (Or.inl rfl)) bL)))
    (@pss_one _ _ _ (@ps_set _ _ 4 _ _ _ _ bi.nd rfl (Or.inl rfl) (pcl ER Fr (hr.mono (by lia)) rfl (@pa3 _ _ _ _ _ _ _ (pv 4) (pv 5) (pv 6) (by rfl) (by rfl) (by rfl))) (by rfl) (by first | exact .inl rfl | exact .inr rfl | assumption)))) (@pss_one _ _ _ (@ps_ret _ _ _ _ (pv 4))))),?_⟩
 refine ⟨_,rfl,_,rfl,z0,c,z1,z2,d,x,y,rfl,hx,hy,fun v0 H1 g1 hv0=>?_⟩;refine ⟨_,rfl,z0,c,z1,z2,x,rfl,hx.same g1,fun a p1 p2 H2 ha g2 e2 hp1 hp2=>?_⟩;obtain ⟨b,w1,w2,rfl,hb,hw1,hw2⟩:=cV hw;have hb2:=g2.tup (g1.tup hb);refine ⟨_,rfl,false,true,a,b,rfl,⟨_,SqL.of e2⟩,⟨_,hb2⟩,ko (tp:=false) (tq:=true) (K:=K) (xs:=[p1,p2]) (ys:=[w1,w2]) (fun i σ H'=>Same H2 H'∧∃ v v5 v6,IsP K H' (bJ ([(z1,d1),(z2,d2)].take i)) v∧σ=[some x,some y',some y,some (.ref b),some v,v5,v6]) ⟨Same.refl _,_,_,_,hv0.same g2,rfl⟩ (fun i σ H' p=>⟨SqL.of (p.1 _ _ e2),p.1.tup hb2⟩) ?_ ?_⟩
 ·rintro i u y1 T σ H3 hu hy1 hT ⟨g3,v,v5,v6,hv,rfl⟩;have gT:=ae hT (.tup [u,y1]);have eT:(upd H3 T (.tup [u,y1])) T=some (.tup [u,y1]):=ac
  generalize upd H3 T (.tup [u,y1])=H4 at gT eT ⊢
  refine ⟨T,_,rfl,.inl (.inl eT),rfl,_,_,rfl,_,_,rfl,rfl,?_⟩;have g4:=g3.trans gT;have g14:=(g1.trans g2).trans g4
  match i,hu,hy1 with
  | 0,hu,hy1 =>
   obtain rfl:p1=u:=by simpa using hu
   obtain rfl:w1=y1:=by simpa using hy1
   exact ⟨_,rfl,_,rfl,_,rfl,[],z1,d1,v,p1,w1,rfl,hv.same gT,.nil,(fun f hf=>nomatch hf),by show 0≤7;decide,hp1.same g4,hw1.same g14,fun v' H5 g5 hv'=>⟨g4.trans g5,v',_,_,hv',rfl⟩⟩
  | 1,hu,hy1 =>
   obtain rfl:p2=u:=by simpa using hu
   obtain rfl:w2=y1:=by simpa using hy1
   exact ⟨_,rfl,_,rfl,_,rfl,[(z1,d1)],z2,d2,v,p2,w2,rfl,hv.same gT,List.pairwise_singleton _ _,(fun f hf=>by rw [List.mem_singleton.mp hf];exact lt),by show 1≤7;decide,hp2.same g4,hw2.same g14,fun v' H5 g5 hv'=>⟨g4.trans g5,v',_,_,hv',rfl⟩⟩
  | i+2,hu,_=>simp at hu
 ·rintro σ H3 ⟨g3,v,v5,v6,hv,rfl⟩;exact ⟨_,rfl,q v H3 ((g1.trans g2).trans g3) hv⟩
def fX (K:PySem.W.Frag) (_:Ads):Sp:=fun vs H Q _=>∃ (z0:Str) (c:Int) (z1 z2:Str) (lo hi:Int) (x v:V) (p:Addr),vs=[x,.ref p]∧IsP K H (spD z0 c z1 z2) x∧H p=some (.lst [v])∧IsP K H (aY lo hi) v∧2≤c∧c≤1000∧Q (.bl true) H
theorem fY (T:Tx K mg ad) {f:Addr} {fd:FuncData} (F:Gn K mg "takes_kinds" bT ["piece","kinds"] f fd):FnOk P w K mg base CX0 4 f fd ["piece","kinds"] (fX K ad):=by
 obtain ⟨_,_,EV⟩:=T.is_factor;have Fs:=jj (P:=P) (w:=w) (base:=base) T EV;refine F.F.ok cP (fun vs H Q E h=>?_) (fun cdv A outer s H vs Q E hr h=>?_)
 ·obtain ⟨z0,c,z1,z2,lo,hi,x,v,p,rfl,_⟩:=h
  rfl
 obtain ⟨z0,c,z1,z2,lo,hi,x,v,p,rfl,hx,hp,hv,c2,c1000,q⟩:=h;refine ⟨_,(@pss_cons _ _ _ _ _ (@ps_set _ _ 2 _ _ _ _ cP.nd rfl (Or.inl rfl) (@pi1 K _ _ _ _ _ _ _ rfl (pv 0)) (by rfl) (by first | exact .inl rfl | exact .inr rfl | assumption)) (@pss_cons _ _ _ _ _ (@ps_if _ _ _ _ _ _ _ _ (pt_cmpR op_eq (pv 2) pe_str (nomark _)) af pss_nil) (@pss_cons _ _ _ _ _ (@ps_if _ _ _ _ _ _ _ _ (pt_cmpR op_eq (pv 2) pe_str (nomark _)) af pss_nil) (@pss_cons _ _ _ _ _ (@ps_if _ _ _ _ _ _ _ _ (pt_cmpR op_eq (pv 2) pe_str (nomark _)) af pss_nil) (@pss_cons _ _ _ _ _ (@ps_if _ _ _ _ _ _ _ _ (pt_cmpR op_eq (pv 2) pe_str (nomark _)) af pss_nil) (@pss_cons _ _ _ _ _ (@ps_if _ _ _ _ _ _ _ _ (pt_cmpR op_eq (pv 2) pe_str (nomark _)) (@pss_one _ _ _ (@ps_ret _ _ _ _ (pe_and (pe_cmpR op_eq (@pi1 K _ _ _ _ _ _ _ rfl (@cY _ _ _ _ _ _ _ (bz (K:=K) rfl) (pv 1) pe_int (fun _ _=>rfl))) pe_str (nomark _)) (pe_one (pcl EV Fs (hr.mono (by lia)) rfl (@pa1 _ _ _ (@pi1 K _ _ _ _ _ _ _ rfl (pv 0)) (by rfl))))))) pss_nil) af)))))),?_⟩;refine ⟨_,rfl,_,_,_,hx,rfl,rfl,isS ?_⟩;refine aR rfl (by decide) ?_;refine aR rfl (by decide) ?_;refine aR rfl (by decide) ?_;refine aR rfl (by decide) ?_;refine fV rfl ?_;refine ⟨_,rfl,p,_,_,_,rfl,rfl,SqL.of hp,(rfl:atI [v] 0=some v),_,_,_,hv,rfl,at0 _ _,isS ?_⟩;refine ⟨rfl,_,rfl,cv ?_⟩;refine ⟨_,rfl,_,_,_,hx,rfl,rfl,fun u hu=>?_⟩;refine ⟨.int c,u,rfl,hu,rfl,?_⟩;rw [show be (.int c) 2 1000=true from by
  show (decide (2≤c) && decide (c≤1000))=true;rw [decide_eq_true c2,decide_eq_true c1000];rfl]
 exact q
def gB (K:PySem.W.Frag) (_:Ads):Sp:=fun vs H Q _=>∃ (z0:Str) (c:Int) (z1 z2:Str) (d:Dt) (x y:V),vs=[x,y]∧IsP K H (spD z0 c z1 z2) x∧IsP K H (bJ [(z0,d)]) y∧∀ v H',Same H H'→IsP K H' (.tup [d]) v→Q v H'
theorem gC (T:Tx K mg ad) {f:Addr} {fd:FuncData} (F:Gn K mg "old_values" bq ["piece","record"] f fd):FnOk P w K mg base CX0 3 f fd ["piece","record"] (gB K ad):=by
 obtain ⟨_,_,EO⟩:=T.value_down;have Fi:=gy (P:=P) (w:=w) (base:=base) T EO;obtain ⟨_,_,Ef⟩:=T.taken_paths;have Ep:=bD (P:=P) (w:=w) (base:=base) T Ef;refine F.F.ok gO (fun vs H Q E h=>?_) (fun cdv A outer s H vs Q E hr h=>?_)
 ·obtain ⟨z0,c,z1,z2,d,x,y,rfl,_⟩:=h
  rfl
 obtain ⟨z0,c,z1,z2,d,x,y,rfl,hx,hy,q⟩:=h;refine ⟨_,(@pss_one _ _ _ (@ps_ret _ _ _ _ (a8 (ce (K:=K) rfl) rfl T.z_tuple boot_tuple (@pa1 _ _ _ (bd rfl (csR (sc:=aa bq) (NL:=["path"]) (N:=["piece","record"]) (ρ:=[1]) (N':=["path","record"]) rfl rfl rfl (by decide +kernel) (by decide +kernel) (by decide +kernel) rfl (by decide +kernel)) (bA (K:=K) rfl (pcl Ef Ep (hr.mono (by lia)) rfl (@pa1 _ _ _ (pv 0) (by rfl)))) (fun _ _ _ _=>(ai (i:=0) (show List.Nodup (α:=Str) ["path","record"] by decide +kernel) rfl (Or.inl rfl))) (fun _ _ _ _=>(pcl EO Fi (hr.mono (by lia)) rfl (@pa2 _ _ _ _ _ (pv 1) (pv 0) (by rfl) (by rfl))))) (by rfl))))),?_⟩;refine ⟨_,rfl,z0,c,z1,z2,x,rfl,hx,fun a v0 H1 ha g1 e1 hv0=>?_⟩;refine ⟨a,rfl,⟨_,SqL.of e1⟩,fun l hl=>?_⟩;refine bx (K:=K) (xs:=[v0]) (fun j ys σ H'=>Same H1 H'∧H' l=some (.lst ys)∧IsPs K H' ([d].take j) ys∧∃ v1,σ=[v1,some y]) ⟨ae hl _,ac,.nil,none,rfl⟩ (fun j ys σ H' _ pv=>SqL.of (pv.1 _ _ e1)) ?_ ?_
 ·rintro j u ys σ H2 N hu ⟨s2,e2,d2,v1,rfl⟩ next
  match j,hu,d2,next with
  | 0,hu,d2,next =>
   obtain rfl:v0=u:=by simpa using hu
   cases d2
   refine ⟨_,rfl,_,rfl,[(z0,d)],z0,d,y,v0,rfl,(hy.same g1).same s2,hv0.same s2,(by simp [ak]),fun v hv=>?_⟩;exact ⟨e2,by decide,next _ _ _ ⟨aD hl s2,ac,IsPs.but e2 But.put (.cons hv .nil),_,rfl⟩⟩
  | j+1,hu,_,_=>simp at hu
 ·rintro ys σ H2 ⟨s2,e2,d2,v1,rfl⟩;exact ⟨l,ys,_,rfl,SqL.of e2,d2,fun vt H3 g3 hvt=>q vt H3 ((g1.trans s2).trans g3) hvt⟩
def gF (K:PySem.W.Frag) (_:Ads):Sp:=fun vs H Q _=>∃ (z0:Str) (c:Int) (z1 z2:Str) (lo hi:Int) (x y:V),vs=[x,y]∧IsP K H (spD z0 c z1 z2) x∧IsP K H (.tup [aY lo hi]) y∧2≤c∧c≤1000∧∀ v H',Same H H'→IsP K H' (.tup [aY (lo / c) (hi / c),aY 0 (c - 1)]) v→Q v H'
theorem pS {K:PySem.W.Frag} {H:Hp} {i:Int} {v:V} (h:IsP K H (.int i) v):v=.int i:=by cases h;rfl
theorem gG (T:Tx K mg ad) {f:Addr} {fd:FuncData} (F:Gn K mg "made_kinds" cn ["piece","kinds"] f fd):FnOk P w K mg base CX0 2 f fd ["piece","kinds"] (gF K ad):=by
 obtain ⟨_,_,EM⟩:=T.part_kinds;have Fe:=gA (P:=P) (w:=w) (base:=base) T EM;refine F.F.ok de (fun vs H Q E h=>?_) (fun cdv A outer s H vs Q E hr h=>?_)
 ·obtain ⟨z0,c,z1,z2,lo,hi,x,y,rfl,_⟩:=h
  rfl
 obtain ⟨z0,c,z1,z2,lo,hi,x,y,rfl,hx,hy,c2,c1000,q⟩:=h;refine ⟨_,(@pss_cons _ _ _ _ _ (@ps_set _ _ 2 _ _ _ _ de.nd rfl (Or.inl rfl) (@pi1 K _ _ _ _ _ _ _ rfl (pv 0)) (by rfl) (by first | exact .inl rfl | exact .inr rfl | assumption)) (@pss_cons _ _ _ _ _ (@ps_if _ _ _ _ _ _ _ _ (pt_cmpR op_eq (pv 2) pe_str (nomark _)) af pss_nil) (@pss_cons _ _ _ _ _ (@ps_if _ _ _ _ _ _ _ _ (pt_cmpR op_eq (pv 2) pe_str (nomark _)) af pss_nil) (@pss_cons _ _ _ _ _ (@ps_if _ _ _ _ _ _ _ _ (pt_cmpR op_eq (pv 2) pe_str (nomark _)) af pss_nil) (@pss_cons _ _ _ _ _ (@ps_if _ _ _ _ _ _ _ _ (pt_cmpR op_eq (pv 2) pe_str (nomark _)) af pss_nil) (@pss_cons _ _ _ _ _ (@ps_if _ _ _ _ _ _ _ _ (pt_cmpR op_eq (pv 2) pe_str (nomark _)) (@pss_one _ _ _ (@ps_ret _ _ _ _ (pcl EM Fe (hr.mono (by lia)) rfl (@pa3 _ _ _ _ _ _ _ (@pi1 K _ _ _ _ _ _ _ rfl (@pi1 K _ _ _ _ _ _ _ rfl (pv 1))) (@pi1 K _ _ _ _ _ _ _ rfl (@pi1 K _ _ _ _ _ _ _ rfl (pv 1))) (@pi1 K _ _ _ _ _ _ _ rfl (pv 0)) (by rfl) (by rfl) (by rfl))))) pss_nil) af)))))),?_⟩;refine ⟨_,rfl,_,_,_,hx,rfl,rfl,isS ?_⟩;refine aR rfl (by decide) ?_;refine aR rfl (by decide) ?_;refine aR rfl (by decide) ?_;refine aR rfl (by decide) ?_;refine fV rfl ?_;refine ⟨_,rfl,_,_,_,hy,rfl,at0 _ _,fun u1 hu1=>⟨_,_,_,hu1,rfl,rfl,fun u2 hu2=>?_⟩⟩;obtain rfl:=pS hu2;refine ⟨_,rfl,_,_,_,hy,rfl,at0 _ _,fun u3 hu3=>⟨_,_,_,hu3,rfl,rfl,fun u4 hu4=>?_⟩⟩;obtain rfl:=pS hu4;refine ⟨_,rfl,_,_,_,hx,rfl,rfl,isI ?_⟩;exact ⟨lo,hi,c,rfl,c2,c1000,q⟩
def lS (K:PySem.W.Frag) (_:Ads):Sp:=fun vs H Q _=>∃ (z:Str) (x y:V),vs=[x,y]∧IsP K H (bJ []) x∧IsP K H (pth z) y∧ay z=true∧z.length≤1000∧∀ H',Same H H'→Q (.bl true) H'
theorem lT (T:Tx K mg ad) {f:Addr} {fd:FuncData} (F:Gn K mg "is_free" eO ["kind","path"] f fd):FnOk P w K mg base CX0 3 f fd ["kind","path"] (lS K ad):=by
 obtain ⟨_,_,Et⟩:=T.kind_down;have EE:=dW (P:=P) (w:=w) (base:=base) T Et;obtain ⟨_,_,En⟩:=T.is_name;have Ey:=dj (P:=P) (w:=w) (base:=base) T En;obtain ⟨_,_,Ec⟩:=T.field_kind;have Ej:=bf (P:=P) (w:=w) (base:=base) T Ec;refine F.F.ok gf (fun vs H Q E h=>?_) (fun cdv A outer s H vs Q E hr h=>?_)
 ·obtain ⟨z,x,y,rfl,_⟩:=h
  rfl
 obtain ⟨z,x,y,rfl,hx,hy,nb,lz,q⟩:=h;refine ⟨_,(@pss_cons _ _ _ _ _ (@ps_set _ _ 2 _ _ _ _ gf.nd rfl (Or.inl rfl) (pcl Et EE (hr.mono (by lia)) rfl (@pa2 _ _ _ _ _ (pv 0) (dE (j4 (K:=K) rfl) (pv 1) iC (dD (@pe_un _ _ _ _ _ _ un_neg pe_int))) (by rfl) (by rfl))) (by rfl) (by first | exact .inl rfl | exact .inr rfl | assumption)) (@pss_cons _ _ _ _ _ (@ps_if _ _ _ _ _ _ _ _ (PW.pt (@pw_or _ _ _ _ _ _ _ (pt_cmpR op_isN (pv 2) pe_non (nomark _)) (@pw_or1 _ _ _ _ (pt_cmpR op_ne (@pi1 K _ _ _ _ _ _ _ rfl (pv 2)) pe_str (nomark _))))) (@pss_one _ _ _ (@ps_ret _ _ _ _ pe_bl)) pss_nil) (@pss_one _ _ _ (@ps_ret _ _ _ _ (pe_and (pcl En Ey (hr.mono (by lia)) rfl (@pa1 _ _ _ (@cY _ _ _ _ _ _ _ (fF (K:=K) rfl) (pv 1) (@pe_un _ _ _ _ _ _ un_neg pe_int) (fun _ _=>rfl)) (by rfl))) (pe_one (pe_cmpR op_isN (pcl Ec Ej (hr.mono (by lia)) rfl (@pa2 _ _ _ _ _ (pv 2) (@cY _ _ _ _ _ _ _ (fF (K:=K) rfl) (pv 1) (@pe_un _ _ _ _ _ _ un_neg pe_int) (fun _ _=>rfl)) (by rfl) (by rfl))) pe_non (nomark _)))))))),?_⟩;refine ⟨_,rfl,_,rfl,_,rfl,_,rfl,_,hy,fun v1 H1 g1 hv1=>?_⟩;refine ⟨[],[],x,v1,rfl,hx.same g1,hv1,.inl ⟨rfl,?_⟩⟩;obtain ⟨b,ys,rfl,_⟩:=id hx.unref;refine ⟨_,rfl,rfl,_,rfl,iteN (by intro z;cases z) ?_⟩;refine ⟨_,rfl,_,_,_,hx.same g1,rfl,at0 _ _,isS ?_⟩;refine ⟨rfl,_,rfl,im ?_⟩;refine ⟨_,rfl,_,rfl,_,_,_,hy.same g1,rfl,rfl,fun u hu=>?_⟩;refine ⟨.str z,u,rfl,hu,decide_eq_true lz,fun H2 g2=>?_⟩;rw [show aQ (.str z)=true from nb];refine ⟨_,rfl,az ?_⟩;refine ⟨_,rfl,_,rfl,_,rfl,_,_,_,hy.same (g1.trans g2),rfl,rfl,fun u2 hu2=>?_⟩;refine ⟨[],.str z,.ref b,u2,rfl,hx.same (g1.trans g2),hu2,(fun d hd=>nomatch hd),?_⟩;exact ⟨rfl,q H2 (g1.trans g2)⟩
abbrev onF (z0:Str) (lo hi:Int):Dt:=bJ [(z0,aY lo hi)]
def kJ (K:PySem.W.Frag) (_:Ads):Sp:=fun vs H Q _=>∃ (z0:Str) (c:Int) (z1 z2:Str) (lo hi:Int) (x y:V),vs=[x,y]∧IsP K H (spD z0 c z1 z2) x∧IsP K H (onF z0 lo hi) y∧2≤c∧c≤1000∧∀ H',Same H H'→Q (.bl true) H'
theorem kK (T:Tx K mg ad) {f:Addr} {fd:FuncData} (F:Gn K mg "can_take" ck ["piece","kind"] f fd):FnOk P w K mg base CX0 5 f fd ["piece","kind"] (kJ K ad):=by
 obtain ⟨_,_,Ef⟩:=T.taken_paths;have Ep:=bD (P:=P) (w:=w) (base:=base) T Ef;obtain ⟨_,_,Et⟩:=T.kind_down;have EE:=dW (P:=P) (w:=w) (base:=base) T Et;obtain ⟨_,_,EI⟩:=T.takes_kinds;have Fc:=fY (P:=P) (w:=w) (base:=base) T EI;refine F.F.ok cO (fun vs H Q E h=>?_) (fun cdv A outer s H vs Q E hr h=>?_)
 ·obtain ⟨z0,c,z1,z2,lo,hi,x,y,rfl,_⟩:=h
  rfl
 obtain ⟨z0,c,z1,z2,lo,hi,x,y,rfl,hx,hy,hc,lc,q⟩:=h;refine ⟨_,(@pss_cons _ _ _ _ _ (@ps_set _ _ 2 _ _ _ _ cO.nd rfl (Or.inl rfl) (pcl Ef Ep (hr.mono (by lia)) rfl (@pa1 _ _ _ (pv 0) (by rfl))) (by rfl) (by first | exact .inl rfl | exact .inr rfl | assumption)) (@pss_cons _ _ _ _ _ (ps_setC (j:=3) cO.nd rfl (Or.inl rfl) rfl (csR (sc:=aa ck) (NL:=["path"]) (N:=["piece","kind","paths","kinds"]) (ρ:=[1]) (N':=["path","kind"]) rfl rfl rfl (by decide +kernel) (by decide +kernel) (by decide +kernel) rfl (by decide +kernel)) (bA (K:=K) rfl (pv 2)) (fun _ _ _ _=>(ai (i:=0) (show List.Nodup (α:=Str) ["path","kind"] by decide +kernel) rfl (Or.inl rfl))) (fun _ _ _ _=>(pcl Et EE (hr.mono (by lia)) rfl (@pa2 _ _ _ _ _ (pv 1) (pv 0) (by rfl) (by rfl))))) (@pss_cons _ _ _ _ _ (@ps_if _ _ _ _ _ _ _ _ (PW.pt (@pw_or _ _ _ _ _ _ _ (pt_cmpR op_ne (pe_callB ik rfl T.z_len PySem.boot_len (@pa1 _ _ _ (a8 (ii (K:=K) rfl rfl hr.units) rfl T.z_set boot_set (@pa1 _ _ _ (pv 2) (by rfl))) (by rfl))) (pe_callB (call_len_seqN (K:=K) rfl) rfl T.z_len PySem.boot_len (@pa1 _ _ _ (pv 2) (by rfl))) (nomark _)) (@pw_or1 _ _ _ _ (pt_cmpR (wM (K:=K) rfl hr.units) pe_non (pv 3) rfl)))) (@pss_one _ _ _ (@ps_ret _ _ _ _ pe_bl)) pss_nil) (@pss_one _ _ _ (@ps_ret _ _ _ _ (pcl EI Fc (hr.mono (by lia)) rfl (@pa2 _ _ _ _ _ (pv 0) (pv 3) (by rfl) (by rfl)))))))),?_⟩;refine ⟨_,rfl,z0,c,z1,z2,x,rfl,hx,fun a v0 H1 ha g1 e1 hv0=>?_⟩;refine ⟨_,rfl,a,rfl,⟨_,SqL.of e1⟩,fun l hl=>?_⟩;refine bx (K:=K) (xs:=[v0]) (fun j ys σ H'=>Same H1 H'∧H' l=some (.lst ys)∧IsPs K H' ([aY lo hi].take j) ys∧∃ v1,σ=[v1,some y]) ⟨ae hl _,ac,.nil,none,rfl⟩ (fun j ys σ H' _ pv=>SqL.of (pv.1 _ _ e1)) ?_ ?_
 ·rintro j u ys σ H2 N hu ⟨s2,e2,d2,v1,rfl⟩ next
  match j,hu,d2,next with
  | 0,hu,d2,next =>
   obtain rfl:v0=u:=by simpa using hu
   cases d2
   refine ⟨_,rfl,_,rfl,[(z0,aY lo hi)],[z0],y,v0,rfl,(hy.same g1).same s2,hv0.same s2,.inr ⟨z0,aY lo hi,rfl,(by simp [ak]),fun v hv=>?_⟩⟩;exact ⟨e2,by decide,next _ _ _ ⟨aD hl s2,ac,IsPs.but e2 But.put (.cons hv .nil),_,rfl⟩⟩
  | j+1,hu,_,_=>simp at hu
 ·rintro ys σ H2 ⟨s2,e2,d2,v1,rfl⟩
  cases d2 with
  | @cons _ w1 _ _ hw rb =>
  cases rb
  obtain ⟨b,bs,rfl,_⟩:=id hw.unref;refine ⟨_,rfl,a,[[.inr z0]],[v0],rfl,SqL.of (s2 _ _ e1),.cons (hv0.same s2) .nil,(by show 1≤2;decide),(by simp),fun p hp=>?_⟩;have g3:=ae hp (kh p 1);refine ⟨p,1,rfl,ac,by decide,_,rfl,a,[v0],rfl,.inl (SqL.of (g3 _ _ (s2 _ _ e1))),rfl,_,rfl,im ?_⟩;have hw3:=hw.same g3;refine ⟨_,rfl,l,[b],[aY lo hi],.non,rfl,SqL.of (g3 _ _ e2),(by simp),.cons hw3.d .nil,.non,(by show 1≤60;decide),_,rfl,aH ?_⟩;exact ⟨_,rfl,_,rfl,z0,c,z1,z2,lo,hi,x,_,l,rfl,hx.same ((g1.trans s2).trans g3),g3 _ _ e2,hw3,hc,lc,q _ ((g1.trans s2).trans g3)⟩
def kL (K:PySem.W.Frag) (_:Ads):Sp:=fun vs H Q _=>∃ (z0:Str) (c:Int) (z1 z2:Str) (d:Dt) (x y:V),vs=[x,y]∧IsP K H (spD z0 c z1 z2) x∧IsP K H (bJ [(z0,d)]) y∧z1≠z2∧ay z1=true∧ay z2=true∧z1.length≤1000∧z2.length≤1000∧∀ H',Same H H'→Q (.bl true) H'
theorem kM (T:Tx K mg ad) {f:Addr} {fd:FuncData} (F:Gn K mg "can_make" cp ["piece","kind"] f fd):FnOk P w K mg base CX0 4 f fd ["piece","kind"] (kL K ad):=by
 obtain ⟨_,_,Er⟩:=T.made_paths;have EB:=c5 (P:=P) (w:=w) (base:=base) T Er;obtain ⟨_,_,El⟩:=T.without_taken;have Ev:=b6 (P:=P) (w:=w) (base:=base) T El;obtain ⟨_,_,E9⟩:=T.is_free;have FD:=lT (P:=P) (w:=w) (base:=base) T E9;refine F.F.ok cQ (fun vs H Q E h=>?_) (fun cdv A outer s H vs Q E hr h=>?_)
 ·obtain ⟨z0,c,z1,z2,d,x,y,rfl,_⟩:=h
  rfl
 obtain ⟨z0,c,z1,z2,d,x,y,rfl,hx,hy,ne,n1,n2,l1,l2,q⟩:=h;refine ⟨_,(@pss_cons _ _ _ _ _ (@ps_set _ _ 2 _ _ _ _ cQ.nd rfl (Or.inl rfl) (pcl Er EB (hr.mono (by lia)) rfl (@pa1 _ _ _ (pv 0) (by rfl))) (by rfl) (by first | exact .inl rfl | exact .inr rfl | assumption)) (@pss_cons _ _ _ _ _ (@ps_if _ _ _ _ _ _ _ _ (pt_cmpR op_ne (pe_callB ik rfl T.z_len PySem.boot_len (@pa1 _ _ _ (a8 (ii (K:=K) rfl rfl hr.units) rfl T.z_set boot_set (@pa1 _ _ _ (pv 2) (by rfl))) (by rfl))) (pe_callB (call_len_seqN (K:=K) rfl) rfl T.z_len PySem.boot_len (@pa1 _ _ _ (pv 2) (by rfl))) (nomark _)) (@pss_one _ _ _ (@ps_ret _ _ _ _ pe_bl)) pss_nil) (@pss_cons _ _ _ _ _ (@ps_set _ _ 3 _ _ _ _ cQ.nd rfl (Or.inr rfl) (pcl El Ev (hr.mono (by lia)) rfl (@pa2 _ _ _ _ _ (pv 0) (pv 1) (by rfl) (by rfl))) (by rfl) (by first | exact .inl rfl | exact .inr rfl | assumption)) (@pss_one _ _ _ (@ps_ret _ _ _ _ (pe_callB (call_allN (K:=K) rfl rfl) rfl T.z_all boot_all (@pa1 _ _ _ (bd rfl (csR (sc:=aa cp) (NL:=["path"]) (N:=["piece","kind","paths","rest"]) (ρ:=[3]) (N':=["path","rest"]) rfl rfl rfl (by decide +kernel) (by decide +kernel) (by decide +kernel) rfl (by decide +kernel)) (bA (K:=K) rfl (pv 2)) (fun _ _ _ _=>(ai (i:=0) (show List.Nodup (α:=Str) ["path","rest"] by decide +kernel) rfl (Or.inl rfl))) (fun _ _ _ _=>(pcl E9 FD (hr.mono (by lia)) rfl (@pa2 _ _ _ _ _ (pv 1) (pv 0) (by rfl) (by rfl))))) (by rfl)))))))),?_⟩;refine ⟨_,rfl,z0,c,z1,z2,x,rfl,hx,fun a p1 p2 H1 ha g1 e1 hp1 hp2=>?_⟩;refine ⟨_,rfl,a,[[.inr z1],[.inr z2]],[p1,p2],rfl,SqL.of e1,.cons hp1 (.cons hp2 .nil),(by show 2≤2;decide),(by simp [ne]),fun p hp=>?_⟩;have g2:=ae hp (kh p 2);refine ⟨p,2,rfl,ac,by decide,_,rfl,a,[p1,p2],rfl,.inl (SqL.of (g2 _ _ e1)),rfl,_,rfl,im ?_⟩;have g3:=g1.trans g2;refine ⟨_,rfl,_,rfl,z0,c,z1,z2,d,x,y,rfl,hx.same g3,hy.same g3,fun v0 H4 g4 hv0=>?_⟩;have e4:=g4 _ _ (g2 _ _ e1);refine ⟨_,rfl,a,rfl,⟨_,SqL.of e4⟩,fun l hl=>?_⟩;refine bx (K:=K) (xs:=[p1,p2]) (fun j us σ H'=>us=bls (List.replicate j true)∧j≤2∧Same H4 H'∧H' l=some (.lst us)∧∃ v1,σ=[v1,some v0]) ⟨rfl,Nat.zero_le _,ae hl _,ac,none,rfl⟩ (fun j ys σ H' _ pv=>SqL.of (pv.2.2.1 _ _ e4)) ?_ ?_
 ·rintro j u ys σ H5 N hu ⟨rfl,hj,g5,e5,v1,rfl⟩ next;obtain ⟨z,hz,nz,lz⟩:∃ z,IsP K H5 (pth z) u∧ay z=true∧z.length≤1000:=by
   match j,hu with
   | 0,hu=>exact ⟨z1,by rw [← Option.some.inj hu];exact ((hp1.same g2).same g4).same g5,n1,l1⟩
   | 1,hu=>exact ⟨z2,by rw [← Option.some.inj hu];exact ((hp2.same g2).same g4).same g5,n2,l2⟩
   | j+2,hu=>simp at hu
  have hj2:j < 2:=(List.getElem?_eq_some_iff.mp hu).1;refine ⟨_,rfl,_,rfl,z,v0,u,rfl,hv0.same g5,hz,nz,lz,fun H6 g6=>?_⟩;refine ⟨g6 _ _ e5,?_,next _ _ _ ⟨?_,by lia,aD hl (g5.trans g6),ac,_,rfl⟩⟩
  ·rw [bls,List.length_map,List.length_replicate];exact au (by lia)
  ·unfold bls;rw [List.replicate_succ',List.map_append]
   rfl
 ·rintro us σ H5 ⟨rfl,hj,g5,e5,v1,rfl⟩;refine ⟨l,_,rfl,rfl,SqL.of e5,?_⟩;rw [mF];exact q H5 ((g3.trans g4).trans g5)
abbrev DE (z1 z2:Str) (c lo hi:Int):Dt:=bJ [(z1,aY (lo / c) (hi / c)),(z2,aY 0 (c - 1))]
abbrev big:Int:=1000000000000000000000000000000
def eI (K:PySem.W.Frag) (_:Ads):Sp:=fun vs H Q _=>∃ (z0:Str) (c:Int) (z1 z2:Str) (lo hi:Int) (x y:V),vs=[x,y]∧IsP K H (spD z0 c z1 z2) x∧IsP K H (onF z0 lo hi) y∧-1000000000000000000000000000000≤lo∧lo≤hi∧hi≤1000000000000000000000000000000∧2≤c∧c≤1000∧ltS z1 z2∧ay z1=true∧ay z2=true∧z1.length≤1000∧z2.length≤1000∧∀ v H',Same H H'→IsP K H' (DE z1 z2 c lo hi) v→Q v H'
theorem xm {z1 z2:Str} {c lo hi:Int} (h0:-1000000000000000000000000000000≤lo) (h1:lo≤hi) (h2:hi≤1000000000000000000000000000000) (c2:2≤c) (c1:c≤1000) (lt:ltS z1 z2) (n1:ay z1=true) (n2:ay z2=true):FK 2 3 (DE z1 z2 c lo hi):=by
 have d1:-1000000000000000000000000000000≤lo / c:=by
  have:-1000000000000000000000000000000*c≤lo:=by lia
  exact (Int.le_ediv_iff_mul_le (by lia)).mpr this
 have d2:lo / c≤hi / c:=Int.ediv_le_ediv (by lia) h1;have d3:hi / c≤1000000000000000000000000000000:=by
  have:hi / c < 1000000000000000000000000000000+1:=(Int.ediv_lt_iff_lt_mul (by lia)).mpr (by lia);lia
 have h:=FK.rcd (gs:=[(z1,aY (lo / c) (hi / c),1,1),(z2,aY 0 (c - 1),1,1)]) (fun g hg=>by
   rcases List.mem_cons.mp hg with rfl | hg
   ·exact .number _ _ d1 d2 d3
   ·rw [List.mem_singleton.mp hg];exact .number _ _ (by lia) (by lia) (by lia)) (by
   refine List.pairwise_cons.mpr ⟨fun y hy=>?_,List.pairwise_singleton _ _⟩;rw [List.mem_singleton.mp hy];exact lt) (fun g hg=>by
   rcases List.mem_cons.mp hg with rfl | hg
   ·exact n1
   ·rw [List.mem_singleton.mp hg];exact n2) (by show 2≤8;decide)
 exact h
theorem b7 (T:Tx K mg ad) {f:Addr} {fd:FuncData} (F:Gn K mg "record_behind" bn ["piece","kind"] f fd):FnOk P w K mg base CX0 24 f fd ["piece","kind"] (eI K ad):=by
 obtain ⟨_,_,EC⟩:=T.has_piece_form;have EZ:=dY (P:=P) (w:=w) (base:=base) T EC;obtain ⟨_,_,E4⟩:=T.can_take;have Fv:=kK (P:=P) (w:=w) (base:=base) T E4;obtain ⟨_,_,EK⟩:=T.made_kinds;have Fj:=gG (P:=P) (w:=w) (base:=base) T EK;obtain ⟨_,_,EQ⟩:=T.old_values;have Ff:=gC (P:=P) (w:=w) (base:=base) T EQ;obtain ⟨_,_,E5⟩:=T.can_make;have FB:=kM (P:=P) (w:=w) (base:=base) T E5;obtain ⟨_,_,Ex⟩:=T.made_kind;have Fq:=jc (P:=P) (w:=w) (base:=base) T Ex;obtain ⟨_,_,E2⟩:=T.with_new;have Fx:=kI (P:=P) (w:=w) (base:=base) T E2;refine F.F.ok sc_record_behind (fun vs H Q E h=>?_) (fun cdv A outer s H vs Q E hr h=>?_)
 ·obtain ⟨z0,c,z1,z2,lo,hi,x,y,rfl,_⟩:=h
  rfl
 obtain ⟨z0,c,z1,z2,lo,hi,x,y,rfl,hx,hy,h0,h1,h2,c2,c1,lt,n1,n2,l1,l2,q⟩:=h;refine ⟨_,(@pss_cons _ _ _ _ _ (@ps_if _ _ _ _ _ _ _ _ (@pt_not _ _ _ _ (@pt_val _ _ _ (pcl EC EZ (hr.mono (by lia)) rfl (@pa1 _ _ _ (pv 0) (by rfl))) (by intro _;rfl))) (@pss_one _ _ _ ps_never) pss_nil) (@pss_cons _ _ _ _ _ (@ps_if _ _ _ _ _ _ _ _ (@pt_not _ _ _ _ (@pt_val _ _ _ (pcl E4 Fv (hr.mono (by lia)) rfl (@pa2 _ _ _ _ _ (pv 0) (pv 1) (by rfl) (by rfl))) (by intro _;rfl))) (@pss_one _ _ _ ps_never) pss_nil) (@pss_cons _ _ _ _ _ (@ps_set _ _ 2 _ _ _ _ sc_record_behind.nd rfl (Or.inl rfl) (pcl EK Fj (hr.mono (by lia)) rfl (@pa2 _ _ _ _ _ (pv 0) (pcl EQ Ff (hr.mono (by lia)) rfl (@pa2 _ _ _ _ _ (pv 0) (pv 1) (by rfl) (by rfl))) (by rfl) (by rfl))) (by rfl) (by first | exact .inl rfl | exact .inr rfl | assumption)) (@pss_cons _ _ _ _ _ (@ps_if _ _ _ _ _ _ _ _ (@pt_not _ _ _ _ (@pt_val _ _ _ (pcl E5 FB (hr.mono (by lia)) rfl (@pa2 _ _ _ _ _ (pv 0) (pv 1) (by rfl) (by rfl))) (by intro _;rfl))) (@pss_one _ _ _ ps_never) pss_nil) (@pss_one _ _ _ (ps_tryN (@pss_one _ _ _ (@ps_ret _ _ _ _ (pe_call Fq (hr.mono (by first | decide | lia)) rfl Ex.m Ex.F.kp Ex.b .nil passF (@pa1 _ _ _ (pcl E2 Fx (hr.mono (by lia)) rfl (@pa_cons _ _ _ _ _ (pv 0) (@pa3 _ _ _ _ _ _ _ (pv 1) (pv 1) (pv 2) (by rfl) (by rfl) (by rfl)) (by rfl))) (by rfl))))))))))),?_⟩;refine ⟨_,rfl,z0,c,z1,z2,x,rfl,hx,fun H1 g1=>⟨_,rfl,aH ?_⟩⟩;refine ⟨_,rfl,_,rfl,z0,c,z1,z2,lo,hi,x,y,rfl,hx.same g1,hy.same g1,c2,c1,fun H2 g2=>⟨_,rfl,aH ?_⟩⟩;have g3:=g1.trans g2;refine ⟨_,rfl,_,rfl,_,rfl,z0,c,z1,z2,aY lo hi,x,y,rfl,hx.same g3,hy.same g3,fun v4 H4 g4 hv4=>?_⟩;have g5:=g3.trans g4;refine ⟨z0,c,z1,z2,lo,hi,x,v4,rfl,hx.same g5,hv4,c2,c1,fun v6 H6 g6 hv6=>?_⟩;have g7:=g5.trans g6;refine ⟨_,rfl,_,rfl,z0,c,z1,z2,aY lo hi,x,y,rfl,hx.same g7,hy.same g7,(fun e=>absurd (e ▸ lt) (List.lt_irrefl _)),n1,n2,l1,l2,fun H8 g8=>⟨_,rfl,aH ?_⟩⟩;have g9:=g7.trans g8;refine ⟨_,rfl,_,rfl,_,rfl,_,rfl,z0,c,z1,z2,aY lo hi,aY (lo / c) (hi / c),aY 0 (c - 1),x,y,y,v6,rfl,hx.same g9,hy.same g9,hv6.same g8,lt,fun v H' g10 hv=>?_⟩;have fk:=xm h0 h1 h2 c2 c1 lt n1 n2;exact ⟨_,v,rfl,hv,DB fk,.inr ⟨2,3,fk,by decide,fun _ H3 g3=>q v H3 ((g9.trans g10).trans g3) (hv.same g3),fun z=>by lia⟩⟩
abbrev whD (z1 z2:Str) (c:Int) (z0:Str) (lo hi:Int):Dt:=.tup [.str "whole",.str z1,.str z2,.int c,.str z0,.int lo,.int hi]
def fZ (K:PySem.W.Frag) (_:Ads):Sp:=fun vs H Q _=>∃ (z0:Str) (c:Int) (z1 z2:Str) (lo hi:Int) (x y:V),vs=[x,y]∧IsP K H (spD z0 c z1 z2) x∧IsP K H (onF z0 lo hi) y∧-1000000000000000000000000000000≤lo∧lo≤hi∧hi≤1000000000000000000000000000000∧2≤c∧c≤1000∧ltS z1 z2∧ay z1=true∧ay z2=true∧z1.length≤1000∧z2.length≤1000∧∀ v H',Same H H'→IsP K H' (whD z1 z2 c z0 lo hi) v→Q v H'
theorem f6 (T:Tx K mg ad) {f:Addr} {fd:FuncData} (F:Gn K mg "piece_about" bU ["piece","kind"] f fd):FnOk P w K mg base CX0 25 f fd ["piece","kind"] (fZ K ad):=by
 obtain ⟨_,_,Ek⟩:=T.record_behind;have Ew:=b7 (P:=P) (w:=w) (base:=base) T Ek;obtain ⟨_,_,Ec⟩:=T.field_kind;have Ej:=bf (P:=P) (w:=w) (base:=base) T Ec;refine F.F.ok bI (fun vs H Q E h=>?_) (fun cdv A outer s H vs Q E hr h=>?_)
 ·obtain ⟨z0,c,z1,z2,lo,hi,x,y,rfl,_⟩:=h
  rfl
 obtain ⟨z0,c,z1,z2,lo,hi,x,y,rfl,hx,hy,h0,h1,h2,c2,c1,lt,n1,n2,l1,l2,q⟩:=h;refine ⟨_,(@pss_cons _ _ _ _ _ (@p8 _ _ _ _ (pcl Ek Ew (hr.mono (by lia)) rfl (@pa2 _ _ _ _ _ (pv 0) (pv 1) (by rfl) (by rfl))) (by rfl)) (@pss_cons _ _ _ _ _ (@ps_set _ _ 2 _ _ _ _ bI.nd rfl (Or.inl rfl) (@pi1 K _ _ _ _ _ _ _ rfl (pv 0)) (by rfl) (by first | exact .inl rfl | exact .inr rfl | assumption)) (@pss_cons _ _ _ _ _ (@ps_if _ _ _ _ _ _ _ _ (pt_cmpR op_eq (pv 2) pe_str (nomark _)) af pss_nil) (@pss_cons _ _ _ _ _ (@ps_if _ _ _ _ _ _ _ _ (pt_cmpR op_eq (pv 2) pe_str (nomark _)) af pss_nil) (@pss_cons _ _ _ _ _ (@ps_if _ _ _ _ _ _ _ _ (pt_cmpR op_eq (pv 2) pe_str (nomark _)) af pss_nil) (@pss_cons _ _ _ _ _ (@ps_if _ _ _ _ _ _ _ _ (pt_cmpR op_eq (pv 2) pe_str (nomark _)) af pss_nil) (@pss_cons _ _ _ _ _ (@ps_if _ _ _ _ _ _ _ _ (pt_cmpR op_eq (pv 2) pe_str (nomark _)) af pss_nil) (@pss_cons _ _ _ _ _ (@ps_if _ _ _ _ _ _ _ _ (pt_cmpR op_eq (pv 2) pe_str (nomark _)) af pss_nil) (@pss_cons _ _ _ _ _ (@ps_if _ _ _ _ _ _ _ _ (pt_cmpR op_eq (pv 2) pe_str (nomark _)) af pss_nil) (@pss_cons _ _ _ _ _ (@ps_if _ _ _ _ _ _ _ _ (pt_cmpR op_eq (pv 2) pe_str (nomark _)) af pss_nil) (@pss_cons _ _ _ _ _ (@ps_if _ _ _ _ _ _ _ _ (pt_cmpR op_eq (pv 2) pe_str (nomark _)) (@pss_cons _ _ _ _ _ (@ps_set _ _ 3 _ _ _ _ bI.nd rfl (Or.inl rfl) (pcl Ec Ej (hr.mono (by lia)) rfl (@pa2 _ _ _ _ _ (pv 1) (@pi1 K _ _ _ _ _ _ _ rfl (pv 0)) (by rfl) (by rfl))) (by rfl) (by first | exact .inl rfl | exact .inr rfl | assumption)) (@pss_one _ _ _ (@ps_ret _ _ _ _ (@aj _ K _ _ _ _ rfl (@pa_cons _ _ _ _ _ pe_str (@pa_cons _ _ _ _ _ (@pi1 K _ _ _ _ _ _ _ rfl (pv 0)) (@pa_cons _ _ _ _ _ (@pi1 K _ _ _ _ _ _ _ rfl (pv 0)) (@pa_cons _ _ _ _ _ (@pi1 K _ _ _ _ _ _ _ rfl (pv 0)) (@pa3 _ _ _ _ _ _ _ (@pi1 K _ _ _ _ _ _ _ rfl (pv 0)) (@pi1 K _ _ _ _ _ _ _ rfl (pv 3)) (@pi1 K _ _ _ _ _ _ _ rfl (pv 3)) (by rfl) (by rfl) (by rfl)) (by rfl)) (by rfl)) (by rfl)) (by rfl)))))) pss_nil) af))))))))))),?_⟩;refine ⟨_,rfl,_,rfl,z0,c,z1,z2,lo,hi,x,y,rfl,hx,hy,h0,h1,h2,c2,c1,lt,n1,n2,l1,l2,fun v1 H1 g1 _=>?_⟩;have hx1:=hx.same g1;refine ⟨_,rfl,_,_,_,hx1,rfl,rfl,isS ?_⟩;refine aR rfl (by decide) ?_;refine aR rfl (by decide) ?_;refine aR rfl (by decide) ?_;refine aR rfl (by decide) ?_;refine aR rfl (by decide) ?_;refine aR rfl (by decide) ?_;refine aR rfl (by decide) ?_;refine aR rfl (by decide) ?_;refine fV rfl ?_;refine ⟨_,rfl,_,rfl,_,_,_,hx1,rfl,rfl,fun u1 hu1=>?_⟩;refine ⟨[(z0,aY lo hi)].map prD,.str z0,y,u1,rfl,hy.same g1,hu1,mE _,?_⟩;rw [eF,show ak [(z0,aY lo hi)] z0=some (aY lo hi) by simp [ak]];intro e he;refine ⟨_,rfl,_,_,_,hx1,rfl,rfl,fun a1 ha1=>?_⟩;refine ⟨_,rfl,_,_,_,hx1,rfl,rfl,fun a2 ha2=>?_⟩;refine ⟨_,rfl,_,_,_,hx1,rfl,rfl,fun a3 ha3=>?_⟩;refine ⟨_,rfl,_,_,_,hx1,rfl,rfl,fun a4 ha4=>?_⟩;refine ⟨_,rfl,_,_,_,he,rfl,rfl,fun a5 ha5=>?_⟩;refine ⟨_,rfl,_,_,_,he,rfl,rfl,fun a6 ha6=>?_⟩;exact ⟨[.str "whole",.str z1,.str z2,.int c,.str z0,.int lo,.int hi],.cons .str (.cons ha1 (.cons ha2 (.cons ha3 (.cons ha4 (.cons ha5 (.cons ha6 .nil)))))),(by show 7≤sizeLine;decide),fun v H' g hv=>q v H' (g1.trans g) hv⟩
def f7 (K:PySem.W.Frag) (_:Ads):Sp:=fun vs H Q _=>∃ (x y w:V),vs=[x,y,w] ∧
 ((∃ (z0:Str) (c:Int) (z1 z2:Str) (n:Int),IsP K H (spD z0 c z1 z2) x∧IsP K H (.tup [.int n]) w∧2≤c∧c≤1000∧∀ v H',Same H H'→IsP K H' (.tup [.int (n / c),.int (n % c)]) v→Q v H') ∨
  ∃ (z1 z2:Str) (c:Int) (z0:Str) (lo hi a b:Int),IsP K H (whD z1 z2 c z0 lo hi) x∧IsP K H (.tup [.int a,.int b]) w∧2≤c∧c≤1000∧∀ v H',Same H H'→IsP K H' (.tup [.int (kG (a*c+b) lo hi)]) v→Q v H')
theorem f8 (T:Tx K mg ad) {f:Addr} {fd:FuncData} (F:Gn K mg "made_values" bV ["piece","kind","values"] f fd):FnOk P w K mg base CX0 2 f fd ["piece","kind","values"] (f7 K ad):=by
 obtain ⟨_,_,Fa⟩:=T.nearest;have FE:=lR (P:=P) (w:=w) (base:=base) T Fa;refine F.F.ok cR (fun vs H Q E h=>?_) (fun cdv A outer s H vs Q E hr h=>?_)
 ·obtain ⟨x,y,w,rfl,_⟩:=h
  rfl
 obtain ⟨x,y,w,rfl,q⟩:=h;refine ⟨_,(@pss_cons _ _ _ _ _ (@ps_set _ _ 3 _ _ _ _ cR.nd rfl (Or.inl rfl) (@pi1 K _ _ _ _ _ _ _ rfl (pv 0)) (by rfl) (by first | exact .inl rfl | exact .inr rfl | assumption)) (@pss_cons _ _ _ _ _ (@ps_if _ _ _ _ _ _ _ _ (pt_cmpR op_eq (pv 3) pe_str (nomark _)) af pss_nil) (@pss_cons _ _ _ _ _ (@ps_if _ _ _ _ _ _ _ _ (pt_cmpR op_eq (pv 3) pe_str (nomark _)) af pss_nil) (@pss_cons _ _ _ _ _ (@ps_if _ _ _ _ _ _ _ _ (pt_cmpR op_eq (pv 3) pe_str (nomark _)) af pss_nil) (@pss_cons _ _ _ _ _ (@ps_if _ _ _ _ _ _ _ _ (pt_cmpR op_eq (pv 3) pe_str (nomark _)) af pss_nil) (@pss_cons _ _ _ _ _ (@ps_if _ _ _ _ _ _ _ _ (pt_cmpR op_eq (pv 3) pe_str (nomark _)) af pss_nil) (@pss_cons _ _ _ _ _ (@ps_if _ _ _ _ _ _ _ _ (pt_cmpR op_eq (pv 3) pe_str (nomark _)) (@pss_one _ _ _ (@ps_ret _ _ _ _ (pe_callB (dP (K:=K) rfl) rfl T.z_divmod boot_divmod (@pa2 _ _ _ _ _ (@pi1 K _ _ _ _ _ _ _ rfl (pv 2)) (@pi1 K _ _ _ _ _ _ _ rfl (pv 0)) (by rfl) (by rfl))))) pss_nil) (@pss_cons _ _ _ _ _ (@ps_if _ _ _ _ _ _ _ _ (pt_cmpR op_eq (pv 3) pe_str (nomark _)) (@pss_one _ _ _ (@ps_ret _ _ _ _ (@aj _ K _ _ _ _ rfl (@pa1 _ _ _ (pcl Fa FE (hr.mono (by lia)) rfl (@pa3 _ _ _ _ _ _ _ (@pe_op _ _ _ _ _ _ _ _ aC (@pe_op _ _ _ _ _ _ _ _ b8 (@pi1 K _ _ _ _ _ _ _ rfl (pv 2)) (@pi1 K _ _ _ _ _ _ _ rfl (pv 0))) (@pi1 K _ _ _ _ _ _ _ rfl (pv 2))) (@pi1 K _ _ _ _ _ _ _ rfl (pv 0)) (@pi1 K _ _ _ _ _ _ _ rfl (pv 0)) (by rfl) (by rfl) (by rfl))) (by rfl))))) pss_nil) af)))))))),?_⟩;rcases q with ⟨z0,c,z1,z2,n,hx,hw,c2,c1,q⟩ | ⟨z1,z2,c,z0,lo,hi,a,b,hx,hw,c2,c1,q⟩
 ·refine ⟨_,rfl,_,_,_,hx,rfl,rfl,isS ?_⟩;refine aR rfl (by decide) ?_;refine aR rfl (by decide) ?_;refine aR rfl (by decide) ?_;refine aR rfl (by decide) ?_;refine aR rfl (by decide) ?_;refine fV rfl ?_;refine ⟨_,rfl,_,_,_,hw,rfl,at0 _ _,isI ?_⟩;refine ⟨_,rfl,_,_,_,hx,rfl,rfl,isI ?_⟩;exact ⟨n,c,rfl,by lia,by lia,q⟩
 ·refine ⟨_,rfl,_,_,_,hx,rfl,rfl,isS ?_⟩;refine aR rfl (by decide) ?_;refine aR rfl (by decide) ?_;refine aR rfl (by decide) ?_;refine aR rfl (by decide) ?_;refine aR rfl (by decide) ?_;refine aR rfl (by decide) ?_;refine fV rfl ?_;refine ⟨_,rfl,_,_,_,hw,rfl,at0 _ _,isI ?_⟩;refine ⟨_,rfl,_,_,_,hx,rfl,rfl,isI ?_⟩;refine ⟨_,_,rfl,rfl,.inr ⟨by lia,by lia⟩,?_⟩;refine ⟨_,rfl,_,_,_,hw,rfl,rfl,isI ?_⟩;refine ⟨_,_,rfl,rfl,?_⟩;refine ⟨_,rfl,_,_,_,hx,rfl,rfl,isI ?_⟩;refine ⟨_,rfl,_,_,_,hx,rfl,rfl,isI ?_⟩;exact ⟨_,_,_,rfl,[.int _],.cons .int .nil,sz1,q⟩
inductive IDg (vs:List V) (H:Hp) (Q:VK):Prop
 | mk (r:Addr) (n m:Int):(vs=[.ref r,.int m])→(H r=some (.lst [.int n]))→(0 < m)→(m < 10000000000000000000000000000000000000000000000000000000000000)→(∀ d n' H',0≤d→d < m→But r H H'→H' r=some (.lst [.int n'])→Q (.int d) H')→IDg vs H Q
def sDg:Sp:=fun vs H Q _=>IDg vs H Q
theorem xn {ad:Ads} (vs:List V) (H:Hp) (Q:VK) (E:XK) (h:sDg vs H Q E):dQ K ad vs H Q E:=by
 obtain ⟨r,n,m,e,hr,h0,h1,q⟩:=h;exact ⟨r,n,m,e,hr,h0,h1,q _ _ _ (pK n h0).1 (pK n h0).2 But.put ac⟩
theorem pT (ms:List Int) (lo hi:Option Int):∃ ks:List Int,eW (ms.map V.int) lo hi=ks.map V.int∧ks.length≤ms.length:=by
 refine ⟨(ms.drop (HT.sIx (ms.map V.int).length 0 lo)).take (HT.sIx (ms.map V.int).length (ms.map V.int).length hi - HT.sIx (ms.map V.int).length 0 lo),?_,?_⟩
 ·unfold eW;rw [List.map_take,List.map_drop]
 ·rw [List.length_take,List.length_drop];lia
theorem ix {P:Program} {w:World} {K:PySem.W.Frag} {H H':Hp} {p:Addr} {kvs:List (List Key×Dt)} (g:Same H H') (h:DicG P w K H p kvs):DicG P w K H' p kvs:=h.imp (fun h=>h.same g) fun h=>⟨h.1,g _ _ h.2⟩
theorem rC:(10:Int) ^ (29:Int).toNat=100000000000000000000000000000:=by decide +kernel
theorem xp {x y k:Int} (h:0 < k) (e1:x / k=y / k) (e2:x % k=y % k):x=y:=by
 have h1:=Int.mul_ediv_add_emod x k;have h2:=Int.mul_ediv_add_emod y k;rw [← h1,← h2,e1,e2]
theorem qX (x k:Int):x / k*k+x % k=x:=by
 have h:=Int.mul_ediv_add_emod x k;rw [Int.mul_comm] at h;exact h
theorem qY {x i j:Int} (h1:i≤x) (h2:x≤j):kG x i j=x:=by
 unfold kG;rw [if_neg (by lia:¬ i > x),if_neg (by lia)]
def lU (f k:Int) (n:Nat):List (List Key×Dt):=(List.range n).map fun (t:Nat)=>([.inl ((f+t) / k),.inl ((f+t) % k)],.bl true)
theorem xr {f k:Int} (h:0 < k) (n:Nat):eD (lU f k n) [.inl ((f+n) / k),.inl ((f+n) % k)]=none:=by
 unfold eD;rw [List.find?_eq_none.mpr]
 ·rfl
 intro p hp e;obtain ⟨t,ht,rfl⟩:=List.mem_map.mp hp;have e':=of_decide_eq_true e;have lt:=List.mem_range.mp ht;injection e' with e1 e2
 injection e2 with e2
 have:=xp h (Sum.inl.inj e1) (Sum.inl.inj e2);lia
theorem pU (f k:Int) (n:Nat):lU f k (n+1)=lU f k n++[([.inl ((f+n) / k),.inl ((f+n) % k)],.bl true)]:=by
 unfold lU;rw [List.range_succ,List.map_append]
 rfl
theorem Ea (T:Tx K mg ad) {f:Addr} {fd:FuncData} (F:Gn K mg "law" mG ["script"] f fd):FnOk P w K mg base CX0 depth f fd ["script"] (wS K ad):=by
 obtain ⟨_,_,EN⟩:=T.law_stream;have Fh:=gv (P:=P) (w:=w) (base:=base) T EN;obtain ⟨_,_,Ek⟩:=T.record_behind;have Ew:=b7 (P:=P) (w:=w) (base:=base) T Ek;obtain ⟨_,_,EJ⟩:=T.piece_about;have Fd:=f6 (P:=P) (w:=w) (base:=base) T EJ;obtain ⟨_,_,Eu⟩:=T.made_values;have Ez:=f8 (P:=P) (w:=w) (base:=base) T Eu;obtain ⟨_,_,Eb⟩:=T.law_digit;have Ed:=(je (P:=P) (w:=w) (base:=base) T Eb).imp xn;refine F.F.ok aF (fun vs H Q E h=>?_) (fun cdv A outer s H vs Q E hr h=>?_)
 ·obtain ⟨a,ns,rfl,_⟩:=h
  rfl
 obtain ⟨a,ns,rfl,hS,h63,q⟩:=h;refine ⟨_,(@pss_cons _ _ _ _ _ (bj PassesOwn.never rfl (ee rfl T.z_range (@pa1 _ _ _ (@pe_op _ _ _ _ _ _ _ _ aC pe_int (pe_callB (call_len_seqN (K:=K) rfl) rfl T.z_len PySem.boot_len (@pa1 _ _ _ (pv 0) (by rfl)))) (by rfl))) (ai (i:=1) aF.nd rfl (Or.inl rfl))
    (@pss_cons _ _ _ _ _ (@ps_set _ _ 2 _ _ _ _ aF.nd rfl (Or.inl rfl) (pcl EN Fh (hr.mono (by lia)) rfl (@pa2 _ _ _ _ _ (dE (j5 (K:=K) rfl) (@pe_op _ _ _ _ _ _ _ _ (oU (K:=K) rfl) (@bu _ _ _ _ (@pa1 _ _ _ pe_int (by rfl))) (pv 0)) (dD (pv 1)) (dD (@pe_op _ _ _ _ _ _ _ _ aC (pv 1) pe_int))) pe_int (by rfl) (by rfl))) (by rfl) (by first | exact .inl rfl | exact .inr rfl | assumption)) (@pss_cons _ _ _ _ _ (@ps_set _ _ 3 _ _ _ _ aF.nd rfl (Or.inl rfl) (@cY _ _ _ _ _ _ _ (bz (K:=K) rfl) (@bu _ _ _ _ (@pa3 _ _ _ _ _ _ _ (@pe_op _ _ _ _ _ _ _ _ op_sub (pcl Eb Ed (hr.mono (by lia)) rfl (@pa2 _ _ _ _ _ (pv 2) pe_int (by rfl) (by rfl))) pe_int) (@pe_un _ _ _ _ _ _ un_neg (@pe_op _ _ _ _ _ _ _ _ op_pow pe_int pe_int)) (@pe_op _ _ _ _ _ _ _ _ b8 (@pe_op _ _ _ _ _ _ _ _ op_pow pe_int pe_int) (pcl Eb Ed (hr.mono (by lia)) rfl (@pa2 _ _ _ _ _ (pv 2) pe_int (by rfl) (by rfl)))) (by rfl) (by rfl) (by rfl))) (pcl Eb Ed (hr.mono (by lia)) rfl (@pa2 _ _ _ _ _ (pv 2) pe_int (by rfl) (by rfl))) (fun _ _=>rfl)) (by rfl) (by first | exact .inl rfl | exact .inr rfl | assumption)) (@pss_cons _ _ _ _ _ (@ps_set _ _ 4 _ _ _ _ aF.nd rfl (Or.inl rfl) (pe_callB (cS rfl) rfl T.z_min boot_min (@pa2 _ _ _ _ _ (@pe_op _ _ _ _ _ _ _ _ op_pow pe_int pe_int) (@pe_op _ _ _ _ _ _ _ _ aC (pv 3) (@cY _ _ _ _ _ _ _ (bz (K:=K) rfl) (@bu _ _ _ _ (@pa2 _ _ _ _ _ (pcl Eb Ed (hr.mono (by lia)) rfl (@pa2 _ _ _ _ _ (pv 2) pe_int (by rfl) (by rfl))) (@pe_op _ _ _ _ _ _ _ _ aC (@pe_op _ _ _ _ _ _ _ _ op_pow pe_int pe_int) (pcl Eb Ed (hr.mono (by lia)) rfl (@pa2 _ _ _ _ _ (pv 2) (@pe_op _ _ _ _ _ _ _ _ op_pow pe_int pe_int) (by rfl) (by rfl)))) (by rfl) (by rfl))) (pcl Eb Ed (hr.mono (by lia)) rfl (@pa2 _ _ _ _ _ (pv 2) pe_int (by rfl) (by rfl))) (fun _ _=>rfl))) (by rfl) (by rfl))) (by rfl) (by first | exact .inl rfl | exact .inr rfl | assumption)) (@pss_cons _ _ _ _ _ (@ps_set _ _ 5 _ _ _ _ aF.nd rfl (Or.inl rfl) (@pe_op _ _ _ _ _ _ _ _ aC pe_int (@cY _ _ _ _ _ _ _ (bz (K:=K) rfl) (@bu _ _ _ _ (@pa2 _ _ _ _ _ (pcl Eb Ed (hr.mono (by lia)) rfl (@pa2 _ _ _ _ _ (pv 2) pe_int (by rfl) (by rfl))) (pcl Eb Ed (hr.mono (by lia)) rfl (@pa2 _ _ _ _ _ (pv 2) pe_int (by rfl) (by rfl))) (by rfl) (by rfl))) (pcl Eb Ed (hr.mono (by lia)) rfl (@pa2 _ _ _ _ _ (pv 2) pe_int (by rfl) (by rfl))) (fun _ _=>rfl))) (by rfl) (by first | exact .inl rfl | exact .inr rfl | assumption)) (@pss_cons _ _ _ _ _ (@ps_set _ _ 6 _ _ _ _ aF.nd rfl (Or.inl rfl) (@aj _ K _ _ _ _ rfl (@pa2 _ _ _ _ _ pe_str (@aj _ K _ _ _ _ rfl (@pa1 _ _ _ (@aj _ K _ _ _ _ rfl (@pa2 _ _ _ _ _ pe_str (@aj _ K _ _ _ _ rfl (@pa3 _ _ _ _ _ _ _ pe_str (pv 3) (pv 4) (by rfl) (by rfl) (by rfl))) (by rfl) (by rfl))) (by rfl))) (by rfl) (by rfl))) (by rfl) (by first | exact .inl rfl | exact .inr rfl | assumption)) (@pss_cons _ _ _ _ _ (@ps_set _ _ 7 _ _ _ _ aF.nd rfl (Or.inl rfl) (@aj _ K _ _ _ _ rfl (@pa_cons _ _ _ _ _ pe_str (@pa_cons _ _ _ _ _ pe_str (@pa3 _ _ _ _ _ _ _ (pv 5) pe_str pe_str (by rfl) (by rfl) (by rfl)) (by rfl)) (by rfl))) (by rfl) (by first | exact .inl rfl | exact .inr rfl | assumption)) (@pss_cons _ _ _ _ _ (@ps_set _ _ 8 _ _ _ _ aF.nd rfl (Or.inl rfl) (pcl Ek Ew (hr.mono (by lia)) rfl (@pa2 _ _ _ _ _ (pv 7) (pv 6) (by rfl) (by rfl))) (by rfl) (by first | exact .inl rfl | exact .inr rfl | assumption)) (@pss_cons _ _ _ _ _ (@ps_set _ _ 9 _ _ _ _ aF.nd rfl (Or.inl rfl) (pcl EJ Fd (hr.mono (by lia)) rfl (@pa2 _ _ _ _ _ (pv 7) (pv 6) (by rfl) (by rfl))) (by rfl) (by first | exact .inl rfl | exact .inr rfl | assumption)) (@pss_cons _ _ _ _ _ (@ps_if _ _ _ _ _ _ _ _ (pt_cmpR (fu (K:=K) rfl hr.units) (pv 9) (@aj _ K _ _ _ _ rfl (@pa_cons _ _ _ _ _ pe_str (@pa_cons _ _ _ _ _ pe_str (@pa_cons _ _ _ _ _ pe_str (@pa_cons _ _ _ _ _ (pv 5) (@pa3 _ _ _ _ _ _ _ pe_str (pv 3) (pv 4) (by rfl) (by rfl) (by rfl)) (by rfl)) (by rfl)) (by rfl)) (by rfl))) (nomark _)) (@pss_one _ _ _ (@ps_ret _ _ _ _ pe_bl)) pss_nil) (@pss_cons _ _ _ _ _ (@ps_set _ _ 10 _ _ _ _ aF.nd rfl (Or.inl rfl) oI (by rfl) (by first | exact .inl rfl | exact .inr rfl | assumption)) (@pss_cons _ _ _ _ _ (@ps_set _ _ 11 _ _ _ _ aF.nd rfl (Or.inl rfl) (@pe_op _ _ _ _ _ _ _ _ aC (pv 3) (pcl Eb Ed (hr.mono (by lia)) rfl (@pa2 _ _ _ _ _ (pv 2) (@pe_op _ _ _ _ _ _ _ _ aC (@pe_op _ _ _ _ _ _ _ _ op_sub (pv 4) (pv 3)) pe_int) (by rfl) (by rfl)))) (by rfl) (by first | exact .inl rfl | exact .inr rfl | assumption)) (@pss_cons _ _ _ _ _ (bj PassesOwn.never rfl (bA (K:=K) rfl (kq rfl rfl T.z_list rfl T.z_range (@pa2 _ _ _ _ _ (pv 11) (pe_callB (cS rfl) rfl T.z_min boot_min (@pa2 _ _ _ _ _ (@pe_op _ _ _ _ _ _ _ _ aC (pv 4) pe_int) (@pe_op _ _ _ _ _ _ _ _ aC (pv 11) pe_int) (by rfl) (by rfl))) (by rfl) (by rfl)))) (ai (i:=12) aF.nd rfl (Or.inl rfl))
    (@pss_cons _ _ _ _ _ (@ps_set _ _ 13 _ _ _ _ aF.nd rfl (Or.inl rfl) (pe_callB (dP (K:=K) rfl) rfl T.z_divmod boot_divmod (@pa2 _ _ _ _ _ (pv 12) (pv 5) (by rfl) (by rfl))) (by rfl) (by first | exact .inl rfl | exact .inr rfl | assumption)) (@pss_cons _ _ _ _ _ (@ps_if _ _ _ _ _ _ _ _ (PW.pt (@pw_or _ _ _ _ _ _ _ (pt_cmpR (fu (K:=K) rfl hr.units) (pcl Eu Ez (hr.mono (by lia)) rfl (@pa3 _ _ _ _ _ _ _ (pv 7) (pv 6) (@aj _ K _ _ _ _ rfl (@pa1 _ _ _ (pv 12) (by rfl))) (by rfl) (by rfl) (by rfl))) (pv 13) (nomark _)) (@pw_or1 _ _ _ _ (vV (qP (P:=P) (w:=w) (K:=K) rfl rfl rfl (u1 hr.units) (pv 13) (pv 10)))))) (@pss_one _ _ _ (@ps_ret _ _ _ _ pe_bl)) pss_nil) (@pss_cons _ _ _ _ _ (pA (P:=P) (w:=w) (K:=K) rfl rfl rfl (u1 hr.units) (pv 10) (pv 13) pe_bl rfl) (@pss_one _ _ _ (@ps_if _ _ _ _ _ _ _ _ (pt_cmpR (fu (K:=K) rfl hr.units) (pcl Eu Ez (hr.mono (by lia)) rfl (@pa3 _ _ _ _ _ _ _ (pv 9) (pv 8) (pv 13) (by rfl) (by rfl) (by rfl))) (@aj _ K _ _ _ _ rfl (@pa1 _ _ _ (pv 12) (by rfl))) (nomark _)) (@pss_one _ _ _ (@ps_ret _ _ _ _ pe_bl)) pss_nil)))))) (@pss_one _ _ _ (bj PassesOwn.never rfl (ee rfl T.z_range (@pa1 _ _ _ pe_int (by rfl))) (ai (i:=14) aF.nd rfl (Or.inl rfl))
    (@pss_cons _ _ _ _ _ (@ps_set _ _ 15 _ _ _ _ aF.nd rfl (Or.inl rfl) (@pe_op _ _ _ _ _ _ _ _ aC (@pe_op _ _ _ _ _ _ _ _ bw (pv 3) (pv 5)) (pcl Eb Ed (hr.mono (by lia)) rfl (@pa2 _ _ _ _ _ (pv 2) (@pe_op _ _ _ _ _ _ _ _ aC (@pe_op _ _ _ _ _ _ _ _ op_sub (@pe_op _ _ _ _ _ _ _ _ bw (pv 4) (pv 5)) (@pe_op _ _ _ _ _ _ _ _ bw (pv 3) (pv 5))) pe_int) (by rfl) (by rfl)))) (by rfl) (by first | exact .inl rfl | exact .inr rfl | assumption)) (@pss_cons _ _ _ _ _ (@ps_set _ _ 16 _ _ _ _ aF.nd rfl (Or.inl rfl) (pcl Eb Ed (hr.mono (by lia)) rfl (@pa2 _ _ _ _ _ (pv 2) (pv 5) (by rfl) (by rfl))) (by rfl) (by first | exact .inl rfl | exact .inr rfl | assumption)) (@pss_cons _ _ _ _ _ (@ps_set _ _ 17 _ _ _ _ aF.nd rfl (Or.inl rfl) (pe_callB (cS rfl) rfl T.z_min boot_min (@pa2 _ _ _ _ _ (pe_callB (gR rfl) rfl T.z_max boot_max (@pa2 _ _ _ _ _ (@pe_op _ _ _ _ _ _ _ _ aC (@pe_op _ _ _ _ _ _ _ _ b8 (pv 15) (pv 5)) (pv 16)) (pv 3) (by rfl) (by rfl))) (pv 4) (by rfl) (by rfl))) (by rfl) (by first | exact .inl rfl | exact .inr rfl | assumption)) (@pss_one _ _ _ (@ps_if _ _ _ _ _ _ _ _ (pt_cmpR (fu (K:=K) rfl hr.units) (pcl Eu Ez (hr.mono (by lia)) rfl (@pa3 _ _ _ _ _ _ _ (pv 9) (pv 8) (@aj _ K _ _ _ _ rfl (@pa2 _ _ _ _ _ (pv 15) (pv 16) (by rfl) (by rfl))) (by rfl) (by rfl) (by rfl))) (@aj _ K _ _ _ _ rfl (@pa1 _ _ _ (pv 17) (by rfl))) (nomark _)) (@pss_one _ _ _ (@ps_ret _ _ _ _ pe_bl)) pss_nil)))))))))))))))))))) (@pss_one _ _ _ (@ps_ret _ _ _ _ pe_bl))),?_⟩
 have hlen:(ns.map V.int).length=ns.length:=List.length_map _;refine ⟨_,rfl,a,_,rfl,.inl hS,_,_,rfl,rfl,_,rfl,by rw [hlen];lia,by rw [hlen];lia,eg (lo:=0) (fun i σ H'=>Same H H'∧∃ v1 v2 v3 v4 v5 v6 v7 v8 v9 w1 w2 w3 w4 w5 w6 w7 w8,σ=[some (.ref a),v1,v2,v3,v4,v5,v6,v7,v8,v9,w1,w2,w3,w4,w5,w6,w7,w8]) ⟨Same.refl H,_,_,_,_,_,_,_,_,_,_,_,_,_,_,_,_,_,rfl⟩ ?_ ?_⟩
 ·rintro i σ H1 hi ⟨g1,v1,v2,v3,v4,v5,v6,v7,v8,v9,w1,w2,w3,w4,w5,w6,w7,w8,rfl⟩;refine ⟨sz1,fun p0 hp0=>?_⟩;have g2:=g1.trans (ae hp0 (.lst [.int 0]));refine ⟨_,rfl,p0,a,_,_,rfl,rfl,SqL.of ac,g2.seq hS,(by show 1+(ns.map V.int).length≤sizeLine;rw [hlen];exact Nat.le_of_lt (au (by lia))),fun p1 hp1=>?_⟩;have g3:=g2.trans (ae hp1 (.lst ([.int 0]++ns.map V.int)));refine ⟨_,rfl,_,rfl,_,rfl,_,_,rfl,rfl,_,rfl,p1,_,rfl,SqL.of ac,fun p2 hp2=>?_⟩;obtain ⟨ks,ek,lk⟩:=pT (0 :: ns) (some (0+(i:Int))) (some (0+(i:Int)+1));have lk':ks.length≤ns.length+1:=lk;have g4:=g3.trans (ae hp2 (.lst (eW ([V.int 0]++ns.map V.int) (some (0+(i:Int))) (some (0+(i:Int)+1)))));refine ⟨p2,ks,0,rfl,SqL.of (by rw [ac];exact congrArg (fun l=>some (HO.lst l)) ek),by lia,by decide,by decide,fun r n H2 hr2 s2 e2=>?_⟩;have hrH:H r=none:=g4.free hr2;have keep:∀ {H3 H4:Hp},Same H H3→But r H3 H4→Same H H4:=fun s b c o e=>b c o (aq e hrH) (s c o e);have g5:=g4.trans s2
  clear g4 g3 g2 s2 hr2 ek lk lk' hp2 hp1 hp0
  refine ⟨_,rfl,r,n,99,rfl,e2,by decide,by decide,fun d1 c3 H3 d10 d11 B3 e3=>?_⟩;refine ⟨_,_,rfl,rfl,?_⟩;refine ⟨_,_,rfl,rfl,⟨by decide,by decide,by decide⟩,_,rfl,?_⟩;refine ⟨_,_,rfl,rfl,⟨by decide,by decide,by decide⟩,?_⟩;refine ⟨_,rfl,r,c3,9,rfl,e3,by decide,by decide,fun d2 c4 H4 d20 d21 B4 e4=>?_⟩;refine ⟨_,_,rfl,rfl,.inr ⟨by lia,by lia⟩,?_⟩;rw [rC,mx];refine ⟨sz3,fun p3 hp3=>?_⟩;have L3:(upd H4 p3 (.lst [.int (d1 - 60),.int (-1000000000000000000000000000000),.int (100000000000000000000000000000*d2)])) p3=some (.lst [.int (d1 - 60),.int (-1000000000000000000000000000000),.int (100000000000000000000000000000*d2)]):=ac;have S5:=ae hp3 (.lst [V.int (d1 - 60),.int (-1000000000000000000000000000000),.int (100000000000000000000000000000*d2)])
  generalize upd H4 p3 (.lst [.int (d1 - 60),.int (-1000000000000000000000000000000),.int (100000000000000000000000000000*d2)])=H5 at L3 S5 ⊢
  have e5:=S5 _ _ e4;have n3:p3≠r:=fun z=>by rw [z,e4] at hp3;cases hp3
  refine ⟨_,rfl,r,c4,3,rfl,e5,by decide,by decide,fun d3 c6 H6 d30 d31 B6 e6=>?_⟩;obtain ⟨v6',m6,at6⟩:=xi (xs:=[V.int (d1 - 60),.int (-1000000000000000000000000000000),.int (100000000000000000000000000000*d2)]) d30 (by exact d31);obtain ⟨lo,rfl,lo0,lo1⟩:∃ lo:Int,v6'=.int lo∧-1000000000000000000000000000000≤lo∧lo≤900000000000000000000000000000:=by
   simp only [List.mem_cons,List.not_mem_nil,or_false] at m6;rcases m6 with rfl | rfl | rfl
   ·exact ⟨_,rfl,by lia,by lia⟩
   ·exact ⟨_,rfl,by lia,by lia⟩
   ·exact ⟨_,rfl,by lia,by lia⟩
  refine ⟨p3,_,_,_,rfl,rfl,SqL.of (B6 _ _ n3 L3),at6,?_⟩;have g6:=keep ((keep (keep g5 B3) B4).trans S5) B6
  clear g5 B3 B4 S5 B6 L3 at6 e5 e4 e3 e2 hp3 n3
  refine ⟨_,_,rfl,rfl,⟨by decide,by decide,by decide⟩,_,rfl,?_⟩;refine ⟨_,rfl,r,c6,90,rfl,e6,by decide,by decide,fun d4 c7 H7 d40 d41 B7 e7=>?_⟩;refine ⟨_,_,rfl,rfl,⟨by decide,by decide,by decide⟩,_,rfl,_,_,rfl,rfl,⟨by decide,by decide,by decide⟩,?_⟩;rw [rC,mx];refine ⟨r,c7,_,rfl,e7,by decide,by decide,fun d5 c8 H8 d50 d51 B8 e8=>?_⟩;refine ⟨_,_,rfl,rfl,?_⟩;refine ⟨sz2,fun p4 hp4=>?_⟩;have L4:(upd H8 p4 (.lst [.int d4,.int (100000000000000000000000000000+d5)])) p4=some (.lst [.int d4,.int (100000000000000000000000000000+d5)]):=ac;have S9:=ae hp4 (.lst [V.int d4,.int (100000000000000000000000000000+d5)])
  generalize upd H8 p4 (.lst [.int d4,.int (100000000000000000000000000000+d5)])=H9 at L4 S9 ⊢
  have e9:=S9 _ _ e8;have n4:p4≠r:=fun z=>by rw [z,e8] at hp4;cases hp4
  refine ⟨_,rfl,r,c8,2,rfl,e9,by decide,by decide,fun d6 c10 H10 d60 d61 B10 e10=>?_⟩;obtain ⟨v10,m10,at10⟩:=xi (xs:=[V.int d4,.int (100000000000000000000000000000+d5)]) d60 (by exact d61);obtain ⟨up,rfl,up0⟩:∃ up:Int,v10=.int up∧0≤up:=by
   simp only [List.mem_cons,List.not_mem_nil,or_false] at m10;rcases m10 with rfl | rfl
   ·exact ⟨_,rfl,by lia⟩
   ·exact ⟨_,rfl,by lia⟩
  refine ⟨p4,_,_,_,rfl,rfl,SqL.of (B10 _ _ n4 L4),at10,_,_,rfl,rfl,_,_,rfl,?_⟩
  generalize hhi:(if lo+up < 1000000000000000000000000000000 then lo+up else 1000000000000000000000000000000)=hi
  have hi0:lo≤hi∧hi≤1000000000000000000000000000000:=by rw [← hhi];split <;> lia
  obtain ⟨lh,hi1⟩:=hi0;have g10:=keep ((keep (keep g6 B7) B8).trans S9) B10
  clear hhi g6 B7 B8 S9 B10 L4 at10 e9 e8 e7 e6 hp4 n4
  refine ⟨_,rfl,r,c10,9,rfl,e10,by decide,by decide,fun d7 c11 H11 d70 d71 B11 e11=>?_⟩;refine ⟨_,rfl,r,c11,999,rfl,e11,by decide,by decide,fun d8 c12 H12 d80 d81 B12 e12=>?_⟩;refine ⟨sz2,fun p5 hp5=>?_⟩;have L5:(upd H12 p5 (.lst [.int d7,.int d8])) p5=some (.lst [.int d7,.int d8]):=ac;have S13:=ae hp5 (.lst [V.int d7,.int d8])
  generalize upd H12 p5 (.lst [.int d7,.int d8])=H13 at L5 S13 ⊢
  have e13:=S13 _ _ e12;have n5:p5≠r:=fun z=>by rw [z,e12] at hp5;cases hp5
  refine ⟨_,rfl,r,c12,2,rfl,e13,by decide,by decide,fun d9 c14 H14 d90 d91 B14 e14=>?_⟩;obtain ⟨v14,m14,at14⟩:=xi (xs:=[V.int d7,.int d8]) d90 (by exact d91);obtain ⟨kk,rfl,kk0,kk1⟩:∃ kk:Int,v14=.int kk∧0≤kk∧kk≤998:=by
   simp only [List.mem_cons,List.not_mem_nil,or_false] at m14;rcases m14 with rfl | rfl
   ·exact ⟨_,rfl,by lia,by lia⟩
   ·exact ⟨_,rfl,by lia,by lia⟩
  refine ⟨p5,_,_,_,rfl,rfl,SqL.of (B14 _ _ n5 L5),at14,_,_,rfl,rfl,?_⟩
  generalize hk:2+kk=k
  have k2:2≤k:=by lia
  have k1:k≤1000:=by lia
  have g14:=keep ((keep (keep g10 B11) B12).trans S13) B14
  clear hk g10 B11 B12 S13 B14 L5 at14 e13 e12 e11 e10 hp5 n5
  refine ⟨_,rfl,_,rfl,[.str "number",.int lo,.int hi],.cons .str (.cons .int (.cons .int .nil)),sz3,fun x1 H15 s15 hx1=>?_⟩;refine ⟨[.str "n",aY lo hi],.cons .str (.cons hx1 .nil),sz2,fun x2 H16 s16 hx2=>?_⟩;refine ⟨[.tup [.str "n",aY lo hi]],.cons hx2 .nil,sz1,fun x3 H17 s17 hx3=>?_⟩;refine ⟨[.str "record",.tup [.tup [.str "n",aY lo hi]]],.cons .str (.cons hx3 .nil),sz2,fun vk H18 s18 hvk=>?_⟩;have hk:IsP K H18 (onF "n" lo hi) vk:=hvk;refine ⟨_,rfl,[.str "part",.str "n",.int k,.str "one",.str "two"],.cons .str (.cons .str (.cons .int (.cons .str (.cons .str .nil)))),(by show 5≤sizeLine;decide),fun vp H19 s19 hvp=>?_⟩;have hp:IsP K H19 (spD "n" k "one" "two") vp:=hvp;have lt12:ltS "one" "two" :=by decide +kernel
  have nb1:ay "one" = true:=by decide +kernel
  have nb2:ay "two" = true:=by decide +kernel
  have ln1:(Str.ofString "one").length≤1000:=by decide +kernel
  have ln2:(Str.ofString "two").length≤1000:=by decide +kernel
  refine ⟨_,rfl,_,rfl,"n",k,"one","two",lo,hi,vp,vk,rfl,hp,hk.same s19,lo0,lh,hi1,k2,k1,lt12,nb1,nb2,ln1,ln2,fun vb H20 s20 hb=>?_⟩;refine ⟨_,rfl,_,rfl,"n",k,"one","two",lo,hi,vp,vk,rfl,hp.same s20,(hk.same s19).same s20,lo0,lh,hi1,k2,k1,lt12,nb1,nb2,ln1,ln2,fun va H21 s21 ha=>?_⟩;refine ⟨_,rfl,_,rfl,_,rfl,_,rfl,[.str "whole",.str "one",.str "two",.int k,.str "n",.int lo,.int hi],.cons .str (.cons .str (.cons .str (.cons .int (.cons .str (.cons .int (.cons .int .nil)))))),(by show 7≤sizeLine;decide),fun vw H22 s22 hw=>?_⟩;refine ⟨_,_,(ha.same s22).d,hw.d,(by show 1≤60;decide),_,rfl,?_⟩;rw [bv];refine aH ?_;have sA:=((s15.trans s16).trans s17).trans s18;have sB:=(sA.trans s19).trans ((s20.trans s21).trans s22);have e22:=sB _ _ e14;have g22:=g14.trans sB;have hk22:=hk.same (s19.trans ((s20.trans s21).trans s22));have hp22:=hp.same ((s20.trans s21).trans s22);have ha22:=ha.same s22;have hb22:=hb.same (s21.trans s22)
  clear hw hvk hvp hx1 hx2 hx3 hk hp ha hb s15 s16 s17 s18 s19 s20 s21 s22 sA sB g14 e14
  intro pm hpm;have em:(upd H22 pm (.dK [])) pm=some (.dK []):=ac;have sm:=ae hpm (.dK [])
  generalize upd H22 pm (.dK [])=H23 at em sm ⊢
  have e23:=sm _ _ e22;have nm:pm≠r:=fun z=>by rw [z,e23] at em;cases em
  have hmH:H pm=none:=g22.free hpm;refine ⟨_,rfl,_,rfl,_,rfl,_,rfl,_,_,rfl,rfl,_,_,rfl,rfl,r,c14,_,rfl,e23,by lia,by lia,fun df c24 H24 df0 df1 B24 e24=>⟨_,_,rfl,rfl,?_⟩⟩
  generalize hfi:lo+df=fi
  have fi0:lo≤fi:=by lia
  have fi1:fi≤hi:=by lia
  have em24:=B24 _ _ nm em;have g24:=keep (g22.trans sm) B24;have hk24:=(hk22.same sm).but e23 B24;have hp24:=(hp22.same sm).but e23 B24;have ha24:=(ha22.same sm).but e23 B24;have hb24:=(hb22.same sm).but e23 B24
  clear hk22 hp22 ha22 hb22 g22 B24 em sm e22 e23 hpm
  refine ⟨_,rfl,_,rfl,_,_,rfl,rfl,_,rfl,_,_,rfl,rfl,_,_,rfl,?_⟩
  generalize hen:(if fi+60 < hi+1 then fi+60 else hi+1)=en
  have en0:fi≤en∧en≤fi+60∧en≤hi+1:=by rw [← hen];split <;> lia
  refine ⟨fi,en,rfl,en0.1,by lia,fun pl hpl=>?_⟩;have npl:pl≠pm:=fun z=>by rw [z,em24] at hpl;cases hpl
  have nplr:pl≠r:=fun z=>by rw [z,e24] at hpl;cases hpl
  have el:(upd H24 pl (.lst ((List.range (en - fi).toNat).map fun (k:Nat)=>V.int (fi+k)))) pl=some (.lst ((List.range (en - fi).toNat).map fun (k:Nat)=>V.int (fi+k))):=ac;have sl:=ae hpl (.lst ((List.range (en - fi).toNat).map fun (k:Nat)=>V.int (fi+k)))
  generalize upd H24 pl (.lst ((List.range (en - fi).toNat).map fun (k:Nat)=>V.int (fi+k)))=H25 at el sl ⊢
  have em25:=sl _ _ em24;have e25:=sl _ _ e24;have mu:Mut (H25 pm):=by rw [em25];exact True.intro
  have hk25:=hk24.same sl;have hp25:=hp24.same sl;have ha25:=ha24.same sl;have hb25:=hb24.same sl;have g25:=g24.trans sl
  clear hk24 hp24 ha24 hb24 g24 sl hpl em24 e24
  have keepM:∀ {H3 H4:Hp},Same H H3→But pm H3 H4→Same H H4:=fun s b c o e=>b c o (aq e hmH) (s c o e);have llen:((List.range (en - fi).toNat).map fun (k:Nat)=>V.int (fi+k)).length=(en - fi).toNat:=by rw [List.length_map,List.length_range]
  refine ⟨pl,rfl,⟨_,SqL.of el⟩,jH (xs:=(List.range (en - fi).toNat).map fun (k:Nat)=>V.int (fi+k)) (fun t σ H'=>But pm H25 H'∧DicG P w K H' pm (lU fi k t)∧∃ w3 w4 w5 w6 w7 w8,σ=[some (.ref a),some (.int (0+i)),some (.ref r),some (.int lo),some (.int hi),some (.int k),some vk,some vp,some vb,some va,some (.ref pm),some (.int fi),w3,w4,w5,w6,w7,w8]) ⟨But.refl _ _,.inr ⟨rfl,em25⟩,_,_,_,_,_,_,rfl⟩ (fun t σ H' _ pv=>SqL.of (pv.1 _ _ npl el)) ?_ ?_⟩
  ·rintro t u σ H26 hu ⟨b26,dg,w3,w4,w5,w6,w7,w8,rfl⟩;have ht:t < (en - fi).toNat:=by rw [← llen];exact (List.getElem?_eq_some_iff.mp hu).1
   obtain rfl:V.int (fi+t)=u:=by
    rw [List.getElem?_map,List.getElem?_range ht] at hu;exact Option.some.inj hu
   generalize hx:fi+(t:Int)=x at *
   have x0:lo≤x:=by lia
   have x1:x≤hi:=by lia
   refine ⟨_,rfl,_,rfl,x,k,rfl,by lia,by lia,fun vd H27 s27 hd=>?_⟩;refine ⟨_,rfl,_,rfl,_,rfl,[.int x],.cons .int .nil,sz1,fun vx H28 s28 hvx=>?_⟩;have hp28:=((cU mu b26 hp25).same s27).same s28;refine ⟨vp,vk,vx,rfl,.inl ⟨"n",k,"one","two",x,hp28,hvx,k2,k1,fun vm H29 s29 hvm=>?_⟩⟩;have hd29:=(hd.same s28).same s29;have s2629:=(s27.trans s28).trans s29;refine ⟨_,rfl,_,_,hvm.d,hd29.d,(by show 1≤60;decide),_,rfl,?_⟩;rw [bv];refine aH ?_;obtain ⟨pd,ys,rfl,_⟩:=id hd29.unref;have dg29:=ix s2629 dg;refine ⟨_,rfl,_,rfl,pm,pd,_,[.inl (x / k),.inl (x % k)],rfl,rfl,dg29,hd29,_,rfl,?_⟩;have no:eD (lU fi k t) [.inl (x / k),.inl (x % k)]=none:=by rw [← hx];exact xr (by lia) t
   rw [no];refine aH ?_;refine ⟨_,rfl,_,rfl,pm,pd,_,[.inl (x / k),.inl (x % k)],.bl true,rfl,rfl,dg29,hd29,.bl,no,?_,fun H30 b30 mu30 dg30=>?_⟩
   ·unfold lU;rw [List.length_map,List.length_range];lia
   have hd30:=cU mu30 b30 hd29;have b2530:But pm H25 H30:=b26.trans ((But.same s2629).trans b30);have ha30:=cU mu b2530 ha25;refine ⟨_,rfl,_,rfl,_,rfl,va,vb,.ref pd,rfl,.inr ⟨"one","two",k,"n",lo,hi,x / k,x % k,ha30,hd30,k2,k1,fun vn H31 s31 hvn=>?_⟩⟩;rw [qX,qY x0 x1] at hvn;refine ⟨_,rfl,[.int x],.cons .int .nil,sz1,fun vy H32 s32 hvy=>?_⟩;refine ⟨_,_,(hvn.same s32).d,hvy.d,(by show 1≤60;decide),_,rfl,?_⟩;rw [bv];refine aH ⟨b2530.trans (But.same (s31.trans s32)),?_,_,_,_,_,_,_,rfl⟩;rw [pU,hx];exact ix (s31.trans s32) dg30
  ·rintro σ H26 ⟨b26,dg,w3,w4,w5,w6,w7,w8,rfl⟩;have e26:=b26 _ _ nm.symm e25;have ha26:=cU mu b26 ha25;have g26:=keepM g25 b26;refine ⟨3,rfl,by decide,by decide,eg (lo:=0) (n:=(3:Int).toNat) (fun t σ H'=>∃ c',But r H26 H'∧H' r=some (.lst [.int c'])∧∃ w5 w6 w7 w8,σ=[some (.ref a),some (.int (0+i)),some (.ref r),some (.int lo),some (.int hi),some (.int k),some vk,some vp,some vb,some va,some (.ref pm),some (.int fi),w3,w4,w5,w6,w7,w8]) ⟨_,But.refl _ _,e26,_,_,_,_,rfl⟩ ?_ ?_⟩
   ·rintro t σ H27 _ ⟨c27,b27,e27,w5,w6,w7,w8,rfl⟩;have dle:lo / k≤hi / k:=Int.ediv_le_ediv (by lia) lh;have dl:-1000000000000000000000000000000≤lo / k:=(Int.le_ediv_iff_mul_le (by lia)).mpr (by lia);have dh:hi / k < 1000000000000000000000000000000+1:=(Int.ediv_lt_iff_lt_mul (by lia)).mpr (by lia);refine ⟨_,rfl,_,rfl,_,_,rfl,rfl,⟨by lia,by lia⟩,?_⟩;refine ⟨_,rfl,_,rfl,_,rfl,_,_,rfl,rfl,⟨by lia,by lia⟩,_,rfl,_,rfl,_,_,rfl,rfl,⟨by lia,by lia⟩,_,_,rfl,rfl,_,_,rfl,rfl,?_⟩;refine ⟨r,c27,_,rfl,e27,by lia,by lia,fun dx c28 H28 dx0 dx1 B28 e28=>⟨_,_,rfl,rfl,?_⟩⟩;refine ⟨_,rfl,_,rfl,r,c28,k,rfl,e28,by lia,by lia,fun two c29 H29 t0 t1 B29 e29=>?_⟩;refine ⟨_,rfl,_,rfl,_,_,rfl,rfl,.inr ⟨by lia,by lia⟩,_,rfl,_,_,rfl,rfl,_,rfl,_,_,rfl,_,rfl,_,_,rfl,?_⟩;have b29:But r H26 H29:=b27.trans (B28.trans B29);have ha29:=ha26.but e26 b29;refine ⟨_,rfl,_,rfl,_,rfl,_,rfl,[.int (lo / k+dx),.int two],.cons .int (.cons .int .nil),sz2,fun v30 H30 s30 hv30=>?_⟩;refine ⟨va,vb,v30,rfl,.inr ⟨"one","two",k,"n",lo,hi,lo / k+dx,two,ha29.same s30,hv30,k2,k1,fun v31 H31 s31 hv31=>?_⟩⟩;refine ⟨_,rfl,[.int (kG ((lo / k+dx)*k+two) lo hi)],.cons .int .nil,sz1,fun v32 H32 s32 hv32=>?_⟩;refine ⟨_,_,(hv31.same s32).d,hv32.d,(by show 1≤60;decide),_,rfl,?_⟩;rw [bv];have s33:=(s30.trans s31).trans s32;exact aH ⟨_,b29.trans (But.same s33),s33 _ _ e29,_,_,_,_,rfl⟩
   ·rintro σ H27 ⟨c27,b27,e27,w5,w6,w7,w8,rfl⟩;exact ⟨keep g26 b27,_,_,_,_,_,_,_,_,_,_,_,_,_,_,_,_,_,rfl⟩
 ·rintro σ H1 ⟨g1,v1,v2,v3,v4,v5,v6,v7,v8,v9,w1,w2,w3,w4,w5,w6,w7,w8,rfl⟩;exact q _
end
@[elab_as_elim] theorem qZ {α:Type} {p:List α→Prop} {us:List α} (hl:us.length=0) (h:p []):p us:=by
 cases us with
 | nil=>exact h
 | cons a r=>cases hl
@[elab_as_elim] theorem q8 {α:Type} {p:List α→Prop} {us:List α} (hl:us.length=1) (h:∀ x0,p [x0]):p us:=by
 cases us with
 | nil=>cases hl
 | cons a r=>exact qZ (p:=fun r=>p (a :: r)) (Nat.succ.inj hl) (h a)
@[elab_as_elim] theorem q9 {α:Type} {p:List α→Prop} {us:List α} (hl:us.length=2) (h:∀ x0 x1,p [x0,x1]):p us:=by
 cases us with
 | nil=>cases hl
 | cons a r=>exact q8 (p:=fun r=>p (a :: r)) (Nat.succ.inj hl) (h a)
@[elab_as_elim] theorem rd {α:Type} {p:List α→Prop} {us:List α} (hl:us.length=3) (h:∀ x0 x1 x2,p [x0,x1,x2]):p us:=by
 cases us with
 | nil=>cases hl
 | cons a r=>exact q9 (p:=fun r=>p (a :: r)) (Nat.succ.inj hl) (h a)
@[elab_as_elim] theorem re {α:Type} {p:List α→Prop} {us:List α} (hl:us.length=4) (h:∀ x0 x1 x2 x3,p [x0,x1,x2,x3]):p us:=by
 cases us with
 | nil=>cases hl
 | cons a r=>exact rd (p:=fun r=>p (a :: r)) (Nat.succ.inj hl) (h a)
@[elab_as_elim] theorem rf {α:Type} {p:List α→Prop} {us:List α} (hl:us.length=5) (h:∀ x0 x1 x2 x3 x4,p [x0,x1,x2,x3,x4]):p us:=by
 cases us with
 | nil=>cases hl
 | cons a r=>exact re (p:=fun r=>p (a :: r)) (Nat.succ.inj hl) (h a)
@[elab_as_elim] theorem DF {α:Type} {p:List α→Prop} {us:List α} (hl:us.length=6) (h:∀ x0 x1 x2 x3 x4 x5,p [x0,x1,x2,x3,x4,x5]):p us:=by
 cases us with
 | nil=>cases hl
 | cons a r=>exact rf (p:=fun r=>p (a :: r)) (Nat.succ.inj hl) (h a)
theorem gnM {K:PySem.W.Frag} {h:Heap} {mg:Str→Option Value} (X:K.In h) (G:h.Ns mainGlobals mg) {x:Str} {st:Stmt} {ps:List Str} {f:Addr} {od an:Option Addr} {sl:Array (Option Value)} {oc kV dc pm cd ct:Value}
  (a:PySem.W.nsIn K mainGlobals x=some (some (.ref f))) (l:K.lookup f=some ⟨oc,od,.func (PySem.W.fnOf x x (bK st) (bc st) (aa st) .none kV dc pm an cd ct),sl⟩) (c:PySem.W.codeIn K cd x=true) (k:PySem.W.keepIn K (.ref f)=true)
  (b:∀ (kV doc pm:Value) (an:Option Addr) (cdv ct:Value) (us:List Value),us.length=ps.length→bindArgs (PySem.W.fnOf x x (bK st) (bc st) (aa st) .none kV doc pm an cdv ct) ⟨us,[]⟩=pure (ps.zip us)):∃ f fd,Gn K mg x st ps f fd :=
 ⟨f,_,ol (st:=st) l c k,(ol (st:=st) l c k).binds b,PySem.W.mg_of X G a⟩
theorem exM {K:PySem.W.Frag} {h:Heap} {mg:Str→Option Value} (X:K.In h) (G:h.Ns mainGlobals mg) {x:Str} {C:Addr} {d:ClassData} (xa:PySem.W.nsIn K mainGlobals x=some (some (.ref C))) (xq:PySem.W.excIn K C bmV "ValueError.__new__" = true) (xg:PySem.W.findIn K (.ref C) "__getattribute__" = some (some (.builtin "BaseException.__getattribute__"))) (xt:PySem.W.findIn K (.ref C) "__getattr__" = some none) (xc:PySem.W.findIn K (.ref C) "__class__" = some (some (.builtin "object.__class__"))) (xb:PySem.W.mroIn K C (.type "BaseException")=some true) (xo:PySem.W.mroIn K C (.type "object")=some true) (xd:PySem.W.clsIn K C=some d) (xk:PySem.W.keepIn K (.ref C)=true):ExC K mg x C:=⟨PySem.W.mg_of X G xa,xq,⟨xg,xt,xc,xb,xo,_,xd⟩,xk⟩
theorem csM {K:PySem.W.Frag} {h:Heap} {mg:Str→Option Value} (X:K.In h) (G:h.Ns mainGlobals mg) {x z:Str} {t:Tok} (g:PySem.W.nsIn K mainGlobals x=some (some (.str z t))):∃ t,mg x=some (.str z t):=⟨_,PySem.W.mg_of X G g⟩
theorem ciM {K:PySem.W.Frag} {h:Heap} {mg:Str→Option Value} (X:K.In h) (G:h.Ns mainGlobals mg) {x:Str} {i:Int} {t:Tok} (g:PySem.W.nsIn K mainGlobals x=some (some (.int i t))):∃ t,mg x=some (.int i t):=⟨_,PySem.W.mg_of X G g⟩
theorem cdM {K:PySem.W.Frag} {h:Heap} {mg:Str→Option Value} (X:K.In h) (G:h.Ns mainGlobals mg) {x:Str} {a:Addr} {l:List (Str×Int)} (g:PySem.W.nsIn K mainGlobals x=some (some (.ref a))) (d:KTD.tabLook (KTD.datLooks fun b=>K.lookup b) (fun b=>K.lookup b) a (gh l)=true):∃ a,mg x=some (.ref a)∧jV K a l:=⟨_,PySem.W.mg_of X G g,oD d⟩
theorem txI {K:PySem.W.Frag} {mg:Str→Option Value} {a0 a1 a2 a3:Addr} (T:Tx K mg ⟨a0,a1,a2,a3⟩):∃ ad,Tx K mg ad:=⟨_,T⟩
theorem xw {K:PySem.W.Frag} {f:Addr} {fd:FuncData} (F:Fun K "law" "law" mG f fd):∀ (s:Shared) (u:Value),BindsTo s fd ⟨[u],[]⟩ [("script",u)]:=by
 obtain ⟨oc,od,kV,doc,pm,an,cdv,ct,osl,rfl,lk,hcd⟩:=F.ex;exact fun s u=>.of_eq rfl
end K26
open PySem PySem.W PyProof.Rows
set_option maxRecDepth 100000 in
set_option maxHeartbeats 0 in
theorem PySem.Challenge.cw_oldhands_k26_numbers_parted_holds : PySem.Challenge.rw_oldhands_k26_numbers_parted.Holds := by
 w_on
 refine PySem.W.holds_law K26.said fun said=>?_;refine PySem.W.holds_open (q:=K26.hQ) (loose:=K26.hW) (Xt:=K26.hX) (XP:=fun _ _=>True) (Yf:=K26.hH.obs) (Ya:=K26.hH.val) (YP:=PySem.W.InK K26.hK) (N:=4812) K26.hl K26.hH.of K26.hH.keeps (fun _ _=>trivial) (fun _ _ _ _ _=>trivial) (by rfl) (by rfl) (by rfl) (fun s e=>PySem.W.recFacts_of e) (by rfl) said (by decide +kernel) ⟨rfl,rfl,rfl,rfl,rfl,by decide +kernel⟩ ?hw ?hc
 case hw=>w_witness2
 k_fill
 refine L2.C4 (l:=PySem.Challenge.rw_oldhands_k26_numbers_parted) (K:=K26.hK) (n:=63) (k:=K26.depth) (x:= "script") (CX:=L2.CX0) (sp:=K26.DA) rfl (by decide) rfl ⟨rfl,by decide,by decide⟩ (fun w h Y=>Y) ?F (fun _ _ a ns hl _ hS=>⟨a,ns,rfl,hS,hl,fun _=>rfl⟩) (fun _ _ _ _ z=>z)
 case F =>
  intro w mg fa h KX G hmg;have T:∃ ad,K26.Tx (L2.KOf KX) mg ad:=by
   dsimp only [L2.KOf];refine' K26.txI ⟨K26.gnM KX G ?_ ?_ ?_ ?_ ?_,K26.gnM KX G ?_ ?_ ?_ ?_ ?_,K26.gnM KX G ?_ ?_ ?_ ?_ ?_,K26.gnM KX G ?_ ?_ ?_ ?_ ?_,K26.gnM KX G ?_ ?_ ?_ ?_ ?_,K26.gnM KX G ?_ ?_ ?_ ?_ ?_,K26.gnM KX G ?_ ?_ ?_ ?_ ?_,K26.gnM KX G ?_ ?_ ?_ ?_ ?_,K26.gnM KX G ?_ ?_ ?_ ?_ ?_,K26.gnM KX G ?_ ?_ ?_ ?_ ?_,K26.gnM KX G ?_ ?_ ?_ ?_ ?_,K26.gnM KX G ?_ ?_ ?_ ?_ ?_,K26.gnM KX G ?_ ?_ ?_ ?_ ?_,K26.gnM KX G ?_ ?_ ?_ ?_ ?_,K26.gnM KX G ?_ ?_ ?_ ?_ ?_,K26.gnM KX G ?_ ?_ ?_ ?_ ?_,K26.gnM KX G ?_ ?_ ?_ ?_ ?_,K26.gnM KX G ?_ ?_ ?_ ?_ ?_,K26.gnM KX G ?_ ?_ ?_ ?_ ?_,K26.gnM KX G ?_ ?_ ?_ ?_ ?_,K26.gnM KX G ?_ ?_ ?_ ?_ ?_,K26.gnM KX G ?_ ?_ ?_ ?_ ?_,K26.gnM KX G ?_ ?_ ?_ ?_ ?_,K26.gnM KX G ?_ ?_ ?_ ?_ ?_,K26.gnM KX G ?_ ?_ ?_ ?_ ?_,K26.gnM KX G ?_ ?_ ?_ ?_ ?_,K26.gnM KX G ?_ ?_ ?_ ?_ ?_,K26.gnM KX G ?_ ?_ ?_ ?_ ?_,K26.gnM KX G ?_ ?_ ?_ ?_ ?_,K26.gnM KX G ?_ ?_ ?_ ?_ ?_,K26.gnM KX G ?_ ?_ ?_ ?_ ?_,K26.gnM KX G ?_ ?_ ?_ ?_ ?_,K26.gnM KX G ?_ ?_ ?_ ?_ ?_,K26.gnM KX G ?_ ?_ ?_ ?_ ?_,K26.gnM KX G ?_ ?_ ?_ ?_ ?_,K26.gnM KX G ?_ ?_ ?_ ?_ ?_,K26.gnM KX G ?_ ?_ ?_ ?_ ?_,K26.gnM KX G ?_ ?_ ?_ ?_ ?_,K26.gnM KX G ?_ ?_ ?_ ?_ ?_,K26.gnM KX G ?_ ?_ ?_ ?_ ?_,K26.gnM KX G ?_ ?_ ?_ ?_ ?_,K26.gnM KX G ?_ ?_ ?_ ?_ ?_,K26.gnM KX G ?_ ?_ ?_ ?_ ?_,K26.gnM KX G ?_ ?_ ?_ ?_ ?_,K26.gnM KX G ?_ ?_ ?_ ?_ ?_,K26.gnM KX G ?_ ?_ ?_ ?_ ?_,K26.gnM KX G ?_ ?_ ?_ ?_ ?_,K26.gnM KX G ?_ ?_ ?_ ?_ ?_,K26.gnM KX G ?_ ?_ ?_ ?_ ?_,K26.gnM KX G ?_ ?_ ?_ ?_ ?_,K26.gnM KX G ?_ ?_ ?_ ?_ ?_,K26.gnM KX G ?_ ?_ ?_ ?_ ?_,K26.gnM KX G ?_ ?_ ?_ ?_ ?_,K26.gnM KX G ?_ ?_ ?_ ?_ ?_,K26.gnM KX G ?_ ?_ ?_ ?_ ?_,K26.gnM KX G ?_ ?_ ?_ ?_ ?_,K26.gnM KX G ?_ ?_ ?_ ?_ ?_,K26.gnM KX G ?_ ?_ ?_ ?_ ?_,K26.gnM KX G ?_ ?_ ?_ ?_ ?_,K26.gnM KX G ?_ ?_ ?_ ?_ ?_,K26.gnM KX G ?_ ?_ ?_ ?_ ?_,K26.gnM KX G ?_ ?_ ?_ ?_ ?_,K26.gnM KX G ?_ ?_ ?_ ?_ ?_,K26.gnM KX G ?_ ?_ ?_ ?_ ?_,K26.gnM KX G ?_ ?_ ?_ ?_ ?_,K26.gnM KX G ?_ ?_ ?_ ?_ ?_,K26.gnM KX G ?_ ?_ ?_ ?_ ?_,K26.gnM KX G ?_ ?_ ?_ ?_ ?_,K26.gnM KX G ?_ ?_ ?_ ?_ ?_,K26.gnM KX G ?_ ?_ ?_ ?_ ?_,K26.gnM KX G ?_ ?_ ?_ ?_ ?_,K26.gnM KX G ?_ ?_ ?_ ?_ ?_,K26.exM KX G ?_ ?_ ?_ ?_ ?_ ?_ ?_ ?_ ?_,K26.exM KX G ?_ ?_ ?_ ?_ ?_ ?_ ?_ ?_ ?_,K26.exM KX G ?_ ?_ ?_ ?_ ?_ ?_ ?_ ?_ ?_,K26.exM KX G ?_ ?_ ?_ ?_ ?_ ?_ ?_ ?_ ?_,K26.csM KX G ?_,K26.ciM KX G ?_,K26.csM KX G ?_,K26.ciM KX G ?_,K26.ciM KX G ?_,K26.ciM KX G ?_,K26.ciM KX G ?_,K26.ciM KX G ?_,K26.ciM KX G ?_,K26.cdM KX G ?_ ?_,K26.ciM KX G ?_,K26.csM KX G ?_,K26.ciM KX G ?_,K26.ciM KX G ?_,K26.cdM KX G ?_ ?_,⟨PySem.W.mg_of KX G ?_,L2.xu ?_,L2.Do ?_⟩,⟨PySem.W.mg_of KX G ?_,L2.xu ?_,L2.Do ?_⟩,PySem.W.mg_none_of KX G ?_,PySem.W.mg_none_of KX G ?_,PySem.W.mg_none_of KX G ?_,PySem.W.mg_none_of KX G ?_,PySem.W.mg_none_of KX G ?_,PySem.W.mg_none_of KX G ?_,PySem.W.mg_none_of KX G ?_,PySem.W.mg_none_of KX G ?_,PySem.W.mg_none_of KX G ?_,PySem.W.mg_none_of KX G ?_,PySem.W.mg_none_of KX G ?_,PySem.W.mg_none_of KX G ?_,PySem.W.mg_none_of KX G ?_,PySem.W.mg_none_of KX G ?_,PySem.W.mg_none_of KX G ?_,PySem.W.mg_none_of KX G ?_,PySem.W.mg_none_of KX G ?_,PySem.W.mg_none_of KX G ?_⟩
   any_goals (first | k_is | kernel_rfl | exact fun _ _ _ _ _ _ _ e=>K26.qZ e rfl | exact fun _ _ _ _ _ _ _ e=>K26.q8 e fun _=>rfl | exact fun _ _ _ _ _ _ _ e=>K26.q9 e fun _ _=>rfl | exact fun _ _ _ _ _ _ _ e=>K26.rd e fun _ _ _=>rfl | exact fun _ _ _ _ _ _ _ e=>K26.re e fun _ _ _ _=>rfl | exact fun _ _ _ _ _ _ _ e=>K26.rf e fun _ _ _ _ _=>rfl | exact fun _ _ _ _ _ _ _ e=>K26.DF e fun _ _ _ _ _ _=>rfl)
  obtain ⟨ad,T⟩:=T;obtain ⟨fL,dL,L⟩:=T.law;have e:=hmg.symm.trans L.m
  cases e
  exact ⟨dL,K26.xw L.F,fun base _ _=>K26.Ea T L⟩
#print axioms PySem.Challenge.cw_oldhands_k26_numbers_parted_holds
