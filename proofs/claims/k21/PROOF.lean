import PyProof.Rows.All
import Wide.All
import OpenK.AllK
import Wide.FinOn
import Lean
import PyProof.EqAt
import PyProof.EqKinds
import PyProof.TupleCall
import PyProof.NeKinds
import KE.KIntText
import PyProof.StrCalls
import PyProof.ZipIter
import PyProof.Rows.SetFrom
import PyProof.SetRoads
import PyProof.CompUse
import PyProof.Rows.MinMaxN
import PyProof.Rows.SortStr
import PyProof.Rows.SortWalk
import PyProof.Rows.SeqMore2
import KE.KMinKey
import PyProof.Rows.CallKwBuiltin
import PyProof.TupleOfStr
import PyProof.Draws
import PyProof.Rows.TupIter
import KE.KxText
import PyProof.FString5
import PyProof.DictWalks
import PyProof.CollectStr
import PyProof.FactsAll.set_1
import KE.KDictLaws
import PySem.Challenge.RW_oldhands_k21_whole_one_value_that_keeps
set_option Elab.async false
set_option linter.all false
set_option maxHeartbeats 4000000
set_option maxRecDepth 100000
namespace L2
open PySem PySem.Spec PyProof.Rows
def cG (s:Stmt):Arguments:=match s with
 | .FunctionDef _ a _ _ _ _ _ _ _ _=>a
 | _=>{ posonlyargs:=[],args:=[],vararg:=none,kwonlyargs:=[],kw_defaults:=[],kwarg:=none,defaults:=[] }
def bK (s:Stmt):List Stmt:=match s with
 | .FunctionDef _ _ b _ _ _ _ _ _ _=>b
 | _=>[]
def af (s:Stmt):Scope:=match s with
 | .FunctionDef _ _ _ _ _ _ sc _ _ _=>sc
 | _=>{ kind:=.function,names:=[],isGenerator:=false,isCoroutine:=false }
end L2
namespace K21
open PySem L2 PyProof.Rows
def top (i:Nat):Stmt:=PySem.Challenge.pw_oldhands_k21_whole_one_value_that_keeps.main.body.getD i (.Pass ⟨0,0,0,0⟩)
def hT (t:Nat):Value:=.str "/claim/cut.py" t
def hE (P:Params) (x:Str) (t:Nat) (v:Value):DictEntry:={ hash:=PyData.keyHash P x,key:=.str x t,val:=v }
def hF (x y m:Str) (st:Stmt) (t c:Nat):Obj:={ cls:=.type "function",data:=.func (PySem.W.fnOf x y (cG st) (bK st) (af st) .none .none .none (.str m t) none (.ref c) .none) }
def hC (x y:Str) (t u v:Nat) (r:List Value):Obj:={ cls:=.type "code",data:=.fields (Array.mk (.str x t :: .str y u :: hT v :: r)) }
def hK:Params→PySem.W.Frag:=fun P =>
 (nat_lit 2,{ cls:=.none,data:=.dict #[] }) ::
 (nat_lit 3,{ cls:=.type "dict",data:=.dict #[hE P "__name__" 165 (.str ("law_oldhands_k21_whole_one_value_that_keeps") 594),hE P "__doc__" 166 (.none),hE P "__package__" 167 (.none),hE P "__loader__" 168 (.builtin "__main__.__loader__#opaque"),hE P "__spec__" 169 (.none),hE P "__annotations__" 170 (.ref 6),hE P "__builtins__" 171 (.ref 4),hE P "__file__" 173 (.str ("/claim/cut.py") 172),hE P "__cached__" 174 (.none),hE P "HandError" 206 (.ref 24),hE P "BadKind" 222 (.ref 37),hE P "BadTurn" 238 (.ref 49),hE P "LETTERS" 242 (.str ("abcdefghijklmnopqrstuvwxyz") 241),hE P "LONGEST_NAME" 244 (.int 8 243),hE P "EACH" 246 (.str ("each") 245),hE P "MOST_SIGNS" 248 (.int 60 247),hE P "MOST_WORDS" 250 (.int 8 249),hE P "MOST_FIELDS" 252 (.int 8 251),hE P "MOST_ITEMS" 254 (.int 8 253),hE P "MOST_KINDS" 256 (.int 40 255),hE P "DEEPEST" 258 (.int 5 257),hE P "PART_COUNTS" 277 (.ref 52),hE P "is_name" 283 (.ref 57),hE P "is_whole" 290 (.ref 64),hE P "is_whole_within" 299 (.ref 71),hE P "made_kind" 306 (.ref 78),hE P "is_formed" 315 (.ref 85),hE P "has_parts" 322 (.ref 92),hE P "are_bounds" 330 (.ref 99),hE P "are_words" 336 (.ref 104),hE P "are_fields" 342 (.ref 109),hE P "is_field" 350 (.ref 116),hE P "are_rows" 360 (.ref 123),hE P "field_kind" 370 (.ref 130),hE P "item_kind" 377 (.ref 137),hE P "kinds_within" 383 (.ref 142),hE P "kind_many" 389 (.ref 147),hE P "least_value" 397 (.ref 152),hE P "FIGURES" 401 (.str ("0123456789") 400),hE P "LEAST_FACTOR" 403 (.int 2 402),hE P "GREATEST_FACTOR" 405 (.int 1000 404),hE P "TURN_COUNTS" 439 (.ref 153),hE P "TURN_SORTS" 471 (.ref 154),hE P "figures_of" 478 (.ref 171),hE P "number_of" 484 (.ref 176),hE P "nearest" 493 (.ref 183),hE P "is_factor" 500 (.ref 190),hE P "kind_behind" 508 (.ref 197),hE P "is_turn_of" 517 (.ref 204),hE P "has_turn_parts" 524 (.ref 211),hE P "most_figures" 532 (.ref 218),hE P "are_led_words" 538 (.ref 223),hE P "words_behind" 544 (.ref 228),hE P "led_kind" 553 (.ref 235),hE P "led_about" 559 (.ref 240),hE P "turned" 568 (.ref 247),hE P "led_value" 574 (.ref 252),hE P "read_number" 583 (.ref 259),hE P "twin_of" 593 (.ref 266),hE P "_law_mixed" 604 (.ref 273),hE P "_law_stream" 615 (.ref 280),hE P "_law_digit" 624 (.ref 287),hE P "_law_leaf" 633 (.ref 294),hE P "_law_record" 644 (.ref 301),hE P "_law_rows" 655 (.ref 308),hE P "_law_kind" 664 (.ref 315),hE P "_law_shape" 672 (.ref 322),hE P "_law_text" 682 (.ref 329),hE P "_law_number" 692 (.ref 336),hE P "_law_pairs" 698 (.ref 341),hE P "_law_value" 704 (.ref 346),hE P "_law_figures" 711 (.ref 353),hE P "_law_words" 717 (.ref 358),hE P "_law_number_turn" 730 (.ref 365),hE P "_law_turn" 739 (.ref 372),hE P "_law_small_kind" 748 (.ref 379),hE P "_law_all" 754 (.ref 384),hE P "_law_behind" 763 (.ref 391),hE P "law" 769 (.ref 396)] 79 }) ::
 (nat_lit 15,{ cls:=.type "tuple",data:=.seq #[.type "ValueError"] }) ::
 (nat_lit 22,{ cls:=.type "tuple",data:=.seq #[] }) ::
 (nat_lit 23,{ cls:=.type "dict",data:=.dict #[{ hash:=PyData.keyHash P ("__module__"),key:=.str ("__module__") 196,val:=.str ("oldhands.errors") 187 },{ hash:=PyData.keyHash P ("__firstlineno__"),key:=.str ("__firstlineno__") 200,val:=.int 2 199 },{ hash:=PyData.keyHash P ("__static_attributes__"),key:=.str ("__static_attributes__") 201,val:=.ref 22 },{ hash:=PyData.keyHash P ("__weakref__"),key:=.str ("__weakref__") 203,val:=.ref 25 },{ hash:=PyData.keyHash P ("__doc__"),key:=.str ("__doc__") 204,val:=.none }] 3 }) ::
 (nat_lit 24,{ cls:=.type "type",data:=.cls { name:= "HandError",bases:=[.type "ValueError"],mro:=[.ref 24,.type "ValueError",.type "Exception",.type "BaseException",.type "object"],ns:=23,qualname:= "HandError",subclasses:=[.ref 37,.ref 49] },slots:=#[Option.some (.ref 15),Option.none,Option.some (.str ("HandError") 189),Option.some (.str ("HandError") 197),Option.some (.builtin "ValueError.__new__"),Option.some (.bool Bool.true)] }) ::
 (nat_lit 25,{ cls:=.type "getset_descriptor",data:=.fields #[.str ("__weakref__") 202,.ref 24,.builtin "ExceptionGroup.__weakref__",.none] }) ::
 (nat_lit 28,{ cls:=.type "tuple",data:=.seq #[.ref 24] }) ::
 (nat_lit 35,{ cls:=.type "tuple",data:=.seq #[] }) ::
 (nat_lit 36,{ cls:=.type "dict",data:=.dict #[{ hash:=PyData.keyHash P ("__module__"),key:=.str ("__module__") 214,val:=.str ("oldhands.errors") 187 },{ hash:=PyData.keyHash P ("__firstlineno__"),key:=.str ("__firstlineno__") 218,val:=.int 4 217 },{ hash:=PyData.keyHash P ("__static_attributes__"),key:=.str ("__static_attributes__") 219,val:=.ref 35 },{ hash:=PyData.keyHash P ("__doc__"),key:=.str ("__doc__") 220,val:=.none }] 2 }) ::
 (nat_lit 37,{ cls:=.type "type",data:=.cls { name:= "BadKind",bases:=[.ref 24],mro:=[.ref 37,.ref 24,.type "ValueError",.type "Exception",.type "BaseException",.type "object"],ns:=36,qualname:= "BadKind" },slots:=#[Option.some (.ref 28),Option.none,Option.some (.str ("BadKind") 207),Option.some (.str ("BadKind") 215),Option.some (.builtin "ValueError.__new__"),Option.some (.bool Bool.true)] }) ::
 (nat_lit 40,{ cls:=.type "tuple",data:=.seq #[.ref 24] }) ::
 (nat_lit 47,{ cls:=.type "tuple",data:=.seq #[] }) ::
 (nat_lit 48,{ cls:=.type "dict",data:=.dict #[{ hash:=PyData.keyHash P ("__module__"),key:=.str ("__module__") 230,val:=.str ("oldhands.errors") 187 },{ hash:=PyData.keyHash P ("__firstlineno__"),key:=.str ("__firstlineno__") 234,val:=.int 6 233 },{ hash:=PyData.keyHash P ("__static_attributes__"),key:=.str ("__static_attributes__") 235,val:=.ref 47 },{ hash:=PyData.keyHash P ("__doc__"),key:=.str ("__doc__") 236,val:=.none }] 2 }) ::
 (nat_lit 49,{ cls:=.type "type",data:=.cls { name:= "BadTurn",bases:=[.ref 24],mro:=[.ref 49,.ref 24,.type "ValueError",.type "Exception",.type "BaseException",.type "object"],ns:=48,qualname:= "BadTurn" },slots:=#[Option.some (.ref 40),Option.none,Option.some (.str ("BadTurn") 223),Option.some (.str ("BadTurn") 231),Option.some (.builtin "ValueError.__new__"),Option.some (.bool Bool.true)] }) ::
 (nat_lit 52,{ cls:=.type "dict",data:=.dict #[{ hash:=PyData.keyHash P ("number"),key:=.str ("number") 259,val:=.int 3 260 },{ hash:=PyData.keyHash P ("text"),key:=.str ("text") 261,val:=.int 2 262 },{ hash:=PyData.keyHash P ("choice"),key:=.str ("choice") 263,val:=.int 2 264 },{ hash:=PyData.keyHash P ("list"),key:=.str ("list") 265,val:=.int 3 266 },{ hash:=PyData.keyHash P ("record"),key:=.str ("record") 267,val:=.int 2 268 },{ hash:=PyData.keyHash P ("rows"),key:=.str ("rows") 269,val:=.int 4 270 }] 6 }) ::
 (nat_lit 56,hC "is_name" "is_name" 278 279 280 [.int 19 0,.int 1 0,.int 0 0,.int 0 0,.int 3 0,.ref 53,.bool Bool.true,.int 181 0,.ref 54,.none,.none,.none,.ref 55,.int 281 0,.int 19 0,hT 282]) ::
 (nat_lit 57,hF "is_name" "is_name" "oldhands.kinds" (top 15) 239 56) ::
 (nat_lit 63,hC "is_whole" "is_whole" 284 285 286 [.int 23 0,.int 1 0,.int 0 0,.int 0 0,.int 3 0,.ref 58,.bool Bool.true,.int 181 0,.ref 59,.none,.ref 60,.ref 61,.ref 62,.int 288 0,.int 23 0,hT 289]) ::
 (nat_lit 64,hF "is_whole" "is_whole" "oldhands.kinds" (top 16) 239 63) ::
 (nat_lit 70,hC "is_whole_within" "is_whole_within" 291 292 293 [.int 25 0,.int 3 0,.int 0 0,.int 0 0,.int 3 0,.ref 65,.bool Bool.true,.int 181 0,.ref 66,.none,.ref 67,.ref 68,.ref 69,.int 297 0,.int 25 0,hT 298]) ::
 (nat_lit 71,hF "is_whole_within" "is_whole_within" "oldhands.kinds" (top 17) 239 70) ::
 (nat_lit 77,hC "made_kind" "made_kind" 300 301 302 [.int 27 0,.int 1 0,.int 0 0,.int 0 0,.int 3 0,.ref 72,.bool Bool.true,.int 181 0,.ref 73,.none,.ref 74,.ref 75,.ref 76,.int 304 0,.int 27 0,hT 305]) ::
 (nat_lit 78,hF "made_kind" "made_kind" "oldhands.kinds" (top 18) 239 77) ::
 (nat_lit 84,hC "is_formed" "is_formed" 307 308 309 [.int 33 0,.int 2 0,.int 0 0,.int 0 0,.int 3 0,.ref 79,.bool Bool.true,.int 181 0,.ref 80,.none,.ref 81,.ref 82,.ref 83,.int 313 0,.int 33 0,hT 314]) ::
 (nat_lit 85,hF "is_formed" "is_formed" "oldhands.kinds" (top 19) 239 84) ::
 (nat_lit 91,hC "has_parts" "has_parts" 316 317 318 [.int 48 0,.int 1 0,.int 0 0,.int 0 0,.int 3 0,.ref 86,.bool Bool.true,.int 181 0,.ref 87,.none,.ref 88,.ref 89,.ref 90,.int 320 0,.int 48 0,hT 321]) ::
 (nat_lit 92,hF "has_parts" "has_parts" "oldhands.kinds" (top 20) 239 91) ::
 (nat_lit 98,hC "are_bounds" "are_bounds" 323 324 325 [.int 52 0,.int 2 0,.int 0 0,.int 0 0,.int 3 0,.ref 93,.bool Bool.true,.int 181 0,.ref 94,.none,.ref 95,.ref 96,.ref 97,.int 328 0,.int 52 0,hT 329]) ::
 (nat_lit 99,hF "are_bounds" "are_bounds" "oldhands.kinds" (top 21) 239 98) ::
 (nat_lit 103,hC "are_words" "are_words" 331 332 333 [.int 56 0,.int 1 0,.int 0 0,.int 0 0,.int 3 0,.ref 100,.bool Bool.true,.int 181 0,.ref 101,.none,.none,.none,.ref 102,.int 334 0,.int 56 0,hT 335]) ::
 (nat_lit 104,hF "are_words" "are_words" "oldhands.kinds" (top 22) 239 103) ::
 (nat_lit 108,hC "are_fields" "are_fields" 337 338 339 [.int 60 0,.int 2 0,.int 0 0,.int 0 0,.int 3 0,.ref 105,.bool Bool.true,.int 181 0,.ref 106,.none,.none,.none,.ref 107,.int 340 0,.int 60 0,hT 341]) ::
 (nat_lit 109,hF "are_fields" "are_fields" "oldhands.kinds" (top 23) 239 108) ::
 (nat_lit 115,hC "is_field" "is_field" 343 344 345 [.int 67 0,.int 2 0,.int 0 0,.int 0 0,.int 3 0,.ref 110,.bool Bool.true,.int 181 0,.ref 111,.none,.ref 112,.ref 113,.ref 114,.int 348 0,.int 67 0,hT 349]) ::
 (nat_lit 116,hF "is_field" "is_field" "oldhands.kinds" (top 24) 239 115) ::
 (nat_lit 122,hC "are_rows" "are_rows" 351 352 353 [.int 71 0,.int 3 0,.int 0 0,.int 0 0,.int 3 0,.ref 117,.bool Bool.true,.int 181 0,.ref 118,.none,.ref 119,.ref 120,.ref 121,.int 358 0,.int 71 0,hT 359]) ::
 (nat_lit 123,hF "are_rows" "are_rows" "oldhands.kinds" (top 25) 239 122) ::
 (nat_lit 129,hC "field_kind" "field_kind" 361 362 363 [.int 76 0,.int 2 0,.int 0 0,.int 0 0,.int 3 0,.ref 124,.bool Bool.true,.int 181 0,.ref 125,.none,.ref 126,.ref 127,.ref 128,.int 368 0,.int 76 0,hT 369]) ::
 (nat_lit 130,hF "field_kind" "field_kind" "oldhands.kinds" (top 26) 239 129) ::
 (nat_lit 136,hC "item_kind" "item_kind" 371 372 373 [.int 83 0,.int 1 0,.int 0 0,.int 0 0,.int 3 0,.ref 131,.bool Bool.true,.int 181 0,.ref 132,.none,.ref 133,.ref 134,.ref 135,.int 375 0,.int 83 0,hT 376]) ::
 (nat_lit 137,hF "item_kind" "item_kind" "oldhands.kinds" (top 27) 239 136) ::
 (nat_lit 141,hC "kinds_within" "kinds_within" 378 379 380 [.int 89 0,.int 1 0,.int 0 0,.int 0 0,.int 3 0,.ref 138,.bool Bool.true,.int 181 0,.ref 139,.none,.none,.none,.ref 140,.int 381 0,.int 89 0,hT 382]) ::
 (nat_lit 142,hF "kinds_within" "kinds_within" "oldhands.kinds" (top 28) 239 141) ::
 (nat_lit 146,hC "kind_many" "kind_many" 384 385 386 [.int 94 0,.int 1 0,.int 0 0,.int 0 0,.int 3 0,.ref 143,.bool Bool.true,.int 181 0,.ref 144,.none,.none,.none,.ref 145,.int 387 0,.int 94 0,hT 388]) ::
 (nat_lit 147,hF "kind_many" "kind_many" "oldhands.kinds" (top 29) 239 146) ::
 (nat_lit 151,hC "least_value" "least_value" 392 393 394 [.int 97 0,.int 1 0,.int 0 0,.int 0 0,.int 3 0,.ref 148,.bool Bool.true,.int 181 0,.ref 149,.none,.none,.none,.ref 150,.int 395 0,.int 97 0,hT 396]) ::
 (nat_lit 152,hF "least_value" "least_value" "oldhands.values" (top 31) 390 151) ::
 (nat_lit 153,{ cls:=.type "dict",data:=.dict #[{ hash:=PyData.keyHash P ("bounds"),key:=.str ("bounds") 406,val:=.int 3 407 },{ hash:=PyData.keyHash P ("scale"),key:=.str ("scale") 408,val:=.int 2 409 },{ hash:=PyData.keyHash P ("shrink"),key:=.str ("shrink") 410,val:=.int 2 411 },{ hash:=PyData.keyHash P ("figures"),key:=.str ("figures") 412,val:=.int 2 413 },{ hash:=PyData.keyHash P ("number"),key:=.str ("number") 414,val:=.int 3 415 },{ hash:=PyData.keyHash P ("words"),key:=.str ("words") 416,val:=.int 3 417 },{ hash:=PyData.keyHash P ("cut"),key:=.str ("cut") 418,val:=.int 2 419 },{ hash:=PyData.keyHash P ("first"),key:=.str ("first") 420,val:=.int 2 421 },{ hash:=PyData.keyHash P ("one"),key:=.str ("one") 422,val:=.int 2 423 },{ hash:=PyData.keyHash P ("out"),key:=.str ("out") 424,val:=.int 1 425 },{ hash:=PyData.keyHash P ("items"),key:=.str ("items") 426,val:=.int 2 427 }] 11 }) ::
 (nat_lit 154,{ cls:=.type "dict",data:=.dict #[{ hash:=PyData.keyHash P ("bounds"),key:=.str ("bounds") 440,val:=.ref 155 },{ hash:=PyData.keyHash P ("scale"),key:=.str ("scale") 442,val:=.ref 156 },{ hash:=PyData.keyHash P ("shrink"),key:=.str ("shrink") 444,val:=.ref 157 },{ hash:=PyData.keyHash P ("figures"),key:=.str ("figures") 446,val:=.ref 158 },{ hash:=PyData.keyHash P ("number"),key:=.str ("number") 448,val:=.ref 159 },{ hash:=PyData.keyHash P ("words"),key:=.str ("words") 450,val:=.ref 160 },{ hash:=PyData.keyHash P ("cut"),key:=.str ("cut") 452,val:=.ref 161 },{ hash:=PyData.keyHash P ("first"),key:=.str ("first") 454,val:=.ref 162 },{ hash:=PyData.keyHash P ("out"),key:=.str ("out") 457,val:=.ref 163 },{ hash:=PyData.keyHash P ("items"),key:=.str ("items") 459,val:=.ref 164 }] 10 }) ::
 (nat_lit 155,{ cls:=.type "tuple",data:=.seq #[.str ("number") 441] }) ::
 (nat_lit 156,{ cls:=.type "tuple",data:=.seq #[.str ("number") 443] }) ::
 (nat_lit 157,{ cls:=.type "tuple",data:=.seq #[.str ("number") 445] }) ::
 (nat_lit 158,{ cls:=.type "tuple",data:=.seq #[.str ("number") 447] }) ::
 (nat_lit 159,{ cls:=.type "tuple",data:=.seq #[.str ("text") 449] }) ::
 (nat_lit 160,{ cls:=.type "tuple",data:=.seq #[.str ("choice") 451] }) ::
 (nat_lit 161,{ cls:=.type "tuple",data:=.seq #[.str ("text") 453] }) ::
 (nat_lit 162,{ cls:=.type "tuple",data:=.seq #[.str ("list") 455,.str ("rows") 456] }) ::
 (nat_lit 163,{ cls:=.type "tuple",data:=.seq #[.str ("list") 458] }) ::
 (nat_lit 164,{ cls:=.type "tuple",data:=.seq #[.str ("list") 460] }) ::
 (nat_lit 170,hC "figures_of" "figures_of" 472 473 474 [.int 114 0,.int 1 0,.int 0 0,.int 0 0,.int 3 0,.ref 165,.bool Bool.true,.int 181 0,.ref 166,.none,.ref 167,.ref 168,.ref 169,.int 476 0,.int 114 0,hT 477]) ::
 (nat_lit 171,hF "figures_of" "figures_of" "oldhands.turns" (top 38) 398 170) ::
 (nat_lit 175,hC "number_of" "number_of" 479 480 481 [.int 116 0,.int 1 0,.int 0 0,.int 0 0,.int 3 0,.ref 172,.bool Bool.true,.int 181 0,.ref 173,.none,.none,.none,.ref 174,.int 482 0,.int 116 0,hT 483]) ::
 (nat_lit 176,hF "number_of" "number_of" "oldhands.turns" (top 39) 398 175) ::
 (nat_lit 182,hC "nearest" "nearest" 485 486 487 [.int 123 0,.int 3 0,.int 0 0,.int 0 0,.int 3 0,.ref 177,.bool Bool.true,.int 181 0,.ref 178,.none,.ref 179,.ref 180,.ref 181,.int 491 0,.int 123 0,hT 492]) ::
 (nat_lit 183,hF "nearest" "nearest" "oldhands.turns" (top 40) 398 182) ::
 (nat_lit 189,hC "is_factor" "is_factor" 494 495 496 [.int 125 0,.int 1 0,.int 0 0,.int 0 0,.int 3 0,.ref 184,.bool Bool.true,.int 181 0,.ref 185,.none,.ref 186,.ref 187,.ref 188,.int 498 0,.int 125 0,hT 499]) ::
 (nat_lit 190,hF "is_factor" "is_factor" "oldhands.turns" (top 41) 398 189) ::
 (nat_lit 196,hC "kind_behind" "kind_behind" 501 502 503 [.int 127 0,.int 2 0,.int 0 0,.int 0 0,.int 3 0,.ref 191,.bool Bool.true,.int 181 0,.ref 192,.none,.ref 193,.ref 194,.ref 195,.int 506 0,.int 127 0,hT 507]) ::
 (nat_lit 197,hF "kind_behind" "kind_behind" "oldhands.turns" (top 42) 398 196) ::
 (nat_lit 203,hC "is_turn_of" "is_turn_of" 509 510 511 [.int 134 0,.int 2 0,.int 0 0,.int 0 0,.int 3 0,.ref 198,.bool Bool.true,.int 181 0,.ref 199,.none,.ref 200,.ref 201,.ref 202,.int 515 0,.int 134 0,hT 516]) ::
 (nat_lit 204,hF "is_turn_of" "is_turn_of" "oldhands.turns" (top 43) 398 203) ::
 (nat_lit 210,hC "has_turn_parts" "has_turn_parts" 518 519 520 [.int 155 0,.int 1 0,.int 0 0,.int 0 0,.int 3 0,.ref 205,.bool Bool.true,.int 181 0,.ref 206,.none,.ref 207,.ref 208,.ref 209,.int 522 0,.int 155 0,hT 523]) ::
 (nat_lit 211,hF "has_turn_parts" "has_turn_parts" "oldhands.turns" (top 44) 398 210) ::
 (nat_lit 217,hC "most_figures" "most_figures" 525 526 527 [.int 159 0,.int 2 0,.int 0 0,.int 0 0,.int 3 0,.ref 212,.bool Bool.true,.int 181 0,.ref 213,.none,.ref 214,.ref 215,.ref 216,.int 530 0,.int 159 0,hT 531]) ::
 (nat_lit 218,hF "most_figures" "most_figures" "oldhands.turns" (top 45) 398 217) ::
 (nat_lit 222,hC "are_led_words" "are_led_words" 533 534 535 [.int 161 0,.int 3 0,.int 0 0,.int 0 0,.int 3 0,.ref 219,.bool Bool.true,.int 181 0,.ref 220,.none,.none,.none,.ref 221,.int 536 0,.int 161 0,hT 537]) ::
 (nat_lit 223,hF "are_led_words" "are_led_words" "oldhands.turns" (top 46) 398 222) ::
 (nat_lit 227,hC "words_behind" "words_behind" 539 540 541 [.int 176 0,.int 1 0,.int 0 0,.int 0 0,.int 3 0,.ref 224,.bool Bool.true,.int 181 0,.ref 225,.none,.none,.none,.ref 226,.int 542 0,.int 176 0,hT 543]) ::
 (nat_lit 228,hF "words_behind" "words_behind" "oldhands.turns" (top 47) 398 227) ::
 (nat_lit 234,hC "led_kind" "led_kind" 545 546 547 [.int 178 0,.int 2 0,.int 0 0,.int 0 0,.int 3 0,.ref 229,.bool Bool.true,.int 181 0,.ref 230,.none,.ref 231,.ref 232,.ref 233,.int 551 0,.int 178 0,hT 552]) ::
 (nat_lit 235,hF "led_kind" "led_kind" "oldhands.turns" (top 48) 398 234) ::
 (nat_lit 239,hC "led_about" "led_about" 554 555 556 [.int 197 0,.int 2 0,.int 0 0,.int 0 0,.int 3 0,.ref 236,.bool Bool.true,.int 181 0,.ref 237,.none,.none,.none,.ref 238,.int 557 0,.int 197 0,hT 558]) ::
 (nat_lit 240,hF "led_about" "led_about" "oldhands.turns" (top 49) 398 239) ::
 (nat_lit 246,hC "turned" "turned" 560 561 562 [.int 218 0,.int 3 0,.int 0 0,.int 0 0,.int 3 0,.ref 241,.bool Bool.true,.int 181 0,.ref 242,.none,.ref 243,.ref 244,.ref 245,.int 566 0,.int 218 0,hT 567]) ::
 (nat_lit 247,hF "turned" "turned" "oldhands.turns" (top 50) 398 246) ::
 (nat_lit 251,hC "led_value" "led_value" 569 570 571 [.int 221 0,.int 3 0,.int 0 0,.int 0 0,.int 3 0,.ref 248,.bool Bool.true,.int 181 0,.ref 249,.none,.none,.none,.ref 250,.int 572 0,.int 221 0,hT 573]) ::
 (nat_lit 252,hF "led_value" "led_value" "oldhands.turns" (top 51) 398 251) ::
 (nat_lit 258,hC "read_number" "read_number" 575 576 577 [.int 244 0,.int 2 0,.int 0 0,.int 0 0,.int 3 0,.ref 253,.bool Bool.true,.int 181 0,.ref 254,.none,.ref 255,.ref 256,.ref 257,.int 581 0,.int 244 0,hT 582]) ::
 (nat_lit 259,hF "read_number" "read_number" "oldhands.turns" (top 52) 398 258) ::
 (nat_lit 265,hC "twin_of" "twin_of" 584 585 586 [.int 249 0,.int 3 0,.int 0 0,.int 0 0,.int 3 0,.ref 260,.bool Bool.true,.int 181 0,.ref 261,.none,.ref 262,.ref 263,.ref 264,.int 591 0,.int 249 0,hT 592]) ::
 (nat_lit 266,hF "twin_of" "twin_of" "oldhands.turns" (top 53) 398 265) ::
 (nat_lit 272,hC "_law_mixed" "_law_mixed" 596 597 598 [.int 253 0,.int 2 0,.int 0 0,.int 0 0,.int 3 0,.ref 267,.bool Bool.true,.int 181 0,.ref 268,.none,.ref 269,.ref 270,.ref 271,.int 602 0,.int 253 0,hT 603]) ::
 (nat_lit 273,hF "_law_mixed" "_law_mixed" "law_oldhands_k21_whole_one_value_that_keeps" (top 55) 594 272) ::
 (nat_lit 279,hC "_law_stream" "_law_stream" 605 606 607 [.int 256 0,.int 2 0,.int 0 0,.int 0 0,.int 3 0,.ref 274,.bool Bool.true,.int 181 0,.ref 275,.none,.ref 276,.ref 277,.ref 278,.int 613 0,.int 256 0,hT 614]) ::
 (nat_lit 280,hF "_law_stream" "_law_stream" "law_oldhands_k21_whole_one_value_that_keeps" (top 56) 594 279) ::
 (nat_lit 286,hC "_law_digit" "_law_digit" 616 617 618 [.int 266 0,.int 2 0,.int 0 0,.int 0 0,.int 3 0,.ref 281,.bool Bool.true,.int 181 0,.ref 282,.none,.ref 283,.ref 284,.ref 285,.int 622 0,.int 266 0,hT 623]) ::
 (nat_lit 287,hF "_law_digit" "_law_digit" "law_oldhands_k21_whole_one_value_that_keeps" (top 57) 594 286) ::
 (nat_lit 352,hC "_law_figures" "_law_figures" 705 706 707 [.int 333 0,.int 1 0,.int 0 0,.int 0 0,.int 3 0,.ref 347,.bool Bool.true,.int 181 0,.ref 348,.none,.ref 349,.ref 350,.ref 351,.int 709 0,.int 333 0,hT 710]) ::
 (nat_lit 353,hF "_law_figures" "_law_figures" "law_oldhands_k21_whole_one_value_that_keeps" (top 67) 594 352) ::
 (nat_lit 357,hC "_law_words" "_law_words" 712 713 714 [.int 335 0,.int 2 0,.int 0 0,.int 0 0,.int 3 0,.ref 354,.bool Bool.true,.int 181 0,.ref 355,.none,.none,.none,.ref 356,.int 715 0,.int 335 0,hT 716]) ::
 (nat_lit 358,hF "_law_words" "_law_words" "law_oldhands_k21_whole_one_value_that_keeps" (top 68) 594 357) ::
 (nat_lit 364,hC "_law_number_turn" "_law_number_turn" 718 719 720 [.int 346 0,.int 3 0,.int 0 0,.int 0 0,.int 3 0,.ref 359,.bool Bool.true,.int 181 0,.ref 360,.none,.ref 361,.ref 362,.ref 363,.int 728 0,.int 346 0,hT 729]) ::
 (nat_lit 365,hF "_law_number_turn" "_law_number_turn" "law_oldhands_k21_whole_one_value_that_keeps" (top 69) 594 364) ::
 (nat_lit 371,hC "_law_turn" "_law_turn" 731 732 733 [.int 360 0,.int 2 0,.int 0 0,.int 0 0,.int 3 0,.ref 366,.bool Bool.true,.int 181 0,.ref 367,.none,.ref 368,.ref 369,.ref 370,.int 737 0,.int 360 0,hT 738]) ::
 (nat_lit 372,hF "_law_turn" "_law_turn" "law_oldhands_k21_whole_one_value_that_keeps" (top 70) 594 371) ::
 (nat_lit 378,hC "_law_small_kind" "_law_small_kind" 740 741 742 [.int 377 0,.int 1 0,.int 0 0,.int 0 0,.int 3 0,.ref 373,.bool Bool.true,.int 181 0,.ref 374,.none,.ref 375,.ref 376,.ref 377,.int 746 0,.int 377 0,hT 747]) ::
 (nat_lit 379,hF "_law_small_kind" "_law_small_kind" "law_oldhands_k21_whole_one_value_that_keeps" (top 71) 594 378) ::
 (nat_lit 383,hC "_law_all" "_law_all" 749 750 751 [.int 385 0,.int 1 0,.int 0 0,.int 0 0,.int 3 0,.ref 380,.bool Bool.true,.int 181 0,.ref 381,.none,.none,.none,.ref 382,.int 752 0,.int 385 0,hT 753]) ::
 (nat_lit 384,hF "_law_all" "_law_all" "law_oldhands_k21_whole_one_value_that_keeps" (top 72) 594 383) ::
 (nat_lit 390,hC "_law_behind" "_law_behind" 755 756 757 [.int 395 0,.int 2 0,.int 0 0,.int 0 0,.int 3 0,.ref 385,.bool Bool.true,.int 181 0,.ref 386,.none,.ref 387,.ref 388,.ref 389,.int 761 0,.int 395 0,hT 762]) ::
 (nat_lit 391,hF "_law_behind" "_law_behind" "law_oldhands_k21_whole_one_value_that_keeps" (top 73) 594 390) ::
 (nat_lit 395,hC "law" "law" 764 765 766 [.int 402 0,.int 1 0,.int 0 0,.int 0 0,.int 3 0,.ref 392,.bool Bool.true,.int 181 0,.ref 393,.none,.none,.none,.ref 394,.int 767 0,.int 402 0,hT 768]) ::
 (nat_lit 396,hF "law" "law" "law_oldhands_k21_whole_one_value_that_keeps" (top 74) 594 395) :: []
def hA:List Addr:=[2,3,15,22,23,24,25,28,35,36,37,40,47,48,49,52,56,57,63,64,70,71,77,78,84,85,91,92,98,99,103,104,108,109,115,116,122,123,129,130,136,137,141,142,146,147,151,152,153,154,155,156,157,158,159,160,161,162,163,164,170,171,175,176,182,183,189,190,196,197,203,204,210,211,217,218,222,223,227,228,234,235,239,240,246,247,251,252,258,259,265,266,272,273,279,280,286,287,352,353,357,358,364,365,371,372,378,379,383,384,390,391,395,396]
theorem hKA:∀ P,hA=(hK P).map (·.1):=fun _=>by kernel_rfl
abbrev hH:PySem.W.Hook:=PySem.W.kHook hK hA hKA
abbrev hQ:Program:=PySem.W.view PySem.Challenge.pw_oldhands_k21_whole_one_value_that_keeps [74]
def hW:List Str:= "HandError" :: "BadKind" :: "BadTurn" :: "LETTERS" :: "LONGEST_NAME" :: "EACH" :: "MOST_SIGNS" :: "MOST_WORDS" :: "MOST_FIELDS" :: "MOST_ITEMS" :: "MOST_KINDS" :: "DEEPEST" :: "PART_COUNTS" :: "is_name" :: "is_whole" :: "is_whole_within" :: "made_kind" :: "is_formed" :: "has_parts" :: "are_bounds" :: "are_words" :: "are_fields" :: "is_field" :: "are_rows" :: "field_kind" :: "item_kind" :: "kinds_within" :: "kind_many" :: "least_value" :: "FIGURES" :: "LEAST_FACTOR" :: "GREATEST_FACTOR" :: "TURN_COUNTS" :: "TURN_SORTS" :: "figures_of" :: "number_of" :: "nearest" :: "is_factor" :: "kind_behind" :: "is_turn_of" :: "has_turn_parts" :: "most_figures" :: "are_led_words" :: "words_behind" :: "led_kind" :: "led_about" :: "turned" :: "led_value" :: "read_number" :: "twin_of" :: "_law_mixed" :: "_law_stream" :: "_law_digit" :: "_law_leaf" :: "_law_record" :: "_law_rows" :: "_law_kind" :: "_law_shape" :: "_law_text" :: "_law_number" :: "_law_pairs" :: "_law_value" :: "_law_figures" :: "_law_words" :: "_law_number_turn" :: "_law_turn" :: "_law_small_kind" :: "_law_all" :: "_law_behind" :: []
abbrev hX (s:Shared):Bool:=PySem.W.recOk (PySem.W.RowW.records (PySem.W.OpenRow.toRowW PySem.Challenge.rw_oldhands_k21_whole_one_value_that_keeps.row)) s
theorem rW {p q:Program} {loose:List Str} {Xt:Shared→Bool} {α:Type} {Yf:Shared→α} {Ya:World→α} {N:Nat} (row:String) (h0:∀ w:World,(PySem.W.openEnds treeTable p (w.withFollow row false) N).map (fun s=>(PySem.W.openSeen q loose (importedModules p.main.body) Xt true s,Yf s))=some (PySem.W.openGood q loose,Ya (w.withFollow row false)))
  (h1:∀ w:World,(PySem.W.openEnds treeTable p (w.withFollow row true) N).map (fun s=>(PySem.W.openSeen q loose (importedModules p.main.body) Xt true s,Yf s))=some (PySem.W.openGood q loose,Ya (w.withFollow row true))):PySem.W.LeftO p q loose Xt Yf Ya N:=fun w=>by
 have e:=World.withFollow_self w row
 cases hb:w.params.followText row <;> rw [hb] at e
 ·have z:=h0 w;rw [e] at z;exact z
 ·have z:=h1 w;rw [e] at z;exact z
theorem hlF:∀ w:World,(PySem.W.openEnds treeTable PySem.Challenge.pw_oldhands_k21_whole_one_value_that_keeps (w.withFollow "special-get-raises" false) 5620).map (fun s=>(PySem.W.openSeen hQ hW (importedModules PySem.Challenge.pw_oldhands_k21_whole_one_value_that_keeps.main.body) hX true s,hH.obs s))=some (PySem.W.openGood hQ hW,hH.val (w.withFollow "special-get-raises" false)):=fun w=>by kernel_rfl
theorem hlT:∀ w:World,(PySem.W.openEnds treeTable PySem.Challenge.pw_oldhands_k21_whole_one_value_that_keeps (w.withFollow "special-get-raises" true) 5620).map (fun s=>(PySem.W.openSeen hQ hW (importedModules PySem.Challenge.pw_oldhands_k21_whole_one_value_that_keeps.main.body) hX true s,hH.obs s))=some (PySem.W.openGood hQ hW,hH.val (w.withFollow "special-get-raises" true)):=fun w=>by kernel_rfl
theorem hl:PySem.W.LeftO PySem.Challenge.pw_oldhands_k21_whole_one_value_that_keeps hQ hW hX hH.obs hH.val 5620:=rW "special-get-raises" hlF hlT
theorem said:PySem.Challenge.rw_oldhands_k21_whole_one_value_that_keeps.wellSaid=true:=by kernel_rfl
end K21
namespace L2
open PySem PySem.Spec PyProof.Rows
abbrev Key:=Sum Int Str
def gn:Key→Value→Bool
 | .inl k,v=>Value.isInt k v
 | .inr x,v=>Value.isStrOf x v
def wO (w:World):Key→Int
 | .inl k=>hashInt k
 | .inr x=>hashStr w x
theorem aJ:∀ {k:Key} {v:Value},gn k v=true→(∃ i t,k=Sum.inl i∧v=Value.int i t)∨(∃ x t,k=Sum.inr x∧v=Value.str x t)
 | .inl i,v,h=>by
  obtain ⟨t,e⟩:=Value.isInt_shape (k:=i) (v:=v) h;exact .inl ⟨i,t,rfl,e⟩
 | .inr x,v,h=>by
  obtain ⟨t,e⟩:=Value.isStrOf_shape (x:=x) (v:=v) h;exact .inr ⟨x,t,rfl,e⟩
theorem oP (i:Int) (t:Tok):gn (.inl i) (.int i t)=true:=by simp [gn,Value.isInt]
theorem oQ (x:Str) (t:Tok):gn (.inr x) (.str x t)=true:=by simp [gn,Value.isStrOf]
theorem uk (a b:Int):decide ((Sum.inl a:Key)=Sum.inl b)=(a == b):=by
 by_cases e:a=b
 ·subst e;simp
 ·have h:¬ (Sum.inl a:Key)=Sum.inl b:=fun q=>e (Sum.inl.inj q);rw [decide_eq_false h];exact (beq_eq_false_iff_ne.mpr e).symm
theorem ul (a b:Str):decide ((Sum.inr a:Key)=Sum.inr b)=decide (a=b):=by
 by_cases e:a=b
 ·subst e;simp
 ·have h:¬ (Sum.inr a:Key)=Sum.inr b:=fun q=>e (Sum.inr.inj q);rw [decide_eq_false h,decide_eq_false e]
theorem um (a:Int) (b:Str):decide ((Sum.inl a:Key)=Sum.inr b)=false:=decide_eq_false (fun q=>nomatch q)
theorem uo (a:Str) (b:Int):decide ((Sum.inr a:Key)=Sum.inl b)=false:=decide_eq_false (fun q=>nomatch q)
def ao (prog:Program) (w:World):PySem.KeyKind prog w Key where
 is:=gn
 hash:=wO w
 inj:=fun v a b ha hb=>by
  rcases aJ ha with ⟨i,t,rfl,rfl⟩ | ⟨x,t,rfl,rfl⟩
  ·rcases aJ hb with ⟨j,u,rfl,e⟩ | ⟨y,u,rfl,e⟩
   ·injection e with e1 _;rw [e1]
   ·exact nomatch e
  ·rcases aJ hb with ⟨j,u,rfl,e⟩ | ⟨y,u,rfl,e⟩
   ·exact nomatch e
   ·injection e with e1 _;rw [e1]
 byValue:=fun k v h=>by
  rcases aJ h with ⟨i,t,rfl,rfl⟩ | ⟨x,t,rfl,rfl⟩ <;> rfl
 pyHash:=fun hv h=>by
  rcases aJ hv with ⟨i,t,rfl,rfl⟩ | ⟨x,t,rfl,rfl⟩
  ·exact wpAny_pyHash_int h
  ·exact wpAny_pyHash_str h
 eqBool:=fun hu hv h=>by
  rcases aJ hu with ⟨i,t,rfl,rfl⟩ | ⟨x,t,rfl,rfl⟩
  ·rcases aJ hv with ⟨j,u,rfl,rfl⟩ | ⟨y,u,rfl,rfl⟩
   ·rw [uk] at h;exact wpAny_eqBool_int h
   ·rw [um] at h;exact SeqAt.EqAt.int_str i t y u _ _ _ _ h
  ·rcases aJ hv with ⟨j,u,rfl,rfl⟩ | ⟨y,u,rfl,rfl⟩
   ·rw [uo] at h;exact SeqAt.EqAt.str_int x t j u _ _ _ _ h
   ·rw [ul] at h;exact wpAny_eqBool_str h
 «strs»:=fun k x t v h=>by
  rcases aJ h with ⟨i,u,rfl,e⟩ | ⟨y,u,rfl,e⟩
  ·exact nomatch e
  ·injection e with e1 _
   subst e1
   cases v <;> rfl
theorem kB (prog:Program) (w:World) (i:Int) (t:Tok):(ao prog w).is (.inl i) (.int i t)=true:=oP i t
theorem kC (prog:Program) (w:World) (x:Str) (t:Tok):(ao prog w).is (.inr x) (.str x t)=true:=oQ x t
inductive V where
 | non | bl (b:Bool) | int (i:Int) | str (x:Str) | byt (b:Array UInt8) | flt (b:UInt64) | ref (a:Addr) | ty (n:String)
 deriving DecidableEq
def RelV:V→Value→Prop
 | .non,u=>u=Value.none
 | .bl b,u=>u=Value.bool b
 | .int i,u=>∃ t,u=Value.int i t
 | .str x,u=>∃ t,u=Value.str x t
 | .byt b,u=>∃ t,u=Value.bytes b t
 | .flt b,u=>∃ t,u=Value.float b t
 | .ref a,u=>u=Value.ref a
 | .ty n,u=>u=Value.type n
abbrev Vals:List V→List Value→Prop:=Paired RelV
theorem Vals.length {xs:List V} {us:List Value} (r:Vals xs us):xs.length=us.length:=Paired.length r
theorem Vals.get:∀ {xs:List V} {us:List Value} {i:Nat} {x:V},Vals xs us→xs[i]?=some x→∃ u,us[i]?=some u∧RelV x u
 | _,_,_,_,.nil,e=>by simp at e
 | _,_,0,_,.cons r _,e=>by simp at e;subst e;exact ⟨_,rfl,r⟩
 | _,_,i+1,x,.cons _ t,e=>by
  obtain ⟨u,h1,h2⟩:=Vals.get (i:=i) (x:=x) t (by simpa using e);exact ⟨u,by simpa using h1,h2⟩
theorem Vals.set {x:V} {u:Value} (r:RelV x u):∀ {xs:List V} {us:List Value} (i:Nat),Vals xs us→Vals (xs.set i x) (us.set i u)
 | _,_,_,.nil=>.nil
 | _,_,0,.cons _ t=>.cons r t
 | _,_,i+1,.cons q t=>.cons q (Vals.set r i t)
theorem Vals.append:∀ {xs ys:List V} {us ws:List Value},Vals xs us→Vals ys ws→Vals (xs++ys) (us++ws)
 | _,_,_,_,.nil,s=>s
 | _,_,_,_,.cons r t,s=>.cons r (Vals.append t s)
theorem Vals.take:∀ {xs:List V} {us:List Value} (n:Nat),Vals xs us→Vals (xs.take n) (us.take n)
 | _,_,0,_=>.nil
 | _,_,_+1,.nil=>.nil
 | _,_,n+1,.cons r t=>.cons r (Vals.take n t)
theorem Vals.drop:∀ {xs:List V} {us:List Value} (n:Nat),Vals xs us→Vals (xs.drop n) (us.drop n)
 | _,_,0,r=>r
 | _,_,_+1,.nil=>.nil
 | _,_,n+1,.cons _ t=>Vals.drop n t
def RelO:Option V→Option Value→Prop
 | some v,some u=>RelV v u
 | none,none=>True
 | _,_=>False
def KV {κ:Type}:List (κ×V)→List (κ×Value)→Prop:=Paired fun (p:κ×V) (q:κ×Value)=>p.1=q.1∧RelV p.2 q.2
def kV:Key→V
 | .inl i=>.int i
 | .inr x=>.str x
inductive HO where
 | lst (xs:List V)
 | tup (xs:List V)
 | dK (kvs:List (Key×V)) | dT (kvs:List (List Key×V))
 | set (S:Int→Bool) (n:Nat)
 | ins (C dx:Addr) (fs:List (Str×V))
 | own (x:Addr)
 | xd (fs:List (Str×V))
 | met (f x:Addr)
 | rng (lo hi:Int)
 | frz (o:Obj) (u:HO)
 | tbl (ps:Array Value)
 | ext (φ:Heap→Prop)
abbrev Hp:=Addr→Option HO
def upd (H:Hp) (a:Addr) (o:HO):Hp:=fun b=>if b=a then some o else H b
theorem ac {H:Hp} {a:Addr} {o:HO}:upd H a o a=some o:=by unfold upd;rw [if_pos rfl]
theorem ah {H:Hp} {a b:Addr} {o:HO} (h:b≠a):upd H a o b=H b:=by unfold upd;rw [if_neg h]
theorem nL {H:Hp} {a:Addr} {o u:HO}:upd (upd H a o) a u=upd H a u:=by
 funext b;unfold upd;split <;> rfl
theorem gp {H:Hp} {a b:Addr} {o u:HO} (h:H a=some o) (h':H b=some u) (d:o≠u):a≠b:=by
 intro e;subst e;rw [h] at h';exact d (Option.some.inj h')
theorem ak {H:Hp} {a b:Addr} {o:HO} (h:H a=some o) (h':H b=none):a≠b:=by
 intro e;subst e;rw [h] at h';cases h'
section
variable (P:Program) (w:World)
def ObjOk (H:Hp) (h:Heap) (a:Addr):HO→Prop
 | .lst xs=>xs.length≤sizeLine∧∃ (its:List Value) (n:Nat),Vals xs its∧h.get? a=some { cls:=.type "list",data:=.seq its.toArray n }
 | .tup xs=>xs.length≤sizeLine∧∃ its:List Value,Vals xs its∧IsTup h a its.toArray
 | .dK kvs=>kvs.length≤sizeLine∧(a == sysModules)=false∧∃ vs,KV kvs vs∧h.DictOf (ao P w) a vs
 | .dT kvs=>kvs.length≤sizeLine∧(a == sysModules)=false∧∃ xs:List (List Key×Addr×Value),
   Paired (fun (p:List Key×V) (q:List Key×Addr×Value)=>p.1=q.1∧H q.2.1=some (.tup (p.1.map kV))∧RelV p.2 q.2.2) kvs xs ∧
   ∃ o es ep,h.get? a=some o∧o.ExactDict∧o.data=.dict es ep∧es.toList=xs.map (entryOfKey (tupleKind (ao P w)))∧(xs.map (·.1)).Nodup
 | .set S n=>h.SetOf (intKind P w) a S n
 | .ins C dx fs=>H dx=some (.own a)∧fs.length≤1000∧dx≠a∧h.get? a=some (PySem.W.instObj C dx) ∧
   ∃ mA,h.Ns1 dx mA∧(∀ f,RelO (fs.lookup f) (mA f))∧PySem.Within mA (fs.map (·.1))
 | .own _=>∃ o,h.get? a=some o
 | .xd fs=>∃ mA,h.Ns1 a mA∧∀ f,RelO (fs.lookup f) (mA f)
 | .rng lo hi=>∃ t u v,h.get? a=some { cls:=.type "range",data:=.fields #[.int lo t,.int hi u,.int 1 v] }
 | .frz o u=>h.get? a=some o∧ObjOk H h a u
 | .tbl ps=>h.get? a=some { cls:=.none,data:=.fields ps }
 | .met f x=>h.get? a=some (PySem.W.methodObj (.ref f) (.ref x))
 | .ext φ=>φ h∧(∃ o,h.get? a=some o)∧∀ h1 h2:Heap,φ h1→(∀ o,h1.get? a=some o→h2.get? a=some o)→φ h2
def HOk (H:Hp) (h:Heap):Prop:=∀ a o,H a=some o→ObjOk P w H h a o
end
section
variable {P:Program} {w:World} {H H':Hp} {h h':Heap} {a:Addr} {o:HO}
theorem ObjOk.lt (x:ObjOk P w H h a o):a < h.objs.size:=by
 cases o with
 | lst xs=>obtain ⟨_,_,_,_,e⟩:=x;exact Heap.lt_size e
 | tup xs=>obtain ⟨_,_,_,p⟩:=x;exact p.lt
 | dK kvs=>obtain ⟨_,_,_,_,o,_,_,e,_⟩:=x;exact Heap.lt_size e
 | dT kvs=>obtain ⟨_,_,_,_,o,_,_,e,_⟩:=x;exact Heap.lt_size e
 | set S n=>obtain ⟨o,_,_,_,e,_⟩:=x;exact Heap.lt_size e
 | ins C dx fs=>obtain ⟨_,_,_,e,_⟩:=x;exact Heap.lt_size e
 | own y=>obtain ⟨_,e⟩:=x;exact Heap.lt_size e
 | xd fs=>obtain ⟨_,⟨_,_,_,e,_⟩,_⟩:=x;exact Heap.lt_size e
 | rng lo hi=>obtain ⟨_,_,_,e⟩:=x;exact Heap.lt_size e
 | frz ob u=>obtain ⟨e,_⟩:=x;exact Heap.lt_size e
 | tbl ps=>exact Heap.lt_size (show h.get? a=some _ from x)
 | met f y=>exact Heap.lt_size (show h.get? a=some _ from x)
 | ext φ=>obtain ⟨_,⟨_,e⟩,_⟩:=x;exact Heap.lt_size e
theorem Paired.mapP {α β:Type} {F G:α→β→Prop}:∀ {l₁:List α} {l₂:List β},Paired F l₁ l₂→(∀ a b,F a b→G a b)→Paired G l₁ l₂
 | _,_,.nil,_=>.nil
 | _,_,.cons r t,f=>.cons (f _ _ r) (Paired.mapP t f)
theorem ObjOk.stay (x:ObjOk P w H h a o) (k:∀ b u,(b=a∨H b=some (.own a))→h.get? b=some u→h'.get? b=some u)
  (ho:∀ b,H b=some (.own a)→H' b=some (.own a)) (ht:∀ b xs,H b=some (.tup xs)→H' b=some (.tup xs)):ObjOk P w H' h' a o:=by
 induction o with
 | lst xs=>obtain ⟨z,its,n,r,e⟩:=x;exact ⟨z,its,n,r,k _ _ (.inl rfl) e⟩
 | tup xs=>obtain ⟨z,its,r,ob,e,c⟩:=x;exact ⟨z,its,r,ob,k _ _ (.inl rfl) e,c⟩
 | dK kvs=>obtain ⟨z,y,vs,r,ob,es,ep,e,c⟩:=x;exact ⟨z,y,vs,r,ob,es,ep,k _ _ (.inl rfl) e,c⟩
 | dT kvs =>
  obtain ⟨z,y,xs,r,ob,es,ep,e,c⟩:=x;exact ⟨z,y,xs,Paired.mapP r fun p q z=>⟨z.1,ht _ _ z.2.1,z.2.2⟩,ob,es,ep,k _ _ (.inl rfl) e,c⟩
 | set S n=>obtain ⟨ob,es,ep,t,e,c⟩:=x;exact ⟨ob,es,ep,t,k _ _ (.inl rfl) e,c⟩
 | ins C dx fs =>
  obtain ⟨d,z,ne,e,mA,⟨od,es,ep,e2,c⟩,r⟩:=x;exact ⟨ho _ d,z,ne,k _ _ (.inl rfl) e,mA,⟨od,es,ep,k _ _ (.inr d) e2,c⟩,r⟩
 | own y=>obtain ⟨ob,e⟩:=x;exact ⟨ob,k _ _ (.inl rfl) e⟩
 | xd fs=>obtain ⟨mA,⟨od,es,ep,e,c⟩,r⟩:=x;exact ⟨mA,⟨od,es,ep,k _ _ (.inl rfl) e,c⟩,r⟩
 | rng lo hi=>obtain ⟨t,u,v,e⟩:=x;exact ⟨t,u,v,k _ _ (.inl rfl) e⟩
 | frz ob u ih=>obtain ⟨e,q⟩:=x;exact ⟨k _ _ (.inl rfl) e,ih q⟩
 | tbl ps =>
  have e:h.get? a=some { cls:=.none,data:=.fields ps }:=x;show h'.get? a=some { cls:=.none,data:=.fields ps };exact k a _ (.inl rfl) e
 | met f y =>
  have e:h.get? a=some (PySem.W.methodObj (.ref f) (.ref y)):=x;show h'.get? a=some (PySem.W.methodObj (.ref f) (.ref y));exact k a _ (.inl rfl) e
 | ext φ=>obtain ⟨p,⟨o,e⟩,st⟩:=x;exact ⟨st _ _ p fun o q=>k _ _ (.inl rfl) q,⟨o,k _ _ (.inl rfl) e⟩,st⟩
theorem HOk.lt (x:HOk P w H h) (e:H a=some o):a < h.objs.size:=(x a o e).lt
theorem HOk.fresh (x:HOk P w H h) (e:h.objs.size≤a):H a=none:=by
 cases q:H a with
 | none=>rfl
 | some u=>exact absurd (Nat.lt_of_lt_of_le (x.lt q) e) (Nat.lt_irrefl _)
theorem HOk.kept (x:HOk P w H h) (k:∀ b u,h.get? b=some u→h'.get? b=some u):HOk P w H h':=fun a o e =>
 (x a o e).stay (fun b u _ q=>k b u q) (fun _ q=>q) fun _ _ q=>q
theorem HOk.laid (x:HOk P w H h) (k:∀ b u,h.get? b=some u→h'.get? b=some u) (hp:h.objs.size≤a) (new:ObjOk P w (upd H a o) h' a o):HOk P w (upd H a o) h':=fun b u e=>by
 have hn:=x.fresh hp
 by_cases hb:b=a
 ·subst hb;rw [ac] at e;cases e;exact new
 ·rw [ah hb] at e;exact (x b u e).stay (fun c v _ q=>k c v q) (fun c q=>by rw [ah (ak q hn)];exact q) fun c xs q=>by rw [ah (ak q hn)];exact q
end
def Rd (H:Hp) (a:Addr) (u:HO):Prop:=H a=some u∨∃ o,H a=some (.frz o u)
theorem Rd.ok {P:Program} {w:World} {H:Hp} {h:Heap} {a:Addr} {u:HO} (r:Rd H a u) (x:HOk P w H h):ObjOk P w H h a u:=by
 rcases r with r | ⟨o,r⟩
 ·exact x a u r
 ·obtain ⟨_,q⟩:=x a _ r;exact q
def Mut:Option HO→Prop
 | some (.lst _)=>True
 | some (.dK _)=>True
 | some (.dT _)=>True
 | some (.set _ _)=>True
 | some (.ins _ _ _)=>True
 | some (.ext _)=>True
 | _=>False
section
variable {P:Program} {w:World} {H:Hp} {h h':Heap} {x e:Addr} {o':HO}
theorem HOk.write (ok:HOk P w H h) (mu:Mut (H x)) (he:e=x∨H e=some (.own x)) (k:∀ b u,b≠e→h.get? b=some u→h'.get? b=some u) (heo:∃ u,h'.get? e=some u)
  (new:ObjOk P w (upd H x o') h' x o'):HOk P w (upd H x o') h':=fun b u q=>by
 have nown:∀ c y,H c=some (.own y)→c≠x:=fun c y r z=>by subst z;rw [r] at mu;exact mu
 have ntup:∀ c xs,H c=some (.tup xs)→c≠x:=fun c xs r z=>by subst z;rw [r] at mu;exact mu
 by_cases hb:b=x
 ·subst hb;rw [ac] at q;cases q;exact new
 ·rw [ah hb] at q
  by_cases hbe:b=e
  ·have q':H b=some (.own x):=by
    rcases he with z | z
    ·exact absurd (hbe.trans z) hb
    ·rw [hbe];exact z
   rw [q] at q';cases q';obtain ⟨v,hv⟩:=heo;exact ⟨v,by rw [hbe];exact hv⟩
  ·refine (ok b u q).stay (fun c v hc r=>k c v ?_ r) (fun c r=>by rw [ah (nown c b r)];exact r) fun c xs r=>by rw [ah (ntup c xs r)];exact r
   rcases hc with rfl | hc
   ·exact hbe
   ·rintro rfl;rcases he with z | z
    ·exact nown c b hc z
    ·rw [hc] at z;cases z;exact hb rfl
end
structure Un (fs ex:List Addr) (H H':Hp) (h h':Heap):Prop where
 keep:∀ b o,h.get? b=some o→H b=none→b∉fs→b∉ex→h'.get? b=some o
 slot:∀ b o,h.get? b=some o→H b=none→b∈fs→b∉ex→∃ sl,h'.get? b=some { o with slots:=sl }
 free:∀ b o,h.get? b=some o→H b=none→b∉ex→H' b=none
 there:∀ b o,h.get? b=some o→b∉ex→∃ o',h'.get? b=some o'
 tups:∀ b xs,H b=some (.tup xs)→H' b=some (.tup xs)
 frzs:∀ b o u,H b=some (.frz o u)→H' b=some (.frz o u)
 tbls:∀ b ps,H b=some (.tbl ps)→∃ more,H' b=some (.tbl (ps++more))
section
variable {fs fs' ex ex':List Addr} {H H1 H2:Hp} {h h1 h2 h':Heap} {a x e:Addr} {o:HO}
theorem Un.any (u:Un fs ex H H1 h h1) {b:Addr} {ob:Obj} (q:h.get? b=some ob) (n:H b=none) (hx:b∉ex):∃ sl,h1.get? b=some { ob with slots:=sl }:=by
 by_cases hb:b∈fs
 ·exact u.slot b ob q n hb hx
 ·exact ⟨ob.slots,u.keep b ob q n hb hx⟩
theorem Un.kept (k:∀ b u,h.get? b=some u→h'.get? b=some u):Un fs ex H H h h' :=
 ⟨fun b ob q _ _ _=>k b ob q,fun b ob q _ _ _=>⟨ob.slots,k b ob q⟩,fun _ _ _ n _=>n,fun b ob q _=>⟨ob,k b ob q⟩,fun _ _ q=>q,fun _ _ _ q=>q,fun _ ps q=>⟨#[],by rw [q];simp⟩⟩
theorem Un.refl:Un fs ex H H h h:=Un.kept fun _ _ q=>q
theorem Un.laid (k:∀ b u,h.get? b=some u→h'.get? b=some u) (hp:h.objs.size≤a) (hn:H a=none):Un fs ex H (upd H a o) h h' where
 keep:=fun b u q _ _ _=>k b u q
 slot:=fun b u q _ _ _=>⟨u.slots,k b u q⟩
 free:=fun b u q n _=>by rw [ah (Nat.ne_of_lt (Nat.lt_of_lt_of_le (Heap.lt_size q) hp))];exact n
 there:=fun b u q _=>⟨u,k b u q⟩
 tups:=fun b xs q=>by rw [ah (ak q hn)];exact q
 frzs:=fun b u xs q=>by rw [ah (ak q hn)];exact q
 tbls:=fun b ps q=>⟨#[],by rw [ah (ak q hn),q];simp⟩
theorem Un.write (mu:Mut (H x)) (he:e=x∨H e=some (.own x)) (k:∀ b u,b≠e→h.get? b=some u→h'.get? b=some u) (heo:∃ u,h'.get? e=some u):Un fs ex H (upd H x o) h h':=by
 have hx:∀ b,H b=none→b≠x:=fun b n z=>by subst z;rw [n] at mu;exact mu
 have hb:∀ b,H b=none→b≠e:=fun b n z=>by
  subst z;rcases he with r | r
  ·exact hx b n r
  ·rw [n] at r;cases r
 have hm:∀ b u,H b=some u→¬ Mut (some u)→b≠x:=fun b u q nm z=>by subst z;rw [q] at mu;exact nm mu
 refine ⟨fun b u q n _ _=>k b u (hb b n) q,fun b u q n _ _=>⟨u.slots,k b u (hb b n) q⟩,fun b u q n _=>by rw [ah (hx b n)];exact n,fun b u q _=>?_,
  fun b xs q=>by rw [ah (hm b _ q fun z=>z)];exact q,fun b u xs q=>by rw [ah (hm b _ q fun z=>z)];exact q,fun b ps q=>⟨#[],by rw [ah (hm b _ q fun z=>z),q];simp⟩⟩
 by_cases hbe:b=e
 ·subst hbe;exact heo
 ·exact ⟨u,k b u hbe q⟩
end
def trk (h:Heap) (H:Hp):List Addr:=(List.range h.objs.size).filter fun a=>(H a).isSome
def je (h:Heap) (H:Hp):Heap:=PySem.W.hideAll h (trk h H)
theorem oR (h:Heap) (H:Hp):(je h H).objs.size=h.objs.size:=PySem.W.hideAll_size _ _
theorem pV {h:Heap} {H:Hp} {b:Addr} {o:Obj} (e:h.get? b=some o) (n:H b=none):(je h H).get? b=some o :=
 PySem.W.hideAll_get _ e fun hm=>by
  have q:(H b).isSome=true:=(List.mem_filter.mp hm).2;rw [n] at q;simp at q
theorem rX {h:Heap} {H:Hp} {b:Addr} {o:Obj} (e:(je h H).get? b=some o):h.get? b=some o∧H b=none:=by
 have e':h.get? b=some o:=PySem.W.of_hideAll (trk h H) e;refine ⟨e',?_⟩
 cases q:H b with
 | none=>rfl
 | some x =>
  have hm:b∈trk h H:=List.mem_filter.mpr ⟨List.mem_range.mpr (Heap.lt_size e'),by simp [q]⟩;have z:(je h H).get? b=none:=PySem.W.hideAll_none (trk h H) hm;rw [z] at e;cases e
def rY (g h:Heap) (L:Addr):List (Addr×Obj):=(List.range h.objs.size).filterMap fun a=>if a=L∨(g.get? a).isSome=true then none else (h.get? a).map fun o=>(a,o)
def rest (g h:Heap) (L d:Addr):List (Addr×Obj):=(rY g h L).filter fun p=>decide (p.1≠d)
structure Mod (K:PySem.W.Frag) (mg:Str→Option Value) (base:Heap):Prop where
 kin:K.In base
 glob:base.Ns mainGlobals mg
 blt:∃ mb,base.Ns builtinsNs mb∧∀ x:Str,x≠ "__name__" →mb x=bootBuiltins x
 nolimit:base.NoLimit
structure Cx where
 prog:Program
 w:World
 K:PySem.W.Frag
 mg:Str→Option Value
 base:Heap
 A:Around
 N:List Str
 s₀:Shared
 H₀:Hp
 env:Env
 outer:List Env
 stack:List Env
 ex:List Addr
 fn:Str→Bool
 calm:Bool
 pn:List (Addr×Obj)
 xe:Value→Shared→Prop
def frs (l:List Env):List Addr:=l.filterMap (·.frame)
abbrev Cx.fs (X:Cx):List Addr:=frs X.outer
def Vis (sc:Scope) (x:Str):Prop:=sc.names.lookup x=some .local∨sc.names.lookup x=some .cell∨sc.names.lookup x=some .free
def Loc (sc:Scope) (x:Str):Prop:=sc.names.lookup x=some .local∨sc.names.lookup x=some .cell
def wP (env:Env) (h:Heap) (m:Str→Option Value) (x:Str) (u:Value):Prop :=
 (env.kindOf x=some .local∧m x=some u)∨((env.kindOf x=some .cell∨env.kindOf x=some .free)∧∃ c,env.cells.lookup x=some c∧h.IsCell c (some u))
structure Cx.Ok (X:Cx):Prop where
 mod:Mod X.K X.mg X.base
 kind:X.env.scope.kind=.function
 glob:X.env.globals=mainGlobals
 blt:X.env.builtins=builtinsNs
 above:X.s₀.heap.objs.size≤X.env.locals
 inj:∀ x y c,X.env.cells.lookup x=some c→X.env.cells.lookup y=some c→x=y
 has:∀ x,(X.env.kindOf x=some .cell∨X.env.kindOf x=some .free)→∃ c,X.env.cells.lookup x=some c
 cab:∀ x c,X.fn x=true→X.env.cells.lookup x=some c→X.s₀.heap.objs.size≤c
 hd:X.calm=true→X.A.handled=none
 frames:X.A.frames=some X.stack
 stk:X.stack=X.outer∨(X.stack=X.env :: X.outer∧X.env.frame=some X.env.locals)
 exf:∀ b∈X.ex,b≠X.env.locals∧∀ x c,X.env.cells.lookup x=some c→c≠b
 bs:∀ b o,X.base.get? b=some o→X.s₀.heap.get? b=some o∧X.H₀ b=none
 bsz:X.base.objs.size≤X.s₀.heap.objs.size
 noex:∀ b o,X.base.get? b=some o→b∉X.ex
 exfs:∀ b∈X.ex,b∉X.fs
 funs:X.s₀.heap.FunFrames X.base X.outer
 frf:∀ b∈X.fs,X.H₀ b=none
structure Inv (X:Cx) (pins:List (Addr×Obj)) (σ:List (Option V)) (H:Hp) (s:Shared):Prop where
 ok:X.Ok
 os:s.os=X.s₀.os
 bare:AllBare s.gens
 base:Un X.fs X.ex X.H₀ H X.s₀.heap s.heap
 loc:∃ m,s.heap.Ns X.env.locals m∧∀ (i:Nat) (x:Str) (v:V),X.N[i]?=some x→σ[i]?=some (some v)→Vis X.env.scope x→∃ u,RelV v u∧wP X.env s.heap m x u
 cell:∀ x c,X.env.cells.lookup x=some c→∃ v,s.heap.IsCell c v
 free:H X.env.locals=none
 freeC:∀ x c,X.env.cells.lookup x=some c→H c=none
 pin:∀ p∈X.pn++pins,s.heap.get? p.1=some p.2∧H p.1=none∧p.1≠X.env.locals∧p.1∉X.fs∧∀ v,p.2.data≠.cell v
 hok:HOk X.prog X.w H s.heap
 len:σ.length=X.N.length
section
variable {X:Cx} {pins:List (Addr×Obj)} {σ:List (Option V)} {H H':Hp} {s:Shared} {h':Heap}
theorem Cx.Ok.nofr (ok:X.Ok) {b:Addr} {o:Obj} (e:X.base.get? b=some o):b∉X.fs:=fun hb=>by
 have:=(ok.funs.mem hb).1;rw [e] at this;cases this
theorem Inv.bs (I:Inv X pins σ H s):∀ b o,X.base.get? b=some o→s.heap.get? b=some o∧H b=none:=fun b o e =>
 ⟨I.base.keep b o (I.ok.bs b o e).1 (I.ok.bs b o e).2 (I.ok.nofr e) (I.ok.noex b o e),I.base.free b o (I.ok.bs b o e).1 (I.ok.bs b o e).2 (I.ok.noex b o e)⟩
theorem Inv.bk (I:Inv X pins σ H s):∀ b o,X.base.get? b=some o→s.heap.get? b=some o:=fun b o e=>(I.bs b o e).1
theorem Inv.mod (I:Inv X pins σ H s):Mod X.K X.mg X.base:=I.ok.mod
theorem Inv.kIn (I:Inv X pins σ H s):X.K.In s.heap:=I.ok.mod.kin.keeps I.bk
theorem Inv.lt (I:Inv X pins σ H s):X.env.locals < s.heap.objs.size:=let ⟨_,hn,_⟩:=I.loc;hn.lt
theorem Inv.sz (I:Inv X pins σ H s):X.s₀.heap.objs.size≤s.heap.objs.size:=Nat.le_trans I.ok.above (Nat.le_of_lt I.lt)
theorem Inv.nofs (I:Inv X pins σ H s) {a:Addr} (h:s.heap.objs.size≤a):a∉X.fs:=fun hb=>by
 obtain ⟨_,o,ho,_⟩:=I.ok.funs.mem hb;exact absurd (Nat.lt_of_lt_of_le (Heap.lt_size ho) (Nat.le_trans I.sz h)) (Nat.lt_irrefl _)
theorem Inv.cne (I:Inv X pins σ H s):∀ x c,X.env.cells.lookup x=some c→c≠X.env.locals:=fun x c e z=>by
 obtain ⟨v,o,ho,hd⟩:=I.cell x c e;obtain ⟨m,⟨o',es,ep,ho',hd',_⟩,_⟩:=I.loc;rw [z,ho'] at ho;cases ho;rw [hd'] at hd;cases hd
theorem Inv.funs (I:Inv X pins σ H s):s.heap.FunFrames X.base X.outer:=by
 have all:∀ (l:List Env),(∀ b∈frs l,b∈X.fs)→X.s₀.heap.FunFrames X.base l→s.heap.FunFrames X.base l:=by
  intro l
  induction l with
  | nil=>intro _ _;trivial
  | cons env r ih =>
   intro hs hl;obtain ⟨hk,⟨L,o,hf,hn,ho,hd⟩,hr⟩:=hl;have hL:L∈X.fs:=hs L (by unfold frs;rw [List.filterMap_cons,hf];exact List.mem_cons_self);obtain ⟨sl,e⟩:=I.base.slot L o ho (I.ok.frf L hL) hL fun z=>I.ok.exfs L z hL;exact ⟨hk,⟨L,_,hf,hn,e,hd⟩,ih (fun b hb=>hs b (by unfold frs;rw [List.filterMap_cons,hf];exact List.mem_cons_of_mem _ hb)) hr⟩
 exact all X.outer (fun _ hb=>hb) I.ok.funs
theorem Inv.stack (I:Inv X pins σ H s):s.heap.FunFrames X.base X.stack:=by
 rcases I.ok.stk with e | ⟨e,hf⟩
 ·rw [e];exact I.funs
 ·rw [e];obtain ⟨m,hn,_⟩:=I.loc;refine .cons (by rw [I.ok.kind];decide) hf hn ?_ I.funs;exact Heap.get?_none_of_le (Nat.le_trans I.ok.bsz I.ok.above)
theorem Inv.stkSub (I:Inv X pins σ H s):∀ b∈frs X.stack,b∈X.env.locals :: X.fs:=fun b hb=>by
 rcases I.ok.stk with e | ⟨e,hf⟩
 ·rw [e] at hb;exact List.mem_cons_of_mem _ hb
 ·rw [e] at hb;unfold frs at hb;rw [List.filterMap_cons,hf] at hb;exact hb
theorem Inv.stkFree (I:Inv X pins σ H s):∀ b∈frs X.stack,H b=none:=fun b hb=>by
 rcases List.mem_cons.mp (I.stkSub b hb) with e | hb
 ·rw [e];exact I.free
 ·obtain ⟨_,o,ho,_⟩:=I.ok.funs.mem hb;exact I.base.free b o ho (I.ok.frf b hb) fun z=>I.ok.exfs b z hb
theorem Inv.step {g':Array GenState} {t':Nat} {d':Drawn} {ch:List Addr} (I:Inv X pins σ H s)
  (hch:∀ b∈ch,(b∈X.ex∨X.s₀.heap.objs.size≤b)∧b≠X.env.locals∧(∀ x c,X.env.cells.lookup x=some c→c≠b)∧∀ p∈X.pn++pins,p.1≠b)
  (keep:∀ b o,b≠X.env.locals→b∉X.fs→b∉ch→s.heap.get? b=some o→H b=none→h'.get? b=some o)
  (slot:∀ b o,b≠X.env.locals→b∈X.fs→b∉ch→s.heap.get? b=some o→H b=none→∃ sl,h'.get? b=some { o with slots:=sl }) (free:∀ b o,b∉ch→s.heap.get? b=some o→H b=none→H' b=none)
  (there:∀ b o,b∉ch→s.heap.get? b=some o→∃ o',h'.get? b=some o')
  (tups:∀ b xs,H b=some (.tup xs)→H' b=some (.tup xs)) (frzs:∀ b o u,H b=some (.frz o u)→H' b=some (.frz o u)) (tbls:∀ b ps,H b=some (.tbl ps)→∃ more,H' b=some (.tbl (ps++more)))
  (ns:∀ m,s.heap.Ns X.env.locals m→h'.Ns X.env.locals m) (hok:HOk X.prog X.w H' h') (hg:AllBare g') :
  Inv X pins σ H' { s with heap:=h',gens:=g',drawn:=d',toks:=t' }:=by
 have neL:∀ b o,X.s₀.heap.get? b=some o→b≠X.env.locals:=fun b o e=>Nat.ne_of_lt (Nat.lt_of_lt_of_le (Heap.lt_size e) I.ok.above);have neC:∀ b o,X.s₀.heap.get? b=some o→b∉X.ex→b∉ch:=fun b o e hx hb=>by
  rcases (hch b hb).1 with z | z
  ·exact hx z
  ·exact absurd (Nat.lt_of_lt_of_le (Heap.lt_size e) z) (Nat.lt_irrefl _)
 have cellK:∀ x c,X.env.cells.lookup x=some c→∀ v,s.heap.IsCell c v→h'.IsCell c v:=fun x c e v ⟨o,ho,hd⟩=>by
  have nch:c∉ch:=fun z=>(hch c z).2.2.1 x c e rfl
  by_cases hc:c∈X.fs
  ·obtain ⟨sl,q⟩:=slot c o (I.cne x c e) hc nch ho (I.freeC x c e);exact ⟨_,q,hd⟩
  ·exact ⟨o,keep c o (I.cne x c e) hc nch ho (I.freeC x c e),hd⟩
 refine ⟨I.ok,I.os,hg,⟨fun b o e n hb hx=>?_,fun b o e n hb hx=>?_,fun b o e n hx=>?_,fun b o e hx=>?_,fun b xs e=>tups b xs (I.base.tups b xs e),fun b o xs e=>frzs b o xs (I.base.frzs b o xs e),fun b ps e=>?_⟩,?_,fun x c e=>?_,?_,fun x c e=>?_,fun p hp=>?_,hok,I.len⟩
 ·exact keep b o (neL b o e) hb (neC b o e hx) (I.base.keep b o e n hb hx) (I.base.free b o e n hx)
 ·obtain ⟨sl,e1⟩:=I.base.slot b o e n hb hx;obtain ⟨sl',e2⟩:=slot b _ (neL b o e) hb (neC b o e hx) e1 (I.base.free b o e n hx);exact ⟨sl',e2⟩
 ·obtain ⟨o',e1⟩:=I.base.there b o e hx;exact free b o' (neC b o e hx) e1 (I.base.free b o e n hx)
 ·obtain ⟨o',e1⟩:=I.base.there b o e hx;exact there b o' (neC b o e hx) e1
 ·obtain ⟨m1,e1⟩:=I.base.tbls b ps e;obtain ⟨m2,e2⟩:=tbls b _ e1;exact ⟨m1++m2,by rw [e2,Array.append_assoc]⟩
 ·obtain ⟨m,hn,hl⟩:=I.loc;refine ⟨m,ns m hn,fun i x v e1 e2 e3=>?_⟩;obtain ⟨u,r,l⟩:=hl i x v e1 e2 e3;refine ⟨u,r,?_⟩;rcases l with l | ⟨k,c,e,z⟩
  ·exact .inl l
  ·exact .inr ⟨k,c,e,cellK x c e _ z⟩
 ·obtain ⟨v,z⟩:=I.cell x c e;exact ⟨v,cellK x c e v z⟩
 ·obtain ⟨m,⟨o,_,_,ho,_⟩,_⟩:=I.loc;exact free _ o (fun z=>(hch _ z).2.1 rfl) ho I.free
 ·obtain ⟨v,o,ho,hd⟩:=I.cell x c e;exact free c o (fun z=>(hch c z).2.2.1 x c e rfl) ho (I.freeC x c e)
 ·obtain ⟨e,n,ne,nf,d⟩:=I.pin p hp;have nch:p.1∉ch:=fun z=>(hch p.1 z).2.2.2 p hp rfl;exact ⟨keep p.1 p.2 ne nf nch e n,free p.1 p.2 nch e n,ne,nf,d⟩
theorem Inv.un {t':Nat} (I:Inv X pins σ H s) (u:Un X.fs [] H H' s.heap h') (hok:HOk X.prog X.w H' h'):Inv X pins σ H' { s with heap:=h',toks:=t' }:=by
 obtain ⟨m,⟨o,es,ep,ho,r⟩,_⟩:=id I.loc;obtain ⟨sl,hL⟩:=u.any ho I.free (by simp);exact I.step (g':=s.gens) (d':=s.drawn) (ch:=[]) (fun _ z=>nomatch z) (fun b o _ hb _ e n=>u.keep b o e n hb (by simp)) (fun b o _ hb _ e n=>u.slot b o e n hb (by simp)) (fun b o _ e n=>u.free b o e n (by simp)) (fun b o _ e=>u.there b o e (by simp)) u.tups u.frzs u.tbls (fun m' hm=>by
  obtain ⟨o',es',ep',ho',r'⟩:=hm;rw [ho] at ho';cases ho';exact ⟨_,es',ep',hL,r'⟩) hok I.bare
theorem Inv.call {g':Array GenState} {t':Nat} {d':Drawn} {ch:List Addr} (I:Inv X pins σ H s) (u:Un (frs X.stack) ch H H' s.heap h') (hok:HOk X.prog X.w H' h') (hg:AllBare g')
  (hch:∀ b∈ch,(b∈X.ex∨X.s₀.heap.objs.size≤b)∧b≠X.env.locals∧(∀ x c,X.env.cells.lookup x=some c→c≠b)∧∀ p∈X.pn++pins,p.1≠b) :
  Inv X pins σ H' { s with heap:=h',gens:=g',drawn:=d',toks:=t' }:=by
 obtain ⟨m,⟨o,es,ep,ho,r⟩,_⟩:=id I.loc;obtain ⟨sl,hL⟩:=u.any ho I.free fun z=>(hch _ z).2.1 rfl;exact I.step (ch:=ch) hch (fun b o hL hb hc e n=>u.keep b o e n (fun z=>(List.mem_cons.mp (I.stkSub b z)).elim hL hb) hc) (fun b o _ _ hc e n=>u.any e n hc) (fun b o hc e n=>u.free b o e n hc) (fun b o hc e=>u.there b o e hc) u.tups u.frzs u.tbls (fun m' hm=>by
  obtain ⟨o',es',ep',ho',r'⟩:=hm;rw [ho] at ho';cases ho';exact ⟨_,es',ep',hL,r'⟩) hok hg
theorem Inv.turned {t':Nat} {it:Addr} (I:Inv X pins σ H s) (k:∀ b o,b≠it→s.heap.get? b=some o→h'.get? b=some o) (hn:H it=none) (hL:it≠X.env.locals)
  (h1:it∈X.ex∨X.s₀.heap.objs.size≤it) (h2:∀ x c,X.env.cells.lookup x=some c→c≠it) (h3:∀ p∈X.pn++pins,p.1≠it):Inv X pins σ H { s with heap:=h',toks:=t' }:=by
 have nit:∀ b u,H b=some u→b≠it:=fun b u e z=>by rw [z,hn] at e;cases e
 refine I.step (g':=s.gens) (d':=s.drawn) (ch:=[it]) (fun b hb=>?_) (fun b o _ _ hc e _=>k b o (fun z=>hc (by simp [z])) e) (fun b o _ _ hc e _=>⟨o.slots,k b o (fun z=>hc (by simp [z])) e⟩) (fun _ _ _ _ n=>n)
  (fun b o hc e=>⟨o,k b o (fun z=>hc (by simp [z])) e⟩) (fun _ _ e=>e) (fun _ _ _ e=>e) (fun b ps e=>⟨#[],by rw [e];simp⟩) (fun m hm=>?_) (fun b u e=>?_) I.bare
 ·have e:b=it:=by simpa using hb
  subst e;exact ⟨h1,hL,h2,h3⟩
 ·obtain ⟨o,es,ep,ho,r⟩:=hm;exact ⟨o,es,ep,k _ o (Ne.symm hL) ho,r⟩
 ·refine (I.hok b u e).stay (fun c v hc q=>k c v ?_ q) (fun _ q=>q) fun _ _ q=>q;rcases hc with z | z
  ·rw [z];exact nit b u e
  ·exact nit c _ z
theorem Inv.tok (I:Inv X pins σ H s) (t:Nat):Inv X pins σ H { s with toks:=t }:=I.un (h':=s.heap) (t':=t) Un.refl I.hok
theorem Inv.kept {t':Nat} (I:Inv X pins σ H s) (k:∀ b u,s.heap.get? b=some u→h'.get? b=some u):Inv X pins σ H { s with heap:=h',toks:=t' }:=I.un (Un.kept k) (I.hok.kept k)
theorem Inv.laid {a:Addr} {o:HO} {t':Nat} (I:Inv X pins σ H s) (k:∀ b u,s.heap.get? b=some u→h'.get? b=some u) (hp:s.heap.objs.size≤a) (new:ObjOk X.prog X.w (upd H a o) h' a o) :
  Inv X pins σ (upd H a o) { s with heap:=h',toks:=t' }:=I.un (Un.laid k hp (I.hok.fresh hp)) (I.hok.laid k hp new)
theorem Inv.write {x e:Addr} {o:HO} {t':Nat} (I:Inv X pins σ H s) (mu:Mut (H x)) (he:e=x∨H e=some (.own x)) (k:∀ b u,b≠e→s.heap.get? b=some u→h'.get? b=some u) (heo:∃ u,h'.get? e=some u)
  (new:ObjOk X.prog X.w (upd H x o) h' x o):Inv X pins σ (upd H x o) { s with heap:=h',toks:=t' }:=I.un (Un.write mu he k heo) (I.hok.write mu he k heo new)
theorem Inv.pins_of {pins':List (Addr×Obj)} (I:Inv X pins σ H s) (h:∀ p∈pins',s.heap.get? p.1=some p.2∧H p.1=none∧p.1≠X.env.locals∧p.1∉X.fs∧∀ v,p.2.data≠.cell v):Inv X pins' σ H s :=
 ⟨I.ok,I.os,I.bare,I.base,I.loc,I.cell,I.free,I.freeC,fun p hp=>(List.mem_append.mp hp).elim (fun z=>I.pin p (List.mem_append_left _ z)) (h p),I.hok,I.len⟩
theorem kD {N:List Str} (hN:N.Nodup) {i j:Nat} {x:Str} (a:N[i]?=some x) (b:N[j]?=some x):i=j:=by
 obtain ⟨h1,e1⟩:=List.getElem?_eq_some_iff.mp a;obtain ⟨h2,e2⟩:=List.getElem?_eq_some_iff.mp b;exact (List.getElem_inj hN).mp (e1.trans e2.symm)
theorem iH {M:Model} {A:Around} {E:Value→Shared→Prop} {i:Nat} {x:Str} {v:V} {u:Value} {Q:Unit→Shared→Prop} (I:Inv X pins σ H s) (hN:X.N.Nodup) (hi:X.N[i]?=some x) (hx:Loc X.env.scope x) (r:RelV v u)
  (h:∀ s',Inv X pins (σ.set i (some v)) H s'→(∃ a,Heap.SameBut a s.heap s'.heap∧(a=X.env.locals∨X.env.cells.lookup x=some a))→Q () s') (hf:X.fn x=true∨X.env.scope.names.lookup x=some .local:=by first | exact .inl rfl | exact .inr rfl | assumption):wpAny M A (storeName X.env x u) Q E s:=by
 obtain ⟨m,hn,hl⟩:=id I.loc;have hcls:(X.env.scope.kind == .class || (X.env.scope.kind == .module && X.env.locals != X.env.globals))=false:=by rw [I.ok.kind];rfl
 have hiσ:i < σ.length:=by rw [I.len];exact (List.getElem?_eq_some_iff.mp hi).1
 have cne:=I.cne;have tracked:∀ {a:Addr} {h':Heap},(∃ o,s.heap.get? a=some o∧H a=none)→Heap.SameBut a s.heap h'→HOk X.prog X.w H h':=fun {a h'} ha hs b ob e=>by
  obtain ⟨_,_,hfree⟩:=ha;refine (I.hok b ob e).stay (fun c w' hc q=>(hs.2 c ?_).trans q) (fun _ q=>q) fun _ _ q=>q;rintro rfl;rcases hc with rfl | hc
  ·rw [hfree] at e;cases e
  ·rw [hfree] at hc;cases hc
 rcases hx with hk | hk
 ·refine wpAny_storeName_local hk hn (fun h' hn' hs=>?_) hcls;obtain ⟨oL,_,_,hoL,_⟩:=id hn;refine h _ ⟨I.ok,I.os,I.bare,⟨fun b o e n hb hx=>?_,fun b o e n hb hx=>?_,I.base.free,fun b o e hx=>?_,I.base.tups,I.base.frzs,I.base.tbls⟩,⟨_,hn',fun j y v' e1 e2 e3=>?_⟩,fun y c e=>?_,I.free,I.freeC,fun p hp=>?_,tracked ⟨oL,hoL,I.free⟩ hs,by simpa using I.len⟩ ⟨_,hs,.inl rfl⟩
  ·exact (hs.2 b (Nat.ne_of_lt (Nat.lt_of_lt_of_le (Heap.lt_size e) I.ok.above))).trans (I.base.keep b o e n hb hx)
  ·obtain ⟨sl,e1⟩:=I.base.slot b o e n hb hx;exact ⟨sl,(hs.2 b (Nat.ne_of_lt (Nat.lt_of_lt_of_le (Heap.lt_size e) I.ok.above))).trans e1⟩
  ·obtain ⟨o',e1⟩:=I.base.there b o e hx;exact ⟨o',(hs.2 b (Nat.ne_of_lt (Nat.lt_of_lt_of_le (Heap.lt_size e) I.ok.above))).trans e1⟩
  ·by_cases hj:j=i
   ·subst hj;rw [hi] at e1;cases e1;rw [List.getElem?_set_self hiσ] at e2
    cases e2
    exact ⟨u,r,.inl ⟨hk,by simp⟩⟩
   ·rw [List.getElem?_set_ne (Ne.symm hj)] at e2;obtain ⟨u',r',q⟩:=hl j y v' e1 e2 e3;refine ⟨u',r',?_⟩;rcases q with ⟨k,e⟩ | ⟨k,c,e,z⟩
    ·refine .inl ⟨k,?_⟩;have:y≠x:=fun e=>hj (kD hN e1 (e ▸ hi));simp [this,e]
    ·exact .inr ⟨k,c,e,z.sameBut hs (cne y c e)⟩
  ·obtain ⟨w',z⟩:=I.cell y c e;exact ⟨w',z.sameBut hs (cne y c e)⟩
  ·obtain ⟨e,n,ne,nf,d⟩:=I.pin p hp;exact ⟨(hs.2 p.1 ne).trans e,n,ne,nf,d⟩
 ·have hfn:X.fn x=true:=by
   rcases hf with z | z
   ·exact z
   ·rw [z] at hk;cases hk
  obtain ⟨c,hc⟩:=I.ok.has x (.inl hk);obtain ⟨w',z⟩:=I.cell x c hc;refine wpAny_storeName_cell I.ok.kind hk hc z (fun h' hc' hs=>?_);obtain ⟨oc,hoc,hocd⟩:=id z;refine h { s with heap:=h' } ⟨I.ok,I.os,I.bare,⟨fun b o e n hb hx=>?_,fun b o e n hb hx=>?_,I.base.free,fun b o e hx=>?_,I.base.tups,I.base.frzs,I.base.tbls⟩,⟨m,hn.sameBut hs (Ne.symm (cne x c hc)),fun j y v' e1 e2 e3=>?_⟩,fun y c' e=>?_,I.free,I.freeC,fun p hp=>?_,tracked ⟨oc,hoc,I.freeC x c hc⟩ hs,by simpa using I.len⟩ ⟨c,hs,.inr hc⟩
  ·exact (hs.2 b (Nat.ne_of_lt (Nat.lt_of_lt_of_le (Heap.lt_size e) (I.ok.cab x c hfn hc)))).trans (I.base.keep b o e n hb hx)
  ·obtain ⟨sl,e1⟩:=I.base.slot b o e n hb hx;exact ⟨sl,(hs.2 b (Nat.ne_of_lt (Nat.lt_of_lt_of_le (Heap.lt_size e) (I.ok.cab x c hfn hc)))).trans e1⟩
  ·obtain ⟨o',e1⟩:=I.base.there b o e hx;exact ⟨o',(hs.2 b (Nat.ne_of_lt (Nat.lt_of_lt_of_le (Heap.lt_size e) (I.ok.cab x c hfn hc)))).trans e1⟩
  ·by_cases hj:j=i
   ·subst hj;rw [hi] at e1;cases e1;rw [List.getElem?_set_self hiσ] at e2
    cases e2
    exact ⟨u,r,.inr ⟨.inl hk,c,hc,hc'⟩⟩
   ·rw [List.getElem?_set_ne (Ne.symm hj)] at e2;obtain ⟨u',r',q⟩:=hl j y v' e1 e2 e3;refine ⟨u',r',?_⟩;rcases q with q | ⟨k,c',e,z'⟩
    ·exact .inl q
    ·refine .inr ⟨k,c',e,z'.sameBut hs ?_⟩;rintro rfl;exact hj (kD hN e1 (I.ok.inj _ _ _ e hc ▸ hi))
  ·by_cases hcc:c'=c
   ·subst hcc;exact ⟨_,hc'⟩
   ·obtain ⟨w2,z2⟩:=I.cell y c' e;exact ⟨w2,z2.sameBut hs hcc⟩
  ·obtain ⟨e,n,ne,nf,d⟩:=I.pin p hp;refine ⟨(hs.2 p.1 ?_).trans e,n,ne,nf,d⟩;intro q;rw [q,hoc] at e;have q':oc=p.2:=Option.some.inj e;exact d w' (by rw [← q'];exact hocd)
theorem kE {M:Model} {A:Around} {E:Value→Shared→Prop} {i:Nat} {x:Str} {v:V} {u:Value} {Q:Unit→Shared→Prop} (I:Inv X pins σ H s) (hN:X.N.Nodup) (hi:X.N[i]?=some x) (hx:Loc X.env.scope x) (r:RelV v u)
  (h:∀ s',Inv X pins (σ.set i (some v)) H s'→Q () s') (hf:X.fn x=true∨X.env.scope.names.lookup x=some .local:=by first | exact .inl rfl | exact .inr rfl | assumption):wpAny M A (storeName X.env x u) Q E s :=
 iH I hN hi hx r (fun s' I' _=>h s' I') hf
theorem Inv.call' {s':Shared} {ch:List Addr} (I:Inv X pins σ H s) (ho:s'.os=s.os) (u:Un (frs X.stack) ch H H' s.heap s'.heap) (hok:HOk X.prog X.w H' s'.heap) (hg:AllBare s'.gens)
  (hch:∀ b∈ch,(b∈X.ex∨X.s₀.heap.objs.size≤b)∧b≠X.env.locals∧(∀ x c,X.env.cells.lookup x=some c→c≠b)∧∀ p∈X.pn++pins,p.1≠b):Inv X pins σ H' s':=by
 obtain ⟨h',g',d',t',o'⟩:=s';have e:o'=s.os:=ho;subst e;exact I.call (g':=g') (t':=t') (d':=d') u hok hg hch
end
abbrev XK:=Value→Option Addr→Hp→Prop
abbrev St:=List (Option V)
abbrev VK:=V→Hp→Prop
abbrev TE:=St→Hp→VK→Prop
abbrev TT:=St→Hp→(Bool→Hp→Prop)→Prop
abbrev TA:=St→Hp→(List V→Hp→Prop)→Prop
structure Ends where
 nx:St→Hp→Prop
 rt:VK
 bk:St→Hp→Prop:=fun _ _=>False
 ct:St→Hp→Prop:=fun _ _=>False
abbrev TS:=Ends→St→Hp→Prop
def EP (X:Cx) (pins:List (Addr×Obj)) (σ:St) (Q:VK) (u:Value) (s':Shared):Prop:=∃ v H',Inv X pins σ H' s'∧RelV v u∧Q v H'
def TP (X:Cx) (pins:List (Addr×Obj)) (σ:St) (Q:Bool→Hp→Prop) (b:Bool) (s':Shared):Prop:=∃ H',Inv X pins σ H' s'∧Q b H'
def AP (X:Cx) (pins:List (Addr×Obj)) (σ:St) (Q:List V→Hp→Prop) (us:List Value) (s':Shared):Prop:=∃ vs H',Inv X pins σ H' s'∧Vals vs us∧Q vs H'
def SP (X:Cx) (pins:List (Addr×Obj)) (D:Ends) (f:Flow) (s':Shared):Prop :=
 match f with
 | .next=>∃ σ' H',Inv X pins σ' H' s'∧D.nx σ' H'
 | .brk=>∃ σ' H',Inv X pins σ' H' s'∧D.bk σ' H'
 | .cont=>∃ σ' H',Inv X pins σ' H' s'∧D.ct σ' H'
 | .ret u=>∃ v σ' H',Inv X pins σ' H' s'∧RelV v u∧D.rt v H'
def PE (X:Cx) (e:Expr) (t:TE):Prop :=
 ∀ (pins:List (Addr×Obj)) (s:Shared) (σ:St) (H:Hp) (Q:VK),Inv X pins σ H s→t σ H Q→wpAny (model X.prog X.w) X.A (eval e X.env) (EP X pins σ Q) X.xe s
def PT (X:Cx) (e:Expr) (t:TT):Prop :=
 ∀ (pins:List (Addr×Obj)) (s:Shared) (σ:St) (H:Hp) (Q:Bool→Hp→Prop),Inv X pins σ H s→t σ H Q→wpAny (model X.prog X.w) X.A (isTrue e X.env (eval e X.env)) (TP X pins σ Q) X.xe s
def PW (X:Cx) (e:Expr) (t:TT):Prop :=
 ∀ (whole:Sem Value) (pins:List (Addr×Obj)) (s:Shared) (σ:St) (H:Hp) (Q:Bool→Hp→Prop),Inv X pins σ H s→t σ H Q→wpAny (model X.prog X.w) X.A (isTrue e X.env whole) (TP X pins σ Q) X.xe s
theorem PW.pt {X:Cx} {e:Expr} {t:TT} (h:PW X e t):PT X e t:=h _
def PA (X:Cx) (es:List Expr) (t:TA):Prop :=
 ∀ (pos:Pos) (pins:List (Addr×Obj)) (s:Shared) (σ:St) (H:Hp) (Q:List V→Hp→Prop),Inv X pins σ H s→t σ H Q→wpAny (model X.prog X.w) X.A (spliced (backTo pos (starEach es X.env))) (AP X pins σ Q) X.xe s
def PS (X:Cx) (st:Stmt) (t:TS):Prop :=
 ∀ (pins:List (Addr×Obj)) (s:Shared) (σ:St) (H:Hp) (D:Ends),Inv X pins σ H s→t D σ H→wpAny (model X.prog X.w) X.A (exec st X.env) (SP X pins D) X.xe s
def PSs (X:Cx) (st:List Stmt) (t:TS):Prop :=
 ∀ (pins:List (Addr×Obj)) (s:Shared) (σ:St) (H:Hp) (D:Ends),Inv X pins σ H s→t D σ H→wpAny (model X.prog X.w) X.A (execs st X.env) (SP X pins D) X.xe s
theorem thn {α:Type} {t:Sem α} {Q Q':α→Shared→Prop} {M:Model} {A:Around} {E:Value→Shared→Prop} {s:Shared} (h:wpAny M A t Q E s) (hQ:∀ a s,Q a s→Q' a s):wpAny M A t Q' E s:=wpAny_mono h hQ fun _ _ x=>x
section
variable {X:Cx}
inductive IVar (i:Nat) (σ:St) (H:Hp) (Q:VK):Prop
 | mk (v:V):(σ[i]?=some (some v))→(Q v H)→IVar i σ H Q
def oS (i:Nat):TE:=fun σ H Q=>IVar i σ H Q
def tC (v:V):TE:=fun _ H Q=>Q v H
theorem uq {i:Nat} {x:Str} {pos:Pos} (hN:X.N[i]?=some x) (hv:Vis X.env.scope x) (hd:(x == ("__debug__" : Str))=false:=by decide) (hcd:(x == ("__classdict__" : Str))=false:=by decide):PE X (.Name x pos) (oS i):=by
 intro pins s σ H Q I h;obtain ⟨v,e,h⟩:=h;obtain ⟨m,hn,hl⟩:=I.loc;obtain ⟨u,r,l⟩:=hl i x v hN e hv;have fin:EP X pins σ Q u s:=⟨v,H,I,r,h⟩;rcases l with ⟨hk,hm⟩ | ⟨hk,c,hc,hcell⟩
 ·exact wpAny_Name (wpAny_loadName_local I.ok.kind hk hn hm fin) hd
 ·rcases hk with hk | hk
  ·exact wpAny_Name (wpAny_loadName_cell I.ok.kind hk hc hcell fin) hd
  ·exact wpAny_Name (wpAny_loadName_free I.ok.kind hk hc hcell fin hcd) hd
theorem pe_int {i j pos}:PE X (.Constant (.int i) j pos) (tC (.int i)):=fun _ _ _ H _ I h=>wpAny_Constant_int ⟨.int i,H,I.tok _,⟨_,rfl⟩,h⟩
theorem pe_bl {b j pos}:PE X (.Constant (.bool b) j pos) (tC (.bl b)):=fun _ _ _ H _ I h=>Constant_bool ⟨.bl b,H,I,rfl,h⟩
theorem pe_non {j pos}:PE X (.Constant .none j pos) (tC .non):=fun _ _ _ H _ I h=>Constant_none ⟨.non,H,I,rfl,h⟩
theorem pe_str {x j pos}:PE X (.Constant (.str x) j pos) (tC (.str x)):=fun _ _ _ H _ I h=>Calls.Constant_str ⟨.str x,H,I.tok _,⟨_,rfl⟩,h⟩
def Gl (X:Cx) (x:Str):Prop:=X.env.kindOf x=some .globalImplicit
theorem er {E:Value→Shared→Prop} {pins:List (Addr×Obj)} {s:Shared} {σ:St} {H:Hp} {x:Str} {u:Value} {pos:Pos} {Q:Value→Shared→Prop} (I:Inv X pins σ H s) (hg:Gl X x) (hm:X.mg x=some u) (h:Q u s)
  (hd:(x == ("__debug__" : Str))=false:=by decide):wpAny (model X.prog X.w) X.A (eval (.Name x pos) X.env) Q E s :=
 Calls.Name_function_global I.ok.kind hg (Calls.loadGlobal_global (by rw [I.ok.glob];exact I.mod.glob.keeps I.bk) hm h) hd
theorem bG {E:Value→Shared→Prop} {pins:List (Addr×Obj)} {s:Shared} {σ:St} {H:Hp} {x:Str} {u:Value} {pos:Pos} {Q:Value→Shared→Prop} (I:Inv X pins σ H s) (hg:Gl X x) (hm:X.mg x=none) (hv:bootBuiltins x=some u) (h:Q u s)
  (hn:x≠ "__name__" :=by decide) (hd:(x == ("__debug__" : Str))=false:=by decide):wpAny (model X.prog X.w) X.A (eval (.Name x pos) X.env) Q E s:=by
 obtain ⟨mb,h1,h2⟩:=I.mod.blt;exact Calls.Name_function_global I.ok.kind hg (Calls.loadGlobal_builtin (by rw [I.ok.glob];exact I.mod.glob.keeps I.bk) hm (by rw [I.ok.blt];exact h1.keeps I.bk) ((h2 x hn).trans hv) h) hd
theorem nM {x:Str} {v:V} {u:Value} {pos:Pos} (hg:Gl X x) (hm:X.mg x=some u) (r:RelV v u) (hd:(x == ("__debug__" : Str))=false:=by decide):PE X (.Name x pos) (tC v) :=
 fun _ _ _ H _ I h=>er I hg hm ⟨v,H,I,r,h⟩ hd
theorem rZ {x:Str} {v:V} {u:Value} {pos:Pos} (hg:Gl X x) (hm:X.mg x=none) (hv:bootBuiltins x=some u) (r:RelV v u) (hn:x≠ "__name__" :=by decide) (hd:(x == ("__debug__" : Str))=false:=by decide):PE X (.Name x pos) (tC v) :=
 fun _ _ _ H _ I h=>bG I hg hm hv ⟨v,H,I,r,h⟩ hn hd
variable {a b:Expr} {ta tb:TE} {pos:Pos}
def tB (t:TE):TT:=fun σ H Q=>t σ H fun x H1=>∃ c,x=.bl c∧Q c H1
theorem pt_val {e:Expr} {t:TE} (h:PE X e t) (he:∀ whole,isTrue e X.env whole=(do let v ← whole;standAt e.pos;holding [v] (truthy v)):=by intro _;rfl):PT X e (tB t):=by
 intro pins s σ H Q I hw;refine isTrue_plain (thn (h pins s σ H _ I hw) fun v s1 ⟨x,H1,I1,r1,q1⟩=>?_) (he _);obtain ⟨d,rfl,q⟩:=q1
 cases r1
 exact wpAny_truthy_bool ⟨H1,I1,q⟩
variable {tA tB':TT} {rest:List Expr}
def wQ (t u:TT):TT:=fun σ H Q=>t σ H fun c H1=>if c=true then u σ H1 Q else Q false H1
def tOr (t u:TT):TT:=fun σ H Q=>t σ H fun c H1=>if c=true then Q true H1 else u σ H1 Q
def wR (t:TT):TT:=fun σ H Q=>t σ H fun c H1=>Q (!c) H1
theorem pw_and1 (ha:PT X a tA):PW X (.BoolOp .And [a] pos) tA:=by
 intro wh pins s σ H Q I h;refine isTrue_and (thn (ha pins s σ H Q I h) fun c s1 e=>?_)
 cases c with
 | true=>exact isTrue_and_nil e
 | false=>exact e
theorem pw_or1 (ha:PT X a tA):PW X (.BoolOp .Or [a] pos) tA:=by
 intro wh pins s σ H Q I h;refine isTrue_or (thn (ha pins s σ H Q I h) fun c s1 e=>?_)
 cases c with
 | false=>exact isTrue_or_nil e
 | true=>exact e
theorem pw_and (ha:PT X a tA) (hb:PW X (.BoolOp .And (b :: rest) pos) tB'):PW X (.BoolOp .And (a :: b :: rest) pos) (wQ tA tB'):=by
 intro wh pins s σ H Q I h;refine isTrue_and (thn (ha pins s σ H _ I h) fun c s1 ⟨H1,I1,q1⟩=>?_)
 cases c with
 | true=>exact hb wh pins s1 σ H1 Q I1 q1
 | false=>exact ⟨H1,I1,q1⟩
theorem pw_or (ha:PT X a tA) (hb:PW X (.BoolOp .Or (b :: rest) pos) tB'):PW X (.BoolOp .Or (a :: b :: rest) pos) (tOr tA tB'):=by
 intro wh pins s σ H Q I h;refine isTrue_or (thn (ha pins s σ H _ I h) fun c s1 ⟨H1,I1,q1⟩=>?_)
 cases c with
 | true=>exact ⟨H1,I1,q1⟩
 | false=>exact hb wh pins s1 σ H1 Q I1 q1
theorem pt_not (ha:PT X a tA):PT X (.UnaryOp .Not a pos) (wR tA):=by
 intro pins s σ H Q I h;exact isTrue_not (ha pins s σ H (fun c H1=>Q (!c) H1) I h)
def vH (ta tb:TE):TE:=fun σ H Q=>ta σ H fun x H1=>∃ c,x=.bl c∧if c=true then tb σ H1 Q else Q (.bl false) H1
def vI (ta:TE):TE:=fun σ H Q=>ta σ H fun x H1=>∃ c,x=.bl c∧Q (.bl (!c)) H1
theorem pe_one {op} {t:TE} (h:PE X a t):PE X (.BoolOp op [a] pos) t:=fun pins s σ H Q I hw=>BoolOp_one (h pins s σ H Q I hw)
theorem pe_and (ha:PE X a ta) (hb:PE X (.BoolOp .And (b :: rest) pos) tb):PE X (.BoolOp .And (a :: b :: rest) pos) (vH ta tb):=by
 intro pins s σ H Q I h;refine BoolOp_and (thn (ha pins s σ H _ I h) fun v s1 ⟨x,H1,I1,r1,q1⟩=>?_);obtain ⟨c,rfl,q1⟩:=q1
 cases r1
 refine wpAny_truthy_bool ?_
 cases c with
 | true=>exact hb pins s1 σ H1 Q I1 q1
 | false=>exact ⟨.bl false,H1,I1,rfl,q1⟩
theorem ur (ha:PE X a ta):PE X (.UnaryOp .Not a pos) (vI ta):=by
 intro pins s σ H Q I h;refine UnaryOp_ (thn (ha pins s σ H _ I h) fun v s1 ⟨x,H1,I1,r1,q1⟩=>?_);obtain ⟨c,rfl,q1⟩:=q1
 cases r1
 exact not_of (wpAny_truthy_bool ⟨.bl (!c),H1,I1,rfl,q1⟩)
def tIf (t:TT) (ta tb:TE):TE:=fun σ H Q=>t σ H fun c H1=>if c=true then ta σ H1 Q else tb σ H1 Q
theorem gq {c:Expr} (hc:PT X c tA) (ha:PE X a ta) (hb:PE X b tb):PE X (.IfExp c a b pos) (tIf tA ta tb):=by
 intro pins s σ H Q I h;refine wpAny_IfExp (thn (hc pins s σ H _ I h) fun d s1 ⟨H1,I1,q1⟩=>?_)
 cases d with
 | true=>exact ha pins s1 σ H1 Q I1 q1
 | false=>exact hb pins s1 σ H1 Q I1 q1
end
def SqL (K:PySem.W.Frag) (H:Hp) (a:Addr) (xs:List V):Prop :=
 Rd H a (.lst xs) ∨
  ∃ (o:Obj) (its:Array Value) (n:Nat),K.lookup a=some o∧o.cls=.type "list" ∧o.dict=none∧o.data=.seq its n∧its.size≤sizeLine∧Vals xs its.toList
def SqT (K:PySem.W.Frag) (H:Hp) (a:Addr) (xs:List V):Prop :=
 Rd H a (.tup xs) ∨
  ∃ (o:Obj) (its:Array Value) (n:Nat),K.lookup a=some o∧o.cls=.type "tuple" ∧o.data=.seq its n∧its.size≤sizeLine∧Vals xs its.toList
def wS:Value→Option V
 | .none=>some .non
 | .bool b=>some (.bl b)
 | .int i _=>some (.int i)
 | .str x _=>some (.str x)
 | .bytes b _=>some (.byt b)
 | .float b _=>some (.flt b)
 | .ref a=>some (.ref a)
 | .type n=>some (.ty n)
 | _=>none
theorem RelV.abs {x:V} {u:Value} (r:RelV x u):wS u=some x:=by
 cases x with
 | non=>cases r;rfl
 | bl _=>cases r;rfl
 | int _=>obtain ⟨t,rfl⟩:=r;rfl
 | str _=>obtain ⟨t,rfl⟩:=r;rfl
 | byt _=>obtain ⟨t,rfl⟩:=r;rfl
 | flt _=>obtain ⟨t,rfl⟩:=r;rfl
 | ref _=>cases r;rfl
 | ty _=>cases r;rfl
theorem RelV.inj {x y:V} {u:Value} (r:RelV x u) (q:RelV y u):x=y:=Option.some.inj (r.abs.symm.trans q.abs)
theorem Vals.inj:∀ {xs ys:List V} {us:List Value},Vals xs us→Vals ys us→xs=ys
 | _,_,_,.nil,.nil=>rfl
 | _,_,_,.cons r t,.cons r' t'=>by rw [r.inj r',Vals.inj t t']
section
variable {X:Cx} {pins:List (Addr×Obj)} {σ:St} {H:Hp} {s:Shared} {a:Addr} {xs ys:List V}
theorem SqL.of {K:PySem.W.Frag} (h:H a=some (.lst xs)):SqL K H a xs:=.inl (.inl h)
theorem Inv.list (I:Inv X pins σ H s) (h:SqL X.K H a xs):∃ its:List Value,Vals xs its∧PlainL s.heap a its.toArray∧xs.length≤sizeLine:=by
 rcases h with h | ⟨o,its,n,hk,hc,hd,hs,hz,r⟩
 ·obtain ⟨z,its,n,r,e⟩:=h.ok I.hok;exact ⟨its,r,⟨_,n,e,rfl,rfl,rfl⟩,z⟩
 ·refine ⟨its.toList,r,⟨o,n,I.kIn a o hk,hc,hd,by simpa using hs⟩,?_⟩;have e:=r.length;simp only [Array.length_toList] at e;lia
theorem Inv.tuple (I:Inv X pins σ H s) (h:SqT X.K H a xs):∃ its:List Value,Vals xs its∧IsTup s.heap a its.toArray∧xs.length≤sizeLine:=by
 rcases h with h | ⟨o,its,n,hk,hc,hs,hz,r⟩
 ·obtain ⟨z,its,r,p⟩:=h.ok I.hok;exact ⟨its,r,p,z⟩
 ·refine ⟨its.toList,r,⟨o,I.kIn a o hk,hc,n,by simpa using hs⟩,?_⟩;have e:=r.length;simp only [Array.length_toList] at e;lia
theorem Inv.list_inj (I:Inv X pins σ H s) (h:SqL X.K H a xs) (h':SqL X.K H a ys):xs=ys:=by
 obtain ⟨its,r,⟨o,n,e,_,_,d⟩,_⟩:=I.list h;obtain ⟨its',r',⟨o',n',e',_,_,d'⟩,_⟩:=I.list h';rw [e] at e';cases e';rw [d] at d';injection d' with d1 _
 have:its=its':=by simpa using congrArg Array.toList d1
 subst this;exact r.inj r'
theorem Inv.tuple_inj (I:Inv X pins σ H s) (h:SqT X.K H a xs) (h':SqT X.K H a ys):xs=ys:=by
 obtain ⟨its,r,⟨o,e,_,n,d⟩,_⟩:=I.tuple h;obtain ⟨its',r',⟨o',e',_,n',d'⟩,_⟩:=I.tuple h';rw [e] at e';cases e';rw [d] at d';injection d' with d1 _
 have:its=its':=by simpa using congrArg Array.toList d1
 subst this;exact r.inj r'
end
abbrev Cx.wish (X:Cx) (E:Value→Shared→Prop):Cx:={ X with xe:=E }
abbrev Cx.nox (X:Cx):Cx:=X.wish fun _ _=>False
theorem Cx.Ok.wish {X:Cx} (ok:X.Ok) (E:Value→Shared→Prop):(X.wish E).Ok :=
 ⟨ok.mod,ok.kind,ok.glob,ok.blt,ok.above,ok.inj,ok.has,ok.cab,ok.hd,ok.frames,ok.stk,ok.exf,ok.bs,ok.bsz,ok.noex,ok.exfs,ok.funs,ok.frf⟩
theorem Cx.Ok.unwish {X:Cx} {E:Value→Shared→Prop} (ok:(X.wish E).Ok):X.Ok :=
 ⟨ok.mod,ok.kind,ok.glob,ok.blt,ok.above,ok.inj,ok.has,ok.cab,ok.hd,ok.frames,ok.stk,ok.exf,ok.bs,ok.bsz,ok.noex,ok.exfs,ok.funs,ok.frf⟩
section
variable {X:Cx} {pins:List (Addr×Obj)} {σ:St} {H:Hp} {s:Shared} {E:Value→Shared→Prop}
theorem Inv.wish (I:Inv X pins σ H s) (E:Value→Shared→Prop):Inv (X.wish E) pins σ H s:=⟨I.ok.wish E,I.os,I.bare,I.base,I.loc,I.cell,I.free,I.freeC,I.pin,I.hok,I.len⟩
theorem Inv.unwish (I:Inv (X.wish E) pins σ H s):Inv X pins σ H s:=⟨I.ok.unwish,I.os,I.bare,I.base,I.loc,I.cell,I.free,I.freeC,I.pin,I.hok,I.len⟩
theorem SP.unwish {D:Ends} {f:Flow} {s':Shared} (h:SP (X.wish E) pins D f s'):SP X pins D f s':=by
 cases f with
 | next=>obtain ⟨σ',H',I,q⟩:=h;exact ⟨σ',H',I.unwish,q⟩
 | brk=>obtain ⟨σ',H',I,q⟩:=h;exact ⟨σ',H',I.unwish,q⟩
 | cont=>obtain ⟨σ',H',I,q⟩:=h;exact ⟨σ',H',I.unwish,q⟩
 | ret u=>obtain ⟨v,σ',H',I,r,q⟩:=h;exact ⟨v,σ',H',I.unwish,r,q⟩
theorem PSs.nox {st:List Stmt} {t:TS} (h:PSs X.nox st t):PSs X st t:=fun pins s σ H D I hw =>
 wpAny_mono (h pins s σ H D (I.wish _) hw) (fun _ _ q=>q.unwish) fun _ _ z=>False.elim z
end
section
variable {X:Cx} {st:Stmt} {rest:List Stmt} {t u:TS} {e:Expr} {te:TE} {pos:Pos}
def pW:TS:=fun D σ H=>D.nx σ H
def ut (t u:TS):TS:=fun D σ H=>t { D with nx:=u D } σ H
theorem pss_nil:PSs X [] pW:=fun _ _ σ H _ I h=>wpAny_execs_nil ⟨σ,H,I,h⟩
theorem pss_cons (h1:PS X st t) (h2:PSs X rest u):PSs X (st :: rest) (ut t u):=by
 intro pins s σ H D I h;refine wpAny_execs_cons (thn (h1 pins s σ H { D with nx:=u D } I h) fun f s1 q=>?_)
 cases f with
 | next =>
  obtain ⟨σ',H',I',q⟩:=q;exact h2 pins s1 σ' H' D I' q
 | ret v=>exact q
 | brk=>exact q
 | cont=>exact q
theorem pss_one (h1:PS X st t):PSs X [st] t:=by
 intro pins s σ H D I h;refine wpAny_execs_cons (thn (h1 pins s σ H D I h) fun f s1 q=>?_)
 cases f with
 | next=>exact wpAny_execs_nil q
 | ret v=>exact q
 | brk=>exact q
 | cont=>exact q
theorem Inv.quiet {pins:List (Addr×Obj)} {σ:St} {H:Hp} {s:Shared} (I:Inv X pins σ H s):interactive X.env=false:=by simp [interactive,I.ok.kind]
def vJ (te:TE):TS:=fun D σ H=>te σ H fun _ H1=>D.nx σ H1
theorem jf (he:PE X e te) (hs:swapsWith e none pos.line X.env=pure false:=by rfl):PS X (.Expr e pos) (vJ te):=by
 intro pins s σ H D I h;exact wpAny_Expr_any (thn (he pins s σ H _ I h) fun v s1 ⟨x,H1,I1,r1,q1⟩=>⟨σ,H1,I1,q1⟩) I.quiet hs
def wT (te:TE):TS:=fun D σ H=>te σ H D.rt
theorem ps_ret (he:PE X e te):PS X (.Return (some e) pos) (wT te):=by
 intro pins s σ H D I h;exact wpAny_Return_some (thn (he pins s σ H _ I h) fun v s1 ⟨x,H1,I1,r1,q1⟩=>⟨x,σ,H1,I1,r1,q1⟩)
def uu (c:TT) (t u:TS):TS:=fun D σ H=>c σ H fun b H1=>if b=true then t D σ H1 else u D σ H1
theorem ps_if {c:Expr} {a b:List Stmt} {tc:TT} (hc:PT X c tc) (ha:PSs X a t) (hb:PSs X b u):PS X (.If c a b pos) (uu tc t u):=by
 intro pins s σ H D I h;refine wpAny_If (thn (hc pins s σ H _ I h) fun d s1 ⟨H1,I1,q1⟩=>?_)
 cases d with
 | true=>exact ha pins s1 σ H1 D I1 q1
 | false=>exact hb pins s1 σ H1 D I1 q1
def uv:TS:=fun _ _ _=>False
theorem ps_never:PS X st uv:=fun _ _ _ _ _ _ h=>h.elim
end
abbrev TG:=V→St→Hp→(St→Hp→Prop)→Prop
abbrev TGs:=List V→St→Hp→(St→Hp→Prop)→Prop
def PG (X:Cx) (target:Expr) (t:TG):Prop :=
 ∀ (pins:List (Addr×Obj)) (s:Shared) (σ:St) (H:Hp) (v:V) (u:Value) (Q:St→Hp→Prop),Inv X pins σ H s→RelV v u→t v σ H Q →
  wpAny (model X.prog X.w) X.A (assign target X.env u) (fun _ s'=>∃ σ' H',Inv X pins σ' H' s'∧Q σ' H') X.xe s
def PGs (X:Cx) (ts:List Expr) (t:TGs):Prop :=
 ∀ (pins:List (Addr×Obj)) (s:Shared) (σ:St) (H:Hp) (vs:List V) (us:List Value) (Q:St→Hp→Prop),Inv X pins σ H s→Vals vs us→t vs σ H Q →
  wpAny (model X.prog X.w) X.A (assignInOrder ((assignEach ts X.env).map (·.2)) us) (fun _ s'=>∃ σ' H',Inv X pins σ' H' s'∧Q σ' H') X.xe s
abbrev uw:=V→V→V→Hp→(Hp→Prop)→Prop
def vK (X:Cx) (t:uw):Prop :=
 ∀ (pins:List (Addr×Obj)) (s:Shared) (σ:St) (H:Hp) (o i v:V) (ov iv u:Value) (Q:Hp→Prop),Inv X pins σ H s→RelV o ov→RelV i iv→RelV v u→t o i v H Q →
  wpAny (model X.prog X.w) X.A (setItem ov iv u) (fun _ s'=>∃ H',Inv X pins σ H' s'∧Q H') X.xe s
section
variable {X:Cx} {pos:Pos}
def gu (i:Nat):TG:=fun v σ H Q=>Q (σ.set i (some v)) H
theorem aj {i:Nat} {x:Str} (hN:X.N.Nodup) (hi:X.N[i]?=some x) (hx:Loc X.env.scope x) (hf:X.fn x=true∨X.env.scope.names.lookup x=some .local:=by first | exact .inl rfl | exact .inr rfl | assumption):PG X (.Name x pos) (gu i):=by
 intro pins s σ H v u Q I r h;exact wpAny_assign_Name (kE I hN hi hx r (fun s' I'=>⟨_,H,I',h⟩) hf)
def wU:TGs:=fun vs σ H Q=>vs=[]∧Q σ H
def vL (t:TG) (u:TGs):TGs:=fun vs σ H Q=>∃ v r,vs=v :: r∧t v σ H fun σ' H'=>u r σ' H' Q
theorem bL:PGs X [] wU:=by
 intro pins s σ H vs us Q I r h;obtain ⟨e,h⟩:=h;subst e
 cases r
 exact assignInOrder_nil ⟨σ,H,I,h⟩
theorem aC {e:Expr} {es:List Expr} {t:TG} {u:TGs} (h1:PG X e t) (h2:PGs X es u)
  (hs:(assignEach (e :: es) X.env).map (·.2)=assign e X.env :: (assignEach es X.env).map (·.2):=by rfl):PGs X (e :: es) (vL t u):=by
 intro pins s σ H vs us Q I r h;obtain ⟨v,vr,e1,h⟩:=h;subst e1
 cases r with
 | cons r rr =>
  rw [hs];refine assignInOrder_cons (thn (h1 pins s σ H _ _ _ I r h) fun _ s1 ⟨σ1,H1,I1,q1⟩=>?_);exact h2 pins s1 σ1 H1 _ _ Q I1 rr q1
def vM (K:PySem.W.Frag) (n:Nat) (t:TGs):TG:=fun v σ H Q=>∃ a xs,v=.ref a∧SqT K H a xs∧xs.length=n∧t xs σ H Q
theorem pX {es:List Expr} {k:Nat} {t:TGs} {n:Nat} (hc:X.calm=true) (h:PGs X es t)
  (hn:(assignEach es X.env).length=n:=by rfl) (hst:(assignEach es X.env).findIdx? (·.1)=none:=by rfl):PG X (.Tuple es k pos) (vM X.K n t):=by
 intro pins s σ H v u Q I r hw;obtain ⟨a,xs,e1,hq,hl,hw⟩:=hw;subst e1
 cases r
 obtain ⟨its,rv,ht,hz⟩:=I.tuple hq;refine assign_Tuple_tuple (I.ok.hd hc) ht (by simp [hn,← hl,rv.length]) hst fun h' hx=>?_;have I1:Inv X pins σ H { s with heap:=h' }:=I.kept (t':=s.toks) fun b o e=>hx b o (Nat.ne_of_lt (Heap.lt_size e)) e;exact h pins _ σ H xs _ Q I1 (by simpa using rv) hw
def gSub (to ti:TE) (t:uw):TG:=fun v σ H Q=>to σ H fun o H1=>ti σ H1 fun i H2=>t o i v H2 fun H3=>Q σ H3
theorem ux {o i:Expr} {to ti:TE} {t:uw} (ho:PE X o to) (hi:PE X i ti) (hs:vK X t)
  (ha:∀ v,assign (.Subscript o i pos) X.env v=(do
   let ov ← holding [v] (eval o X.env)
   let iv ← holding [v,ov] (eval i X.env)
   standAt pos
   holding [v,ov,iv] (setItem ov iv v)
   release [v,ov,iv] []):=by intro _;rfl):PG X (.Subscript o i pos) (gSub to ti t):=by
 intro pins s σ H v u Q I r h;rw [ha];refine wpAny_bind (wpAny_holding (thn (ho pins s σ H _ I h) fun ov s1 ⟨x,H1,I1,r1,q1⟩=>?_));refine wpAny_bind (wpAny_holding (thn (hi pins s1 σ H1 _ I1 q1) fun iv s2 ⟨y,H2,I2,r2,q2⟩=>?_));refine wpAny_bind (wpAny_standAt (wpAny_bind (wpAny_holding (thn (hs pins s2 σ H2 x y v ov iv u _ I2 r1 r2 r q2) fun _ s3 ⟨H3,I3,q3⟩=>?_))));exact wpAny_release ⟨σ,H3,I3,q3⟩
def pY (te:TE) (g:TG):TS:=fun D σ H=>te σ H fun x H1=>g x σ H1 D.nx
theorem uy {tg e:Expr} {te:TE} {g:TG} (he:PE X e te) (hg:PG X tg g) (hs:swapsWithSole [tg] e pos.line X.env=pure false:=by rfl) (hw:swappedStores [tg] e X.env=pure none:=by rfl)
  (h1:(assignEach [tg] X.env).map (·.2)=[assign tg X.env]:=by rfl):PS X (.Assign [tg] e pos) (pY te g):=by
 intro pins s σ H D I h;refine wpAny_Assign_stores (thn (he pins s σ H _ I h) fun v s1 ⟨x,H1,I1,r1,q1⟩=>?_) hs hw;rw [h1];exact thn (hg pins s1 σ H1 x v _ I1 r1 q1) fun _ s2 q=>q
theorem ps_set {i:Nat} {x:Str} {e:Expr} {te:TE} {pos':Pos} (hN:X.N.Nodup) (hi:X.N[i]?=some x) (hx:Loc X.env.scope x) (he:PE X e te) (hs:swapsWith e (some (.Name x pos')) pos.line X.env=pure false:=by rfl) (hf:X.fn x=true∨X.env.scope.names.lookup x=some .local:=by first | exact .inl rfl | exact .inr rfl | assumption) :
  PS X (.Assign [.Name x pos'] e pos) (pY te (gu i)):=by
 intro pins s σ H D I h;refine wpAny_Assign_Name (thn (he pins s σ H _ I h) fun v s1 ⟨y,H1,I1,r1,q1⟩=>?_) hs;exact kE I1 hN hi hx r1 (fun s2 I2=>⟨_,H1,I2,q1⟩) hf
end
section
variable {X:Cx} {pos:Pos}
end
structure It where
 go:Nat→Hp→Prop
 yld:Nat→Hp→V→Hp→Prop
 stop:Nat→Hp→Prop
def dW (X:Cx) (pins:List (Addr×Obj)) (H:Hp) (b:Addr):Prop :=
 H b=none∧b≠X.env.locals∧b∉X.fs∧(b∈X.ex∨X.s₀.heap.objs.size≤b)∧(∀ x c,X.env.cells.lookup x=some c→c≠b)∧∀ p∈X.pn++pins,p.1≠b
theorem Inv.fpOk {X:Cx} {pins:List (Addr×Obj)} {σ:St} {H H':Hp} {s:Shared} {b:Addr} (I:Inv X pins σ H s) (hb:s.heap.objs.size≤b) (hn:H' b=none):dW X pins H' b:=by
 refine ⟨hn,Nat.ne_of_gt (Nat.lt_of_lt_of_le I.lt hb),I.nofs hb,.inr (Nat.le_trans I.sz hb),fun x c e z=>?_,fun p hp z=>?_⟩
 ·obtain ⟨v,q⟩:=I.cell x c e;exact absurd (Nat.lt_of_lt_of_le q.lt (by rw [z];exact hb)) (Nat.lt_irrefl _)
 ·exact absurd (Nat.lt_of_lt_of_le (Heap.lt_size (I.pin p hp).1) (by rw [z];exact hb)) (Nat.lt_irrefl _)
structure Turn (P:Program) (w:World) (K:PySem.W.Frag) (tg:Expr) (J:It) (fp:List Addr) (it:Addr) (tn:Nat→Heap→Prop):Prop where
 mem:it∈fp
 obj:∀ i h,tn i h→∀ b∈fp,∃ o,h.get? b=some o∧∀ v,o.data≠.cell v
 keep:∀ i h h',tn i h→(∀ b∈fp,∀ o,h.get? b=some o→h'.get? b=some o)→tn i h'
 item:∀ (X:Cx),X.prog=P→X.w=w→X.K=K→X.calm=true→∀ (i:Nat) (pins:List (Addr×Obj)) (s:Shared) (σ:St) (H:Hp) (E:Value→Shared→Prop),Inv X pins σ H s→(∀ b∈fp,dW X pins H b)→tn i s.heap→J.go i H →
  wpAny (model P w) X.A (pyNext (.ref it)) (fun r s1=>∃ u,r=some u ∧
   wpAny (model P w) X.A (letOwnedTupleGo tg (.ref it) u) (fun _ s2=>∃ x H',Inv X pins σ H' s2∧RelV x u∧J.yld i H x H'∧tn (i+1) s2.heap∧∀ b∈fp,H' b=none) E s1) E s
 done:∀ (X:Cx),X.prog=P→X.w=w→X.K=K→X.calm=true→∀ (i:Nat) (pins:List (Addr×Obj)) (s:Shared) (σ:St) (H:Hp) (E:Value→Shared→Prop),Inv X pins σ H s→(∀ b∈fp,dW X pins H b)→tn i s.heap→J.stop i H →
  wpAny (model P w) X.A (pyNext (.ref it)) (fun r s1=>r=none∧Inv X pins σ H s1) E s
 self:∀ (A:Around) (i:Nat) (s:Shared) (Q:Value→Shared→Prop) (E:Value→Shared→Prop),tn i s.heap→Q (.ref it) s→wpAny (model P w) A (pyIter (.ref it)) Q E s
abbrev TI:=St→Hp→(It→Hp→Prop)→Prop
def PIE (X:Cx) (pins:List (Addr×Obj)) (σ:St) (tg:Expr) (R:It→Hp→Prop) (itv:Value) (s2:Shared):Prop :=
 ∃ (it:Addr) (fp:List Addr) (tn:Nat→Heap→Prop) (J:It) (H':Hp),itv=.ref it∧Inv X pins σ H' s2∧Turn X.prog X.w X.K tg J fp it tn∧tn 0 s2.heap∧(∀ b∈fp,dW X pins H' b)∧R J H'
def PI (X:Cx) (tg iter:Expr) (wi:TI):Prop :=
 ∀ (pins:List (Addr×Obj)) (s:Shared) (σ:St) (H:Hp) (R:It→Hp→Prop),Inv X pins σ H s→wi σ H R →
  wpAny (model X.prog X.w) X.A (eval iter X.env) (fun v s1=>wpAny (model X.prog X.w) X.A (pyIter v) (PIE X pins σ tg R) X.xe s1) X.xe s
theorem gv {M:Model} {A:Around} {E:Value→Shared→Prop} {s:Shared} {tg:Expr} {it:Addr} {u:Value} {o:Obj} {n:String} {vs:Array Value} {Q:Unit→Shared→Prop} (ho:s.heap.get? it=some o) (hc:o.cls=.type n) (hd:o.data=.fields vs)
    (hn:["enumerate","zip","dict_itemiterator","dict_reverseitemiterator","odict_iterator","itertools.zip_longest","itertools.pairwise"].contains n=false) (hQ:Q () s):wpAny M A (letOwnedTupleGo tg (.ref it) u) Q E s:=by
  unfold letOwnedTupleGo
  cases tg <;> first
    | exact wpAny_pure hQ
    | (cases u <;> first
        | exact wpAny_pure hQ
        | (refine wpAny_bind (wpAny_load ho ?_)
           rw [hc,hd];show wpAny M A (if (["enumerate","zip","dict_itemiterator","dict_reverseitemiterator","odict_iterator","itertools.zip_longest","itertools.pairwise"].contains n && vs[0]? == some (rawInt _))=true then _ else _) Q E s;rw [if_neg (by intro h;rw [hn,Bool.false_and] at h;cases h)];exact wpAny_pure hQ))
def Itl (K:PySem.W.Frag) (a:Addr):It :=
 ⟨fun i H=>∃ xs x,SqL K H a xs∧xs[i]?=some x,fun i H x H'=>H'=H∧∀ xs,SqL K H a xs→xs[i]?=some x,fun i H=>∃ xs,SqL K H a xs∧xs.length≤i⟩
def Itt (K:PySem.W.Frag) (a:Addr):It :=
 ⟨fun i H=>∃ xs x,SqT K H a xs∧xs[i]?=some x,fun i H x H'=>H'=H∧∀ xs,SqT K H a xs→xs[i]?=some x,fun i H=>∃ xs,SqT K H a xs∧xs.length≤i⟩
def Itr (lo:Int) (n:Nat):It:=⟨fun i _=>i < n,fun i H x H'=>H'=H∧x=.int (lo+i),fun i _=>n≤i⟩
theorem oU {P:Program} {w:World} {K:PySem.W.Frag} {tg:Expr} (a it:Addr):Turn P w K tg (Itl K a) [it] it (fun i h=>h.IsListIter it a i) where
 mem:=by simp
 obj:=fun i h st b hb=>by
  have e:b=it:=by simpa using hb
  subst e;obtain ⟨o,e,c,d⟩:=st;exact ⟨o,e,fun v z=>by rw [d] at z;cases z⟩
 keep:=fun i h h' st k=>st.at fun o e=>k it (by simp) o e
 item:=by
  intro X hP hw hK hc i pins s σ H E I hf st hg;subst hP hw hK;obtain ⟨xs,x,hq,hx⟩:=hg;obtain ⟨its,rv,p,hz⟩:=I.list hq;obtain ⟨u,hu,ru⟩:=rv.get hx;obtain ⟨f0,f1,f2,f3,f4,f5⟩:=hf it (by simp);refine wpAny_pyNext_list_item st p.isList (x:=u) (by simpa using hu) fun h' st' sb=>?_;have I1:Inv X pins σ H { s with heap:=h' }:=I.turned (t':=s.toks) (fun b o hb e=>(sb.2 b hb).trans e) f0 f1 f3 f4 f5;obtain ⟨o,e,c,d⟩:=id st';exact ⟨u,rfl,gv (s:={ s with heap:=h' }) e c d (by decide) ⟨x,H,I1,ru,⟨rfl,fun ys hy=>by rw [I.list_inj hy hq];exact hx⟩,st',fun b hb=>(hf b hb).1⟩⟩
 done:=by
  intro X hP hw hK hc i pins s σ H E I hf st hg;subst hP hw hK;obtain ⟨xs,hq,hx⟩:=hg;obtain ⟨its,rv,p,hz⟩:=I.list hq;obtain ⟨f0,f1,f2,f3,f4,f5⟩:=hf it (by simp);have hl:=rv.length;exact wpAny_pyNext_list_end (I.ok.hd hc) st p.isList (by simp;lia) fun h' eb=>⟨rfl,I.turned (t':=s.toks) (fun b o hb e=>eb b o hb e) f0 f1 f3 f4 f5⟩
 self:=fun _ _ _ _ _ st h=>wpAny_pyIter_listiter st h
theorem mj {P:Program} {w:World} {K:PySem.W.Frag} {tg:Expr} (a it:Addr):Turn P w K tg (Itt K a) [it] it (fun i h=>h.IsTupleIter it a i) where
 mem:=by simp
 obj:=fun i h st b hb=>by
  have e:b=it:=by simpa using hb
  subst e;obtain ⟨o,e,c,d⟩:=st;exact ⟨o,e,fun v z=>by rw [d] at z;cases z⟩
 keep:=fun i h h' st k=>st.at fun o e=>k it (by simp) o e
 item:=by
  intro X hP hw hK hc i pins s σ H E I hf st hg;subst hP hw hK;obtain ⟨xs,x,hq,hx⟩:=hg;obtain ⟨its,rv,p,hz⟩:=I.tuple hq;obtain ⟨u,hu,ru⟩:=rv.get hx;obtain ⟨f0,f1,f2,f3,f4,f5⟩:=hf it (by simp);refine wpAny_pyNext_tuple_item st (show s.heap.IsTuple a its.toArray from p) (x:=u) (by simpa using hu) fun h' st' sb=>?_;have I1:Inv X pins σ H { s with heap:=h' }:=I.turned (t':=s.toks) (fun b o hb e=>(sb.2 b hb).trans e) f0 f1 f3 f4 f5;obtain ⟨o,e,c,d⟩:=id st';exact ⟨u,rfl,gv (s:={ s with heap:=h' }) e c d (by decide) ⟨x,H,I1,ru,⟨rfl,fun ys hy=>by rw [I.tuple_inj hy hq];exact hx⟩,st',fun b hb=>(hf b hb).1⟩⟩
 done:=by
  intro X hP hw hK hc i pins s σ H E I hf st hg;subst hP hw hK;obtain ⟨xs,hq,hx⟩:=hg;obtain ⟨its,rv,p,hz⟩:=I.tuple hq;obtain ⟨f0,f1,f2,f3,f4,f5⟩:=hf it (by simp);have hl:=rv.length;exact wpAny_pyNext_tuple_end (I.ok.hd hc) st (show s.heap.IsTuple a its.toArray from p) (by simp;lia) fun h' eb=>⟨rfl,I.turned (t':=s.toks) (fun b o hb e=>eb b o hb e) f0 f1 f3 f4 f5⟩
 self:=fun _ _ _ _ _ st h=>wpAny_pyIter_tupleiter st h
theorem ml {P:Program} {w:World} {K:PySem.W.Frag} {tg:Expr} (it:Addr) (lo:Int) (n:Nat):Turn P w K tg (Itr lo n) [it] it (fun i h=>IsRangeIter h it (lo+(i:Nat)*1) ((n:Int) - (i:Nat)) 1) where
 mem:=by simp
 obj:=fun i h st b hb=>by
  have e:b=it:=by simpa using hb
  subst e;exact ⟨_,st,fun v z=>by
   have z':Data.fields _=Data.cell v:=z
   cases z'⟩
 keep:=fun i h h' st k=>k it (by simp) _ st
 item:=by
  intro X hP hw hK hc i pins s σ H E I hf st hg;subst hP hw hK;obtain ⟨f0,f1,f2,f3,f4,f5⟩:=hf it (by simp);have W:=Walks.range (prog:=X.prog) (w:=X.w) (I.ok.hd hc) it lo 1 n;refine W.item i s _ _ hg st fun v h' tk hv st' kk=>?_;obtain ⟨t,rfl⟩:=hv;have I1:Inv X pins σ H { s with heap:=h',toks:=tk }:=I.turned (fun b o hb e=>kk b o (by simpa using hb) e) f0 f1 f3 f4 f5;refine ⟨_,rfl,gv (s:={ s with heap:=h',toks:=tk }) (n:= "range_iterator") st' rfl rfl (by decide) ⟨.int (lo+i),H,I1,⟨t,?_⟩,⟨rfl,rfl⟩,st',fun b hb=>(hf b hb).1⟩⟩;rw [Int.mul_one]
 done:=by
  intro X hP hw hK hc i pins s σ H E I hf st hg;subst hP hw hK;obtain ⟨f0,f1,f2,f3,f4,f5⟩:=hf it (by simp);exact wpAny_pyNext_range_end (I.ok.hd hc) st (by have:n≤i:=hg;lia) fun h' eb=>⟨rfl,I.turned (t':=s.toks) (fun b o hb e=>eb b o hb e) f0 f1 f3 f4 f5⟩
 self:=fun _ _ _ _ _ st h=>wpAny_pyIter_rangeiter st h
section
variable {X:Cx} {tg:Expr}
def tT (K:PySem.W.Frag) (tl:TE):TI:=fun σ H R=>tl σ H fun x H1=>∃ a,x=.ref a∧(∃ xs,SqL K H1 a xs)∧R (Itl K a) H1
def vN (K:PySem.W.Frag) (tl:TE):TI:=fun σ H R=>tl σ H fun x H1=>∃ a,x=.ref a∧(∃ xs,SqT K H1 a xs)∧R (Itt K a) H1
theorem r0 {l:Expr} {tl:TE} (hl:PE X l tl):PI X tg l (tT X.K tl):=by
 intro pins s σ H R I h;refine thn (hl pins s σ H _ I h) fun v s1 ⟨x,H1,I1,r1,q1⟩=>?_;obtain ⟨a,e,⟨xs,hq⟩,q⟩:=q1;subst e
 cases r1
 obtain ⟨its,rv,p,hz⟩:=I1.list hq;refine wpAny_pyIter_list p.isList ?_;refine ⟨s1.heap.objs.size,[s1.heap.objs.size],_,_,H1,rfl,I1.kept (t':=s1.toks) fun b o e=>Heap.get?_push_of_some _ e,oU a _,⟨_,Heap.get?_push_size _ rfl,rfl,rfl⟩,fun b hb=>?_,q⟩;have e:b=s1.heap.objs.size:=by simpa using hb
 subst e;exact I1.fpOk (Nat.le_refl _) (I1.hok.fresh (Nat.le_refl _))
theorem uz {l:Expr} {tl:TE} (hl:PE X l tl):PI X tg l (vN X.K tl):=by
 intro pins s σ H R I h;refine thn (hl pins s σ H _ I h) fun v s1 ⟨x,H1,I1,r1,q1⟩=>?_;obtain ⟨a,e,⟨xs,hq⟩,q⟩:=q1;subst e
 cases r1
 obtain ⟨its,rv,p,hz⟩:=I1.tuple hq;refine wpAny_pyIter_tuple (show s1.heap.IsTuple a its.toArray from p) ?_;refine ⟨s1.heap.objs.size,[s1.heap.objs.size],_,_,H1,rfl,I1.kept (t':=s1.toks) fun b o e=>Heap.get?_push_of_some _ e,mj a _,⟨_,Heap.get?_push_size _ rfl,rfl,rfl⟩,fun b hb=>?_,q⟩;have e:b=s1.heap.objs.size:=by simpa using hb
 subst e;exact I1.fpOk (Nat.le_refl _) (I1.hok.fresh (Nat.le_refl _))
theorem pZ {pins:List (Addr×Obj)} {σ:St} {H:Hp} {s:Shared} {R:It→Hp→Prop} {E:Value→Shared→Prop} {lo hi:Int} {t u v:Tok} {tk:Nat} (I:Inv X pins σ H s) (h1:-(2 ^ 62)≤lo) (h2:lo < 2 ^ 62) (h3:-(2 ^ 62)≤hi) (h4:hi < 2 ^ 62)
  (q:R (Itr lo (hi - lo).toNat) H):wpAny (model X.prog X.w) X.A (pyIter (.ref s.heap.objs.size)) (PIE X pins σ tg R) E { s with heap:=s.heap.push { cls:=.type "range",data:=.fields #[.int lo t,.int hi u,.int 1 v] },toks:=tk }:=by
 refine wpAny_pyIter_range (IsRange.new ..) (small_one h1 h2 h3 h4) ?_;have I1:Inv X pins σ H { s with heap:=s.heap.push { cls:=.type "range",data:=.fields #[.int lo t,.int hi u,.int 1 v] },toks:=tk }:=I.kept fun b o e=>Heap.get?_push_of_some _ e;refine ⟨(s.heap.push { cls:=.type "range",data:=.fields #[.int lo t,.int hi u,.int 1 v] }).objs.size,[(s.heap.push { cls:=.type "range",data:=.fields #[.int lo t,.int hi u,.int 1 v] }).objs.size],_,_,H,rfl,
  I1.kept (t':=tk) fun b o e=>Heap.get?_push_of_some _ e,ml _ lo (hi - lo).toNat,?_,fun b hb=>?_,q⟩
 ·have e1:lo+((0:Nat):Int)*1=lo:=by simp
  have e2:(((hi - lo).toNat:Nat):Int) - ((0:Nat):Int)=Builtin.Range.rangeSize lo hi 1:=by rw [rangeSize_one];split <;> lia
  show IsRangeIter _ _ (lo+((0:Nat):Int)*1) ((((hi - lo).toNat:Nat):Int) - ((0:Nat):Int)) 1;rw [e1,e2];exact Heap.get?_push_size _ rfl
 ·have e:b=(s.heap.push { cls:=.type "range",data:=.fields #[.int lo t,.int hi u,.int 1 v] }).objs.size:=by simpa using hb
  subst e;exact I1.fpOk (Nat.le_refl _) (I1.hok.fresh (Nat.le_refl _))
def vO (ta:TA):TI:=fun σ H R=>ta σ H fun vs H1=>∃ j:Int,vs=[.int j]∧-(2 ^ 62)≤j∧j < 2 ^ 62∧R (Itr 0 j.toNat) H1
theorem bQ {a:Expr} {ta:TA} {p pos:Pos} (hg:Gl X "range") (hm:X.mg "range" = none) (ha:PA X [a] ta) (hs:starEach [a] X.env=[(false,eval a X.env)]:=by rfl):PI X tg (.Call (.Name "range" p) [a] [] pos) (vO ta):=by
 intro pins s σ H R I h;refine Call_ (bG I hg hm boot_range (PyProof.Rows.callWith_type1 (thn (ha pos pins s σ H _ I h) fun us s1 ⟨vs,H1,I1,r1,q1⟩=>?_) hs rfl));obtain ⟨j,e,q1,q2,q⟩:=q1;subst e
 cases r1 with
 | cons r rr =>
  cases rr
  obtain ⟨t,rfl⟩:=r;exact call_range_1 (pZ I1 (by lia) (by lia) q1 q2 (by simpa using q))
def tFor (wi:TI) (g:TG) (tb:TS):TS:=fun D σ H=>wi σ H fun J H1=>∃ W:Nat→Nat→St→Hp→Prop,(∃ m,W 0 m σ H1)∧∀ i m σ H,W i m σ H →
 (J.stop i H∧D.nx σ H)∨(J.go i H∧∃ N:St→Hp→Prop,(∀ σ' H',N σ' H'→∃ m',m' < m∧W (i+1) m' σ' H')∧∀ x H',J.yld i H x H'→g x σ H' fun σ2 H2=>tb { D with nx:=N,ct:=N,bk:=D.nx } σ2 H2)
def jg (fp:List Addr) (h:Heap):List (Addr×Obj):=fp.filterMap fun b=>(h.get? b).map fun o=>(b,o)
theorem br {fp:List Addr} {h:Heap} {b:Addr} {o:Obj} (hb:b∈fp) (e:h.get? b=some o):(b,o)∈jg fp h:=List.mem_filterMap.mpr ⟨b,hb,by rw [e];rfl⟩
theorem oV {fp:List Addr} {h:Heap} {p:Addr×Obj} (hp:p∈jg fp h):p.1∈fp∧h.get? p.1=some p.2:=by
 obtain ⟨b,hb,e⟩:=List.mem_filterMap.mp hp
 cases q:h.get? b with
 | none=>rw [q] at e;cases e
 | some o =>
  rw [q] at e;have e':(b,o)=p:=Option.some.inj e;subst e';exact ⟨hb,q⟩
theorem Inv.pinned {pins:List (Addr×Obj)} {σ:St} {H:Hp} {s:Shared} {fp:List Addr} (I:Inv X pins σ H s) (hf:∀ b∈fp,dW X pins H b) (ho:∀ b∈fp,∃ o,s.heap.get? b=some o∧∀ v,o.data≠.cell v):Inv X (pins++jg fp s.heap) σ H s :=
 I.pins_of fun p hp=>(List.mem_append.mp hp).elim (fun z=>I.pin p (List.mem_append_right _ z)) fun z=>by
  obtain ⟨hb,e⟩:=oV z;obtain ⟨f0,f1,f2,_⟩:=hf p.1 hb;obtain ⟨o,e',d⟩:=ho p.1 hb;rw [e] at e';cases e';exact ⟨e,f0,f1,f2,d⟩
theorem Inv.unpinned {pins pl:List (Addr×Obj)} {σ:St} {H:Hp} {s:Shared} (I:Inv X (pins++pl) σ H s):Inv X pins σ H s:=I.pins_of fun p hp=>I.pin p (List.mem_append_right _ (List.mem_append_left _ hp))
theorem cH {iter:Expr} {body:List Stmt} {wi:TI} {g:TG} {tb:TS} {pos:Pos} (hp:PassesOwn (model X.prog X.w) X.A X.env X.xe) (hc:X.calm=true) (hi:PI X tg iter wi) (hg:PG X tg g) (hb:PSs X body tb)
  (hs:∀ x,foldedSetIterable iter X.env x=pure x:=by intro _;rfl):PS X (.For tg iter body [] pos) (tFor wi g tb):=by
 intro pins s σ H D I h;refine wpAny_For (thn (hi pins s σ H _ I h) fun v s1 h1=>thn h1 fun itv s2 h2=>?_) hs;obtain ⟨it,fp,tn,J,H2,e,I2,T,st2,f2,W,⟨m0,w0⟩,turn⟩:=h2;subst e;have stat:∀ {H':Hp},(∀ b∈fp,H' b=none)→∀ b∈fp,dW X pins H' b:=fun hn b hb=>⟨hn b hb,(f2 b hb).2⟩;refine codeAny_forLoop_any (fun n s'=>∃ i σ' H',Inv X pins σ' H' s'∧tn i s'.heap∧(∀ b∈fp,H' b=none)∧W i n σ' H') ?_ m0 ⟨0,σ,H2,I2,st2,fun b hb=>(f2 b hb).1,w0⟩;rintro n s3 ⟨i,σ3,H3,I3,st3,fr3,w3⟩;rcases turn i n σ3 H3 w3 with ⟨stop,qn⟩ | ⟨go,N,hN,step⟩
 ·refine wpAny_passesOwn hp (thn (T.done X rfl rfl rfl hc i pins s3 σ3 H3 X.xe I3 (stat fr3) st3 stop) fun r s4 ⟨hr,I4⟩=>?_);subst hr;exact wpAny_execs_nil ⟨σ3,H3,I4,qn⟩
 ·refine wpAny_passesOwn hp (thn (T.item X rfl rfl rfl hc i pins s3 σ3 H3 X.xe I3 (stat fr3) st3 go) fun r s4 ⟨u,hr,h4⟩=>?_);subst hr;refine wpAny_passesOwn hp (thn h4 fun _ s5 ⟨x,H5,I5,r5,y5,st5,fr5⟩=>?_);have I5':=I5.pinned (stat fr5) (T.obj _ _ st5);refine wpAny_passesOwn hp (thn (hg _ s5 σ3 H5 x u _ I5' r5 (step x H5 y5)) fun _ s6 ⟨σ6,H6,I6,q6⟩=>?_);refine wpAny_passesOwn hp (thn (hb _ s6 σ6 H6 _ I6 q6) fun f s7 q7=>?_);have again:∀ {σ7:St} {H7:Hp},Inv X (pins++jg fp s5.heap) σ7 H7 s7→N σ7 H7→∃ m,m < n∧∃ i σ' H',Inv X pins σ' H' s7∧tn i s7.heap∧(∀ b∈fp,H' b=none)∧W i m σ' H':=fun {σ7 H7} I7 n7=>by
   obtain ⟨m',hm,w7⟩:=hN σ7 H7 n7;refine ⟨m',hm,i+1,σ7,H7,I7.unpinned,T.keep _ _ _ st5 fun b hb o e=>(I7.pin (b,o) (List.mem_append_right _ (List.mem_append_right _ (br hb e)))).1,fun b hb=>?_,w7⟩;obtain ⟨o,e,d⟩:=T.obj _ _ st5 b hb;exact (I7.pin (b,o) (List.mem_append_right _ (List.mem_append_right _ (br hb e)))).2.1
  cases f with
  | next=>obtain ⟨σ7,H7,I7,n7⟩:=q7;exact again I7 n7
  | cont=>obtain ⟨σ7,H7,I7,n7⟩:=q7;exact again I7 n7
  | brk=>obtain ⟨σ7,H7,I7,q7⟩:=q7;exact ⟨σ7,H7,I7.unpinned,q7⟩
  | ret v=>obtain ⟨x7,σ7,H7,I7,r7,q7⟩:=q7;exact ⟨x7,σ7,H7,I7.unpinned,r7,q7⟩
end
theorem kF {K:PySem.W.Frag} {a:Addr} {xs:List V} {g:TG} {tb:TS} {D:Ends} {σ:St} {H:Hp} (Pv:Nat→St→Hp→Prop) (h0:Pv 0 σ H) (hl:∀ i σ H,i≤xs.length→Pv i σ H→SqL K H a xs)
  (hs:∀ i x σ H,xs[i]?=some x→Pv i σ H→g x σ H fun σ2 H2=>tb { D with nx:=Pv (i+1),ct:=Pv (i+1),bk:=D.nx } σ2 H2) (hd:∀ σ H,Pv xs.length σ H→D.nx σ H) :
  ∃ W:Nat→Nat→St→Hp→Prop,(∃ m,W 0 m σ H)∧∀ i m σ H,W i m σ H →
   ((Itl K a).stop i H∧D.nx σ H)∨((Itl K a).go i H∧∃ N:St→Hp→Prop,(∀ σ' H',N σ' H'→∃ m',m' < m∧W (i+1) m' σ' H')∧∀ x H',(Itl K a).yld i H x H'→g x σ H' fun σ2 H2=>tb { D with nx:=N,ct:=N,bk:=D.nx } σ2 H2):=by
 refine ⟨fun i m σ H=>m=xs.length - i∧i≤xs.length∧Pv i σ H,⟨xs.length,by simp,Nat.zero_le _,h0⟩,?_⟩;rintro i m σ H ⟨rfl,hi,p⟩;have q:=hl i σ H hi p
 by_cases hlt:i < xs.length
 ·refine .inr ⟨⟨xs,xs[i],q,by simp [hlt]⟩,Pv (i+1),fun σ' H' p'=>⟨xs.length - (i+1),by lia,rfl,hlt,p'⟩,fun x H' y=>?_⟩;obtain ⟨e,y⟩:=y;subst e;exact hs i x σ _ (y xs q) p
 ·have e:i=xs.length:=by lia
  subst e;exact .inl ⟨⟨xs,q,Nat.le_refl _⟩,hd σ H p⟩
theorem nN {K:PySem.W.Frag} {a:Addr} {xs:List V} {g:TG} {tb:TS} {D:Ends} {σ:St} {H:Hp} (Pv:Nat→St→Hp→Prop) (h0:Pv 0 σ H) (hl:∀ i σ H,i≤xs.length→Pv i σ H→SqT K H a xs)
  (hs:∀ i x σ H,xs[i]?=some x→Pv i σ H→g x σ H fun σ2 H2=>tb { D with nx:=Pv (i+1),ct:=Pv (i+1),bk:=D.nx } σ2 H2) (hd:∀ σ H,Pv xs.length σ H→D.nx σ H) :
  ∃ W:Nat→Nat→St→Hp→Prop,(∃ m,W 0 m σ H)∧∀ i m σ H,W i m σ H →
   ((Itt K a).stop i H∧D.nx σ H)∨((Itt K a).go i H∧∃ N:St→Hp→Prop,(∀ σ' H',N σ' H'→∃ m',m' < m∧W (i+1) m' σ' H')∧∀ x H',(Itt K a).yld i H x H'→g x σ H' fun σ2 H2=>tb { D with nx:=N,ct:=N,bk:=D.nx } σ2 H2):=by
 refine ⟨fun i m σ H=>m=xs.length - i∧i≤xs.length∧Pv i σ H,⟨xs.length,by simp,Nat.zero_le _,h0⟩,?_⟩;rintro i m σ H ⟨rfl,hi,p⟩;have q:=hl i σ H hi p
 by_cases hlt:i < xs.length
 ·refine .inr ⟨⟨xs,xs[i],q,by simp [hlt]⟩,Pv (i+1),fun σ' H' p'=>⟨xs.length - (i+1),by lia,rfl,hlt,p'⟩,fun x H' y=>?_⟩;obtain ⟨e,y⟩:=y;subst e;exact hs i x σ _ (y xs q) p
 ·have e:i=xs.length:=by lia
  subst e;exact .inl ⟨⟨xs,q,Nat.le_refl _⟩,hd σ H p⟩
theorem fg {lo:Int} {n:Nat} {g:TG} {tb:TS} {D:Ends} {σ:St} {H:Hp} (Pv:Nat→St→Hp→Prop) (h0:Pv 0 σ H)
  (hs:∀ i σ H,i < n→Pv i σ H→g (.int (lo+i)) σ H fun σ2 H2=>tb { D with nx:=Pv (i+1),ct:=Pv (i+1),bk:=D.nx } σ2 H2) (hd:∀ σ H,Pv n σ H→D.nx σ H) :
  ∃ W:Nat→Nat→St→Hp→Prop,(∃ m,W 0 m σ H)∧∀ i m σ H,W i m σ H →
   ((Itr lo n).stop i H∧D.nx σ H)∨((Itr lo n).go i H∧∃ N:St→Hp→Prop,(∀ σ' H',N σ' H'→∃ m',m' < m∧W (i+1) m' σ' H')∧∀ x H',(Itr lo n).yld i H x H'→g x σ H' fun σ2 H2=>tb { D with nx:=N,ct:=N,bk:=D.nx } σ2 H2):=by
 refine ⟨fun i m σ H=>m=n - i∧i≤n∧Pv i σ H,⟨n,by simp,Nat.zero_le _,h0⟩,?_⟩;rintro i m σ H ⟨rfl,hi,p⟩
 by_cases hlt:i < n
 ·refine .inr ⟨hlt,Pv (i+1),fun σ' H' p'=>⟨n - (i+1),by lia,rfl,hlt,p'⟩,fun x H' y=>?_⟩;obtain ⟨e,y⟩:=y;subst e y;exact hs i σ _ hlt p
 ·have e:i=n:=by lia
  subst e;exact .inl ⟨Nat.le_refl _,hd σ H p⟩
abbrev R2:=V→V→Hp→VK→Prop
def OpR (X:Cx) (f:Value→Value→Sem Value) (r:R2):Prop :=
 ∀ (pins:List (Addr×Obj)) (s:Shared) (σ:St) (H:Hp) (x y:V) (v u:Value) (Q:VK),Inv X pins σ H s→RelV x v→RelV y u→r x y H Q →
  wpAny (model X.prog X.w) X.A (f v u) (EP X pins σ Q) X.xe s
def UnR (X:Cx) (f:Value→Sem Value) (r:V→Hp→VK→Prop):Prop :=
 ∀ (pins:List (Addr×Obj)) (s:Shared) (σ:St) (H:Hp) (x:V) (v:Value) (Q:VK),Inv X pins σ H s→RelV x v→r x H Q →
  wpAny (model X.prog X.w) X.A (f v) (EP X pins σ Q) X.xe s
def aW (X:Cx) (f:Value) (r:List V→Hp→VK→Prop):Prop :=
 ∀ (pins:List (Addr×Obj)) (s:Shared) (σ:St) (H:Hp) (xs:List V) (us:List Value) (Q:VK),Inv X pins σ H s→Vals xs us→r xs H Q →
  wpAny (model X.prog X.w) X.A (call f us) (EP X pins σ Q) X.xe s
def tOp (r:R2) (ta tb:TE):TE:=fun σ H Q=>ta σ H fun x H1=>tb σ H1 fun y H2=>r x y H2 Q
def tUn (r:V→Hp→VK→Prop) (ta:TE):TE:=fun σ H Q=>ta σ H fun x H1=>r x H1 Q
inductive IRI (C:Int→Int→Prop) (g:Int→Int→V) (x y:V) (H:Hp) (Q:VK):Prop
 | mk (i j:Int):(x=.int i)→(y=.int j)→(C i j)→(Q (g i j) H)→IRI C g x y H Q
def rI (C:Int→Int→Prop) (g:Int→Int→V):R2:=fun x y H Q=>IRI C g x y H Q
inductive IRI0 (g:Int→Int→V) (x y:V) (H:Hp) (Q:VK):Prop
 | mk (i j:Int):(x=.int i)→(y=.int j)→(Q (g i j) H)→IRI0 g x y H Q
def rI0 (g:Int→Int→V):R2:=fun x y H Q=>IRI0 g x y H Q
def rU (g:Int→V):V→Hp→VK→Prop:=fun x H Q=>∃ i,x=.int i∧Q (g i) H
section
variable {X:Cx} {a b c:Expr} {ta tb tc:TE} {pos:Pos}
theorem uA (ha:PE X a ta) (hb:PE X b tb) {pins:List (Addr×Obj)} {s:Shared} {σ:St} {H:Hp} {R:V→V→Hp→Prop} (I:Inv X pins σ H s)
  (h:ta σ H fun x H1=>tb σ H1 fun y H2=>R x y H2) {Q:Value→Shared→Prop} {f:Value→Value→Sem Value}
  (hf:∀ v u s2 x y H2,Inv X pins σ H2 s2→RelV x v→RelV y u→R x y H2→wpAny (model X.prog X.w) X.A (f v u) Q X.xe s2) :
  wpAny (model X.prog X.w) X.A (eval a X.env) (fun v s₁=>wpAny (model X.prog X.w) X.A (eval b X.env) (fun u s₂=>wpAny (model X.prog X.w) X.A (f v u) Q X.xe s₂) X.xe s₁) X.xe s:=by
 refine thn (ha pins s σ H _ I h) fun v s1 ⟨x,H1,I1,r1,q1⟩=>?_;refine thn (hb pins s1 σ H1 _ I1 q1) fun u s2 ⟨y,H2,I2,r2,q2⟩=>?_;exact hf v u s2 x y H2 I2 r1 r2 q2
theorem pe_op {op:Operator} {r:R2} (ho:OpR X (binaryOp op) r) (ha:PE X a ta) (hb:PE X b tb):PE X (.BinOp a op b pos) (tOp r ta tb):=by
 intro pins s σ H Q I h;exact wpAny_BinOp (uA ha hb I h fun v u s2 x y H2 I2 rx ry q=>ho pins s2 σ H2 x y v u Q I2 rx ry q)
theorem pe_un {op:UnaryOp} {r:V→Hp→VK→Prop} (ho:UnR X (unaryOp op) r) (ha:PE X a ta):PE X (.UnaryOp op a pos) (tUn r ta):=by
 intro pins s σ H Q I h;exact UnaryOp_ (thn (ha pins s σ H _ I h) fun v s1 ⟨x,H1,I1,r1,q1⟩=>ho pins s1 σ H1 x v Q I1 r1 q1)
theorem opI {f:Value→Value→Sem Value} {C:Int→Int→Prop} {g:Int→Int→Int}
  (rule:∀ (i j:Int) (t u:Tok) (s:Shared) (Q:Value→Shared→Prop) (E:Value→Shared→Prop),C i j→Q (.int (g i j) s.toks) { s with toks:=s.toks+1 }→wpAny (model X.prog X.w) X.A (f (.int i t) (.int j u)) Q E s) :
  OpR X f (rI C fun i j=>.int (g i j)):=by
 intro pins s σ H x y v u Q I rx ry h;obtain ⟨i,j,rfl,rfl,hc,q⟩:=h;obtain ⟨t,rfl⟩:=rx;obtain ⟨t',rfl⟩:=ry;exact rule i j t t' s _ _ hc ⟨.int (g i j),H,I.tok _,⟨_,rfl⟩,q⟩
theorem vP {f:Value→Value→Sem Value} {g:Int→Int→Int}
  (rule:∀ (i j:Int) (t u:Tok) (s:Shared) (Q:Value→Shared→Prop) (E:Value→Shared→Prop),Q (.int (g i j) s.toks) { s with toks:=s.toks+1 }→wpAny (model X.prog X.w) X.A (f (.int i t) (.int j u)) Q E s) :
  OpR X f (rI0 fun i j=>.int (g i j)):=by
 intro pins s σ H x y v u Q I rx ry h;obtain ⟨i,j,rfl,rfl,q⟩:=h;obtain ⟨t,rfl⟩:=rx;obtain ⟨t',rfl⟩:=ry;exact rule i j t t' s _ _ ⟨.int (g i j),H,I.tok _,⟨_,rfl⟩,q⟩
theorem uB {f:Value→Value→Sem Value} {g:Int→Int→Bool}
  (rule:∀ (i j:Int) (t u:Tok) (s:Shared) (Q:Value→Shared→Prop) (E:Value→Shared→Prop),Q (.bool (g i j)) s→wpAny (model X.prog X.w) X.A (f (.int i t) (.int j u)) Q E s) :
  OpR X f (rI0 fun i j=>.bl (g i j)):=by
 intro pins s σ H x y v u Q I rx ry h;obtain ⟨i,j,rfl,rfl,q⟩:=h;obtain ⟨t,rfl⟩:=rx;obtain ⟨t',rfl⟩:=ry;exact rule i j t t' s _ _ ⟨.bl (g i j),H,I,rfl,q⟩
def wV (i j:Int):Prop:=0≤j∧j≤1000000∧i.natAbs < 2 ^ 64
def CMul (i j:Int):Prop:=(-(2 ^ 64) < i∧i < 2 ^ 64)∨(-(2 ^ 64) < j∧j < 2 ^ 64)
theorem CMul.ok {i j:Int} (h:CMul i j):IntMulOk i j:=by
 rcases h with ⟨h1,h2⟩ | ⟨h1,h2⟩
 ·exact .of_left (intBits_le_64 h1 h2)
 ·exact .of_right (intBits_le_64 h1 h2)
theorem a7:OpR X (binaryOp .Add) (rI0 fun i j=>.int (i+j)):=vP fun _ _ _ _ _ _ _ q=>add_int q
theorem op_sub:OpR X (binaryOp .Sub) (rI0 fun i j=>.int (i - j)):=vP fun _ _ _ _ _ _ _ q=>sub_int q
theorem cp:OpR X (binaryOp .Mult) (rI CMul fun i j=>.int (i*j)):=opI fun _ _ _ _ _ _ _ hc q=>mul_int q hc.ok
theorem cq:OpR X (binaryOp .Mod) (rI (fun _ j=>0 < j) fun i j=>.int (i % j)):=opI fun i j _ _ _ _ _ hc q=>by
 have h1:(0:Int) < j:=hc;exact mod_int' (by lia) (by rw [Int.fmod_eq_emod_of_nonneg i (by lia)];exact q)
theorem op_pow:OpR X (binaryOp .Pow) (rI wV fun i j=>.int (i ^ j.toNat)):=opI fun _ _ _ _ _ _ _ hc q=>pow_int_small hc.1 hc.2.1 hc.2.2 q
theorem unI {f:Value→Sem Value} {g:Int→Int}
  (rule:∀ (i:Int) (t:Tok) (s:Shared) (Q:Value→Shared→Prop) (E:Value→Shared→Prop),Q (.int (g i) s.toks) { s with toks:=s.toks+1 }→wpAny (model X.prog X.w) X.A (f (.int i t)) Q E s) :
  UnR X f (rU fun i=>.int (g i)):=by
 intro pins s σ H x v Q I rx h;obtain ⟨i,rfl,q⟩:=h;obtain ⟨t,rfl⟩:=rx;exact rule i t s _ _ ⟨.int (g i),H,I.tok _,⟨_,rfl⟩,q⟩
theorem un_neg:UnR X (unaryOp .USub) (rU fun i=>.int (-i)):=unI fun _ _ _ _ _ q=>neg_int q
end
def uC:V→V→Bool
 | .non,.non=>true | .non,.int _=>true | .int _,.non=>true | .non,.bl _=>true | .bl _,.non=>true | .non,.str _=>true | .str _,.non=>true
 | .int _,.int _=>true | .bl _,.bl _=>true | .str _,.str _=>true | .byt _,.byt _=>true
 | .int _,.str _=>true | .str _,.int _=>true | .bl _,.str _=>true | .str _,.bl _=>true
 | _,_=>false
def rEq:R2:=fun x y H Q=>uC x y=true∧Q (.bl (decide (x=y))) H
def rNe:R2:=fun x y H Q=>uC x y=true∧Q (.bl (!decide (x=y))) H
theorem nO {i j:Int}:decide (V.int i=V.int j)=(i == j):=by
 rw [Bool.eq_iff_iff];simp
theorem qa {i j:Bool}:decide (V.bl i=V.bl j)=(i == j):=by
 rw [Bool.eq_iff_iff];simp
theorem nP {i j:Str}:decide (V.str i=V.str j)=(i == j):=by
 rw [Bool.eq_iff_iff];simp
theorem nQ {i j:Array UInt8}:decide (V.byt i=V.byt j)=(i.toList == j.toList):=by
 rw [Bool.eq_iff_iff]
 cases i
 cases j
 simp
section
variable {X:Cx} {a b c:Expr} {ta tb tc:TE} {pos:Pos}
theorem aw {pins:List (Addr×Obj)} {σ:St} {H:Hp} {s:Shared} {Q:VK} {k k':Bool} (I:Inv X pins σ H s) (q:Q (.bl k) H) (e:k=k'):EP X pins σ Q (.bool k') s:=by
 subst e;exact ⟨.bl k,H,I,rfl,q⟩
theorem op_eq:OpR X (compareOp .Eq) rEq:=by
 intro pins s σ H x y v u Q I rx ry h;obtain ⟨hs,q⟩:=h
 cases x with
 | non =>
  cases rx
  cases y with
  | non=>cases ry;exact PySem.EqNone.eq_none_none (aw I q (by simp))
  | bl j=>cases ry;exact PySem.EqNone.eq_none_bool (aw I q (by simp))
  | int j=>obtain ⟨t',rfl⟩:=ry;exact PySem.EqNone.eq_none_int (aw I q (by simp))
  | str j=>obtain ⟨t',rfl⟩:=ry;exact PySem.EqNone.eq_none_str (aw I q (by simp))
  | _=>exact absurd (show false=true from hs) Bool.false_ne_true
 | bl i =>
  cases rx
  cases y with
  | non=>cases ry;exact PySem.EqNone.eq_bool_none (aw I q (by simp))
  | bl j=>cases ry;exact eq_bool (aw I q qa)
  | str j=>obtain ⟨t',rfl⟩:=ry;exact PySem.EqMixed.eq_bool_str (aw I q (by simp))
  | _=>exact absurd (show false=true from hs) Bool.false_ne_true
 | int i =>
  obtain ⟨t,rfl⟩:=rx
  cases y with
  | non=>cases ry;exact PySem.EqNone.eq_int_none (aw I q (by simp))
  | int j=>obtain ⟨t',rfl⟩:=ry;exact eq_int (aw I q nO)
  | str j=>obtain ⟨t',rfl⟩:=ry;exact PySem.EqMixed.eq_int_str (aw I q (by simp))
  | _=>exact absurd (show false=true from hs) Bool.false_ne_true
 | str i =>
  obtain ⟨t,rfl⟩:=rx
  cases y with
  | non=>cases ry;exact PySem.EqNone.eq_str_none (aw I q (by simp))
  | bl j=>cases ry;exact PySem.EqMixed.eq_str_bool (aw I q (by simp))
  | int j=>obtain ⟨t',rfl⟩:=ry;exact PySem.EqMixed.eq_str_int (aw I q (by simp))
  | str j=>obtain ⟨t',rfl⟩:=ry;exact eq_str (aw I q nP)
  | _=>exact absurd (show false=true from hs) Bool.false_ne_true
 | byt i =>
  obtain ⟨t,rfl⟩:=rx
  cases y with
  | byt j=>obtain ⟨t',rfl⟩:=ry;exact PySem.W.eq_bytes (aw I q nQ)
  | _=>exact absurd (show false=true from hs) Bool.false_ne_true
 | _=>cases y <;> exact absurd (show false=true from hs) Bool.false_ne_true
theorem op_ne:OpR X (compareOp .NotEq) rNe:=by
 intro pins s σ H x y v u Q I rx ry h;obtain ⟨hs,q⟩:=h
 cases x with
 | non =>
  cases rx
  cases y with
  | non=>cases ry;exact PySem.EqNone.ne_none_none (aw I q (by simp))
  | bl j=>cases ry;exact PySem.EqNone.ne_none_bool (aw I q (by simp))
  | int j=>obtain ⟨t',rfl⟩:=ry;exact PySem.EqNone.ne_none_int (aw I q (by simp))
  | str j=>obtain ⟨t',rfl⟩:=ry;exact PySem.EqNone.ne_none_str (aw I q (by simp))
  | _=>exact absurd (show false=true from hs) Bool.false_ne_true
 | bl i =>
  cases rx
  cases y with
  | non=>cases ry;exact PySem.EqNone.ne_bool_none (aw I q (by simp))
  | bl j=>cases ry;exact ne_bool (aw I q (congrArg not qa))
  | str j=>obtain ⟨t',rfl⟩:=ry;exact PySem.EqMixed.ne_bool_str (aw I q (by simp))
  | _=>exact absurd (show false=true from hs) Bool.false_ne_true
 | int i =>
  obtain ⟨t,rfl⟩:=rx
  cases y with
  | non=>cases ry;exact PySem.EqNone.ne_int_none (aw I q (by simp))
  | int j=>obtain ⟨t',rfl⟩:=ry;exact ne_int (aw I q (congrArg not nO))
  | str j=>obtain ⟨t',rfl⟩:=ry;exact PySem.EqMixed.ne_int_str (aw I q (by simp))
  | _=>exact absurd (show false=true from hs) Bool.false_ne_true
 | str i =>
  obtain ⟨t,rfl⟩:=rx
  cases y with
  | non=>cases ry;exact PySem.EqNone.ne_str_none (aw I q (by simp))
  | bl j=>cases ry;exact PySem.EqMixed.ne_str_bool (aw I q (by simp))
  | int j=>obtain ⟨t',rfl⟩:=ry;exact PySem.EqMixed.ne_str_int (aw I q (by simp))
  | str j=>obtain ⟨t',rfl⟩:=ry;exact ne_str (aw I q (congrArg not nP))
  | _=>exact absurd (show false=true from hs) Bool.false_ne_true
 | byt i =>
  obtain ⟨t,rfl⟩:=rx
  cases y with
  | byt j=>obtain ⟨t',rfl⟩:=ry;exact PySem.W.ne_bytes (aw I q (congrArg not nQ))
  | _=>exact absurd (show false=true from hs) Bool.false_ne_true
 | _=>cases y <;> exact absurd (show false=true from hs) Bool.false_ne_true
theorem op_le:OpR X (compareOp .LtE) (rI0 fun i j=>.bl (decide (i≤j))):=uB fun _ _ _ _ _ _ _ q=>le_int q
theorem op_gt:OpR X (compareOp .Gt) (rI0 fun i j=>.bl (decide (j < i))):=uB fun _ _ _ _ _ _ _ q=>gt_int q
theorem qb:OpR X (compareOp .GtE) (rI0 fun i j=>.bl (decide (j≤i))):=uB fun _ _ _ _ _ _ _ q=>ge_int q
theorem oW:OpR X (compareOp .Lt) (fun x y H Q=>∃ i j,x=.str i∧y=.str j∧Q (.bl (decide (i.cps.toList < j.cps.toList))) H):=by
 intro pins s σ H x y v u Q I rx ry h;obtain ⟨i,j,rfl,rfl,q⟩:=h;obtain ⟨t,rfl⟩:=rx;obtain ⟨t',rfl⟩:=ry;exact lt_str (aw I q rfl)
theorem iI:OpR X (compareOp .In) (fun x y H Q=>∃ i j,x=.str i∧y=.str j∧Q (.bl (!(Builtin.Str.occurrences j i 0 j.length 1).isEmpty)) H):=by
 intro pins s σ H x y v u Q I rx ry h;obtain ⟨i,j,rfl,rfl,q⟩:=h;obtain ⟨t,rfl⟩:=rx;obtain ⟨t',rfl⟩:=ry;exact in_str (aw I q rfl)
theorem qc:OpR X (compareOp .Is) (fun x y H Q=>y=.non∧Q (.bl (decide (x=.non))) H):=by
 intro pins s σ H x y v u Q I rx ry h;obtain ⟨rfl,q⟩:=h
 cases ry
 refine is_none_gen (aw I q ?_)
 cases x <;> first
  | (cases rx;rfl)
  | (obtain ⟨t,rfl⟩:=rx;rfl)
theorem op_notN:OpR X (compareOp .IsNot) (fun x y H Q=>y=.non∧Q (.bl (!decide (x=.non))) H):=by
 intro pins s σ H x y v u Q I rx ry h;obtain ⟨rfl,q⟩:=h
 cases ry
 refine isnot_none_gen (aw I q ?_)
 cases x <;> first
  | (cases rx;rfl)
  | (obtain ⟨t,rfl⟩:=rx;rfl)
theorem nomark (b:Expr) {op:CmpOp} (h:op≠.In:=by decide) (h2:op≠.NotIn:=by decide):behindInMarks op b=false:=by
 have e1:(op == CmpOp.In)=false:=by cases op <;> first | rfl | exact absurd rfl h
 have e2:(op == CmpOp.NotIn)=false:=by cases op <;> first | rfl | exact absurd rfl h2
 cases b <;> simp [behindInMarks,e1,e2]
theorem pe_cmpR {op:CmpOp} {r:R2} (ho:OpR X (compareOp op) r) (ha:PE X a ta) (hb:PE X b tb) (hm:behindInMarks op b=false):PE X (.Compare a [op] [b] pos) (tOp r ta tb):=by
 intro pins s σ H Q I h;exact wpAny_Compare1 (uA ha hb I h fun v u s2 x y H2 I2 rx ry q=>ho pins s2 σ H2 x y v u Q I2 rx ry q) hm
inductive IBl (x:V) (H':Hp) (Q:Bool→Hp→Prop):Prop
 | mk (k:Bool):(x=.bl k)→(Q k H')→IBl x H' Q
def nR (t:TE):TT:=fun σ H Q=>t σ H fun x H'=>IBl x H' Q
theorem pt_cmpR {op:CmpOp} {r:R2} (ho:OpR X (compareOp op) r) (ha:PE X a ta) (hb:PE X b tb) (hm:behindInMarks op b=false):PT X (.Compare a [op] [b] pos) (nR (tOp r ta tb)):=by
 intro pins s σ H Q I h;refine wpAny_isTrue_Compare1 (thn (ha pins s σ H _ I h) fun v s1 ⟨x,H1,I1,r1,q1⟩=>thn (hb pins s1 σ H1 _ I1 q1) fun u s2 ⟨y,H2,I2,r2,q2⟩ =>
  thn (ho pins s2 σ H2 x y v u _ I2 r1 r2 q2) fun c s3 ⟨z,H3,I3,r3,k,e,q3⟩=>?_) hm
 subst e
 cases r3
 exact wpAny_truthy_bool ⟨H3,I3,q3⟩
def qe (r r':R2) (ta tb tc:TE):TE:=fun σ H Q=>ta σ H fun x H1=>tb σ H1 fun y H2=>r x y H2 fun z H3=>∃ k,z=.bl k ∧
 (if k=true then tc σ H3 fun w' H4=>r' y w' H4 Q else Q (.bl false) H3)
theorem qg {op op':CmpOp} {r r':R2} (ho:OpR X (compareOp op) r) (ho':OpR X (compareOp op') r') (ha:PE X a ta) (hb:PE X b tb) (hc:PE X c tc)
  (hm:lastMarks [op,op'] [b,c]=false:=by with_unfolding_all rfl):PE X (.Compare a [op,op'] [b,c] pos) (qe r r' ta tb tc):=by
 intro pins s σ H Q I h;refine Compare_chain (thn (ha pins s σ H _ I h) fun v s1 ⟨x,H1,I1,r1,q1⟩=>chain_link (thn (hb pins s1 σ H1 _ I1 q1) fun u s2 ⟨y,H2,I2,r2,q2⟩ =>
  thn (ho pins s2 σ H2 x y v u _ I2 r1 r2 q2) fun d s3 ⟨z,H3,I3,r3,k,e,q3⟩=>?_)) hm
 subst e
 cases r3
 refine wpAny_truthy_bool ?_
 cases k with
 | false=>exact ite_ff ⟨.bl false,H3,I3,rfl,q3⟩
 | true=>exact ite_tt (chain_last (thn (hc pins s3 σ H3 _ I3 q3) fun w' s4 ⟨z',H4,I4,r4,q4⟩=>ho' pins s4 σ H4 y z' u w' Q I4 r2 r4 q4))
theorem pt_chain {op op':CmpOp} {r r':R2} (ho:OpR X (compareOp op) r) (ho':OpR X (compareOp op') r') (ha:PE X a ta) (hb:PE X b tb) (hc:PE X c tc)
  (hm:lastMarks [op,op'] [b,c]=false:=by with_unfolding_all rfl):PT X (.Compare a [op,op'] [b,c] pos) (nR (qe r r' ta tb tc)):=by
 intro pins s σ H Q I h;refine isTrue_chain (thn (ha pins s σ H _ I h) fun v s1 ⟨x,H1,I1,r1,q1⟩=>test_link (thn (hb pins s1 σ H1 _ I1 q1) fun u s2 ⟨y,H2,I2,r2,q2⟩ =>
  thn (ho pins s2 σ H2 x y v u _ I2 r1 r2 q2) fun d s3 ⟨z,H3,I3,r3,k,e,q3⟩=>?_)) hm
 subst e
 cases r3
 refine wpAny_truthy_bool ?_
 cases k with
 | false =>
  obtain ⟨k',e',q'⟩:=q3
  cases e'
  exact ite_ff ⟨H3,I3,q'⟩
 | true =>
  refine ite_tt (test_last (thn (hc pins s3 σ H3 _ I3 q3) fun w' s4 ⟨z',H4,I4,r4,q4⟩=>thn (ho' pins s4 σ H4 y z' u w' _ I4 r2 r4 q4) fun d' s5 ⟨z2,H5,I5,r5,k2,e2,q5⟩=>?_));subst e2
  cases r5
  exact wpAny_truthy_bool ⟨H5,I5,q5⟩
theorem gw:(sizeLine:Nat) < 2 ^ 63:=by rw [sizeLine_eq];decide
theorem mn:OpR X (binaryOp .Add) (fun x y H Q=>∃ i j,x=.str i∧y=.str j∧i.length+j.length≤sizeLine∧Q (.str (i++j)) H):=by
 intro pins s σ H x y v u Q I rx ry h;obtain ⟨i,j,rfl,rfl,hz,q⟩:=h;obtain ⟨t,rfl⟩:=rx;obtain ⟨t',rfl⟩:=ry;exact add_str (fun t' tk=>⟨.str (i++j),H,I.tok _,⟨_,rfl⟩,q⟩) hz
theorem ce {x:V} {us:List Value} (r:Vals [x] us):∃ u,us=[u]∧RelV x u:=by
 cases r with
 | cons r1 r2=>cases r2;exact ⟨_,rfl,r1⟩
theorem nU {x y:V} {us:List Value} (r:Vals [x,y] us):∃ u w',us=[u,w']∧RelV x u∧RelV y w':=by
 cases r with
 | cons r1 r2 =>
  cases r2 with
  | cons r3 r4=>cases r4;exact ⟨_,_,rfl,r1,r3⟩
theorem gx:aW X (.builtin "abs") (fun xs H Q=>∃ i,xs=[.int i]∧Q (.int (if i < 0 then -i else i)) H):=by
 intro pins s σ H xs us Q I r h;obtain ⟨i,rfl,q⟩:=h;obtain ⟨u,rfl,t,rfl⟩:=ce r;exact call_abs_int fun u tk=>⟨.int (if i < 0 then -i else i),H,I.tok _,⟨_,rfl⟩,q⟩
theorem cz (hc:X.calm=true):aW X (.builtin "max") (fun xs H Q=>∃ i j,xs=[.int i,.int j]∧Q (.int (if j > i then j else i)) H):=by
 intro pins s σ H xs us Q I r h;obtain ⟨i,j,rfl,q⟩:=h;obtain ⟨u,w',rfl,⟨t,rfl⟩,⟨t',rfl⟩⟩:=nU r;refine max_two_ints (I.ok.hd hc) fun h' tk k=>⟨_,H,I.kept k,?_,q⟩
 by_cases hj:j > i
 ·rw [if_pos hj,if_pos hj];exact ⟨_,rfl⟩
 ·rw [if_neg hj,if_neg hj];exact ⟨_,rfl⟩
theorem fh (hc:X.calm=true):aW X (.builtin "min") (fun xs H Q=>∃ i j,xs=[.int i,.int j]∧Q (.int (if j < i then j else i)) H):=by
 intro pins s σ H xs us Q I r h;obtain ⟨i,j,rfl,q⟩:=h;obtain ⟨u,w',rfl,⟨t,rfl⟩,⟨t',rfl⟩⟩:=nU r;refine min_two_ints (I.ok.hd hc) fun h' tk k=>⟨_,H,I.kept k,?_,q⟩
 by_cases hj:j < i
 ·rw [if_pos hj,if_pos hj];exact ⟨_,rfl⟩
 ·rw [if_neg hj,if_neg hj];exact ⟨_,rfl⟩
theorem et:aW X (.type "str") (fun xs H Q=>∃ i,xs=[.int i]∧i.natAbs.log2 < 1920∧Q (.str (toString i)) H):=by
 intro pins s σ H xs us Q I r h;obtain ⟨i,rfl,hz,q⟩:=h;obtain ⟨u,rfl,t,rfl⟩:=ce r;exact PySem.P.str_of_int hz ⟨.str _,H,I.tok _,⟨_,rfl⟩,q⟩
end
structure ObjM (h:Heap) (x dx C:Addr) (mA:Str→Option Value):Prop where
 obj:h.get? x=some (PySem.W.instObj C dx)
 ns:h.Ns1 dx mA
 ne:dx≠x
section
variable {prog:Program} {w:World} {A:Around} {E:Value→Shared→Prop} {s:Shared} {K:PySem.W.Frag} {x dx C f:Addr} {mA:Str→Option Value} {name:Str} {v:Value}
end
theorem RelO.some_of {v:V} {o:Option Value} (r:RelO (some v) o):∃ u,o=some u∧RelV v u:=by
 cases o with
 | none=>exact (show False from r).elim
 | some u=>exact ⟨u,rfl,r⟩
section
variable {P:Program} {w:World} {H H':Hp} {h h':Heap} {a C dx:Addr} {fs fs':List (Str×V)}
end
structure Cls (K:PySem.W.Frag) (C:Addr):Prop where
 pg:PySem.W.plainGet K C Str.empty=true
 hd:PySem.W.hasDictIn K C=true
 po:PySem.W.plainOver K C=true
 sa:PySem.W.findIn K (.ref C) "__setattr__" = some (some (.builtin "object.__setattr__"))
section
variable {X:Cx} {pins:List (Addr×Obj)} {σ:St} {H:Hp} {s:Shared} {a C dx:Addr} {fs:List (Str×V)} {f:Str} {v:V} {A:Around} {E:Value→Shared→Prop}
end
section
variable {X:Cx} {o e value:Expr} {f:Str} {pos pos' tpos:Pos} {ta tv:TE}
end
section
variable {X:Cx} {pins:List (Addr×Obj)} {σ:St} {H:Hp} {s:Shared} {A:Around} {E:Value→Shared→Prop} {Q:Value→Shared→Prop} {c:Value} {b:Bool}
end
structure Room (k:Nat) (A:Around):Prop where
 hd:A.handled=none
 dp:A.depth+3*k+5 < recursionLimit
 un:A.units+16*k+200 < cLine
theorem Room.mono {j k:Nat} {A:Around} (r:Room k A) (h:j≤k):Room j A:=⟨r.hd,by have:=r.dp;lia,by have:=r.un;lia⟩
theorem Room.deeper {k:Nat} {A:Around} (r:Room (k+1) A) (env:Env):Room k (A.deeper env) :=
 ⟨r.hd,by have:=r.dp;show A.depth+1+3*k+5 < _;lia,by have:=r.un;show A.units+3+16*k+200 < _;lia⟩
theorem Room.depth {k:Nat} {A:Around} (r:Room k A):A.depth < recursionLimit:=by have:=r.dp;lia
theorem Room.units {k:Nat} {A:Around} (r:Room k A):A.units+64 < cLine:=by have:=r.un;lia
def r8:TA:=fun _ H Q=>Q [] H
def gy (ta:TE) (tr:TA):TA:=fun σ H Q=>ta σ H fun x H1=>tr σ H1 fun xs H2=>Q (x :: xs) H2
section
variable {X:Cx} {e:Expr} {es:List Expr} {te:TE} {t:TA} {pos:Pos}
theorem cY:PA X [] r8:=fun _ _ _ _ H Q I h=>Calls.spliced_nil ⟨[],H,I,.nil,h⟩
theorem bC (ha:PE X e te) (hr:PA X es t) (hs:starEach (e :: es) X.env=(false,eval e X.env) :: starEach es X.env:=by rfl):PA X (e :: es) (gy te t):=by
 intro pos pins s σ H Q I h;rw [hs];show wpAny _ _ (spliced ((false,eval e X.env) :: backTo pos (starEach es X.env))) _ _ s;refine Calls.spliced_cons (thn (ha pins s σ H _ I h) fun u s1 ⟨x,H1,I1,r1,q1⟩=>?_);exact thn (hr pos pins s1 σ H1 _ I1 q1) fun us s2 ⟨xs,H2,I2,r2,q2⟩=>⟨x :: xs,H2,I2,.cons r1 r2,q2⟩
def wW (t:TA):TE:=fun σ H Q=>t σ H fun xs H1=>xs.length≤sizeLine∧∀ p,H1 p=none→Q (.ref p) (upd H1 p (.lst xs))
theorem bt (h:PA X es t):PE X (.List es pos) (wW t):=by
 intro pins s σ H Q I hq;refine wpAny_List_spliced (thn (h pos pins s σ H _ I hq) fun us s1 ⟨xs,H1,I1,r,z,q⟩=>⟨by rw [← r.length];exact z,?_⟩);have hf:H1 s1.heap.objs.size=none:=I1.hok.fresh (Nat.le_refl _);refine ⟨.ref s1.heap.objs.size,upd H1 s1.heap.objs.size (.lst xs),I1.laid (t':=s1.toks) (fun b u e=>Heap.get?_push_of_some _ e) (Nat.le_refl _) ?_,rfl,q _ hf⟩;exact ⟨z,us,0,r,Heap.get?_push_size _ rfl⟩
end
abbrev Sp:=List V→Hp→VK→XK→Prop
abbrev CXT:=List Env→Hp→Shared→XK→Value→Shared→Prop
structure Env0 (P:Program) (w:World) (K:PySem.W.Frag) (mg:Str→Option Value) (base:Heap) (A:Around) (outer:List Env) (s:Shared) (H:Hp):Prop where
 frames:A.frames=some outer
 mod:Mod K mg base
 bs:∀ b o,base.get? b=some o→s.heap.get? b=some o∧H b=none
 bsz:base.objs.size≤s.heap.objs.size
 funs:s.heap.FunFrames base outer
 frf:∀ b∈frs outer,H b=none
 hok:HOk P w H s.heap
 bare:AllBare s.gens
def CE (outer:List Env) (P:Program) (w:World) (H:Hp) (s:Shared) (Q:VK) (u:Value) (s':Shared):Prop :=
 ∃ v H',s'.os=s.os∧AllBare s'.gens∧Un (frs outer) [] H H' s.heap s'.heap∧HOk P w H' s'.heap∧RelV v u∧Q v H'
def CR (CX:CXT) (outer:List Env) (P:Program) (w:World) (H:Hp) (s:Shared) (Q:VK) (E:XK) (r:Result) (s':Shared):Prop :=
 match r with
 | .ok (.ret u)=>CE outer P w H s Q u s'
 | .ok _=>False
 | .error e=>CX outer H s E e s'
structure FnOk (P:Program) (w:World) (K:PySem.W.Frag) (mg:Str→Option Value) (base:Heap) (CX:CXT) (k:Nat) (f:Addr) (fd:FuncData) (ps:List Str) (sp:Sp):Prop where
 len:∀ vs H Q E,sp vs H Q E→vs.length=ps.length
 run:∀ (A:Around) (outer:List Env) (s:Shared) (H:Hp) (args:Args) (us:List Value) (vs:List V) (Q:VK) (E:XK),Room k A→Env0 P w K mg base A outer s H→BindsTo s fd args (ps.zip us)→Vals vs us→sp vs H Q E →
  codeAny (model P w) A (.call (.ref f) args) (CR CX outer P w H s Q E) s
theorem FnOk.imp {P:Program} {w:World} {K:PySem.W.Frag} {mg:Str→Option Value} {base:Heap} {CX:CXT} {k:Nat} {f:Addr} {fd:FuncData} {ps:List Str} {sp sp':Sp} (F:FnOk P w K mg base CX k f fd ps sp)
  (h:∀ vs H Q E,sp' vs H Q E→sp vs H Q E):FnOk P w K mg base CX k f fd ps sp' :=
 ⟨fun vs H Q E q=>F.len vs H Q E (h _ _ _ _ q),fun A outer s H args us vs Q E hr he hb hv hs=>F.run A outer s H args us vs Q E hr he hb hv (h _ _ _ _ hs)⟩
section
variable {X:Cx} {pins:List (Addr×Obj)} {σ:St} {H:Hp} {s s':Shared}
theorem Inv.env0 (I:Inv X pins σ H s):Env0 X.prog X.w X.K X.mg X.base X.A X.stack s H :=
 ⟨I.ok.frames,I.ok.mod,I.bs,Nat.le_trans I.ok.bsz I.sz,I.stack,I.stkFree,I.hok,I.bare⟩
theorem Inv.after {Q:VK} {u:Value} (I:Inv X pins σ H s) (h:CE X.stack X.prog X.w H s Q u s'):EP X pins σ Q u s':=by
 obtain ⟨v,H',os,bare,un,hok,r,q⟩:=h;obtain ⟨hh,g,d,t,os'⟩:=s';obtain rfl:os'=s.os:=os;exact ⟨v,H',I.call (h':=hh) (g':=g) (d':=d) (t':=t) (ch:=[]) un hok bare (fun b z=>absurd z (by simp)),r,q⟩
end
def tU (sp:Sp) (dvs:List V) (E:XK) (t:TA):TE:=fun σ H Q=>t σ H fun vs H1=>sp (vs++dvs) H1 Q E
def Binds (K:PySem.W.Frag) (fd:FuncData) (ps:List Str) (ds:List Value):Prop :=
 ∀ (s:Shared) (us:List Value),K.In s.heap→(us++ds).length=ps.length→BindsTo s fd ⟨us,[]⟩ (ps.zip (us++ds))
theorem Binds.all {K:PySem.W.Frag} {fd:FuncData} {ps:List Str} (h:∀ us:List Value,us.length=ps.length→bindArgs fd ⟨us,[]⟩=pure (ps.zip us)):Binds K fd ps []:=fun s us _ hl=>by
 rw [List.append_nil] at hl ⊢;exact .of_eq (h us hl)
def jh (CX:CXT) (X:Cx) (E:XK):Prop:=∀ (pins:List (Addr×Obj)) (σ:St) (H:Hp) (s:Shared) (e:Value) (s':Shared),Inv X pins σ H s→CX X.stack H s E e s'→X.xe e s'
section
variable {X:Cx} {CX:CXT} {k:Nat} {f C:Addr} {fd:FuncData} {ps:List Str} {sp:Sp} {dvs:List V} {ds:List Value} {E:XK} {x m:Str} {p pos apos:Pos} {e o:Expr} {es:List Expr} {ta:TE} {t:TA}
theorem uD {pins:List (Addr×Obj)} {σ:St} {H:Hp} {s:Shared} {Q:VK} {us:List Value} {vs:List V} (F:FnOk X.prog X.w X.K X.mg X.base CX k f fd ps sp) (hr:Room k X.A) (hb:Binds X.K fd ps ds) (hd:Vals dvs ds) (hx:jh CX X E)
  (I:Inv X pins σ H s) (r:Vals vs us) (h:sp (vs++dvs) H Q E):wpAny (model X.prog X.w) X.A (call (.ref f) us) (EP X pins σ Q) X.xe s:=by
 have r2:Vals (vs++dvs) (us++ds):=r.append hd;have hl:(us++ds).length=ps.length:=by rw [← r2.length];exact F.len _ _ _ _ h
 refine wpAny_call (codeAny_mono (F.run X.A X.stack s H ⟨us,[]⟩ (us++ds) (vs++dvs) Q E hr I.env0 (hb s us I.kIn hl) r2 h) fun r s' hq=>?_)
 cases r with
 | error e=>exact hx pins σ H s e s' I hq
 | ok fl =>
  cases fl with
  | ret u=>exact I.after hq
  | next=>exact False.elim hq
  | brk=>exact False.elim hq
  | cont=>exact False.elim hq
theorem pe_call (F:FnOk X.prog X.w X.K X.mg X.base CX k f fd ps sp) (hr:Room k X.A) (hg:Gl X x) (hm:X.mg x=some (.ref f)) (hk:PySem.W.keepIn X.K (.ref f)=true) (hb:Binds X.K fd ps ds) (hd:Vals dvs ds) (hx:jh CX X E)
  (ha:PA X (e :: es) t) (hdb:(x == ("__debug__" : Str))=false:=by decide) (he:starEach (e :: es) X.env=(false,eval e X.env) :: starEach es X.env:=by rfl) (hpl:(backTo pos (starEach es X.env)).any (·.1)=false:=by rfl) :
  PE X (.Call (.Name x p) (e :: es) [] pos) (tU sp dvs E t):=by
 intro pins s σ H Q I h;refine wpAny_Call_Name_kw (er I hg hm ?_ hdb);refine PySem.W.callWith_K (h₀:=X.base) I.ok.mod.kin hk (thn (ha pos pins s σ H _ I h) fun us s1 ⟨vs,H1,I1,r,q⟩=>⟨I1.kIn,?_⟩) he hpl;exact uD F hr hb hd hx I1 r q
end
section
variable {X:Cx} {CX:CXT} {k:Nat} {f C:Addr} {fd:FuncData} {ps ks:List Str} {sp:Sp} {E:XK} {x m:Str} {p pos apos kpos:Pos} {e o:Expr} {es:List Expr} {kws:List Keyword} {te ta:TE} {t tk:TA} {nm:Option Str}
variable {g:List Value→List Value→List Value} {gV:List V→List V→List V}
end
structure FnScope (N P:List Str) (sc:Scope):Prop where
 kind:sc.kind=.function
 co:sc.isCoroutine=false
 gen:sc.isGenerator=false
 nd:N.Nodup
 pre:N.take P.length=P
 par:∀ x∈P,sc.names.lookup x=some .local∨sc.names.lookup x=some .cell
 nofree:∀ y∈sc.names,y.2≠.free
theorem iJ {kindOf:Str→Option NameKind} {x:Str}:∀ {binds:List (Str×Value)} {m:Str→Option Value},(∀ v,(x,v)∉binds)→bindL kindOf binds m x=m x
 | [],_,_=>rfl
 | (n,v) :: r,m,h=>by
  unfold bindL;rw [iJ fun w hw=>h w (List.mem_cons_of_mem _ hw)]
  split
  ·have:x≠n:=by rintro rfl;exact h v List.mem_cons_self
   simp [this]
  ·rfl
theorem iK {kindOf:Str→Option NameKind} {x:Str}:∀ {binds:List (Str×Value)} {m:Str→Option Value},(∀ v,(x,v)∉binds)→bindC kindOf binds m x=m x
 | [],_,_=>rfl
 | (n,v) :: r,m,h=>by
  unfold bindC;rw [iK fun w hw=>h w (List.mem_cons_of_mem _ hw)]
  split
  ·rfl
  ·have:x≠n:=by rintro rfl;exact h v List.mem_cons_self
   simp [this]
theorem iL {kindOf:Str→Option NameKind} {x:Str} {v:Value}:∀ {P:List Str} {vs:List Value} {i:Nat} {m:Str→Option Value},P.Nodup→P[i]?=some x→vs[i]?=some v→kindOf x=some .local →
  bindL kindOf (P.zip vs) m x=some v
 | [],_,_,_,_,h,_,_=>by simp at h
 | _ :: _,[],_,_,_,_,h,_=>by simp at h
 | p :: P,w :: vs,0,m,nd,h1,h2,hk=>by
  simp at h1 h2;subst h1;subst h2;show bindL kindOf ((p,w) :: P.zip vs) m p=_;unfold bindL;rw [iJ fun v hv=>(List.nodup_cons.mp nd).1 (List.of_mem_zip hv).1,if_pos hk];simp
 | p :: P,w :: vs,i+1,m,nd,h1,h2,hk=>by
  show bindL kindOf ((p,w) :: P.zip vs) m x=_;unfold bindL;exact iL (i:=i) (List.nodup_cons.mp nd).2 (by simpa using h1) (by simpa using h2) hk
theorem iM {kindOf:Str→Option NameKind} {x:Str} {v:Value}:∀ {P:List Str} {vs:List Value} {i:Nat} {m:Str→Option Value},P.Nodup→P[i]?=some x→vs[i]?=some v→kindOf x≠some .local →
  bindC kindOf (P.zip vs) m x=some v
 | [],_,_,_,_,h,_,_=>by simp at h
 | _ :: _,[],_,_,_,_,h,_=>by simp at h
 | p :: P,w :: vs,0,m,nd,h1,h2,hk=>by
  simp at h1 h2;subst h1;subst h2;show bindC kindOf ((p,w) :: P.zip vs) m p=_;unfold bindC;rw [iK fun v hv=>(List.nodup_cons.mp nd).1 (List.of_mem_zip hv).1,if_neg hk];simp
 | p :: P,w :: vs,i+1,m,nd,h1,h2,hk=>by
  show bindC kindOf ((p,w) :: P.zip vs) m x=_;unfold bindC;exact iM (i:=i) (List.nodup_cons.mp nd).2 (by simpa using h1) (by simpa using h2) hk
def start (N:List Str) (vs:List V):St:=vs.map some++List.replicate (N.length - vs.length) none
def kG (CX:CXT) (P:Program) (w:World) (K:PySem.W.Frag) (mg:Str→Option Value) (base:Heap) (N:List Str) (qual:Str) (scope:Scope) (f:Addr) (cd:Value) (A:Around) (outer:List Env) (s:Shared) (H:Hp) (E:XK):Cx where
 prog:=P
 w:=w
 K:=K
 mg:=mg
 base:=base
 A:=A.deeper (envOfC qual scope s.heap.objs.size f cd)
 N:=N
 s₀:=s
 H₀:=H
 env:=envOfC qual scope s.heap.objs.size f cd
 outer:=outer
 stack:=envOfC qual scope s.heap.objs.size f cd :: outer
 ex:=[]
 calm:=true
 fn:=fun _=>true
 pn:=[]
 xe:=fun e s'=>wpAny (model P w) (A.deeper (envOfC qual scope s.heap.objs.size f cd)) (leaving (envOfC qual scope s.heap.objs.size f cd) e) (fun _ s''=>CX outer H s E e s'') (fun e' s''=>CX outer H s E e' s'') s'
theorem kH {sc:Scope} {n:Nat} {x:Str} (h:sc.names.lookup x=some .cell):∃ c,(cellsFrom n sc.names []).lookup x=some c:=by
 have q:=PySem.W.cellsFrom_some sc.names n [] (.inl h);exact Option.isSome_iff_exists.mp q
theorem oX {CX:CXT} {P:Program} {w:World} {K:PySem.W.Frag} {mg:Str→Option Value} {base:Heap} {N ps:List Str} {qual:Str} {scope:Scope} {f:Addr} {cd:Value} {A:Around} {outer:List Env} {s s1:Shared} {H:Hp} {E:XK} {us:List Value} {vs:List V}
  (S:FnScope N ps scope) (hd:A.handled=none) (e0:Env0 P w K mg base A outer s H) (hl:vs.length=ps.length) (r:Vals vs us)
  (x:InCallC s s.heap.objs.size (bindL (envOfC qual scope s.heap.objs.size f cd).kindOf (ps.zip us) fun _=>none) (cellsFrom (s.heap.objs.size+1) scope.names []) (bindC (envOfC qual scope s.heap.objs.size f cd).kindOf (ps.zip us) fun _=>none) s1) :
  Inv (kG CX P w K mg base N qual scope f cd A outer s H E) [] (start N vs) H s1:=by
 have hpl:ps.length≤N.length:=by have:=congrArg List.length S.pre;rw [List.length_take] at this;lia
 obtain ⟨h1,tk,rfl,hk⟩:=x.done;have noA:∀ b:Addr,b∉(kG CX P w K mg base N qual scope f cd A outer s H E).ex:=fun b z=>absurd (show b∈([]:List Addr) from z) (by simp);refine ⟨⟨e0.mod,S.kind,rfl,rfl,Nat.le_refl _,fun y z c h1 h2=>?_,fun y hy=>?_,fun y c _ h=>?_,fun _=>hd,Around.frames_deeper e0.frames,.inr ⟨rfl,rfl⟩,fun b z=>absurd z (noA b),e0.bs,e0.bsz,fun b _ _=>noA b,fun b z=>absurd z (noA b),e0.funs,e0.frf⟩,
  rfl,e0.bare,Un.kept hk,⟨_,x.toInCall.ns,fun i y v h1 h2 h3=>?_⟩,fun y c h=>⟨_,x.cell y c h⟩,e0.hok.fresh (Nat.le_refl _),fun y c h=>?_,fun p hp=>absurd (show p∈([]:List (Addr×Obj)) from hp) (by simp),e0.hok.kept hk,?_⟩
 ·exact name_of_addr x.apart (PySem.mem_of_lookup h1) (PySem.mem_of_lookup h2)
 ·have hy:scope.names.lookup y=some .cell∨scope.names.lookup y=some .free:=hy;rcases hy with hy | hy
  ·exact kH hy
  ·exact absurd rfl (S.nofree _ (PySem.mem_of_lookup hy))
 ·exact Nat.le_of_lt (x.above y c (PySem.mem_of_lookup h))
 ·have hi:i < vs.length:=by
   unfold start at h2
   by_cases hi:i < vs.length
   ·exact hi
   ·rw [List.getElem?_append_right (by simpa using hi)] at h2;rw [List.getElem?_replicate] at h2
    split at h2 <;> cases h2
  have ha:vs[i]?=some v:=by
   unfold start at h2;rw [List.getElem?_append_left (by simpa using hi),List.getElem?_map] at h2
   cases e:vs[i]? with
   | none=>rw [e] at h2;cases h2
   | some a=>rw [e] at h2;cases h2;rfl
  obtain ⟨u,hu,rv⟩:=r.get ha;have hp:ps[i]?=some y:=by
   rw [← S.pre,List.getElem?_take_of_lt (by lia)];exact h1
  have ndP:ps.Nodup:=by rw [← S.pre];exact S.nd.sublist (List.take_sublist _ _)
  refine ⟨u,rv,?_⟩;rcases S.par y (List.mem_of_getElem? hp) with k | k
  ·exact .inl ⟨k,iL ndP hp hu k⟩
  ·obtain ⟨c,e⟩:=kH (n:=s.heap.objs.size+1) k;refine .inr ⟨.inl k,c,e,?_⟩;have q:=x.cell y c e;rw [iM ndP hp hu (by show scope.names.lookup y≠_;rw [k];decide)] at q;exact q
 ·exact e0.hok.fresh (Nat.le_of_lt (x.above y c (PySem.mem_of_lookup h)))
 ·unfold start;show _=N.length;rw [List.length_append,List.length_map,List.length_replicate];lia
theorem tV {CX:CXT} {P:Program} {w:World} {K:PySem.W.Frag} {mg:Str→Option Value} {base:Heap} {k:Nat} {f:Addr} {name qual:Str} {params:Arguments} {body:List Stmt} {scope:Scope} {dV kV doc pm cdv ct oc:Value} {an od:Option Addr}
  {osl:Array (Option Value)} {N ps:List Str} {sp:Sp} (lk:K.lookup f=some ⟨oc,od,.func (PySem.W.fnOf name qual params body scope dV kV doc pm an cdv ct),osl⟩) (hcd:PySem.W.codeIn K cdv qual=true) (S:FnScope N ps scope)
  (len:∀ vs H Q E,sp vs H Q E→vs.length=ps.length)
  (hbody:∀ (A:Around) (outer:List Env) (s:Shared) (H:Hp) (vs:List V) (Q:VK) (E:XK),Room k (A.deeper (envOfC qual scope s.heap.objs.size f cdv))→sp vs H Q E →
   ∃ t,PSs (kG CX P w K mg base N qual scope f cdv A outer s H E) body t∧t { nx:=fun _ H'=>Q .non H',rt:=Q } (start N vs) H) :
  FnOk P w K mg base CX (k+1) f (PySem.W.fnOf name qual params body scope dV kV doc pm an cdv ct) ps sp:=by
 refine ⟨len,fun A outer s H args us vs Q E hr e0 hb r hsp=>?_⟩;have hl:=len _ _ _ _ hsp;have KX:K.In s.heap:=e0.mod.kin.keeps fun b o e=>(e0.bs b o e).1;have lim:s.heap.NoLimit:=e0.mod.nolimit.keeps fun b o e=>(e0.bs b o e).1;have hkind:∀ y∈ps.zip us,scope.names.lookup y.1=some .local∨(scope.names.lookup y.1=some .cell∧((cellsFrom (s.heap.objs.size+1) scope.names []).lookup y.1).isSome=true):=fun ⟨n,v⟩ hy=>by
  rcases S.par n (List.of_mem_zip hy).1 with q | q
  ·exact .inl q
  ·exact .inr ⟨q,PySem.W.cellsFrom_some _ _ _ (.inl q)⟩
 refine codeAny_call_function hr.depth (KX _ _ lk) rfl S.co S.gen rfl (PySem.W.codeRec_of KX hcd) (hb _ _ _ _ ?_);refine wpAny_newFunctionEnv_cells S.kind hkind fun env he s1 x=>?_;subst he;refine ⟨lim.keeps x.toInCall.keep,codeAny_func ?_⟩;obtain ⟨t,ht,hq⟩:=hbody A outer s H vs Q E (hr.deeper _) hsp;have I:Inv (kG CX P w K mg base N qual scope f cdv A outer s H E) [] (start N vs) H s1:=oX S hr.hd e0 hl r x;refine wpAny_mono (ht [] s1 (start N vs) H _ I hq) (fun fl s' hs=>?_) fun e s' hs=>hs;have fin:∀ {σ':St} {H':Hp} {v:V} {u:Value},Inv (kG CX P w K mg base N qual scope f cdv A outer s H E) [] σ' H' s'→RelV v u→Q v H'→CE outer P w H s Q u s' :=
  fun {σ' H' v u} J rv q=>⟨v,H',J.os,J.bare,J.base,J.hok,rv,q⟩
 cases fl with
 | ret u =>
  obtain ⟨v,σ',H',J,rv,q⟩:=hs;exact fin J rv q
 | next =>
  obtain ⟨σ',H',J,q⟩:=hs;exact fin (v:=V.non) (u:=Value.none) J rfl q
 | brk =>
  obtain ⟨_,_,_,q⟩:=hs;exact False.elim q
 | cont =>
  obtain ⟨_,_,_,q⟩:=hs;exact False.elim q
section
variable {X:Cx} {x:Str} {p pos:Pos} {e:Expr} {es:List Expr} {t:TA} {id T:String} {r:List V→Hp→VK→Prop}
def tCB (r:List V→Hp→VK→Prop) (t:TA):TE:=fun σ H Q=>t σ H fun vs H1=>r vs H1 Q
theorem pe_callB (hc:aW X (.builtin id) r) (hg:Gl X x) (hm:X.mg x=none) (hv:bootBuiltins x=some (.builtin id)) (ha:PA X (e :: es) t) (hn:x≠ "__name__" :=by decide) (hdb:(x == ("__debug__" : Str))=false:=by decide)
  (he:starEach (e :: es) X.env=(false,eval e X.env) :: starEach es X.env:=by rfl) (hpl:(backTo pos (starEach es X.env)).any (·.1)=false:=by rfl):PE X (.Call (.Name x p) (e :: es) [] pos) (tCB r t):=by
 intro pins s σ H Q I h;refine wpAny_Call_Name_kw (bG I hg hm hv ?_ hn hdb);exact PyProof.Rows.callWith_builtin1 (thn (ha pos pins s σ H _ I h) fun us s1 ⟨vs,H1,I1,r1,q1⟩=>hc pins s1 σ H1 vs us Q I1 r1 q1) he hpl
theorem pe_callTy (hc:aW X (.type T) r) (hg:Gl X x) (hm:X.mg x=none) (hv:bootBuiltins x=some (.type T)) (ha:PA X (e :: es) t) (hn:x≠ "__name__" :=by decide) (hdb:(x == ("__debug__" : Str))=false:=by decide)
  (he:starEach (e :: es) X.env=(false,eval e X.env) :: starEach es X.env:=by rfl) (hpl:(backTo pos (starEach es X.env)).any (·.1)=false:=by rfl):PE X (.Call (.Name x p) (e :: es) [] pos) (tCB r t):=by
 intro pins s σ H Q I h;refine wpAny_Call_Name_kw (bG I hg hm hv ?_ hn hdb);exact PyProof.Rows.callWith_type1 (thn (ha pos pins s σ H _ I h) fun us s1 ⟨vs,H1,I1,r1,q1⟩=>hc pins s1 σ H1 vs us Q I1 r1 q1) he hpl
end
end L2
namespace HT
open PySem PyProof.Rows
section
open PySem.SeqAt
open PySem.AutoSeq1 (wpAny_loadPart')
open PySem.MeetsSeq PySem.MeetsSeq2 PySem.MeetsSeq3
end
section
variable {prog:Program} {w:World} {A:Around} {E:Value→Shared→Prop} {s:Shared}
theorem cat_tup {t b:Addr} {vs ws:List Value} {Q:Value→Shared→Prop} (ht:IsTup s.heap t vs.toArray) (hb:IsTup s.heap b ws.toArray) (hv:vs≠[])
  (h1:ws=[]→Q (.ref t) s) (h2:ws≠[]→Q (.ref s.heap.objs.size) { s with heap:=s.heap.push { cls:=.type "tuple",data:=.seq (vs++ws).toArray } })
  (hsz:vs.length+ws.length≤sizeLine):wpAny (model prog w) A (binaryOp .Add (.ref t) (.ref b)) Q E s:=by
 obtain ⟨⟨cls,dd,data,sl⟩,ho,hc,n,hd⟩:=id ht;obtain ⟨⟨cls2,dd2,data2,sl2⟩,ho2,hc2,n2,hd2⟩:=id hb;simp only at hc hd hc2 hd2;subst hc hd hc2 hd2;have e:vs.toArray++ws.toArray=(vs++ws).toArray:=by simp
 by_cases hw:ws=[]
 ·exact concat_meets ⟨_,ho,rfl⟩ ⟨_,ho2,rfl⟩ noFill_tuple_add seq_tuple_add PySem.F.slot_tuple_add PySem.F.entry_tuple_add (PySem.F.args_tuple_add_2 _ _)
   (tuple_addW1 t b vs.toArray ws.toArray n n2 dd dd2 sl sl2 (by simpa using hv) (by simp [hw])) ⟨ho,ho2,h1 hw⟩
 ·refine concat_meets ⟨_,ho,rfl⟩ ⟨_,ho2,rfl⟩ noFill_tuple_add seq_tuple_add PySem.F.slot_tuple_add PySem.F.entry_tuple_add (PySem.F.args_tuple_add_2 _ _)
   (tuple_addW2 t b vs.toArray ws.toArray n n2 dd dd2 sl sl2 (by simpa using hv) (by simpa using hw) (by rw [List.size_toArray,List.size_toArray];exact hsz)) ⟨ho,ho2,?_⟩
  rw [e];exact h2 hw
def sIx (n d:Nat):Option Int→Nat
 | none=>d
 | some v=>if v < 0 then (v+(n:Int)).toNat else min v.toNat n
theorem sIx_nat (n d k:Nat):sIx n d (some (k:Int))=min k n:=by
 show (if (k:Int) < 0 then ((k:Int)+(n:Int)).toNat else min (k:Int).toNat n)=min k n;rw [if_neg (by lia),Int.toNat_natCast]
theorem uE (n d:Nat) (hd:d≤n) (o:Option Int):sIx n d o≤n:=by
 cases o with
 | none=>exact hd
 | some v =>
  show (if v < 0 then (v+(n:Int)).toNat else min v.toNat n)≤n
  by_cases hv:v < 0
  ·rw [if_pos hv];lia
  ·rw [if_neg hv];exact Nat.min_le_right _ _
theorem nV (v:Int) (n d:Nat):(if v < 0 then max (v+(n:Int)) 0 else min v (n:Int))=((sIx n d (some v):Nat):Int):=by
 show (if v < 0 then max (v+(n:Int)) 0 else min v (n:Int))=(((if v < 0 then (v+(n:Int)).toNat else min v.toNat n):Nat):Int)
 by_cases hv:v < 0
 ·simp only [if_pos hv];lia
 ·simp only [if_neg hv];lia
theorem mo (lo hi:Option Int) (n:Nat):Builtin.Slice.sliceAdjust lo hi 1 (n:Int)=(((sIx n 0 lo:Nat):Int),((sIx n n hi:Nat):Int)):=by
 have h1:¬ ((1:Int) < 0):=by lia
 unfold Builtin.Slice.sliceAdjust;simp only [h1,if_false];refine Prod.ext ?_ ?_
 ·cases lo with
  | none=>rfl
  | some v=>exact nV v n 0
 ·cases hi with
  | none=>rfl
  | some v=>exact nV v n n
theorem mq (i j:Nat):Builtin.Slice.slicePlaces (i:Int) (j:Int) 1=j - i:=by
 unfold Builtin.Slice.slicePlaces;have h1:(1:Int) > 0:=by lia
 simp only [h1,if_true,Int.ediv_one]
 split <;> lia
theorem gC {v:Value} {o:Option Int} {Q:Option Int→Shared→Prop} (p:IsPart v o) (h:Q o s):wpAny (model prog w) A (Builtin.Slice.slicePartIndex v) Q E s:=by
 cases p with
 | none=>exact slicePart_none h
 | int i t=>exact slicePart_int h
theorem cA {sl:Addr} {vl vu:Value} {lo hi:Option Int} {n:Nat} {Q:Int×Int×Nat→Shared→Prop} (hs:s.heap.IsSliceOf sl vl vu .none) (pl:IsPart vl lo) (pu:IsPart vu hi)
  (h:Q (((sIx n 0 lo:Nat):Int),1,sIx n n hi - sIx n 0 lo) s):wpAny (model prog w) A (Builtin.Slice.sliceApplied (.ref sl) (pure (n:Int))) Q E s:=by
 obtain ⟨os,hos,hcs,hds⟩:=id hs;unfold Builtin.Slice.sliceApplied Builtin.Slice.sliceFields;refine wpAny_bind (wpAny_bind (wpAny_field hos hds (x:=vl) rfl (wpAny_bind (wpAny_field hos hds (x:=vu) rfl (wpAny_bind (wpAny_field hos hds (x:=.none) rfl (wpAny_pure ?_)))))));refine wpAny_bind (slicePart_none ?_);show wpAny _ _ (if ((1:Int) == 0)=true then _ else _) _ _ s;rw [if_neg (by decide)];refine wpAny_bind (gC pl (wpAny_bind (gC pu (wpAny_bind (wpAny_pure ?_)))));show wpAny _ _ (match Builtin.Slice.sliceAdjust lo hi 1 (n:Int) with | (lo,hi)=>pure (lo,(1:Int),Builtin.Slice.slicePlaces lo hi 1)) _ _ s;rw [mo lo hi n];show wpAny _ _ (pure (((sIx n 0 lo:Nat):Int),(1:Int),Builtin.Slice.slicePlaces ((sIx n 0 lo:Nat):Int) ((sIx n n hi:Nat):Int) 1)) _ _ s;rw [mq];exact wpAny_pure h
theorem qh (xs:Array Value) (i k:Nat):((List.range k).filterMap fun (m:Nat)=>xs[((i:Int)+(m:Int)*1).toNat]?).toArray=((xs.toList.drop i).take k).toArray:=by
 have e:(fun (m:Nat)=>xs[((i:Int)+(m:Int)*1).toNat]?)=fun m=>xs[i+m]?:=by
  funext m
  have:((i:Int)+(m:Int)*1).toNat=i+m:=by lia
  rw [this]
 rw [e];have:=pick_run xs i k;rw [List.filterMap_map] at this;have e2:((fun x=>xs[x]?) ∘ fun x=>i+x)=fun m=>xs[i+m]?:=rfl;rw [e2] at this;rw [this]
theorem getItem_tuple_cut {t sl:Addr} {items:Array Value} {vl vu:Value} {lo hi:Option Int} {Q:Value→Shared→Prop} (ht:IsTup s.heap t items) (hs:s.heap.IsSliceOf sl vl vu .none) (pl:IsPart vl lo) (pu:IsPart vu hi)
  (hw:¬ (sIx items.size 0 lo=0∧sIx items.size items.size hi=items.size))
  (h:Q (.ref s.heap.objs.size) { s with heap:=s.heap.push { cls:=.type "tuple",data:=.seq ((items.toList.drop (sIx items.size 0 lo)).take (sIx items.size items.size hi - sIx items.size 0 lo)).toArray } })
  (hsz:items.size≤sizeLine):wpAny (model prog w) A (getItem (.ref t) (.ref sl)) Q E s:=by
 have htake:sizeOk (.seq ((items.toList.drop (sIx items.size 0 lo)).take (sIx items.size items.size hi - sIx items.size 0 lo)).toArray):=by
  show ((items.toList.drop (sIx items.size 0 lo)).take (sIx items.size items.size hi - sIx items.size 0 lo)).toArray.size≤sizeLine;rw [List.size_toArray,List.length_take,List.length_drop,Array.length_toList];lia
 have hj:sIx items.size items.size hi≤items.size:=uE _ _ (Nat.le_refl _) hi;obtain ⟨os,hos,hcs,hds⟩:=id hs;have hTs:s.TypeIs (.ref sl) "slice" :=⟨os,hos,hcs⟩;unfold getItem
 try with_reducible refine wpAny_holding ?_
 first | refine wpAny_bind (wpAny_pure ?_) | skip
 refine wpAny_bind (wpAny_sequenceKey ht.typeIs (by decide) ?_);refine wpAny_bind (wpAny_callSpecial?_slot (name:=Str.ofString "__getitem__") ht.typeIs PyProof.Rows.slot_tuple_getitem
  (wpAny_call_entry PyProof.Rows.slot_tuple_getitem ht.typeIs entry_tuple_getitem ?_ (args_tuple_getitem _ _)))
 show wpAny _ _ (Builtin.Tuple.tupleItemsOf (.ref t) >>= _) _ _ s;refine wpAny_bind (tupleItemsOf_ ht ?_);refine wpAny_bind (wpAny_typeOf hTs ?_);rw [if_pos (by decide)];refine wpAny_bind (cA hs pl pu ?_);have hno:¬ ((((sIx items.size 0 lo:Nat):Int) == 0 && (1:Int) == 1 && (sIx items.size items.size hi - sIx items.size 0 lo) == items.size)=true):=by
  intro q;rw [Bool.and_eq_true,Bool.and_eq_true] at q;have q1:((sIx items.size 0 lo:Nat):Int)=0:=eq_of_beq q.1.1;have q2:sIx items.size items.size hi - sIx items.size 0 lo=items.size:=eq_of_beq q.2;exact hw ⟨by lia,by lia⟩
 show wpAny _ _ (if (((sIx items.size 0 lo:Nat):Int) == 0 && (1:Int) == 1 && (sIx items.size items.size hi - sIx items.size 0 lo) == items.size)=true then _ else _) _ _ s;rw [if_neg hno,qh]
 first
  | exact wpAny_bind (m:=Builtin.Tuple.tupleExact _) (wpAny_newObj_type (wpAny_pure ⟨_,rfl,wpAny_pure h⟩) htake)
  | exact wpAny_bind (m:=Builtin.Tuple.tupleExact _) (wpAny_newObj_type (wpAny_bind (wpAny_pure (wpAny_pure ⟨_,rfl,wpAny_pure h⟩))) htake)
  | exact wpAny_bind (wpAny_bind (m:=Builtin.Tuple.tupleExact _) (wpAny_newObj_type (wpAny_pure (wpAny_pure ⟨_,rfl,wpAny_pure h⟩)) htake))
  | exact wpAny_bind (wpAny_bind (m:=Builtin.Tuple.tupleExact _) (wpAny_newObj_type (wpAny_pure ⟨_,rfl,wpAny_pure h⟩) htake))
end
end HT
namespace L2
open PySem PySem.Spec PyProof.Rows
abbrev TO:=St→Hp→(Option Int→Hp→Prop)→Prop
def PO (X:Cx) (e:Option Expr) (t:TO):Prop :=
 ∀ (pins:List (Addr×Obj)) (s:Shared) (σ:St) (H:Hp) (Q:Option Int→Hp→Prop),Inv X pins σ H s→t σ H Q →
  wpAny (model X.prog X.w) X.A (evalPart e X.env) (fun u s'=>∃ o H',Inv X pins σ H' s'∧IsPart u o∧Q o H') X.xe s
def r9:TO:=fun _ H Q=>Q none H
inductive IPrt (x:V) (H1:Hp) (Q:Option Int→Hp→Prop):Prop
 | mk (i:Int):(x=.int i)→(Q (some i) H1)→IPrt x H1 Q
def vQ (t:TE):TO:=fun σ H Q=>t σ H fun x H1=>IPrt x H1 Q
section
variable {X:Cx} {e:Expr} {te:TE} {lo hi:Option Expr} {tl th:TO} {pos p2:Pos}
theorem cI:PO X none r9:=by
 intro pins s σ H Q I h;rw [evalPart_none];exact wpAny_pure ⟨none,H,I,.none,h⟩
theorem bM (h:PE X e te):PO X (some e) (vQ te):=by
 intro pins s σ H Q I hw;rw [evalPart_some];refine thn (h pins s σ H _ I hw) fun u s1 ⟨x,H1,I1,r1,q1⟩=>?_;obtain ⟨i,rfl,q⟩:=q1;obtain ⟨t,rfl⟩:=r1;exact ⟨some i,H1,I1,.int i t,q⟩
def SlR (X:Cx) (r:V→Option Int→Option Int→Hp→VK→Prop):Prop :=
 ∀ (pins:List (Addr×Obj)) (s:Shared) (σ:St) (H:Hp) (x:V) (v vl vu:Value) (lo hi:Option Int) (sl:Addr) (Q:VK),Inv X pins σ H s→RelV x v→s.heap.IsSliceOf sl vl vu .none→IsPart vl lo→IsPart vu hi→r x lo hi H Q →
  ∃ T id,typeLookup (.type T) "__getitem__" = pure (some (.builtin id))∧s.TypeIs v T∧wpAny (model X.prog X.w) X.A (getItem v (.ref sl)) (EP X pins σ Q) X.xe s
def tSl (r:V→Option Int→Option Int→Hp→VK→Prop) (te:TE) (tl th:TO):TE:=fun σ H Q=>te σ H fun x H1=>tl σ H1 fun l H2=>th σ H2 fun u H3=>r x l u H3 Q
theorem bE {r:V→Option Int→Option Int→Hp→VK→Prop} (hr:SlR X r) (he:PE X e te) (hl:PO X lo tl) (hu:PO X hi th):PE X (.Subscript e (.Slice lo hi none p2) pos) (tSl r te tl th):=by
 intro pins s σ H Q I h;refine Subscript_ (thn (he pins s σ H _ I h) fun v s1 ⟨x,H1,I1,r1,q1⟩=>?_);refine wpAny_Slice (thn (hl pins s1 σ H1 _ I1 q1) fun vl s2 ⟨l,H2,I2,pl,q2⟩=>thn (hu pins s2 σ H2 _ I2 q2) fun vu s3 ⟨u,H3,I3,pu,q3⟩=>?_);rw [evalPart_none];refine wpAny_pure ?_;have I4:Inv X pins σ H3 { s3 with heap:=s3.heap.push { cls:=.type "slice",data:=.fields #[vl,vu,.none] } }:=I3.kept (t':=s3.toks) fun b ob q=>Heap.get?_push_of_some _ q;obtain ⟨T,id,hT,ht,hg⟩:=hr pins { s3 with heap:=s3.heap.push { cls:=.type "slice",data:=.fields #[vl,vu,.none] } } σ H3 x v vl vu l u s3.heap.objs.size Q I4 r1 (Heap.IsSliceOf.new ..) pl pu q3;show wpAny (model X.prog X.w) X.A (subscriptTail e (.Slice lo hi none p2) v (.ref s3.heap.objs.size)) (EP X pins σ Q) X.xe { s3 with heap:=s3.heap.push { cls:=.type "slice",data:=.fields #[vl,vu,.none] } };exact tail_any (ops:=[.ref s3.heap.objs.size,v]) ht hT hg (by with_unfolding_all rfl)
def fS (xs:List V) (lo hi:Option Int):List V:=(xs.drop (HT.sIx xs.length 0 lo)).take (HT.sIx xs.length xs.length hi - HT.sIx xs.length 0 lo)
theorem fK (xs:List V) (lo hi:Option Int):(fS xs lo hi).length≤xs.length:=by
 unfold fS;rw [List.length_take,List.length_drop];lia
theorem Vals.nil_iff {xs:List V} {us:List Value} (r:Vals xs us):us=[]↔xs=[]:=by
 cases r with
 | nil=>simp
 | cons _ _=>simp
end
def ixN (n:Nat) (i:Int):Option Nat:=if 0≤i then (if i < n then some i.toNat else none) else if -(n:Int)≤i then some (i+n).toNat else none
def atI {α:Type} (xs:List α) (i:Int):Option α:=(ixN xs.length i).bind fun j=>xs[j]?
theorem ji {n:Nat} {i:Int} {j:Nat} (h:ixN n i=some j):seqIndex? i n=some j∧j < n∧-(n:Int)≤i∧i < n:=by
 unfold ixN at h
 by_cases h0:0≤i
 ·rw [if_pos h0] at h
  by_cases h1:i < n
  ·rw [if_pos h1] at h;have e:i.toNat=j:=Option.some.inj h;exact ⟨by rw [seqIndex_of h0 h1,e],by lia,by lia,h1⟩
  ·rw [if_neg h1] at h;cases h
 ·rw [if_neg h0] at h
  by_cases h1:-(n:Int)≤i
  ·rw [if_pos h1] at h;have e:(i+n).toNat=j:=Option.some.inj h;exact ⟨by rw [seqIndex_neg (by lia) h1,e],by lia,h1,by lia⟩
  ·rw [if_neg h1] at h;cases h
theorem jj {α:Type} {xs:List α} {i:Int} {v:α} (h:atI xs i=some v):∃ j,seqIndex? i xs.length=some j∧xs[j]?=some v∧j < xs.length∧-(xs.length:Int)≤i∧i < xs.length:=by
 unfold atI at h
 cases e:ixN xs.length i with
 | none=>rw [e] at h;cases h
 | some j =>
  rw [e] at h;obtain ⟨h1,h2,h3,h4⟩:=ji e;exact ⟨j,h1,h,h2,h3,h4⟩
theorem cJ {α:Type} {xs:List α} {j:Nat} {v:α} (h:xs[j]?=some v):atI xs (j:Int)=some v:=by
 have hj:j < xs.length:=(List.getElem?_eq_some_iff.mp h).1;have e:ixN xs.length (j:Int)=some j:=by
  unfold ixN;rw [if_pos (by lia),if_pos (by lia)];simp
 unfold atI;rw [e];exact h
def sh (b:Expr):Prop:=∀ o i,subscripted b false o i=operate [o,i] (getItem o i)
def IxR (X:Cx) (r:R2):Prop :=
 ∀ (value slice:Expr) (pins:List (Addr×Obj)) (s:Shared) (σ:St) (H:Hp) (x y:V) (v u:Value) (Q:VK),Inv X pins σ H s→RelV x v→RelV y u→r x y H Q →
  subscripted slice false v u=operate [v,u] (getItem v u)→wpAny (model X.prog X.w) X.A (subscriptTail value slice v u) (EP X pins σ Q) X.xe s
def MtR (X:Cx) (id:String) (r:V→List V→Hp→VK→Prop):Prop :=
 ∀ (pins:List (Addr×Obj)) (s:Shared) (σ:St) (H:Hp) (x:V) (xs:List V) (v:Value) (us:List Value) (Q:VK),Inv X pins σ H s→RelV x v→Vals xs us→r x xs H Q →
  wpAny (model X.prog X.w) X.A (call (.builtin id) (v :: us)) (EP X pins σ Q) X.xe s
section
variable {X:Cx} {a b:Expr} {ta tb:TE} {pos:Pos}
theorem bf {r:R2} (hr:IxR X r) (ha:PE X a ta) (hb:PE X b tb) (hs:sh b):PE X (.Subscript a b pos) (tOp r ta tb):=by
 intro pins s σ H Q I h;exact Subscript_ (uA ha hb I h fun v u s2 x y H2 I2 rx ry q=>hr a b pins s2 σ H2 x y v u Q I2 rx ry q (hs _ _))
inductive IIxL (K:PySem.W.Frag) (x y:V) (H:Hp) (Q:VK):Prop
 | mk (p:Addr) (xs:List V) (i:Int) (v:V):(x=.ref p)→(y=.int i)→(SqL K H p xs)→(atI xs i=some v)→(Q v H)→IIxL K x y H Q
def vR (K:PySem.W.Frag):R2:=fun x y H Q=>IIxL K x y H Q
def wX (K:PySem.W.Frag):R2:=fun x y H Q=>∃ p xs i v,x=.ref p∧y=.int i∧SqT K H p xs∧atI xs i=some v∧Q v H
theorem sj:IxR X (vR X.K):=by
 intro value slice pins s σ H x y v u Q I rx ry h hs;obtain ⟨p,xs,i,z,rfl,rfl,hq,he,q⟩:=h
 cases rx
 obtain ⟨t,rfl⟩:=ry;obtain ⟨its,r,pl,hz⟩:=I.list hq;obtain ⟨j,h1,h2,h3,h4,h5⟩:=jj he;obtain ⟨w,ew,rw'⟩:=r.get h2;have hl:=r.length;have hn:=gw;have fin:EP X pins σ Q w s:=⟨z,H,I,rw',q⟩
 by_cases h0:0≤i
 ·have hj:i.toNat=j:=by
   rw [seqIndex_of h0 h5] at h1;exact Option.some.inj h1
  exact item_listR pl.isList h0 (by lia) (by rw [hj];simpa using ew) fin hs
 ·have hj:(i+(its.toArray.size:Int)).toNat=j:=by
   rw [seqIndex_neg (by lia) h4] at h1;rw [List.size_toArray,← hl];exact Option.some.inj h1
  exact subscriptTail_builtinR (x:=w) pl.isList.typeIs slot_list_getitem.lookup
   (wpAny_getItem_list_neg (Q:=fun r s'=>r=w∧EP X pins σ Q r s') pl.isList (by lia) (by rw [List.size_toArray] <;> lia) (by lia) (by rw [hj];simpa using ew) ⟨rfl,fin⟩) hs
theorem uF:IxR X (wX X.K):=by
 intro value slice pins s σ H x y v u Q I rx ry h hs;obtain ⟨p,xs,i,z,rfl,rfl,hq,he,q⟩:=h
 cases rx
 obtain ⟨t,rfl⟩:=ry;obtain ⟨its,r,pl,hz⟩:=I.tuple hq;obtain ⟨j,h1,h2,h3,h4,h5⟩:=jj he;obtain ⟨w,ew,rw'⟩:=r.get h2;have hl:=r.length;have hn:=gw;have fin:EP X pins σ Q w s:=⟨z,H,I,rw',q⟩;exact subscriptTail_builtinR (x:=w) pl.typeIs slot_tuple_getitem.lookup
  (getItem_tuple (j:=j) (Q:=fun r s'=>r=w∧EP X pins σ Q r s') pl (by lia) (by lia) (by rw [List.size_toArray,← hl];exact h1) (by simpa using ew) ⟨rfl,fin⟩) hs
theorem mr (its:List Value) (n j:Nat) (u:Value):Obj.mapSeq (·.setIfInBounds j u) { cls:=.type "list",data:=.seq its.toArray n }={ cls:=.type "list",data:=.seq (its.set j u).toArray n }:=by
 simp [Obj.mapSeq]
theorem Inv.lst {pins:List (Addr×Obj)} {σ:St} {H:Hp} {s:Shared} {p:Addr} {xs:List V} (I:Inv X pins σ H s) (h:H p=some (.lst xs)) :
  ∃ (its:List Value) (n:Nat),Vals xs its∧s.heap.get? p=some { cls:=.type "list",data:=.seq its.toArray n }∧xs.length≤sizeLine:=by
 obtain ⟨z,its,n,r,e⟩:=I.hok p _ h;exact ⟨its,n,r,e,z⟩
theorem Inv.lstUpd {pins:List (Addr×Obj)} {σ:St} {H:Hp} {s:Shared} {p:Addr} {xs ys:List V} {its its':List Value} {n n':Nat} {f:Obj→Obj} (I:Inv X pins σ H s) (h:H p=some (.lst xs))
  (ho:s.heap.get? p=some { cls:=.type "list",data:=.seq its.toArray n }) (hf:f { cls:=.type "list",data:=.seq its.toArray n }={ cls:=.type "list",data:=.seq its'.toArray n' }) (r:Vals ys its') (hz:ys.length≤sizeLine) (t:Nat) :
  Inv X pins σ (upd H p (.lst ys)) { s with heap:=s.heap.update p f,toks:=t }:=by
 have e:(s.heap.update p f).get? p=some { cls:=.type "list",data:=.seq its'.toArray n' }:=by
  rw [Heap.get?_update_self f ho (by rw [hf] <;> rfl),hf]
 refine I.write (x:=p) (e:=p) (by rw [h];trivial) (.inl rfl) (fun b u hb q=>(Heap.get?_update_other _ _ (Ne.symm hb)).trans q) ⟨_,e⟩ ?_;exact ⟨hz,its',n',r,e⟩
inductive ISetL (o i v:V) (H:Hp) (Q:Hp→Prop):Prop
 | mk (p:Addr) (xs:List V) (k:Int) (j:Nat):(o=.ref p)→(i=.int k)→(H p=some (.lst xs))→(ixN xs.length k=some j)→(Q (upd H p (.lst (xs.set j v))))→ISetL o i v H Q
def vS:V→V→V→Hp→(Hp→Prop)→Prop:=fun o i v H Q=>ISetL o i v H Q
theorem qi:vK X vS:=by
 intro pins s σ H o i v ov iv u Q I ro ri rv h;obtain ⟨p,xs,k,j,rfl,rfl,hp,hj,q⟩:=h
 cases ro
 obtain ⟨t,rfl⟩:=ri;obtain ⟨its,n,r,ho,hz⟩:=I.lst hp;obtain ⟨h1,h2,h3,h4⟩:=ji hj;have hl:=r.length;have hn:=gw;have I':Inv X pins σ (upd H p (.lst (xs.set j v))) { s with heap:=s.heap.update p (Obj.mapSeq (·.setIfInBounds j u)) } :=
  I.lstUpd hp ho (mr its n j u) (r.set rv j) (by rw [List.length_set];exact hz) s.toks
 by_cases h0:0≤k
 ·have hk:k.toNat=j:=by
   rw [seqIndex_of h0 h4] at h1;exact Option.some.inj h1
  exact PySem.W.ki_setAt ho h0 (by lia) (by rw [List.size_toArray,← hl];exact h4) (by rw [hk];exact ⟨_,I',q⟩)
 ·have hk:(k+(its.toArray.size:Int)).toNat=j:=by
   rw [seqIndex_neg (by lia) h3] at h1;rw [List.size_toArray,← hl];exact Option.some.inj h1
  exact PySem.W.ki_setBack ho (by lia) (by rw [List.size_toArray,← hl];exact h3) (by lia) (by rw [hk];exact ⟨_,I',q⟩)
theorem jk (lo hi:Option Int) (n:Nat):(sliceBounds lo hi none n).1=((HT.sIx n 0 lo:Nat):Int)∧(sliceBounds lo hi none n).2.1=((HT.sIx n n hi:Nat):Int)∧(sliceBounds lo hi none n).2.2=1:=by
 refine ⟨?_,?_,rfl⟩
 ·cases lo with
  | none=>simp [sliceBounds,HT.sIx]
  | some i =>
   simp only [sliceBounds,HT.sIx,Option.getD_none,show (1:Int) > 0 by decide,if_true]
   by_cases h:i < 0
   ·simp only [h,if_true] <;> lia
   ·simp only [h,if_false] <;> lia
 ·cases hi with
  | none=>simp [sliceBounds,HT.sIx]
  | some i =>
   simp only [sliceBounds,HT.sIx,Option.getD_none,show (1:Int) > 0 by decide,if_true]
   by_cases h:i < 0
   ·simp only [h,if_true] <;> lia
   ·simp only [h,if_false] <;> lia
theorem ii (its:List Value) (lo hi:Option Int):slicePick its.toArray lo hi none=((its.drop (HT.sIx its.length 0 lo)).take (HT.sIx its.length its.length hi - HT.sIx its.length 0 lo)).toArray:=by
 obtain ⟨h1,h2,h3⟩:=jk lo hi its.toArray.size;unfold slicePick;rw [h1,h2,h3];simp only [sliceRange_one,pick_run,List.size_toArray] <;> rfl
def vT (K:PySem.W.Frag):V→Option Int→Option Int→Hp→VK→Prop:=fun x lo hi H Q=>∃ a xs,x=.ref a∧SqL K H a xs∧∀ p,H p=none→Q (.ref p) (upd H p (.lst (fS xs lo hi)))
theorem sq:SlR X (vT X.K):=by
 intro pins s σ H x v vl vu lo hi sl Q I rx hs pl pu h;obtain ⟨a,xs,rfl,hx,q⟩:=h
 cases rx
 obtain ⟨its,r,ht,hz⟩:=I.list hx;have hlen:=r.length;refine ⟨"list",_,slot_list_getitem.lookup,ht.isList.typeIs,?_⟩;refine wpAny_getItem_list_slice ht.isList hs pl pu .none (by simp) ?_ (by rw [List.size_toArray] <;> lia);rw [ii,← hlen];refine ⟨.ref s.heap.objs.size,_,I.laid (t':=s.toks) (o:=.lst (fS xs lo hi)) (fun b ob q=>Heap.get?_push_of_some _ q) (Nat.le_refl _) ?_,rfl,q _ (I.hok.fresh (Nat.le_refl _))⟩;exact ⟨Nat.le_trans (fK xs lo hi) hz,_,0,(r.drop (HT.sIx xs.length 0 lo)).take (HT.sIx xs.length xs.length hi - HT.sIx xs.length 0 lo),Heap.get?_push_size _ rfl⟩
def dM:V→Bool
 | .non=>true
 | .bl _=>true
 | .int _=>true
 | .str _=>true
 | _=>false
def eqV:V→V→Bool
 | .non,.non=>true
 | .bl a,.bl b=>a == b
 | .bl a,.int b=>(if a then 1 else 0) == b
 | .int a,.bl b=>a == (if b then 1 else 0)
 | .int a,.int b=>a == b
 | .str a,.str b=>a == b
 | _,_=>false
theorem uG {A:Around} {s:Shared} {y x:V} {u v:Value} (ry:RelV y u) (rx:RelV x v) (fy:dM y=true) (fx:dM x=true):SeqAt.EqAt A s u v (eqV y x):=by
 cases y with
 | non =>
  cases ry
  cases x with
  | non=>cases rx;exact SeqAt.EqAt.same _
  | bl b=>cases rx;exact SeqAt.EqAt.none_bool b
  | int b=>obtain ⟨t,rfl⟩:=rx;exact SeqAt.EqAt.none_int b t
  | str b=>obtain ⟨t,rfl⟩:=rx;exact SeqAt.EqAt.none_str b t
  | _=>exact absurd (show false=true from fx) Bool.false_ne_true
 | bl a =>
  cases ry
  cases x with
  | non=>cases rx;exact SeqAt.EqAt.bool_none a
  | bl b=>cases rx;exact SeqAt.EqAt.bool_bool a b
  | int b=>obtain ⟨t,rfl⟩:=rx;exact SeqAt.EqAt.bool_int a b t
  | str b=>obtain ⟨t,rfl⟩:=rx;exact SeqAt.EqAt.bool_str a b t
  | _=>exact absurd (show false=true from fx) Bool.false_ne_true
 | int a =>
  obtain ⟨t',rfl⟩:=ry
  cases x with
  | non=>cases rx;exact SeqAt.EqAt.int_none a t'
  | bl b=>cases rx;exact SeqAt.EqAt.int_bool a t' b
  | int b=>obtain ⟨t,rfl⟩:=rx;exact SeqAt.EqAt.int_int a t' b t
  | str b=>obtain ⟨t,rfl⟩:=rx;exact SeqAt.EqAt.int_str a t' b t
  | _=>exact absurd (show false=true from fx) Bool.false_ne_true
 | str a =>
  obtain ⟨t',rfl⟩:=ry
  cases x with
  | non=>cases rx;exact SeqAt.EqAt.str_none a t'
  | bl b=>cases rx;exact SeqAt.EqAt.str_bool a t' b
  | int b=>obtain ⟨t,rfl⟩:=rx;exact SeqAt.EqAt.str_int a t' b t
  | str b=>obtain ⟨t,rfl⟩:=rx;exact SeqAt.EqAt.str_str a t' b t
  | _=>exact absurd (show false=true from fx) Bool.false_ne_true
 | _=>exact absurd (show false=true from fy) Bool.false_ne_true
def eqU (x:V) (u:Value):Bool:=match u with
 | .none=>eqV .non x
 | .bool b=>eqV (.bl b) x
 | .int i _=>eqV (.int i) x
 | .str z _=>eqV (.str z) x
 | _=>false
theorem qj {x y:V} {u:Value} (r:RelV y u) (f:dM y=true):eqU x u=eqV y x:=by
 cases y with
 | non=>cases r;rfl
 | bl b=>cases r;rfl
 | int i=>obtain ⟨t,rfl⟩:=r;rfl
 | str z=>obtain ⟨t,rfl⟩:=r;rfl
 | _=>exact absurd (show false=true from f) Bool.false_ne_true
theorem eA {x:V}:∀ {xs:List V} {us:List Value},Vals xs us→xs.all dM=true→us.any (eqU x)=xs.any fun y=>eqV y x
 | _,_,.nil,_=>rfl
 | y :: xs,u :: us,.cons r t,f=>by
  rw [List.all_cons,Bool.and_eq_true] at f;rw [List.any_cons,List.any_cons,qj r f.1,eA t f.2]
theorem cZ {A:Around} {s:Shared} {x:V} {v:Value} (rx:RelV x v) (fx:dM x=true):∀ {xs:List V} {us:List Value},Vals xs us→xs.all dM=true→∀ u∈us,SeqAt.EqAt A s u v (eqU x u)
 | _,_,.nil,_=>fun u hu=>by cases hu
 | y :: xs,u :: us,.cons r t,f=>fun u' hu=>by
  rw [List.all_cons,Bool.and_eq_true] at f;rcases List.mem_cons.mp hu with rfl | hu
  ·rw [qj r f.1];exact uG r rx f.1 fx
  ·exact cZ rx fx t f.2 u' hu
def inV (x:V) (xs:List V):Bool:=xs.any fun y=>eqV y x
def rIn (K:PySem.W.Frag) (neg:Bool):R2:=fun x y H Q=>∃ p xs,y=.ref p∧(SqL K H p xs∨SqT K H p xs)∧dM x=true∧xs.all dM=true∧Q (.bl (if neg then !inV x xs else inV x xs)) H
theorem oY:OpR X (compareOp .In) (rIn X.K false):=by
 intro pins s σ H x y v u Q I rx ry h;obtain ⟨p,xs,rfl,hq,fx,fs,q⟩:=h
 cases ry
 rcases hq with hq | hq
 ·obtain ⟨its,r,pl,hz⟩:=I.list hq;refine SeqAt.in_listAt (eqU x) pl.isList (fun w hw=>cZ rx fx r fs w (by simpa using hw)) ⟨.bl _,H,I,rfl,?_⟩;rw [show its.toArray.any (eqU x)=its.any (eqU x) by simp,eA r fs];exact q
 ·obtain ⟨its,r,pl,hz⟩:=I.tuple hq;refine SeqAt.in_tupleAt (eqU x) pl (fun w hw=>cZ rx fx r fs w (by simpa using hw)) ⟨.bl _,H,I,rfl,?_⟩;rw [show its.toArray.any (eqU x)=its.any (eqU x) by simp,eA r fs];exact q
theorem op_notIn_seq:OpR X (compareOp .NotIn) (rIn X.K true):=by
 intro pins s σ H x y v u Q I rx ry h;obtain ⟨p,xs,rfl,hq,fx,fs,q⟩:=h
 cases ry
 rcases hq with hq | hq
 ·obtain ⟨its,r,pl,hz⟩:=I.list hq;refine SeqAt.notIn_listAt (eqU x) pl.isList (fun w hw=>cZ rx fx r fs w (by simpa using hw)) ⟨.bl _,H,I,rfl,?_⟩;rw [show its.toArray.any (eqU x)=its.any (eqU x) by simp,eA r fs];exact q
 ·obtain ⟨its,r,pl,hz⟩:=I.tuple hq;refine SeqAt.notIn_tupleAt (eqU x) pl (fun w hw=>cZ rx fx r fs w (by simpa using hw)) ⟨.bl _,H,I,rfl,?_⟩;rw [show its.toArray.any (eqU x)=its.any (eqU x) by simp,eA r fs];exact q
theorem eB:aW X (.builtin "len") (fun xs H Q=>∃ p ys,xs=[.ref p]∧(SqL X.K H p ys∨SqT X.K H p ys)∧Q (.int ys.length) H):=by
 intro pins s σ H xs us Q I r h;obtain ⟨p,ys,rfl,hq,q⟩:=h;obtain ⟨u,rfl,rx⟩:=ce r
 cases rx
 have hn:=gw;rcases hq with hq | hq
 ·obtain ⟨its,r',pl,hz⟩:=I.list hq;have hlen:=r'.length;exact Calls.call_len_list pl.isList (by simp only [List.size_toArray] <;> lia) ⟨.int ys.length,H,I.tok _,⟨s.toks+1,by rw [List.size_toArray,hlen]⟩,q⟩
 ·obtain ⟨its,r',pl,hz⟩:=I.tuple hq;have hlen:=r'.length;exact len_tuple pl (by simp only [List.size_toArray] <;> lia) ⟨.int ys.length,H,I.tok _,⟨s.toks+1,by rw [List.size_toArray,hlen]⟩,q⟩
theorem call_len_str:aW X (.builtin "len") (fun xs H Q=>∃ z,xs=[.str z]∧z.length≤sizeLine∧Q (.int z.length) H):=by
 intro pins s σ H xs us Q I r h;obtain ⟨z,rfl,hz,q⟩:=h;obtain ⟨u,rfl,t,rfl⟩:=ce r;have hn:=gw;exact len_str (by lia) ⟨.int z.length,H,I.tok _,⟨_,rfl⟩,q⟩
theorem jl:aW X (.type "list") (fun xs H Q=>∃ p ys,xs=[.ref p]∧(SqL X.K H p ys∨SqT X.K H p ys)∧∀ l,H l=none→Q (.ref l) (upd H l (.lst ys))):=by
 intro pins s σ H xs us Q I r h;obtain ⟨p,ys,rfl,hq,q⟩:=h;obtain ⟨u,rfl,rx⟩:=ce r
 cases rx
 have fin:∀ (its:List Value),Vals ys its→ys.length≤sizeLine→∀ (h':Heap) (c':Nat),(∀ b o',s.heap.get? b=some o'→h'.get? b=some o') →
   h'.get? s.heap.objs.size=some { cls:=.type "list",dict:=none,data:=.seq its.toArray c',slots:=#[] }→EP X pins σ Q (.ref s.heap.objs.size) { s with heap:=h' }:=fun its r' hz h' c' kp e =>
  ⟨.ref s.heap.objs.size,_,I.laid (t':=s.toks) kp (Nat.le_refl _) (show ObjOk X.prog X.w _ h' _ (.lst ys) from ⟨hz,its,c',r',e⟩),rfl,q _ (I.hok.fresh (Nat.le_refl _))⟩
 rcases hq with hq | hq
 ·obtain ⟨its,r',pl,hz⟩:=I.list hq;have hlen:=r'.length;obtain ⟨o,ho,hc,n,hd⟩:=pl.isList;exact call_list_seq p (.inl rfl) ho hc hd (fun h' c' kp e=>fin its r' hz h' c' kp e) (by simp only [List.size_toArray] <;> lia)
 ·obtain ⟨its,r',pl,hz⟩:=I.tuple hq;have hlen:=r'.length;obtain ⟨o,ho,hc,n,hd⟩:=pl;exact call_list_seq p (.inr rfl) ho hc hd (fun h' c' kp e=>fin its r' hz h' c' kp e) (by simp only [List.size_toArray] <;> lia)
def tyV (K:PySem.W.Frag) (T:String) (x:V) (H:Hp):Prop:=match x with
 | .str _=>T= "str"
 | .int _=>T= "int"
 | .ref p=>(T= "list" ∧∃ xs,SqL K H p xs)∨(T= "tuple" ∧∃ o,K.lookup p=some o∧o.cls=.type "tuple" ∧o.dict=none) ∨
   (T= "dict" ∧((∃ kvs,H p=some (.dK kvs))∨∃ kvs,H p=some (.dT kvs)))∨(T= "set" ∧∃ S n,H p=some (.set S n))
 | _=>False
theorem uH {pins:List (Addr×Obj)} {σ:St} {H:Hp} {s:Shared} {T:String} {x:V} {v:Value} (I:Inv X pins σ H s) (r:RelV x v) (ty:tyV X.K T x H) :
  s.TypeIs v T∧∀ a,v=.ref a→∃ ob,s.heap.get? a=some ob∧ob.dict=none:=by
 cases x with
 | str z =>
  obtain ⟨t,rfl⟩:=r
  cases (show T= "str" from ty)
  exact ⟨typeIs_str s z t,fun _ e=>nomatch e⟩
 | int i =>
  obtain ⟨t,rfl⟩:=r
  cases (show T= "int" from ty)
  exact ⟨typeIs_int s i t,fun _ e=>nomatch e⟩
 | ref p =>
  cases r
  rcases ty with ⟨rfl,xs,hq⟩ | ⟨rfl,o,hk,hc,hd⟩ | ⟨rfl,hk⟩ | ⟨rfl,S,n,hk⟩
  ·obtain ⟨its,_,pl,_⟩:=I.list hq;refine ⟨pl.isList.typeIs,fun a e=>?_⟩
   cases e
   obtain ⟨o,n,e,c,hd,_⟩:=pl;exact ⟨o,e,hd⟩
  ·refine ⟨⟨o,I.kIn p o hk,hc⟩,fun a e=>?_⟩
   cases e
   exact ⟨o,I.kIn _ o hk,hd⟩
  ·have z:∃ o,s.heap.get? p=some o∧o.ExactDict:=by
    rcases hk with ⟨kvs,hk⟩ | ⟨kvs,hk⟩
    ·obtain ⟨_,_,_,_,o,_,_,e,ex,_⟩:=I.hok p _ hk;exact ⟨o,e,ex⟩
    ·obtain ⟨_,_,_,_,o,_,_,e,ex,_⟩:=I.hok p _ hk;exact ⟨o,e,ex⟩
   obtain ⟨o,e,ex⟩:=z;refine ⟨⟨o,e,ex.1⟩,fun a e2=>?_⟩
   cases e2
   exact ⟨o,e,ex.2.1⟩
  ·obtain ⟨o,_,_,_,e,ex,_⟩:=I.hok p _ hk;refine ⟨⟨o,e,ex.1⟩,fun a e2=>?_⟩
   cases e2
   exact ⟨o,e,ex.2.1⟩
 | _=>exact False.elim ty
def tBM (K:PySem.W.Frag) (T:String) (r:V→List V→Hp→VK→Prop) (to:TE) (t:TA):TE:=fun σ H Q=>to σ H fun x H1=>tyV K T x H1∧t σ H1 fun xs H2=>r x xs H2 Q
variable {o e:Expr} {es:List Expr} {to:TE} {t:TA} {name:Str} {apos cpos:Pos} {T id:String} {r:V→List V→Hp→VK→Prop}
theorem pe_bm (pa:PlainAttrs T) (slot:Slot T name id) (hty:typeOf (.builtin id)=pure (.type "method_descriptor")) (hm:MtR X id r) (ho:PE X o to) (ha:PA X (e :: es) t)
  (hbase:attributeBase o name X.env (eval o X.env)=eval o X.env:=by rfl)
  (hfew:((backTo cpos (starEach (e :: es) X.env)).all (fun x=>!x.1) && (backToKw cpos (keywordEach [] X.env)).all (fun x=>x.1.isSome)
   && decide ((e :: es).length+([]:List Keyword).length+(if ([]:List Keyword).isEmpty then 0 else 1) < 30))=true:=by rfl)
  (hline:(apos.endLine == cpos.line)=true:=by rfl) (hs:starEach (e :: es) X.env=(false,eval e X.env) :: starEach es X.env:=by rfl) (hplain:(backTo cpos (starEach es X.env)).any (·.1)=false:=by rfl) :
  PE X (.Call (.Attribute o name apos) (e :: es) [] cpos) (tBM X.K T r to t):=by
 intro pins s σ H Q I h;refine wpAny_Call_method_late hbase hfew hline rfl (thn (ho pins s σ H _ I h) fun v s1 ⟨x,H1,I1,r1,ty,q1⟩=>?_);obtain ⟨h1,h2⟩:=uH I1 r1 ty;refine ⟨T,id,pa,slot,hty,h1,h2,?_⟩;have hA:=ha cpos pins s1 σ H1 _ I1 q1;rw [hs] at hA ⊢;refine Calls.callWith_builtin (by show (false || (backTo cpos (starEach es X.env)).any (·.1))=false;rw [hplain] <;> rfl) (Calls.evalArgs_plain ?_);exact thn hA fun us s2 ⟨vs,H2,I2,r2,q2⟩=>hm pins s2 σ H2 x vs v us Q I2 r1 r2 q2
end
def MtM (X:Cx) (id:String) (r:V→List V→Hp→VK→Prop):Prop :=
 ∀ (pins:List (Addr×Obj)) (s:Shared) (σ:St) (H:Hp) (x:V) (xs:List V) (v:Value) (us:List Value) (Q:VK),Inv X pins σ H s→RelV x v→Vals xs us→r x xs H Q →
  wpAny (model X.prog X.w) X.A (call (.builtin id) (v :: us)) (EP X pins σ Q) X.xe s
theorem Vals.one:∀ {x:V} {us:List Value},Vals [x] us→∃ u,us=[u]∧RelV x u:=by
 intro x us h
 cases h with
 | cons r t =>
  cases t
  exact ⟨_,rfl,r⟩
theorem Vals.two:∀ {x y:V} {us:List Value},Vals [x,y] us→∃ u v,us=[u,v]∧RelV x u∧RelV y v:=by
 intro x y us h
 cases h with
 | cons r t =>
  cases t with
  | cons q t =>
   cases t
   exact ⟨_,_,rfl,r,q⟩
section
variable {X:Cx} {pins:List (Addr×Obj)} {σ:St} {H:Hp} {s:Shared} {l b:Addr} {xs ys zs:List V}
theorem Inv.lset {its its':List Value} {n:Nat} {f:Array Value→Array Value} {t':Nat} (I:Inv X pins σ H s) (hH:H l=some (.lst xs))
  (e:s.heap.get? l=some { cls:=.type "list",data:=.seq its.toArray n }) (hf:f its.toArray=its'.toArray) (hv:Vals ys its') (hz:ys.length≤sizeLine) :
  Inv X pins σ (upd H l (.lst ys)) { s with heap:=s.heap.update l (Obj.mapSeq f),toks:=t' }:=by
 have q:=PySem.IsL.update e f;rw [hf] at q;refine I.write (x:=l) (e:=l) (by rw [hH];exact trivial) (.inl rfl) (fun b' u hb hu=>(Heap.get?_update_other s.heap (Obj.mapSeq f) (Ne.symm hb)).trans hu) ⟨_,q⟩ ?_;exact ⟨hz,its',_,hv,q⟩
theorem Inv.lnew {its:List Value} {t':Nat} (I:Inv X pins σ H s) (hv:Vals ys its) (hz:ys.length≤sizeLine) :
  Inv X pins σ (upd H s.heap.objs.size (.lst ys)) { s with heap:=s.heap.push { cls:=.type "list",data:=.seq its.toArray },toks:=t' } :=
 I.laid (fun _ _ q=>Heap.get?_push_of_some _ q) (Nat.le_refl _) ⟨hz,its,0,hv,Heap.get?_push_size _ rfl⟩
theorem Inv.fresh (I:Inv X pins σ H s):H s.heap.objs.size=none:=I.hok.fresh (Nat.le_refl _)
theorem Inv.lstM (I:Inv X pins σ H s) (hH:H l=some (.lst xs)):xs.length≤sizeLine∧∃ (its:List Value) (n:Nat),Vals xs its∧xs.length=its.length∧s.heap.get? l=some { cls:=.type "list",data:=.seq its.toArray n }:=by
 obtain ⟨z,its,n,r,e⟩:=I.hok l _ hH;exact ⟨z,its,n,r,r.length,e⟩
end
section
variable {X:Cx}
inductive IApp (x:V) (vs:List V) (H:Hp) (Q:VK):Prop
 | mk (l:Addr) (xs:List V) (y:V):(x=.ref l)→(vs=[y])→(H l=some (.lst xs))→(xs.length < sizeLine)→(Q .non (upd H l (.lst (xs++[y]))))→IApp x vs H Q
def sr:V→List V→Hp→VK→Prop:=fun x vs H Q=>IApp x vs H Q
theorem fj:MtM X "list.append" sr:=by
 intro pins s σ H x vs v us Q I rx rv h;obtain ⟨l,xs,y,rfl,rfl,hH,hz,q⟩:=h
 cases rx
 obtain ⟨u,rfl,ru⟩:=rv.one;obtain ⟨z,its,n,r,hl,e⟩:=I.lstM hH;refine call_meets F.slot_list_append ⟨_,e,rfl⟩ F.entry_list_append (F.args_list_append_2 _ _) (PySem.list_append l its.toArray n u (by rw [List.size_toArray];lia)) ⟨e,?_⟩;refine ⟨.non,_,I.lset (its':=its++[u]) hH e (by simp) (r.append (.cons ru .nil)) ?_,rfl,q⟩;rw [List.length_append,List.length_singleton];lia
end
section
variable {prog:Program} {w:World} {A:Around} {E:Value→Shared→Prop} {s:Shared}
end
section
variable {X:Cx}
end
end L2
namespace Att
open PySem PySem.W PySem.Calls PyProof.Rows
theorem fT {P:Params} {h:Heap}:∀ (ns:List Int) (vs:List Value),WellAll P h vs (ns.map WData.int)→IntsAre vs ns:=by
 intro ns
 induction ns with
 | nil =>
  intro vs w;rw [List.map_nil] at w
  cases w
  exact .nil
 | cons n ns ih =>
  intro vs w;rw [List.map_cons] at w
  cases w with
  | cons a b =>
   cases a
   exact .cons _ _ (ih _ b)
theorem oZ {l:OpenLaw} {n:Nat} (hn:l.most=some n) {P:Params} {h:Heap} {args:List WData} {vals:List Value}
  (hpre:l.row.toRowW.claim.pre args=true) (hwl:WellAll P h vals args) :
  ∃ a vs ns,vals=[Value.ref a]∧args=[WData.list (ns.map WData.int)]∧h.get? a=some { cls:=.type "list",data:=.seq vs.toArray }∧IntsAre vs ns∧ns.length≤n:=by
 have hsh:WShape.hasAll [] args [.list .int]=true:=(pre_splitW hpre).1;have hc:l.pre.holds [] { args:=args }=true:=(pre_splitW hpre).2;obtain ⟨d,r,rfl,h1,h2⟩:=hasAllW_cons hsh;obtain rfl:=hasAllW_nil h2;obtain ⟨xs,rfl,h3⟩:=hasW_list h1;obtain ⟨ns,rfl⟩:=items_int h3;have hlen:ns.length≤n:=by
  unfold OpenLaw.pre at hc;have h4:(WTm.not (.lt (.lit (.int (n:Int))) (.len (.arg 0)))).holds [] { args:=[.list (ns.map .int)] }=true:=by
   have h4:=(holds_andW hc).1;rw [hn] at h4;exact h4
  have h5:=condW_of h4 (w_not (w_lt w_lit (w_len_list (w_arg rfl))));rw [List.length_map] at h5;refine Nat.le_of_not_lt fun q=>?_;have q':(n:Int) < ((ns.length:Nat):Int):=by lia
  first
   | (rw [decide_eq_true q'] at h5;exact absurd h5 (by decide))
   | (simp at h5;lia)
 cases hwl with
 | cons w1 w2 =>
  cases w2
  cases w1 with
  | list ho hall=>exact ⟨_,_,ns,rfl,rfl,ho,fT ns _ hall,hlen⟩
theorem o0 (l:OpenLaw) (args:List WData):l.row.toRowW.claim.post args (.bool true) args=true :=
 postW_of (r:=l.row.toRowW) (X:=(true == true))
  (show WShape.has [] (.bool true) .bool=true by first | rfl | decide | simp [WShape.has,WShape.arms,WShape.armsAll])
  (show (WTm.eq .res (.lit (.bool true))).value [] { args:=args,res:=some (.bool true),after:=args }=some (.bool (true == true)) from w_eq_bool (w_res rfl) w_lit) rfl
theorem attach_call {l:OpenLaw} {n:Nat} {q:Program} {loose:List Str} {XP:(Str→Option Value)→Heap→Prop} {YP:World→Heap→Prop} {d:DefRec}
  (hn:l.most=some n) (hdf:d.params.defaults=[])
  (call:∀ (w:World) (s₀ s₁:Shared) (mg mb:Str→Option Value) (fa:Addr) (o:Obj) (pm cd doc:Value) (a:Addr) (vs:List Value) (ns:List Int),
   Ground q loose [] XP w s₀ mg mb s₁.heap→YP w s₁.heap →
   s₁.heap.get? fa=some o→o.data=.func (docDef d.name d.params d.body d.scope pm cd doc)→s₁.heap.CodeRec cd d.name→mg d.name=some (.ref fa) →
   s₁.heap.get? a=some { cls:=.type "list",data:=.seq vs.toArray }→IntsAre vs ns→ns.length≤n→s₁.gens=#[] →
   codeAny (model l.prog w) callerA (.call (.ref fa) ⟨[.ref a],[]⟩) (fun r s'=>r=.ok (.ret (.bool true))∧OldK s₁.heap s'.heap∧s'.os=s₁.os∧AllBare s'.gens) s₁) :
  WalkO q loose XP YP l.row.toRowW d [] (fun f vs=>PySem.call f vs):=by
 intro w s₀ s₁ mg mb G Y fa o pm cd doc dV kV ho hd hcd hD hmg hg args vals as hpre hlay hrd hwl hlo;obtain rfl:dV=.none:=Dflts.none hD hdf;obtain rfl:kV=.none:=Dflts.noKw hD;obtain ⟨a,vs,ns,rfl,rfl,hobj,hints,hlen⟩:=oZ hn hpre hwl;refine enter_call (codeAny_mono (call w s₀ s₁ mg mb fa o pm cd doc a vs ns G Y ho (fd_plain hd) hcd hmg hobj hints hlen hg) fun r s' hq=>?_);obtain ⟨rfl,h2,h3,h4⟩:=hq;exact ⟨.inl ⟨.bool true,.bool true,[],rfl,fun _=>rfl,.bool true,o0 l _,fun _=>⟨List.Pairwise.nil,fun _ hm=>(nomatch hm)⟩⟩,h2,h3,h4⟩
section
variable {prog:Program} {w:World} {A:Around} {E:Value→Shared→Prop} {s:Shared} {K:Frag}
end
end Att
namespace L2
open PySem PySem.Spec PyProof.Rows
theorem iN:∀ {vs:List Value} {ns:List Int},IntsAre vs ns→Vals (ns.map V.int) vs
 | _,_,.nil=>.nil
 | _,_,.cons n t h=>.cons ⟨t,rfl⟩ (iN h)
def su (H:Hp):Prop:=∀ b,H b=none∨∃ o xs,H b=some (.frz o (.lst xs))
theorem ql {P:Program} {w:World} {K:PySem.W.Frag} {mg mb:Str→Option Value} {CX:CXT} {k:Nat} {fa a:Addr} {fd:FuncData} {x:Str} {sp:Sp} {s₁:Shared} {vs:List Value} {ns:List Int}
  (KX:K.In s₁.heap) (hns:s₁.heap.Ns mainGlobals mg) (hb:s₁.heap.Ns builtinsNs mb) (hbb:∀ x:Str,x≠ "__name__" →mb x=bootBuiltins x) (hlim:s₁.heap.NoLimit) (hg:s₁.gens=#[])
  (ha:s₁.heap.get? a=some { cls:=.type "list",data:=.seq vs.toArray }) (hi:IntsAre vs ns) (hl:ns.length≤sizeLine) (hr:Room k callerA)
  (F:∀ base:Heap,K.In base→base.Ns mainGlobals mg→FnOk P w K mg base CX k fa fd [x] sp) (hbind:∀ (s:Shared) (u:Value),BindsTo s fd ⟨[u],[]⟩ [(x,u)])
  (hsp:∀ H:Hp,su H→SqL K H a (ns.map V.int)→sp [.ref a] H (fun v _=>v=.bl true) fun _ _ _=>False)
  (hCX:∀ H e s',CX [] H s₁ (fun _ _ _=>False) e s'→False) :
  codeAny (model P w) callerA (.call (.ref fa) ⟨[.ref a],[]⟩) (fun r s'=>r=.ok (.ret (.bool true))∧OldK s₁.heap s'.heap∧s'.os=s₁.os∧AllBare s'.gens) s₁:=by
 have rv:=iN hi;have lenV:=hi.length;have core:∀ H:Hp,su H→SqL K H a (ns.map V.int)→HOk P w H s₁.heap→(∀ b,H b≠none→b=a)→(H a≠none→K.lookup a=none) →
   codeAny (model P w) callerA (.call (.ref fa) ⟨[.ref a],[]⟩) (fun r s'=>r=.ok (.ret (.bool true))∧OldK s₁.heap s'.heap∧s'.os=s₁.os∧AllBare s'.gens) s₁:=by
  intro H hO hS hok hA hK;have base_of:∀ {b:Addr} {o:Obj},s₁.heap.get? b=some o→H b=none→(je s₁.heap H).get? b=some o:=fun e n=>pV e n;have noA:∀ {b:Addr} {o:Obj} {es:Array DictEntry} {ep:Nat},s₁.heap.get? b=some o→o.data=.dict es ep→H b=none:=fun {b o es ep} e d=>by
   cases q:H b with
   | none=>rfl
   | some u =>
    have e':b=a:=hA b (by rw [q];simp);subst e';rw [ha] at e;cases e;have d':Data.seq vs.toArray _=Data.dict es ep:=d
    cases d'
  have nsK:∀ {b:Addr} {m:Str→Option Value},s₁.heap.Ns b m→(je s₁.heap H).Ns b m:=fun {b m} ⟨o,es,ep,e,d,r⟩=>⟨o,es,ep,base_of e (noA e d),d,r⟩;have hKb:K.In (je s₁.heap H):=fun b o e=>base_of (KX b o e) (by
   cases q:H b with
   | none=>rfl
   | some u =>
    have e':b=a:=hA b (by rw [q];simp);subst e';rw [hK (by rw [q];simp)] at e;cases e)
  have hM:Mod K mg (je s₁.heap H):=⟨hKb,nsK hns,⟨mb,nsK hb,hbb⟩,let ⟨mc,h1,h2⟩:=hlim;⟨mc,nsK h1,h2⟩⟩;have e0:Env0 P w K mg (je s₁.heap H) callerA [] s₁ H:=⟨rfl,hM,fun b o e=>rX e,Nat.le_of_eq (oR _ _),trivial,fun b hb=>absurd (show b∈([]:List Addr) from hb) (by simp),hok,.of_eq hg⟩;refine codeAny_mono ((F _ hKb (nsK hns)).run callerA [] s₁ H ⟨[.ref a],[]⟩ [.ref a] [.ref a] _ _ hr e0 (hbind s₁ (.ref a)) (.cons rfl .nil) (hsp H hO hS)) fun r s' h=>?_
  cases r with
  | error e=>exact (hCX H e s' h).elim
  | ok fl =>
   cases fl with
   | next=>exact False.elim h
   | brk=>exact False.elim h
   | cont=>exact False.elim h
   | ret u =>
    obtain ⟨v,H',os,bare,un,hok',r',q⟩:=h;have q':v=.bl true:=q;subst q';obtain rfl:u=Value.bool true:=r';refine ⟨rfl,OldK.of_keep fun b o e=>?_,os,bare⟩
    cases q:H b with
    | none=>exact un.keep b o e q (by intro z;exact absurd (show b∈([]:List Addr) from z) (by simp)) (by simp)
    | some u =>
     rcases hO b with z | ⟨ob,xs,z⟩
     ·rw [q] at z;cases z
     ·have z2:=un.frzs b ob _ z;obtain ⟨e1,_⟩:=hok b _ z;obtain ⟨e2,_⟩:=hok' b _ z2;rw [e] at e1;cases e1;exact e2
 cases hk:K.lookup a with
 | some o =>
  have e:=KX a o hk;rw [ha] at e
  cases e
  refine core (fun _=>none) (fun _=>.inl rfl) (.inr ⟨_,vs.toArray,_,hk,rfl,rfl,rfl,by rw [List.size_toArray,lenV];exact hl,by simpa using rv⟩) (fun b u z=>by have z':(none:Option HO)=some u:=z;cases z') (fun b z=>absurd rfl z) fun z=>absurd rfl z
 | none =>
  refine core (fun b=>if b=a then some (.frz { cls:=.type "list",data:=.seq vs.toArray } (.lst (ns.map V.int))) else none) (fun b=>?_) (.inl (.inr ⟨{ cls:=.type "list",data:=.seq vs.toArray },if_pos rfl⟩)) (fun b u z=>?_) (fun b z=>?_) fun _=>hk
  ·by_cases hb:b=a
   ·exact .inr ⟨_,_,if_pos hb⟩
   ·exact .inl (if_neg hb)
  ·by_cases hb:b=a
   ·have z':=(if_pos hb).symm.trans z
    cases z'
    subst hb;exact ⟨ha,by rw [List.length_map];exact hl,vs,_,rv,ha⟩
   ·have z':=(if_neg hb).symm.trans z
    cases z'
  ·by_cases hb:b=a
   ·exact hb
   ·exact absurd (if_neg hb) z
abbrev KOf {K:PySem.W.Frag} {h:Heap} (_:K.In h):PySem.W.Frag:=K
theorem sv {l:PySem.W.OpenLaw} {n k:Nat} {q:Program} {loose:List Str} {XP:(Str→Option Value)→Heap→Prop} {YP:World→Heap→Prop} {d:DefRec} {K:Params→PySem.W.Frag} {CX:World→CXT} {sp:World→Sp} {x:Str}
  (hn:l.most=some n) (hn2:n≤sizeLine) (hdf:d.params.defaults=[]) (hr:Room k callerA)
  (hY:∀ (w:World) (h:Heap),YP w h→(K w.params).In h)
  (F:∀ (w:World) (mg:Str→Option Value) (fa:Addr) (h:Heap),(K w.params).In h→h.Ns mainGlobals mg→mg d.name=some (.ref fa) →
   ∃ fd:FuncData,(∀ (s:Shared) (u:Value),BindsTo s fd ⟨[u],[]⟩ [(x,u)]) ∧
    ∀ base:Heap,(K w.params).In base→base.Ns mainGlobals mg→FnOk l.prog w (K w.params) mg base (CX w) k fa fd [x] (sp w))
  (hsp:∀ (w:World) (H:Hp) (a:Addr) (ns:List Int),ns.length≤n→su H→SqL (K w.params) H a (ns.map V.int)→sp w [.ref a] H (fun v _=>v=.bl true) fun _ _ _=>False)
  (hCX:∀ (w:World) (H:Hp) (s:Shared) (e:Value) (s':Shared),CX w [] H s (fun _ _ _=>False) e s'→False) :
  PySem.W.WalkO q loose XP YP l.row.toRowW d [] (fun f vs=>PySem.call f vs):=by
 refine Att.attach_call hn hdf fun w s₀ s₁ mg mb fa o pm cd doc a vs ns G Y ho hd hcd hmg hobj hints hlen hg=>?_;have KX:=hY w _ Y;obtain ⟨fd,hb,hF⟩:=F w mg fa _ KX G.T.g hmg;exact ql KX G.T.g G.T.b G.T.builtins G.T.nolimit hg hobj hints (Nat.le_trans hlen hn2) hr hF hb (fun H hO hS=>hsp w H a ns hlen hO hS) fun H e s'=>hCX w H s₁ e s'
theorem vU {l:PySem.W.OpenLaw} {n k:Nat} {q:Program} {loose:List Str} {XP:(Str→Option Value)→Heap→Prop} {YP:World→Heap→Prop} {d:DefRec} {K:Params→PySem.W.Frag} {CX:CXT} {sp:PySem.W.Frag→Sp} {x:Str}
  (hn:l.most=some n) (hn2:n≤sizeLine) (hdf:d.params.defaults=[]) (hr:Room k callerA)
  (hY:∀ (w:World) (h:Heap),YP w h→(K w.params).In h)
  (F:∀ (w:World) (mg:Str→Option Value) (fa:Addr) (h:Heap),(K w.params).In h→h.Ns mainGlobals mg→mg d.name=some (.ref fa) →
   ∃ fd:FuncData,(∀ (s:Shared) (u:Value),BindsTo s fd ⟨[u],[]⟩ [(x,u)]) ∧
    ∀ base:Heap,(K w.params).In base→base.Ns mainGlobals mg→FnOk l.prog w (K w.params) mg base CX k fa fd [x] (sp (K w.params)))
  (hsp:∀ (K:PySem.W.Frag) (H:Hp) (a:Addr) (ns:List Int),ns.length≤n→su H→SqL K H a (ns.map V.int)→sp K [.ref a] H (fun v _=>v=.bl true) fun _ _ _=>False)
  (hCX:∀ (H:Hp) (s:Shared) (e:Value) (s':Shared),CX [] H s (fun _ _ _=>False) e s'→False) :
  PySem.W.WalkO q loose XP YP l.row.toRowW d [] (fun f vs=>PySem.call f vs) :=
 sv (K:=K) (CX:=fun _=>CX) (sp:=fun w=>sp (K w.params)) hn hn2 hdf hr hY F (fun w H a ns h1 h2 h3=>hsp (K w.params) H a ns h1 h2 h3) fun _ H s e s'=>hCX H s e s'
end L2
namespace L2
open PySem PySem.Spec PyProof.Rows
abbrev CX0:CXT:=fun _ _ _ _ _ _=>False
abbrev E0:XK:=fun _ _ _=>False
theorem vV {X:Cx}:jh CX0 X E0:=fun _ _ _ _ _ _ _ h=>h.elim
structure Fun (K:PySem.W.Frag) (x qual:Str) (st:Stmt) (f:Addr) (fd:FuncData):Prop where
 ex:∃ (oc:Value) (od:Option Addr) (kV doc pm:Value) (an:Option Addr) (cdv ct:Value) (osl:Array (Option Value)),
  fd=PySem.W.fnOf x qual (cG st) (bK st) (af st) .none kV doc pm an cdv ct∧K.lookup f=some ⟨oc,od,.func fd,osl⟩∧PySem.W.codeIn K cdv qual=true
 kp:PySem.W.keepIn K (.ref f)=true
section
variable {P:Program} {w:World} {K:PySem.W.Frag} {mg:Str→Option Value} {base:Heap}
theorem Fun.ok {x qual:Str} {st:Stmt} {f:Addr} {fd:FuncData} {N ps:List Str} {k:Nat} {sp:Sp} (F:Fun K x qual st f fd) (S:FnScope N ps (af st)) (len:∀ vs H Q E,sp vs H Q E→vs.length=ps.length)
  (hbody:∀ (cdv:Value) (A:Around) (outer:List Env) (s:Shared) (H:Hp) (vs:List V) (Q:VK) (E:XK),Room k (A.deeper (envOfC qual (af st) s.heap.objs.size f cdv))→sp vs H Q E →
   ∃ t,PSs (kG CX0 P w K mg base N qual (af st) f cdv A outer s H E).nox (bK st) t∧t { nx:=fun _ H'=>Q .non H',rt:=Q } (start N vs) H):FnOk P w K mg base CX0 (k+1) f fd ps sp:=by
 obtain ⟨oc,od,kV,doc,pm,an,cdv,ct,osl,rfl,lk,hcd⟩:=F.ex;refine tV lk hcd S len fun A outer s H vs Q E hr hsp=>?_;obtain ⟨t,h,q⟩:=hbody cdv A outer s H vs Q E hr hsp;exact ⟨t,h.nox,q⟩
theorem Fun.binds {x qual:Str} {st:Stmt} {f:Addr} {fd:FuncData} {ps:List Str} (F:Fun K x qual st f fd)
  (h:∀ (kV doc pm:Value) (an:Option Addr) (cdv ct:Value) (us:List Value),us.length=ps.length→bindArgs (PySem.W.fnOf x qual (cG st) (bK st) (af st) .none kV doc pm an cdv ct) ⟨us,[]⟩=pure (ps.zip us)):Binds K fd ps []:=by
 obtain ⟨oc,od,kV,doc,pm,an,cdv,ct,osl,rfl,lk,hcd⟩:=F.ex;exact .all (h kV doc pm an cdv ct)
theorem qm {x qual:Str} {st:Stmt} {f:Addr} {oc:Value} {od an:Option Addr} {osl:Array (Option Value)} {kV doc pm cdv ct:Value} (l:K.lookup f=some ⟨oc,od,.func (PySem.W.fnOf x qual (cG st) (bK st) (af st) .none kV doc pm an cdv ct),osl⟩)
  (c:PySem.W.codeIn K cdv qual=true) (k:PySem.W.keepIn K (.ref f)=true):Fun K x qual st f (PySem.W.fnOf x qual (cG st) (bK st) (af st) .none kV doc pm an cdv ct):=⟨⟨oc,od,kV,doc,pm,an,cdv,ct,osl,rfl,l,c⟩,k⟩
end
theorem ai {n:Nat} (h:n≤1000):n < sizeLine:=Nat.lt_of_le_of_lt h (by decide)
section
variable {X:Cx}
theorem pv (i:Nat) {x:Str} {pos:Pos} (hN:X.N[i]?=some x:=by rfl) (hv:Vis X.env.scope x:=by first | exact Or.inl rfl | exact Or.inr (Or.inl rfl) | exact Or.inr (Or.inr rfl)) (hd:(x == ("__debug__" : Str))=false:=by decide)
  (hcd:(x == ("__classdict__" : Str))=false:=by decide):PE X (.Name x pos) (oS i):=uq hN hv hd hcd
end
theorem aQ {A B:Prop} (h:B):if false=true then A else B:=by
 rw [if_neg Bool.false_ne_true];exact h
theorem ay {A B:Prop} (h:A):if true=true then A else B:=by
 rw [if_pos rfl];exact h
theorem ar {c A B:Prop} [Decidable c] (h1:c→A) (h2:¬ c→B):if c then A else B:=by
 by_cases h:c
 ·rw [if_pos h];exact h1 h
 ·rw [if_neg h];exact h2 h
def Same (H H':Hp):Prop:=∀ b o,H b=some o→H' b=some o
theorem Same.refl (H:Hp):Same H H:=fun _ _ h=>h
theorem Same.trans {H H1 H2:Hp} (a:Same H H1) (b:Same H1 H2):Same H H2:=fun c o h=>b c o (a c o h)
theorem Same.free {H H':Hp} (e:Same H H') {l:Addr} (h:H' l=Option.none):H l=Option.none:=by
 cases q:H l with
 | none=>rfl
 | some o =>
  rw [e l o q] at h
  cases h
theorem Same.seq {K:PySem.W.Frag} {H H':Hp} {a:Addr} {xs:List V} (e:Same H H') (h:SqL K H a xs):SqL K H' a xs:=by
 rcases h with (h | ⟨o,h⟩) | h
 ·exact .inl (.inl (e _ _ h))
 ·exact .inl (.inr ⟨o,e _ _ h⟩)
 ·exact .inr h
def cf (env:Env):List (Str×NameKind)→List (Str×Addr)→List (Str×Addr)
 | [],cs=>cs
 | (n,k) :: r,cs=>cf env r (if k == .free then (n,(env.cells.lookup n).getD 0) :: cs else cs)
theorem gD {env:Env} {scope:Scope} (h:∀ x∈scope.names,x.2=.free→∃ c,env.cells.lookup x.1=some c):closureFor scope env=pure (cf env scope.names []):=by
 simp only [closureFor];have go:∀ (l:List (Str×NameKind)) (cs:List (Str×Addr)),(∀ x∈l,x.2=.free→∃ c,env.cells.lookup x.1=some c) →
   (forIn l cs fun (x:Str×NameKind) (r:List (Str×Addr))=>(do
    let (name,kind):=x
    if kind == .free then
     let a ← cellOf env name
     pure (ForInStep.yield ((name,a) :: r))
    else pure (ForInStep.yield r):Sem (ForInStep (List (Str×Addr)))))=pure (cf env l cs):=by
  intro l
  induction l with
  | nil=>intro cs _;rfl
  | cons x r ih =>
   intro cs hx;obtain ⟨n,k⟩:=x;rw [List.forIn_cons]
   by_cases hk:k=.free
   ·obtain ⟨c,hc⟩:=hx (n,k) List.mem_cons_self hk;subst hk;have e:cellOf env n=pure c:=by unfold cellOf;rw [hc]
    simp only [beq_self_eq_true,if_true,e,pure_bind];rw [ih _ fun y hy=>hx y (List.mem_cons_of_mem _ hy)];simp only [cf,beq_self_eq_true,if_true,hc,Option.getD_some]
   ·have hb:(k == NameKind.free)=false:=by simpa using hk
    simp only [hb,Bool.false_eq_true,if_false,pure_bind];rw [ih _ fun y hy=>hx y (List.mem_cons_of_mem _ hy)];simp only [cf,hb,Bool.false_eq_true,if_false]
 have g:=go scope.names [] h
 first
  | exact (by rw [g]:_=_)
  | (rw [← bind_pure (pure (cf env scope.names []))];rw [← g];rfl)
  | (simp only [g,pure_bind])
theorem fm {env:Env}:∀ (l:List (Str×NameKind)) (cs:List (Str×Addr)),(∀ x∈l,x.2=.free→∃ c,env.cells.lookup x.1=some c)→(∀ x c,cs.lookup x=some c→env.cells.lookup x=some c) →
  ∀ x c,(cf env l cs).lookup x=some c→env.cells.lookup x=some c
 | [],_,_,h=>h
 | (n,k) :: r,cs,hx,h=>by
  refine fm r _ (fun y hy=>hx y (List.mem_cons_of_mem _ hy)) ?_;intro x c e
  by_cases hk:k=.free
  ·obtain ⟨c',hc⟩:=hx (n,k) List.mem_cons_self hk;subst hk;simp only [beq_self_eq_true,if_true,hc,Option.getD_some] at e;rw [List.lookup_cons] at e
   cases q:x == n with
   | true =>
    rw [q] at e;have q':x=n:=by simpa using q
    cases e
    rw [q'];exact hc
   | false=>rw [q] at e;exact h x c e
  ·have hb:(k == NameKind.free)=false:=by simpa using hk
   simp only [hb,Bool.false_eq_true,if_false] at e;exact h x c e
theorem fM {env:Env}:∀ (l:List (Str×NameKind)) (cs:List (Str×Addr)) (x:Str),(∃ c,cs.lookup x=some c)→∃ c,(cf env l cs).lookup x=some c
 | [],_,_,h=>h
 | (n,k) :: r,cs,x,h=>by
  refine fM r _ x ?_
  split
  ·rw [List.lookup_cons]
   cases q:x == n with
   | true=>exact ⟨_,rfl⟩
   | false=>exact h
  ·exact h
theorem dE {env:Env}:∀ (l:List (Str×NameKind)) (cs:List (Str×Addr)) (x:Str),l.lookup x=some .free→∃ c,(cf env l cs).lookup x=some c
 | [],_,_,h=>by simp at h
 | (n,k) :: r,cs,x,h=>by
  rw [List.lookup_cons] at h
  cases q:x == n with
  | true =>
   rw [q] at h
   cases h
   refine fM r _ x ?_;simp only [beq_self_eq_true,if_true];rw [List.lookup_cons,q];exact ⟨_,rfl⟩
  | false=>rw [q] at h;exact dE r _ x h
theorem cK {env:Env}:∀ {names:List (Str×NameKind)} {x:Str} {k':NameKind},
  (names.map fun (n,k)=>if (k == NameKind.free && env.scope.kind == .function && env.kindOf n == some .cell) then (n,NameKind.cell) else (n,k)).lookup x=some k' →
  ∃ k,names.lookup x=some k∧(k'=k∨(k=.free∧k'=.cell))
 | [],_,_,h=>by simp at h
 | (n,k) :: r,x,k',h=>by
  have ih:=@cK env r x k';rw [List.map_cons] at h
  by_cases hc:(k == NameKind.free && env.scope.kind == .function && env.kindOf n == some .cell)=true
  ·have h2:List.lookup x ((n,NameKind.cell) :: r.map fun (n,k)=>if (k == NameKind.free && env.scope.kind == .function && env.kindOf n == some .cell) then (n,NameKind.cell) else (n,k))=some k':=by
    simpa [hc] using h
   rw [List.lookup_cons] at h2;rw [List.lookup_cons]
   cases q:x == n with
   | true =>
    rw [q] at h2
    cases h2
    have hk:k=.free:=by
     simp only [Bool.and_eq_true] at hc
     simpa using hc.1.1
    exact ⟨k,rfl,.inr ⟨hk,rfl⟩⟩
   | false=>rw [q] at h2;exact ih h2
  ·have h2:List.lookup x ((n,k) :: r.map fun (n,k)=>if (k == NameKind.free && env.scope.kind == .function && env.kindOf n == some .cell) then (n,NameKind.cell) else (n,k))=some k':=by
    simpa [hc] using h
   rw [List.lookup_cons] at h2;rw [List.lookup_cons]
   cases q:x == n with
   | true=>rw [q] at h2;cases h2;exact ⟨_,rfl,.inl rfl⟩
   | false=>rw [q] at h2;exact ih h2
def ccx (X:Cx) (scope:Scope) (C:Addr) (N':List Str) (s₀:Shared) (H₀:Hp) (fp:List Addr):Cx :=
 { X with N:=N',s₀:=s₀,H₀:=H₀,env:=compEnvC scope (cf X.env scope.names []) C X.env,outer:=X.stack,stack:=X.stack,ex:=fp,fn:=fun _=>false,pn:=[],xe:=fun _ _=>False }
def cst (k:Nat) (ρ:List Nat) (σ:St):St:=List.replicate k none++ρ.map fun j=>(σ[j]?).join
structure CScope (X:Cx) (scope:Scope) (NL:List Str) (ρ:List Nat) (N':List Str):Prop where
 kind:scope.kind=.function
 nocell:∀ x∈scope.names,x.2≠.cell
 locs:∀ x∈scope.names,x.2=.local→scope.names.lookup x.1=some .local
 frees:∀ x∈scope.names,x.2=.free→X.env.kindOf x.1=some .cell∨X.env.kindOf x.1=some .free
 names:N'=NL++ρ.map fun j=>X.N.getD j ""
 outs:∀ j∈ρ,∃ x,X.N[j]?=some x∧scope.names.lookup x=some .free∧(X.env.scope.names.lookup x=some .cell∨X.env.scope.names.lookup x=some .free)
section
variable {X:Cx}
theorem sw {scope:Scope} {NL N':List Str} {ρ:List Nat} (S:CScope X scope NL ρ N') {pins:List (Addr×Obj)} {σ:St} {H:Hp} {s:Shared} {fp:List Addr} {C:Addr} (I:Inv X pins σ H s) (hf:∀ b∈fp,dW X pins H b)
  (hfo:∀ b∈fp,∃ o,s.heap.get? b=some o) (hC:s.heap.objs.size≤C):(ccx X scope C N' s H fp).Ok:=by
 have free_in:∀ x∈scope.names,x.2=.free→∃ c,X.env.cells.lookup x.1=some c:=fun x hx hk=>I.ok.has x.1 (S.frees x hx hk);have sub:=fm (env:=X.env) scope.names [] free_in (fun x c e=>by simp at e);refine ⟨I.ok.mod,S.kind,I.ok.glob,I.ok.blt,hC,?_,?_,?_,I.ok.hd,I.ok.frames,.inl rfl,?_,I.bs,?_,?_,?_,I.stack,I.stkFree⟩
 ·exact fun x y c e1 e2=>I.ok.inj x y c (sub x c e1) (sub y c e2)
 ·intro x hx;have hx':(relabel scope X.env).names.lookup x=some .cell∨(relabel scope X.env).names.lookup x=some .free:=hx;have look:∀ k',(relabel scope X.env).names.lookup x=some k'→(k'=.cell∨k'=.free)→scope.names.lookup x=some .free:=fun k' e hk=>by
   obtain ⟨k,e1,z⟩:=cK e;rcases z with z | ⟨z,_⟩
   ·subst z;rcases hk with z | z
    ·subst z;have hm:(x,NameKind.cell)∈scope.names:=mem_of_lookup e1;exact absurd rfl (S.nocell _ hm)
    ·subst z;exact e1
   ·subst z;exact e1
  rcases hx' with e | e
  ·exact dE scope.names [] x (look _ e (.inl rfl))
  ·exact dE scope.names [] x (look _ e (.inr rfl))
 ·intro x c e;exact absurd e (by show ¬ (false=true);decide)
 ·intro b hb;obtain ⟨f0,f1,f2,f3,f4,f5⟩:=hf b hb;refine ⟨?_,fun x c e=>f4 x c (sub x c e)⟩;obtain ⟨o,ho⟩:=hfo b hb;exact Nat.ne_of_lt (Nat.lt_of_lt_of_le (Heap.lt_size ho) hC)
 ·exact Nat.le_trans I.ok.bsz I.sz
 ·intro b o e hb;obtain ⟨f0,f1,f2,f3,f4,f5⟩:=hf b hb;rcases f3 with z | z
  ·exact I.ok.noex b o e z
  ·exact absurd (Nat.lt_of_lt_of_le (Heap.lt_size e) (Nat.le_trans I.ok.bsz z)) (Nat.lt_irrefl _)
 ·intro b hb z;obtain ⟨f0,f1,f2,f3,f4,f5⟩:=hf b hb;rcases List.mem_cons.mp (I.stkSub b z) with e | e
  ·exact f1 e
  ·exact f2 e
end
section
variable {X:Cx}
theorem Inv.comp {scope:Scope} {NL N':List Str} {ρ:List Nat} (S:CScope X scope NL ρ N') {pins:List (Addr×Obj)} {σ:St} {H:Hp} {s:Shared} {fp:List Addr} {C D:Addr} {h':Heap} {t':Nat} (I:Inv X pins σ H s) (hf:∀ b∈fp,dW X pins H b)
  (hfo:∀ b∈fp,∃ o,s.heap.get? b=some o) (hC:s.heap.objs.size≤C) (hD:s.heap.objs.size≤D) (hDC:D≠C) (k:∀ b u,s.heap.get? b=some u→h'.get? b=some u)
  (hd:h'.get? D=some { cls:=.type "list",data:=.seq #[] 0 }) (hn:h'.Ns C fun _=>none) :
  Inv (ccx X scope C N' s H fp) (X.pn++pins) (cst NL.length ρ σ) (upd H D (.lst [])) { s with heap:=h',toks:=t' }:=by
 have ok:=sw S I hf hfo hC;have free_in:∀ x∈scope.names,x.2=.free→∃ c,X.env.cells.lookup x.1=some c:=fun x hx hk=>I.ok.has x.1 (S.frees x hx hk);have sub:=fm (env:=X.env) scope.names [] free_in (fun x c e=>by simp at e);have fresh:∀ b,s.heap.objs.size≤b→H b=none:=fun b hb=>I.hok.fresh hb;have neD:∀ b o,s.heap.get? b=some o→b≠D:=fun b o e=>Nat.ne_of_lt (Nat.lt_of_lt_of_le (Heap.lt_size e) hD);have neH:∀ b u,H b=some u→b≠D:=fun b u e=>ak e (fresh D hD);refine ⟨ok,rfl,I.bare,⟨fun b o e _ _ _=>k b o e,fun b o e _ _ _=>⟨o.slots,k b o e⟩,fun b o e n _=>?_,fun b o e _=>⟨o,k b o e⟩,fun b xs e=>?_,fun b o u e=>?_,fun b ps e=>⟨#[],?_⟩⟩,⟨_,hn,?_⟩,?_,?_,?_,?_,?_,?_⟩
 ·show upd H D _ b=none;rw [ah (neD b o e)];exact n
 ·show upd H D _ b=_;rw [ah (neH b _ e)];exact e
 ·show upd H D _ b=_;rw [ah (neH b _ e)];exact e
 ·show upd H D _ b=_;rw [ah (neH b _ e)];have e':H b=some (.tbl ps):=e;rw [e'];simp
 ·-- the names around
  intro i x v e1 e2 hv;obtain ⟨m,hm,hl⟩:=I.loc;have eN:(NL++ρ.map fun j=>X.N.getD j "")[i]?=some x:=by
   have e1':N'[i]?=some x:=e1;rw [S.names] at e1';exact e1'
  have eσ:(List.replicate NL.length (none:Option V)++ρ.map fun j=>(σ[j]?).join)[i]?=some (some v):=e2
  by_cases hi:i < NL.length
  ·rw [List.getElem?_append_left (by simpa using hi)] at eσ;rw [List.getElem?_replicate] at eσ
   split at eσ <;> cases eσ
  ·have hi':NL.length≤i:=Nat.le_of_not_lt hi;rw [List.getElem?_append_right (by simpa using hi'),List.length_replicate,List.getElem?_map] at eσ;rw [List.getElem?_append_right hi',List.getElem?_map] at eN
   cases q:ρ[i - NL.length]? with
   | none=>rw [q] at eN;cases eN
   | some j =>
    rw [q] at eN eσ;obtain ⟨y,ey,f1,f2⟩:=S.outs j (List.mem_of_getElem? q);have exy:X.N.getD j "" = y:=by rw [List.getD_eq_getElem?_getD,ey];rfl
    have exx:X.N.getD j "" = x:=Option.some.inj eN;have xy:x=y:=exx.symm.trans exy;subst xy;have eσ':(σ[j]?).join=some v:=Option.some.inj eσ;have eσ2:σ[j]?=some (some v):=by
     cases z:σ[j]? with
     | none=>rw [z] at eσ';cases eσ'
     | some w=>rw [z] at eσ';exact congrArg some eσ'
    have vis:Vis X.env.scope x:=by
     rcases f2 with z | z
     ·exact .inr (.inl z)
     ·exact .inr (.inr z)
    obtain ⟨u,r,l⟩:=hl j x v ey eσ2 vis;refine ⟨u,r,?_⟩;obtain ⟨c,hc⟩:=dE (env:=X.env) scope.names [] x f1;rcases l with ⟨kl,_⟩ | ⟨_,c',hc',z⟩
    ·have kl':X.env.scope.names.lookup x=some .local:=kl;rcases f2 with z | z
     ·rw [z] at kl';cases kl'
     ·rw [z] at kl';cases kl'
    ·have e3:=sub x c hc;rw [hc'] at e3;obtain rfl:=Option.some.inj e3;obtain ⟨oc,hoc,hcd⟩:=z;have hv':(relabel scope X.env).names.lookup x=some .local∨(relabel scope X.env).names.lookup x=some .cell∨(relabel scope X.env).names.lookup x=some .free:=hv;refine .inr ⟨?_,c',hc,oc,k _ _ hoc,hcd⟩;rcases hv' with z | z | z
     ·obtain ⟨k0,e4,z2⟩:=cK z;rw [f1] at e4
      cases e4
      rcases z2 with z2 | ⟨_,z2⟩ <;> cases z2
     ·exact .inl z
     ·exact .inr z
 ·intro x c e;obtain ⟨v,oc,hoc,hcd⟩:=I.cell x c (sub x c e);exact ⟨v,oc,k _ _ hoc,hcd⟩
 ·show upd H D _ C=none;rw [ah (Ne.symm hDC)];exact fresh C hC
 ·intro x c e;obtain ⟨v,oc,hoc,hcd⟩:=I.cell x c (sub x c e);rw [ah (neD c oc hoc)];exact I.freeC x c (sub x c e)
 ·intro p hp;have hp':p∈X.pn++pins:=hp;obtain ⟨e,n,ne,nf,d⟩:=I.pin p hp';refine ⟨k _ _ e,?_,?_,?_,d⟩
  ·rw [ah (neD p.1 p.2 e)];exact n
  ·exact Nat.ne_of_lt (Nat.lt_of_lt_of_le (Heap.lt_size e) hC)
  ·intro z;rcases List.mem_cons.mp (I.stkSub p.1 z) with q | q
   ·exact ne q
   ·exact nf q
 ·exact I.hok.laid k hD ⟨Nat.zero_le _,[],0,.nil,hd⟩
 ·show (List.replicate NL.length (none:Option V)++ρ.map fun j=>(σ[j]?).join).length=N'.length;rw [S.names];simp
theorem Inv.compEnd {scope:Scope} {N':List Str} {pins:List (Addr×Obj)} {σ σ':St} {H H':Hp} {s s':Shared} {fp:List Addr} {C:Addr} {h':Heap} {pins':List (Addr×Obj)} (I:Inv X pins σ H s) (hf:∀ b∈fp,dW X pins H b) (hC:s.heap.objs.size≤C)
  (J:Inv (ccx X scope C N' s H fp) pins' σ' H' s') (hs:Heap.SameBut C s'.heap h'):Inv X pins σ H' { s' with heap:=h' }:=by
 have hn:H' C=none:=J.free;have nC:∀ b o,s.heap.get? b=some o→b≠C:=fun b o e=>Nat.ne_of_lt (Nat.lt_of_lt_of_le (Heap.lt_size e) hC);have B:Un (frs X.stack) fp H H' s.heap s'.heap:=J.base;have U:Un (frs X.stack) fp H H' s.heap h':=⟨fun b o e n hb hx=>(hs.2 b (nC b o e)).trans (B.keep b o e n hb hx),fun b o e n hb hx=>by
   obtain ⟨sl,q⟩:=B.slot b o e n hb hx;exact ⟨sl,(hs.2 b (nC b o e)).trans q⟩,B.free,fun b o e hx=>by
   obtain ⟨o',q⟩:=B.there b o e hx;exact ⟨o',(hs.2 b (nC b o e)).trans q⟩,B.tups,B.frzs,B.tbls⟩
 have hok:HOk X.prog X.w H' h':=fun b u e=>by
  refine (J.hok b u e).stay (fun c v hc q=>(hs.2 c ?_).trans q) (fun _ q=>q) fun _ _ q=>q;rintro rfl;rcases hc with rfl | hc
  ·rw [hn] at e;cases e
  ·rw [hn] at hc;cases hc
 refine Inv.call' (s':={ s' with heap:=h' }) I J.os U hok J.bare fun b hb=>?_;obtain ⟨f0,f1,f2,f3,f4,f5⟩:=hf b hb;exact ⟨f3,f1,f4,f5⟩
def iO (k:Nat) (ρ:List Nat) (wi:TI) (g:TG) (tb:List V→Addr→St→Hp→(List V→St→Hp→Prop)→Prop):TE:=fun σ H Q =>
 wi σ H fun J H1=>∀ l,H1 l=none→∃ W:Nat→Nat→List V→St→Hp→Prop,(∃ m,W 0 m [] (cst k ρ σ) (upd H1 l (.lst []))) ∧
  ∀ i m ys σ' H',W i m ys σ' H'→(J.stop i H'∧Q (.ref l) H')∨(J.go i H'∧∀ x H'',J.yld i H' x H''→g x σ' H'' fun σ2 H2=>tb ys l σ2 H2 fun ys' σ3 H3=>∃ m',m' < m∧W (i+1) m' ys' σ3 H3)
def cEl (te:TE):List V→Addr→St→Hp→(List V→St→Hp→Prop)→Prop:=fun ys l σ H N=>te σ H fun y H1=>H1 l=some (.lst ys)∧ys.length < sizeLine∧N (ys++[y]) σ (upd H1 l (.lst (ys++[y])))
def cIf (tc:TT) (te:TE):List V→Addr→St→Hp→(List V→St→Hp→Prop)→Prop:=fun ys l σ H N=>tc σ H fun b H1=>if b=true then cEl te ys l σ H1 N else N ys σ H1
def PB (X:Cx) (body:Value→Sem Unit) (tb:List V→Addr→St→Hp→(List V→St→Hp→Prop)→Prop):Prop :=
 ∀ (pins:List (Addr×Obj)) (s:Shared) (σ:St) (H:Hp) (l:Addr) (ys:List V) (N:List V→St→Hp→Prop),Inv X pins σ H s→tb ys l σ H N →
  wpAny (model X.prog X.w) X.A (body (.ref l)) (fun _ s'=>∃ ys' σ' H',Inv X pins σ' H' s'∧N ys' σ' H') X.xe s
theorem qo {elt:Expr} {te:TE} (he:PE X elt te):PB X (fun acc=>do let x ← eval elt X.env;let _ ← call (.builtin "list.append") [acc,x];pure ()) (cEl te):=by
 intro pins s σ H l ys N I h;refine wpAny_bind (thn (he pins s σ H _ I h) fun u s1 ⟨y,H1,I1,r1,q0,q1,q2⟩=>wpAny_bind ?_);refine thn (fj pins s1 σ H1 (.ref l) [y] (.ref l) [u] (fun v H'=>v=.non∧N (ys++[y]) σ H') I1 rfl (.cons r1 .nil) ⟨l,ys,y,rfl,rfl,q0,q1,rfl,q2⟩) fun _ s2 ⟨v,H2,I2,_,_,n2⟩=>wpAny_pure ⟨_,σ,H2,I2,n2⟩
theorem tW {c elt:Expr} {tc:TT} {te:TE} (hc:PT X c tc) (he:PE X elt te):PB X (fun acc=>do
  let b ← isTrue c X.env (eval c X.env)
  if b then (do let x ← eval elt X.env;let _ ← call (.builtin "list.append") [acc,x];pure ()) else pure ()) (cIf tc te):=by
 intro pins s σ H l ys N I h;refine wpAny_bind (thn (hc pins s σ H _ I h) fun b s1 ⟨H1,I1,q1⟩=>?_)
 cases b with
 | true=>exact qo he pins s1 σ H1 l ys N I1 q1
 | false=>exact wpAny_pure ⟨ys,σ,H1,I1,q1⟩
theorem kI (elt target iter:Expr) (scope:Scope) (pos:Pos) (it acc:Value) (env:Env) :
  compTurn (.ListComp elt [⟨target,iter,[],0⟩] scope pos) 0 it acc env=(standAt iter.pos >>= fun _=>pyNext it >>= fun r=>match r with
   | none=>pure (.done .next)
   | some v=>letOwnedTupleGo target it v >>= fun _=>assign target env v >>= fun _ =>
    (do let x ← eval elt env;let _ ← call (.builtin "list.append") [acc,x];pure ():Sem Unit) >>= fun _=>again (.compLoop (.ListComp elt [⟨target,iter,[],0⟩] scope pos) 0 it acc env)):=by rfl
theorem kJ (elt target iter c:Expr) (scope:Scope) (pos:Pos) (it acc:Value) (env:Env) :
  compTurn (.ListComp elt [⟨target,iter,[c],0⟩] scope pos) 0 it acc env=(standAt iter.pos >>= fun _=>pyNext it >>= fun r=>match r with
   | none=>pure (.done .next)
   | some v=>letOwnedTupleGo target it v >>= fun _=>assign target env v >>= fun _ =>
    (do
     let b ← isTrue c env (eval c env)
     if b then (do let x ← eval elt env;let _ ← call (.builtin "list.append") [acc,x];pure ()) else pure ():Sem Unit) >>= fun _=>again (.compLoop (.ListComp elt [⟨target,iter,[c],0⟩] scope pos) 0 it acc env)):=by
 rw [compTurn_list]
 congr 1
 funext _
 congr 1
 funext r
 cases r with
 | none=>rfl
 | some v =>
  refine congrArg (letOwnedTupleGo target it v >>= ·) (funext fun _=>?_);refine congrArg (assign target env v >>= ·) (funext fun _=>?_);dsimp only;rw [List.forIn_cons];simp only [if_true,bind_assoc,pure_bind,List.forIn_nil];refine congrArg (PySem.isTrue c env (eval c env) >>= ·) (funext fun b=>?_)
  cases b
  ·simp
  ·simp
end
section
variable {X:Cx}
theorem kK {elt tgt iter:Expr} {ifs:List Expr} {scope:Scope} {pos:Pos} {NL N':List Str} {ρ:List Nat} {wi:TI} {g:TG} {tb:List V→Addr→St→Hp→(List V→St→Hp→Prop)→Prop} {body:Value→Env→Sem Unit}
  (hc:X.calm=true) (S:CScope X scope NL ρ N') (hi:PI X tgt iter wi)
  (hg:∀ C s₀ H₀ fp,PG (ccx X scope C N' s₀ H₀ fp) tgt g) (hb:∀ C s₀ H₀ fp,PB (ccx X scope C N' s₀ H₀ fp) (fun acc=>body acc (ccx X scope C N' s₀ H₀ fp).env) tb)
  (he:∀ (it acc:Value) (env:Env),compTurn (.ListComp elt [⟨tgt,iter,ifs,0⟩] scope pos) 0 it acc env=(standAt iter.pos >>= fun _=>pyNext it >>= fun r=>match r with
   | none=>pure (.done .next)
   | some v=>letOwnedTupleGo tgt it v >>= fun _=>assign tgt env v >>= fun _=>body acc env >>= fun _=>again (.compLoop (.ListComp elt [⟨tgt,iter,ifs,0⟩] scope pos) 0 it acc env)))
  (hs:∀ x,foldedSetIterable iter X.env x=pure x:=by intro _;rfl):PE X (.ListComp elt [⟨tgt,iter,ifs,0⟩] scope pos) (iO NL.length ρ wi g tb):=by
 intro pins s σ H Q I h;have free_in:∀ x∈scope.names,x.2=.free→∃ c,X.env.cells.lookup x.1=some c:=fun x hx hk=>I.ok.has x.1 (S.frees x hx hk);rw [eval_ListComp];refine wpAny_comprehension_free (use:=none) rfl hs (gD free_in) S.kind S.locs ?_;refine thn (hi pins s σ H _ I h) fun v s1 h1=>thn h1 fun itv s2 h2=>?_;obtain ⟨it,fp,tn,J,H2,e,I2,T,st2,f2,w⟩:=h2;subst e;refine wpAny_newObj_type (wpAny_newFunctionEnv S.nocell (by intro y hy;simp at hy) (fun h₁ hns₁ hsb₁=>?_) S.kind);dsimp only at hns₁ hsb₁ ⊢
 generalize hH2:s2.heap.push { cls:=.type "list",dict:=none,data:=.seq ([]:List Value).toArray }=h2' at hns₁ hsb₁ ⊢
 have hCs:h2'.objs.size=s2.heap.objs.size+1:=by rw [← hH2,Heap.size_push]
 have hDC:s2.heap.objs.size≠h2'.objs.size:=by rw [hCs];exact Nat.ne_of_lt (Nat.lt_succ_self _)
 have hC:s2.heap.objs.size≤h2'.objs.size:=by rw [hCs];exact Nat.le_succ _
 have old:∀ b o,s2.heap.get? b=some o→h₁.get? b=some o:=fun b o e=>hsb₁.extBut b o (Nat.ne_of_lt (Nat.lt_of_lt_of_le (Heap.lt_size e) hC)) (Heap.get?_push_of_some _ (hH2 ▸ Heap.get?_push_of_some _ e));have hd:h₁.get? s2.heap.objs.size=some { cls:=.type "list",data:=.seq #[] 0 }:=hsb₁.extBut _ _ hDC (Heap.get?_push_of_some _ (hH2 ▸ Heap.get?_push_size _ rfl));have hfo:∀ b∈fp,∃ o,s2.heap.get? b=some o:=fun b hb=>let ⟨o,e,_⟩:=T.obj _ _ st2 b hb;⟨o,e⟩;have I4:Inv (ccx X scope h2'.objs.size N' s2 H2 fp) (X.pn++pins) (cst NL.length ρ σ) (upd H2 s2.heap.objs.size (.lst [])) { s2 with heap:=h₁,toks:=s2.toks+([]:List (Str×Value)).length } :=
  Inv.comp S I2 f2 hfo hC (Nat.le_refl _) hDC old hd (by simpa using hns₁)
 have hD0:H2 s2.heap.objs.size=none:=I2.hok.fresh (Nat.le_refl _);have nfp:s2.heap.objs.size∉fp:=fun z=>by
  obtain ⟨o,e⟩:=hfo _ z;exact absurd (Heap.lt_size e) (Nat.lt_irrefl _)
 obtain ⟨W,⟨m0,w0⟩,turn⟩:=w s2.heap.objs.size hD0;have stat:∀ {H':Hp},(∀ b∈fp,H' b=none)→∀ b∈fp,dW (ccx X scope h2'.objs.size N' s2 H2 fp) (X.pn++pins) H' b:=fun {H'} hn b hb=>by
  obtain ⟨f0,f1,f2',f3,f4,f5⟩:=f2 b hb;have ok:=I4.ok;refine ⟨hn b hb,(ok.exf b hb).1,ok.exfs b hb,.inl hb,(ok.exf b hb).2,fun p hp=>f5 p hp⟩
 have loop:∀ s₃:Shared,s₃={ s2 with heap:=h₁,toks:=s2.toks+([]:List (Str×Value)).length } →
   codeAny (model X.prog X.w) X.A (.compLoop (.ListComp elt [⟨tgt,iter,ifs,0⟩] scope pos) 0 (.ref it) (.ref s2.heap.objs.size) (compEnvC scope (cf X.env scope.names []) h2'.objs.size X.env))
    (compPost (model X.prog X.w) X.A X.xe none (EP X pins σ Q) (.ref s2.heap.objs.size) h2'.objs.size) s₃:=by
  rintro s₃ rfl;refine codeAny_loop rfl (fun n s'=>∃ i ys σ' H',Inv (ccx X scope h2'.objs.size N' s2 H2 fp) (X.pn++pins) σ' H' s'∧tn i s'.heap∧(∀ b∈fp,H' b=none)∧W i n ys σ' H') (fun n s3 hI=>?_) m0
   ⟨0,[],_,_,I4,T.keep _ _ _ st2 (fun b _ o e=>old b o e),fun b hb=>?_,w0⟩
  ·obtain ⟨i,ys,σ3,H3,I3,st3,fr3,w3⟩:=hI;show wpAny _ _ ((compTurn (.ListComp elt [⟨tgt,iter,ifs,0⟩] scope pos) 0 (.ref it) (.ref s2.heap.objs.size) (compEnvC scope (cf X.env scope.names []) h2'.objs.size X.env)).onRaise (fun x=>do noteFrame x _;theTreesLotGoes x)) _ _ s3;refine wpAny_noted ?_;rw [he];refine wpAny_bind (wpAny_standAt (wpAny_bind ?_));rcases turn i n ys σ3 H3 w3 with ⟨stop,qn⟩ | ⟨go,step⟩
   ·refine thn (T.done (ccx X scope h2'.objs.size N' s2 H2 fp) rfl rfl rfl hc i _ s3 σ3 H3 _ I3 (stat fr3) st3 stop) fun r s4 ⟨hr,I5⟩=>?_;subst hr;refine wpAny_pure ?_;obtain ⟨m,hm,_⟩:=id I5.loc;exact ⟨m,hm,fun h' hs'=>⟨.ref s2.heap.objs.size,H3,Inv.compEnd I2 f2 hC I5 hs',rfl,qn⟩⟩
   ·refine thn (T.item (ccx X scope h2'.objs.size N' s2 H2 fp) rfl rfl rfl hc i _ s3 σ3 H3 _ I3 (stat fr3) st3 go) fun r s4 ⟨u,hr,h4⟩=>?_;subst hr;refine wpAny_bind (thn h4 fun _ s5 ⟨x,H5,I5,r5,y5,st5,fr5⟩=>?_);have I5':=I5.pinned (stat fr5) (T.obj _ _ st5);refine wpAny_bind (wpAny_mono (hg h2'.objs.size s2 H2 fp _ s5 σ3 H5 x u _ I5' r5 (step x H5 y5)) (fun _ s6 ⟨σ6,H6,I6,q6⟩=>?_) fun _ _ z=>z.elim);refine wpAny_bind (wpAny_mono (hb h2'.objs.size s2 H2 fp _ s6 σ6 H6 s2.heap.objs.size ys _ I6 q6) (fun _ s7 ⟨ys7,σ7,H7,I7,m',hm,w7⟩=>?_) fun _ _ z=>z.elim);refine wpAny_pure ⟨rfl,m',hm,i+1,ys7,σ7,H7,I7.unpinned,T.keep _ _ _ st5 fun b hb o e=>(I7.pin (b,o) (List.mem_append_right _ (List.mem_append_right _ (br hb e)))).1,fun b hb=>?_,w7⟩;obtain ⟨o,e,d⟩:=T.obj _ _ st5 b hb;exact (I7.pin (b,o) (List.mem_append_right _ (List.mem_append_right _ (br hb e)))).2.1
  ·rw [ah (show b≠s2.heap.objs.size from fun z=>nfp (by rw [← z];exact hb))];exact (f2 b hb).1
 refine codeAny_compStart_list (loop _ rfl) (T.self _ 0 _ _ _ ?_ (loop _ rfl));exact T.keep _ _ _ st2 fun b _ o e=>old b o e
theorem aI {elt tgt iter:Expr} {scope:Scope} {pos:Pos} {NL N':List Str} {ρ:List Nat} {wi:TI} {g:TG} {te:TE} (hc:X.calm=true) (S:CScope X scope NL ρ N') (hi:PI X tgt iter wi)
  (hg:∀ C s₀ H₀ fp,PG (ccx X scope C N' s₀ H₀ fp) tgt g) (he:∀ C s₀ H₀ fp,PE (ccx X scope C N' s₀ H₀ fp) elt te)
  (hs:∀ x,foldedSetIterable iter X.env x=pure x:=by intro _;rfl):PE X (.ListComp elt [⟨tgt,iter,[],0⟩] scope pos) (iO NL.length ρ wi g (cEl te)) :=
 kK (body:=fun acc env=>do let x ← eval elt env;let _ ← call (.builtin "list.append") [acc,x];pure ()) hc S hi hg (fun C s₀ H₀ fp=>qo (he C s₀ H₀ fp)) (fun it acc env=>kI elt tgt iter scope pos it acc env) hs
theorem o4 {elt tgt iter c:Expr} {scope:Scope} {pos:Pos} {NL N':List Str} {ρ:List Nat} {wi:TI} {g:TG} {tc:TT} {te:TE} (hc:X.calm=true) (S:CScope X scope NL ρ N') (hi:PI X tgt iter wi)
  (hg:∀ C s₀ H₀ fp,PG (ccx X scope C N' s₀ H₀ fp) tgt g) (ht:∀ C s₀ H₀ fp,PT (ccx X scope C N' s₀ H₀ fp) c tc) (he:∀ C s₀ H₀ fp,PE (ccx X scope C N' s₀ H₀ fp) elt te)
  (hs:∀ x,foldedSetIterable iter X.env x=pure x:=by intro _;rfl):PE X (.ListComp elt [⟨tgt,iter,[c],0⟩] scope pos) (iO NL.length ρ wi g (cIf tc te)) :=
 kK (body:=fun acc env=>do
  let b ← PySem.isTrue c env (eval c env)
  if b then (do let x ← eval elt env;let _ ← call (.builtin "list.append") [acc,x];pure ()) else pure ()) hc S hi hg (fun C s₀ H₀ fp=>tW (ht C s₀ H₀ fp) (he C s₀ H₀ fp)) (fun it acc env=>kJ elt tgt iter c scope pos it acc env) hs
end
section
variable {X:Cx}
inductive IsiB (K:PySem.W.Frag) (H:Hp):V→String→Bool→Prop
 | int_int {i}:IsiB K H (.int i) "int" true
 | int_str {i}:IsiB K H (.int i) "str" false
 | int_bool {i}:IsiB K H (.int i) "bool" false
 | int_tuple {i}:IsiB K H (.int i) "tuple" false
 | int_list {i}:IsiB K H (.int i) "list" false
 | str_int {x}:IsiB K H (.str x) "int" false
 | str_str {x}:IsiB K H (.str x) "str" true
 | str_bool {x}:IsiB K H (.str x) "bool" false
 | str_tuple {x}:IsiB K H (.str x) "tuple" false
 | str_list {x}:IsiB K H (.str x) "list" false
 | bl_int {b}:IsiB K H (.bl b) "int" true
 | bl_bool {b}:IsiB K H (.bl b) "bool" true
 | bl_str {b}:IsiB K H (.bl b) "str" false
 | bl_tuple {b}:IsiB K H (.bl b) "tuple" false
 | tup_int {a xs}:SqT K H a xs→IsiB K H (.ref a) "int" false
 | tup_str {a xs}:SqT K H a xs→IsiB K H (.ref a) "str" false
 | tup_bool {a xs}:SqT K H a xs→IsiB K H (.ref a) "bool" false
 | tup_tuple {a xs}:SqT K H a xs→IsiB K H (.ref a) "tuple" true
 | tup_list {a xs}:SqT K H a xs→IsiB K H (.ref a) "list" false
 | lst_int {a xs}:SqL K H a xs→IsiB K H (.ref a) "int" false
 | lst_str {a xs}:SqL K H a xs→IsiB K H (.ref a) "str" false
 | lst_tuple {a xs}:SqL K H a xs→IsiB K H (.ref a) "tuple" false
 | lst_list {a xs}:SqL K H a xs→IsiB K H (.ref a) "list" true
theorem cL (a b:String) (h:isSubtype (.type a) (.type b)=pure false:=by rw [isSubtype_type];kernel_rfl):isSubtype (.type a) (.type b)=pure false:=h
theorem o5 (a b:String) (h:isSubtype (.type a) (.type b)=pure true:=by rw [isSubtype_type];kernel_rfl):isSubtype (.type a) (.type b)=pure true:=h
theorem o6:isSubtype (.type "int") (.type "str")=pure false:=cL _ _
theorem mt:isSubtype (.type "int") (.type "bool")=pure false:=cL _ _
theorem kL:isSubtype (.type "int") (.type "tuple")=pure false:=cL _ _
theorem mw:isSubtype (.type "int") (.type "list")=pure false:=cL _ _
theorem o7:isSubtype (.type "str") (.type "int")=pure false:=cL _ _
theorem mx:isSubtype (.type "str") (.type "bool")=pure false:=cL _ _
theorem kM:isSubtype (.type "str") (.type "tuple")=pure false:=cL _ _
theorem my:isSubtype (.type "str") (.type "list")=pure false:=cL _ _
theorem mz:isSubtype (.type "bool") (.type "str")=pure false:=cL _ _
theorem jm:isSubtype (.type "bool") (.type "tuple")=pure false:=cL _ _
theorem kN:isSubtype (.type "tuple") (.type "int")=pure false:=cL _ _
theorem kP:isSubtype (.type "tuple") (.type "str")=pure false:=cL _ _
theorem jn:isSubtype (.type "tuple") (.type "bool")=pure false:=cL _ _
theorem jo:isSubtype (.type "tuple") (.type "list")=pure false:=cL _ _
theorem mB:isSubtype (.type "list") (.type "int")=pure false:=cL _ _
theorem mC:isSubtype (.type "list") (.type "str")=pure false:=cL _ _
theorem jp:isSubtype (.type "list") (.type "tuple")=pure false:=cL _ _
theorem vW:isSubtype (.type "int") (.type "int")=pure true:=o5 _ _
theorem vX:isSubtype (.type "str") (.type "str")=pure true:=o5 _ _
theorem uI:isSubtype (.type "bool") (.type "bool")=pure true:=o5 _ _
theorem mD:isSubtype (.type "bool") (.type "int")=pure true:=o5 _ _
theorem sy:isSubtype (.type "tuple") (.type "tuple")=pure true:=o5 _ _
theorem uJ:isSubtype (.type "list") (.type "list")=pure true:=o5 _ _
theorem kQ:typeOf (.type "int")=pure (.type "type"):=by kernel_rfl
theorem kR:typeOf (.type "str")=pure (.type "type"):=by kernel_rfl
theorem jq:typeOf (.type "bool")=pure (.type "type"):=by kernel_rfl
theorem eC:typeOf (.type "tuple")=pure (.type "type"):=by kernel_rfl
theorem jr:typeOf (.type "list")=pure (.type "type"):=by kernel_rfl
theorem qp:aW X (.builtin "isinstance") (fun xs H Q=>∃ x T b,xs=[x,.ty T]∧IsiB X.K H x T b∧Q (.bl b) H):=by
 intro pins s σ H xs us Q I r h;obtain ⟨x,T,b,rfl,hb,q⟩:=h;obtain ⟨u,w',rfl,rx,rT⟩:=nU r
 cases rT
 have fin:∀ t,EP X pins σ Q (.bool b) { s with toks:=t }:=fun t=>⟨.bl b,H,I.tok t,rfl,q⟩;have fin0:EP X pins σ Q (.bool b) s:=⟨.bl b,H,I,rfl,q⟩;have tup:∀ {a xs},SqT X.K H a xs→∃ o,s.heap.get? a=some o∧o.cls=.type "tuple" :=fun hq=>by
  obtain ⟨its,_,p,_⟩:=I.tuple hq;obtain ⟨o,e,c,_⟩:=p;exact ⟨o,e,c⟩
 have lst:∀ {a xs},SqL X.K H a xs→∃ o,s.heap.get? a=some o∧o.cls=.type "list" :=fun hq=>by
  obtain ⟨its,_,p,_⟩:=I.list hq;obtain ⟨o,e,c,_⟩:=p.isList;exact ⟨o,e,c⟩
 cases hb with
 | int_int=>obtain ⟨t,rfl⟩:=rx;exact call_isinstance (isinstance_true (Tx:= "int") kQ vW) ⟨rfl,fin0⟩
 | int_str=>obtain ⟨t,rfl⟩:=rx;exact call_isinstance (isinstance_false_int (by decide) kR o6) (fin _)
 | int_bool=>obtain ⟨t,rfl⟩:=rx;exact call_isinstance (isinstance_false_int (by decide) jq mt) (fin _)
 | int_tuple=>obtain ⟨t,rfl⟩:=rx;exact call_isinstance (isinstance_false_int (by decide) eC kL) (fin _)
 | int_list=>obtain ⟨t,rfl⟩:=rx;exact call_isinstance (isinstance_false_int (by decide) jr mw) (fin _)
 | str_int=>obtain ⟨t,rfl⟩:=rx;exact call_isinstance (isinstance_false_str (by decide) kQ o7) (fin _)
 | str_str=>obtain ⟨t,rfl⟩:=rx;exact call_isinstance (isinstance_true (Tx:= "str") kR vX) ⟨rfl,fin0⟩
 | str_bool=>obtain ⟨t,rfl⟩:=rx;exact call_isinstance (isinstance_false_str (by decide) jq mx) (fin _)
 | str_tuple=>obtain ⟨t,rfl⟩:=rx;exact call_isinstance (isinstance_false_str (by decide) eC kM) (fin _)
 | str_list=>obtain ⟨t,rfl⟩:=rx;exact call_isinstance (isinstance_false_str (by decide) jr my) (fin _)
 | bl_int=>cases rx;exact call_isinstance (isinstance_true (Tx:= "bool") kQ mD) ⟨rfl,fin0⟩
 | bl_bool=>cases rx;exact call_isinstance (isinstance_true (Tx:= "bool") jq uI) ⟨rfl,fin0⟩
 | bl_str=>cases rx;exact call_isinstance (isinstance_false_bool (by decide) kR mz) (fin _)
 | bl_tuple=>cases rx;exact call_isinstance (isinstance_false_bool (by decide) eC jm) (fin _)
 | tup_int hq=>cases rx;exact call_isinstance (isinstance_false_tuple (by decide) kQ kN) ⟨tup hq,fin _⟩
 | tup_str hq=>cases rx;exact call_isinstance (isinstance_false_tuple (by decide) kR kP) ⟨tup hq,fin _⟩
 | tup_bool hq=>cases rx;exact call_isinstance (isinstance_false_tuple (by decide) jq jn) ⟨tup hq,fin _⟩
 | tup_tuple hq=>cases rx;exact call_isinstance (isinstance_true (Tx:= "tuple") eC sy) ⟨tup hq,fin0⟩
 | tup_list hq=>cases rx;exact call_isinstance (isinstance_false_tuple (by decide) jr jo) ⟨tup hq,fin _⟩
 | lst_int hq=>cases rx;exact call_isinstance (isinstance_false_list (by decide) kQ mB) ⟨lst hq,fin _⟩
 | lst_str hq=>cases rx;exact call_isinstance (isinstance_false_list (by decide) kR mC) ⟨lst hq,fin _⟩
 | lst_tuple hq=>cases rx;exact call_isinstance (isinstance_false_list (by decide) eC jp) ⟨lst hq,fin _⟩
 | lst_list hq=>cases rx;exact call_isinstance (isinstance_true (Tx:= "list") jr uJ) ⟨lst hq,fin0⟩
def Its (z:Str):It:=⟨fun i _=>i < z.cps.size,fun i H x H'=>H'=H∧∃ c,z.cps[i]?=some c∧x=.str ⟨#[c]⟩,fun i _=>i=z.cps.size⟩
def wY (te:TE):TI:=fun σ H R=>te σ H fun x H1=>∃ z,x=.str z∧R (Its z) H1
theorem kS {P:Program} {w:World} {K:PySem.W.Frag} {tg:Expr} (T:String) (it:Addr) (z:Str) (t:Tok)
  (W:∀ A:Around,A.handled=none→Walks P w A it [it] [it] z.cps.size (SignAt z) (fun i h=>h.IsStrIter it T z t i))
  (hT:["enumerate","zip","dict_itemiterator","dict_reverseitemiterator","odict_iterator","itertools.zip_longest","itertools.pairwise"].contains T=false)
  (hs:∀ (A:Around) (i:Nat) (s:Shared) (Q:Value→Shared→Prop) (E:Value→Shared→Prop),s.heap.IsStrIter it T z t i→Q (.ref it) s→wpAny (model P w) A (pyIter (.ref it)) Q E s) :
  Turn P w K tg (Its z) [it] it (fun i h=>h.IsStrIter it T z t i) where
 mem:=by simp
 obj:=fun i h st b hb=>by
  have e:b=it:=by simpa using hb
  subst e;obtain ⟨o,e,c,d⟩:=st;exact ⟨o,e,fun v z=>by rw [d] at z;cases z⟩
 keep:=fun i h h' st k=>by
  obtain ⟨o,e,c,d⟩:=st;exact ⟨o,k it (by simp) o e,c,d⟩
 item:=by
  intro X hP hw hK hc i pins s σ H E I hf st hg;subst hP hw hK;obtain ⟨f0,f1,f2,f3,f4,f5⟩:=hf it (by simp);refine (W X.A (I.ok.hd hc)).item i s _ _ hg st fun v h' tk hv st' kk=>?_;obtain ⟨c,u,hcz,rfl⟩:=hv;have I1:Inv X pins σ H { s with heap:=h',toks:=tk }:=I.turned (fun b o hb e=>kk b o (by simpa using hb) e) f0 f1 f3 f4 f5;obtain ⟨o,e,cl,d⟩:=id st';exact ⟨_,rfl,gv (s:={ s with heap:=h',toks:=tk }) e cl d hT ⟨.str ⟨#[c]⟩,H,I1,⟨u,rfl⟩,⟨rfl,c,hcz,rfl⟩,st',fun b hb=>(hf b hb).1⟩⟩
 done:=by
  intro X hP hw hK hc i pins s σ H E I hf st hg;subst hP hw hK;obtain ⟨f0,f1,f2,f3,f4,f5⟩:=hf it (by simp);have hi:i=z.cps.size:=hg;subst hi;exact (W X.A (I.ok.hd hc)).done s _ _ st fun h' tk kk=>⟨rfl,I.turned (fun b o hb e=>kk b o (by simpa using hb) e) f0 f1 f3 f4 f5⟩
 self:=hs
theorem mE {tg l:Expr} {tl:TE} (hl:PE X l tl):PI X tg l (wY tl):=by
 intro pins s σ H R I h;refine thn (hl pins s σ H _ I h) fun v s1 ⟨x,H1,I1,r1,q1⟩=>?_;obtain ⟨z,rfl,q⟩:=q1;obtain ⟨t,rfl⟩:=r1;have fp:∀ (o:Obj),∀ b∈[s1.heap.objs.size],dW X pins H1 b:=fun o b hb=>by
  have e:b=s1.heap.objs.size:=by simpa using hb
  subst e;exact I1.fpOk (Nat.le_refl _) (I1.hok.fresh (Nat.le_refl _))
 cases ha:z.cps.all (· < 128)
 ·refine wpAny_pyIter_wide ha ?_;exact ⟨s1.heap.objs.size,[s1.heap.objs.size],_,_,H1,rfl,I1.kept (t':=s1.toks) fun b o e=>Heap.get?_push_of_some _ e,
   kS "str_iterator" _ z t (fun A hA=>Walks.strWide hA _ z t) (by decide) (fun _ _ _ _ _ st h=>wpAny_pyIter_striter_wide st h),⟨_,Heap.get?_push_size _ rfl,rfl,rfl⟩,fp default,q⟩
 ·refine wpAny_pyIter_ascii ha ?_;exact ⟨s1.heap.objs.size,[s1.heap.objs.size],_,_,H1,rfl,I1.kept (t':=s1.toks) fun b o e=>Heap.get?_push_of_some _ e,
   kS "str_ascii_iterator" _ z t (fun A hA=>Walks.strAscii hA _ z t) (by decide) (fun _ _ _ _ _ st h=>wpAny_pyIter_striter_ascii st h),⟨_,Heap.get?_push_size _ rfl,rfl,rfl⟩,fp default,q⟩
def bls:List Bool→List V:=List.map V.bl
theorem qq:aW X (.builtin "all") (fun xs H Q=>∃ p ys,xs=[.ref p]∧X.calm=true∧SqL X.K H p (bls ys)∧Q (.bl (ys.all id)) H):=by
 intro pins s σ H xs us Q I r h;obtain ⟨p,ys,rfl,hcm,hq,q⟩:=h;obtain ⟨u,rfl,rx⟩:=ce r
 cases rx
 obtain ⟨its,r',pl,hz⟩:=I.list hq;have hh:X.A.in1.handled=none:=I.ok.hd hcm;have hne:p≠s.heap.objs.size:=by
  obtain ⟨o,e,_⟩:=pl.isList;exact Nat.ne_of_lt (Heap.lt_size e)
 have hlen:its.length=ys.length:=by rw [← r'.length];simp [bls]
 refine call_all_walk (wpAny_pyIter_list pl.isList ⟨s.heap.objs.size,_,_,_,_,_,fun i=>ys.getD i true,rfl,Walks.list hh _ p hne its.toArray,⟨⟨_,Heap.get?_push_size _ rfl,rfl,rfl⟩,pl.isList.at fun o e=>Heap.get?_push_of_some _ e⟩,?_,?_⟩)
 ·intro i v s' Q' E' hv hQ;have hv':its[i]?=some v:=by simpa using hv
  have hi:i < ys.length:=by
   rw [← hlen];exact (List.getElem?_eq_some_iff.mp hv').1
  have e1:(bls ys)[i]?=some (V.bl ys[i]):=by simp [bls,hi]
  obtain ⟨u,hu,ru⟩:=r'.get e1;rw [hv'] at hu;obtain rfl:=Option.some.inj hu
  cases ru
  refine wpAny_truthy_bool ?_;have e2:ys.getD i true=ys[i]:=by simp [List.getD_eq_getElem?_getD,hi]
  have hQ':Q' (ys.getD i true) s':=hQ;rw [e2] at hQ';exact hQ'
 ·intro h' tk kk;have e3:(List.range its.toArray.size).all (fun i=>ys.getD i true)=ys.all id:=by
   rw [List.size_toArray,hlen];rw [Bool.eq_iff_iff,List.all_eq_true,List.all_eq_true]
   constructor
   ·intro g x hx;obtain ⟨i,hi,rfl⟩:=List.mem_iff_getElem.mp hx;have:=g i (List.mem_range.mpr hi)
    simpa [List.getD_eq_getElem?_getD,hi] using this
   ·intro g i hi;have hi':=List.mem_range.mp hi;have:=g ys[i] (List.getElem_mem hi')
    simpa [List.getD_eq_getElem?_getD,hi'] using this
  rw [e3];refine ⟨.bl _,H,?_,rfl,q⟩;have I1:Inv X pins σ H { s with heap:=s.heap.push { cls:=.type "list_iterator",data:=.fields #[.ref p,.int 0 0] } }:=I.kept (t':=s.toks) fun b o e=>Heap.get?_push_of_some _ e;exact I.kept (t':=tk) fun b o e=>kk b o (by
   intro z;have z':b=s.heap.objs.size:=by simpa using z
   exact absurd (Heap.lt_size e) (by rw [z'];exact Nat.lt_irrefl _)) (Heap.get?_push_of_some _ e)
end
section
variable {X:Cx}
theorem fN (ns:List Int):∀ n,n≤ns.length→preSum (fun i=>ns.getD i 0) n=(ns.take n).sum
 | 0,_=>by simp [preSum]
 | n+1,h=>by
  have hn:n < ns.length:=h;rw [preSum,fN ns n (Nat.le_of_lt hn),List.take_add_one,List.sum_append];simp [List.getD_eq_getElem?_getD,hn]
theorem qr:aW X (.builtin "sum") (fun xs H Q=>∃ (p:Addr) (ns:List Int),xs=[.ref p]∧X.calm=true∧SqL X.K H p (ns.map V.int)∧Q (.int ns.sum) H):=by
 intro pins s σ H xs us Q I r h;obtain ⟨p,ns,rfl,hcm,hq,q⟩:=h;obtain ⟨u,rfl,rx⟩:=ce r
 cases rx
 obtain ⟨its,r',pl,hz⟩:=I.list hq;have hh:X.A.in1.handled=none:=I.ok.hd hcm;have hlt:p < s.heap.objs.size:=by
  obtain ⟨o,e,_⟩:=pl.isList;exact Heap.lt_size e
 have hne:p≠s.heap.objs.size:=Nat.ne_of_lt hlt;have hlen:its.length=ns.length:=by rw [← r'.length];simp
 refine call_sum_walkG (wpAny_pyIter_list pl.isList ⟨s.heap.objs.size,_,_,_,_,_,fun i=>ns.getD i 0,rfl,Walks.list hh _ p hne its.toArray,⟨⟨_,Heap.get?_push_size _ rfl,rfl,rfl⟩,pl.isList.at fun o e=>Heap.get?_push_of_some _ e⟩,?_,?_,?_⟩)
 ·intro b hb;have hb':b=s.heap.objs.size∨b=p:=by simpa using hb
  show b < (s.heap.push _).objs.size;rw [Heap.size_push];rcases hb' with e | e
  ·exact e ▸ Nat.lt_succ_self _
  ·exact Nat.lt_succ_of_lt (e ▸ hlt)
 ·intro i v hv;have hv':its[i]?=some v:=by simpa using hv
  have hi:i < ns.length:=by
   rw [← hlen];exact (List.getElem?_eq_some_iff.mp hv').1
  have e1:(ns.map V.int)[i]?=some (V.int ns[i]):=by simp [hi]
  obtain ⟨u,hu,ru⟩:=r'.get e1;rw [hv'] at hu;obtain rfl:=Option.some.inj hu;obtain ⟨t,rfl⟩:=ru;exact ⟨t,by simp [List.getD_eq_getElem?_getD,hi]⟩
 ·intro h' tk t' kk;have e3:preSum (fun i=>ns.getD i 0) its.toArray.size=ns.sum:=by
   rw [List.size_toArray,hlen,fN ns _ (Nat.le_refl _),List.take_length]
  rw [e3];refine ⟨.int _,H,?_,⟨_,rfl⟩,q⟩;exact I.kept (t':=tk) fun b o e=>kk b o (by
   intro z;have z':b=s.heap.objs.size:=by simpa using z
   exact absurd (Heap.lt_size e) (by rw [z'];exact Nat.lt_irrefl _)) (Heap.get?_push_of_some _ e)
def wZ:V→Option Int→Option Int→Hp→VK→Prop:=fun x lo hi H Q=>∃ z,x=.str z∧z.length≤sizeLine∧Q (.str (Txt.slice z lo hi)) H
theorem qt:SlR X wZ:=by
 intro pins s σ H x v vl vu lo hi sl Q I rx hs pl pu h;obtain ⟨z,rfl,hz,q⟩:=h;obtain ⟨t,rfl⟩:=rx;refine ⟨"str",_,F.slot_str_getitem.lookup,typeIs_str _ _ _,?_⟩;have fin:∀ t' k,EP X pins σ Q (.str (Txt.slice z lo hi) t') { s with toks:=k }:=fun t' k=>⟨.str _,H,I.tok k,⟨t',rfl⟩,q⟩
 cases pl with
 | none =>
  cases pu with
  | none=>exact wpAny_getItem_str_slice (l:=none) (u:=none) (st:=none) hs rfl (post_val_or_str ⟨Nat.le_trans (Txt.slice_le z _ _) hz,fun t' k=>fin t' k⟩)
  | int j uj=>exact wpAny_getItem_str_slice (l:=none) (u:=some (j,uj)) (st:=none) hs rfl (post_val_or_str ⟨Nat.le_trans (Txt.slice_le z _ _) hz,fun t' k=>fin t' k⟩)
 | int i ui =>
  cases pu with
  | none=>exact wpAny_getItem_str_slice (l:=some (i,ui)) (u:=none) (st:=none) hs rfl (post_val_or_str ⟨Nat.le_trans (Txt.slice_le z _ _) hz,fun t' k=>fin t' k⟩)
  | int j uj=>exact wpAny_getItem_str_slice (l:=some (i,ui)) (u:=some (j,uj)) (st:=none) hs rfl (post_val_or_str ⟨Nat.le_trans (Txt.slice_le z _ _) hz,fun t' k=>fin t' k⟩)
end
theorem ag {H:Hp} {p:Addr} (h:H p=none) (o:HO):Same H (upd H p o):=fun b u q=>by rw [ah (ak q h)];exact q
def But (r:Addr) (H H':Hp):Prop:=∀ b o,b≠r→H b=some o→H' b=some o
theorem But.refl (r:Addr) (H:Hp):But r H H:=fun _ _ _ h=>h
theorem But.trans {r:Addr} {H H1 H2:Hp} (a:But r H H1) (b:But r H1 H2):But r H H2:=fun c o n h=>b c o n (a c o n h)
theorem But.same {r:Addr} {H H1:Hp} (a:Same H H1):But r H H1:=fun c o _ h=>a c o h
theorem But.put {r:Addr} {H:Hp} {o:HO}:But r H (upd H r o):=fun c u n h=>by rw [ah n];exact h
theorem But.tup {K:PySem.W.Frag} {r:Addr} {H H':Hp} {a:Addr} {xs:List V} (e:But r H H') (n:a≠r) (h:SqT K H a xs):SqT K H' a xs:=by
 rcases h with (h | ⟨o,h⟩) | h
 ·exact .inl (.inl (e _ _ n h))
 ·exact .inl (.inr ⟨o,e _ _ n h⟩)
 ·exact .inr h
theorem Same.tup {K:PySem.W.Frag} {H H':Hp} {a:Addr} {xs:List V} (e:Same H H') (h:SqT K H a xs):SqT K H' a xs:=by
 rcases h with (h | ⟨o,h⟩) | h
 ·exact .inl (.inl (e _ _ h))
 ·exact .inl (.inr ⟨o,e _ _ h⟩)
 ·exact .inr h
theorem cs0 {X:Cx} {scope:Scope} {NL:List Str} (h1:scope.kind=.function) (h2:(scope.names.all fun x=>x.2 != .cell && x.2 != .free)=true)
  (h3:∀ x∈scope.names,x.2=.local→scope.names.lookup x.1=some .local):CScope X scope NL [] NL:=by
 rw [List.all_eq_true] at h2;refine ⟨h1,fun x hx e=>?_,h3,fun x hx e=>?_,by simp,fun j hj=>by simp at hj⟩
 ·have:=h2 x hx;rw [e] at this;exact absurd this (by decide)
 ·have:=h2 x hx;rw [e] at this;exact absurd this (by decide)
theorem gE {z:Str} {l:Addr} {g:TG} {tb:List V→Addr→St→Hp→(List V→St→Hp→Prop)→Prop} {Q:VK} {σ0:St} {H0:Hp} (Pv:Nat→List V→St→Hp→Prop) (h0:Pv 0 [] σ0 H0)
  (hs:∀ i c ys σ H (N:List V→St→Hp→Prop),z.cps[i]?=some c→Pv i ys σ H→(∀ ys' σ' H',Pv (i+1) ys' σ' H'→N ys' σ' H')→g (.str ⟨#[c]⟩) σ H fun σ2 H2=>tb ys l σ2 H2 N)
  (hd:∀ ys σ H,Pv z.cps.size ys σ H→Q (.ref l) H) :
  ∃ W:Nat→Nat→List V→St→Hp→Prop,(∃ m,W 0 m [] σ0 H0)∧∀ i m ys σ' H',W i m ys σ' H'→((Its z).stop i H'∧Q (.ref l) H') ∨
   ((Its z).go i H'∧∀ x H'',(Its z).yld i H' x H''→g x σ' H'' fun σ2 H2=>tb ys l σ2 H2 fun ys' σ3 H3=>∃ m',m' < m∧W (i+1) m' ys' σ3 H3):=by
 refine ⟨fun i m ys σ H=>m=z.cps.size - i∧i≤z.cps.size∧Pv i ys σ H,⟨z.cps.size,by simp,Nat.zero_le _,h0⟩,?_⟩;rintro i m ys σ H ⟨rfl,hi,p⟩
 by_cases hlt:i < z.cps.size
 ·refine .inr ⟨hlt,fun x H' y=>?_⟩;obtain ⟨e,c,hc,rfl⟩:=y;subst e;exact hs i c ys σ _ _ hc p fun ys' σ' H' q=>⟨_,by lia,rfl,hlt,q⟩
 ·have e:i=z.cps.size:=by lia
  subst e;exact .inl ⟨rfl,hd ys σ H p⟩
theorem mF {lo:Int} {n:Nat} {l:Addr} {g:TG} {tb:List V→Addr→St→Hp→(List V→St→Hp→Prop)→Prop} {Q:VK} {σ0:St} {H0:Hp} (Pv:Nat→List V→St→Hp→Prop) (h0:Pv 0 [] σ0 H0)
  (hs:∀ i ys σ H (N:List V→St→Hp→Prop),i < n→Pv i ys σ H→(∀ ys' σ' H',Pv (i+1) ys' σ' H'→N ys' σ' H')→g (.int (lo+i)) σ H fun σ2 H2=>tb ys l σ2 H2 N)
  (hd:∀ ys σ H,Pv n ys σ H→Q (.ref l) H) :
  ∃ W:Nat→Nat→List V→St→Hp→Prop,(∃ m,W 0 m [] σ0 H0)∧∀ i m ys σ' H',W i m ys σ' H'→((Itr lo n).stop i H'∧Q (.ref l) H') ∨
   ((Itr lo n).go i H'∧∀ x H'',(Itr lo n).yld i H' x H''→g x σ' H'' fun σ2 H2=>tb ys l σ2 H2 fun ys' σ3 H3=>∃ m',m' < m∧W (i+1) m' ys' σ3 H3):=by
 refine ⟨fun i m ys σ H=>m=n - i∧i≤n∧Pv i ys σ H,⟨n,by simp,Nat.zero_le _,h0⟩,?_⟩;rintro i m ys σ H ⟨rfl,hi,p⟩
 by_cases hlt:i < n
 ·refine .inr ⟨hlt,fun x H' y=>?_⟩;obtain ⟨e,rfl⟩:=y;subst e;exact hs i ys σ _ _ hlt p fun ys' σ' H' q=>⟨_,by lia,rfl,hlt,q⟩
 ·have e:i=n:=by lia
  subst e;exact .inl ⟨Nat.le_refl _,hd ys σ H p⟩
theorem o8 {K:PySem.W.Frag} {a:Addr} {xs:List V} {l:Addr} {g:TG} {tb:List V→Addr→St→Hp→(List V→St→Hp→Prop)→Prop} {Q:VK} {σ0:St} {H0:Hp} (Pv:Nat→List V→St→Hp→Prop) (h0:Pv 0 [] σ0 H0) (hl:∀ i ys σ H,i≤xs.length→Pv i ys σ H→SqL K H a xs)
  (hs:∀ i x ys σ H (N:List V→St→Hp→Prop),xs[i]?=some x→Pv i ys σ H→(∀ ys' σ' H',Pv (i+1) ys' σ' H'→N ys' σ' H')→g x σ H fun σ2 H2=>tb ys l σ2 H2 N)
  (hd:∀ ys σ H,Pv xs.length ys σ H→Q (.ref l) H) :
  ∃ W:Nat→Nat→List V→St→Hp→Prop,(∃ m,W 0 m [] σ0 H0)∧∀ i m ys σ' H',W i m ys σ' H'→((Itl K a).stop i H'∧Q (.ref l) H') ∨
   ((Itl K a).go i H'∧∀ x H'',(Itl K a).yld i H' x H''→g x σ' H'' fun σ2 H2=>tb ys l σ2 H2 fun ys' σ3 H3=>∃ m',m' < m∧W (i+1) m' ys' σ3 H3):=by
 refine ⟨fun i m ys σ H=>m=xs.length - i∧i≤xs.length∧Pv i ys σ H,⟨xs.length,by simp,Nat.zero_le _,h0⟩,?_⟩;rintro i m ys σ H ⟨rfl,hi,p⟩;have q:=hl i ys σ H hi p
 by_cases hlt:i < xs.length
 ·refine .inr ⟨⟨xs,xs[i],q,by simp [hlt]⟩,fun x H' y=>?_⟩;obtain ⟨e,y⟩:=y;subst e;exact hs i x ys σ _ _ (y xs q) p fun ys' σ' H' q=>⟨_,by lia,rfl,hlt,q⟩
 ·have e:i=xs.length:=by lia
  subst e;exact .inl ⟨⟨xs,q,Nat.le_refl _⟩,hd ys σ H p⟩
theorem qu {K:PySem.W.Frag} {a:Addr} {xs:List V} {l:Addr} {g:TG} {tb:List V→Addr→St→Hp→(List V→St→Hp→Prop)→Prop} {Q:VK} {σ0:St} {H0:Hp} (Pv:Nat→List V→St→Hp→Prop) (h0:Pv 0 [] σ0 H0) (hl:∀ i ys σ H,i≤xs.length→Pv i ys σ H→SqT K H a xs)
  (hs:∀ i x ys σ H (N:List V→St→Hp→Prop),xs[i]?=some x→Pv i ys σ H→(∀ ys' σ' H',Pv (i+1) ys' σ' H'→N ys' σ' H')→g x σ H fun σ2 H2=>tb ys l σ2 H2 N)
  (hd:∀ ys σ H,Pv xs.length ys σ H→Q (.ref l) H) :
  ∃ W:Nat→Nat→List V→St→Hp→Prop,(∃ m,W 0 m [] σ0 H0)∧∀ i m ys σ' H',W i m ys σ' H'→((Itt K a).stop i H'∧Q (.ref l) H') ∨
   ((Itt K a).go i H'∧∀ x H'',(Itt K a).yld i H' x H''→g x σ' H'' fun σ2 H2=>tb ys l σ2 H2 fun ys' σ3 H3=>∃ m',m' < m∧W (i+1) m' ys' σ3 H3):=by
 refine ⟨fun i m ys σ H=>m=xs.length - i∧i≤xs.length∧Pv i ys σ H,⟨xs.length,by simp,Nat.zero_le _,h0⟩,?_⟩;rintro i m ys σ H ⟨rfl,hi,p⟩;have q:=hl i ys σ H hi p
 by_cases hlt:i < xs.length
 ·refine .inr ⟨⟨xs,xs[i],q,by simp [hlt]⟩,fun x H' y=>?_⟩;obtain ⟨e,y⟩:=y;subst e;exact hs i x ys σ _ _ (y xs q) p fun ys' σ' H' q=>⟨_,by lia,rfl,hlt,q⟩
 ·have e:i=xs.length:=by lia
  subst e;exact .inl ⟨⟨xs,q,Nat.le_refl _⟩,hd ys σ H p⟩
theorem pe_gint {X:Cx} {x:Str} {i:Int} {t:Tok} {pos:Pos} (hg:Gl X x) (hm:X.mg x=some (.int i t)) (hd:(x == ("__debug__" : Str))=false:=by decide):PE X (.Name x pos) (tC (.int i)):=nM hg hm ⟨_,rfl⟩ hd
theorem pe_gstr {X:Cx} {x z:Str} {t:Tok} {pos:Pos} (hg:Gl X x) (hm:X.mg x=some (.str z t)) (hd:(x == ("__debug__" : Str))=false:=by decide):PE X (.Name x pos) (tC (.str z)):=nM hg hm ⟨_,rfl⟩ hd
theorem bu {X:Cx} {x:Str} {n:String} {pos:Pos} (hg:Gl X x) (hm:X.mg x=none) (hv:bootBuiltins x=some (.type n)) (hn:x≠ "__name__" :=by decide) (hd:(x == ("__debug__" : Str))=false:=by decide):PE X (.Name x pos) (tC (.ty n)):=rZ hg hm hv rfl hn hd
structure Gn (K:PySem.W.Frag) (mg:Str→Option Value) (x:Str) (st:Stmt) (ps:List Str) (f:Addr) (fd:FuncData):Prop where
 F:Fun K x x st f fd
 b:Binds K fd ps []
 m:mg x=some (.ref f)
inductive Dt where
 | non | bl (b:Bool) | int (i:Int) | str (z:Str) | tup (l:List Dt)
mutual
inductive IsD (K:PySem.W.Frag) (H:Hp):Dt→V→Prop
 | non:IsD K H .non .non
 | bl {b}:IsD K H (.bl b) (.bl b)
 | int {i}:IsD K H (.int i) (.int i)
 | str {z}:IsD K H (.str z) (.str z)
 | tup {l:List Dt} {a:Addr} {xs:List V}:SqT K H a xs→IsDs K H l xs→IsD K H (.tup l) (.ref a)
inductive IsDs (K:PySem.W.Frag) (H:Hp):List Dt→List V→Prop
 | nil:IsDs K H [] []
 | cons {d:Dt} {l:List Dt} {x:V} {xs:List V}:IsD K H d x→IsDs K H l xs→IsDs K H (d :: l) (x :: xs)
end
mutual
def Dt.dep:Dt→Nat
 | .tup l=>gF l+1
 | _=>0
def gF:List Dt→Nat
 | []=>0
 | d :: l=>max d.dep (gF l)
end
mutual
def eqD:Dt→Dt→Bool
 | .non,.non=>true
 | .bl a,.bl b=>a == b
 | .bl a,.int i=>(if a then 1 else 0) == i
 | .int i,.bl a=>i == (if a then 1 else 0)
 | .int i,.int j=>i == j
 | .str x,.str y=>x == y
 | .tup l,.tup m=>cB l m
 | _,_=>false
def cB:List Dt→List Dt→Bool
 | [],[]=>true
 | d :: l,e :: m=>eqD d e && cB l m
 | _,_=>false
end
mutual
def Dt.plain:Dt→Bool
 | .bl _=>false
 | .tup l=>gG l
 | _=>true
def gG:List Dt→Bool
 | []=>true
 | d :: l=>d.plain && gG l
end
mutual
theorem gH:∀ d:Dt,eqD d d=true
 | .non=>rfl
 | .bl a=>by simp [eqD]
 | .int i=>by simp [eqD]
 | .str z=>by simp [eqD]
 | .tup l=>by simp only [eqD];exact fo l
theorem fo:∀ l:List Dt,cB l l=true
 | []=>rfl
 | d :: l=>by simp only [cB,gH d,fo l,Bool.and_self]
end
mutual
theorem uK:∀ d e:Dt,d.plain=true→e.plain=true→eqD d e=true→d=e
 | .non,e,_,_,h=>by cases e <;> simp_all [eqD]
 | .bl _,_,h,_,_=>by simp [Dt.plain] at h
 | .int i,e,_,he,h=>by cases e <;> simp_all [eqD,Dt.plain]
 | .str z,e,_,_,h=>by cases e <;> simp_all [eqD]
 | .tup l,e,hd,he,h=>by
  cases e with
  | tup m=>rw [nW l m (by simpa [Dt.plain] using hd) (by simpa [Dt.plain] using he) (by simpa [eqD] using h)]
  | _=>simp [eqD] at h
theorem nW:∀ l m:List Dt,gG l=true→gG m=true→cB l m=true→l=m
 | [],[],_,_,_=>rfl
 | [],_ :: _,_,_,h=>by simp [cB] at h
 | _ :: _,[],_,_,h=>by simp [cB] at h
 | d :: l,e :: m,hl,hm,h=>by
  simp only [gG,Bool.and_eq_true] at hl hm;simp only [cB,Bool.and_eq_true] at h;rw [uK d e hl.1 hm.1 h.1,nW l m hl.2 hm.2 h.2]
end
section
variable {K:PySem.W.Frag} {H H':Hp}
mutual
theorem IsD.same (g:Same H H'):∀ {d:Dt} {v:V},IsD K H d v→IsD K H' d v
 | _,_,.non=>.non
 | _,_,.bl=>.bl
 | _,_,.int=>.int
 | _,_,.str=>.str
 | _,_,.tup h r=>.tup (g.tup h) (IsDs.same g r)
theorem IsDs.same (g:Same H H'):∀ {l:List Dt} {xs:List V},IsDs K H l xs→IsDs K H' l xs
 | _,_,.nil=>.nil
 | _,_,.cons h r=>.cons (IsD.same g h) (IsDs.same g r)
end
theorem qv {a r:Addr} {xs ys:List V} (hr:H r=some (.lst ys)) (h:SqT K H a xs):a≠r∨∀ H'',SqT K H'' a xs:=by
 rcases h with (h | ⟨o,h⟩) | h
 ·exact .inl (gp h hr (by intro z;cases z))
 ·exact .inl (gp h hr (by intro z;cases z))
 ·exact .inr fun _=>.inr h
mutual
theorem IsD.but {r:Addr} {ys:List V} (hr:H r=some (.lst ys)) (g:But r H H'):∀ {d:Dt} {v:V},IsD K H d v→IsD K H' d v
 | _,_,.non=>.non
 | _,_,.bl=>.bl
 | _,_,.int=>.int
 | _,_,.str=>.str
 | _,_,.tup h q=>.tup (by
   rcases qv hr h with n | n
   ·exact g.tup n h
   ·exact n _) (IsDs.but hr g q)
theorem IsDs.but {r:Addr} {ys:List V} (hr:H r=some (.lst ys)) (g:But r H H'):∀ {l:List Dt} {xs:List V},IsDs K H l xs→IsDs K H' l xs
 | _,_,.nil=>.nil
 | _,_,.cons h q=>.cons (IsD.but hr g h) (IsDs.but hr g q)
end
theorem IsDs.length {l:List Dt} {xs:List V} (h:IsDs K H l xs):l.length=xs.length:=by
 induction l generalizing xs with
 | nil=>cases h;rfl
 | cons d l ih=>cases h with | cons _ r=>simp [ih r]
theorem IsDs.get {l:List Dt} {xs:List V} (h:IsDs K H l xs) {i:Nat} {d:Dt} (e:l[i]?=some d):∃ x,xs[i]?=some x∧IsD K H d x:=by
 induction l generalizing xs i with
 | nil=>simp at e
 | cons c l ih =>
  cases h with
  | cons h r =>
   cases i with
   | zero=>simp at e;subst e;exact ⟨_,rfl,h⟩
   | succ i=>exact ih r (by simpa using e)
end
section
variable {X:Cx} {pins:List (Addr×Obj)} {σ:St} {H:Hp} {s:Shared}
mutual
theorem IsD.inj (I:Inv X pins σ H s):∀ {d e:Dt} {v:V},IsD X.K H d v→IsD X.K H e v→d=e
 | _,_,_,.non,.non=>rfl
 | _,_,_,.bl,.bl=>rfl
 | _,_,_,.int,.int=>rfl
 | _,_,_,.str,.str=>rfl
 | _,_,_,.tup h r,.tup h' r'=>by
  have e:=I.tuple_inj h h';subst e;rw [IsDs.inj I r r']
theorem IsDs.inj (I:Inv X pins σ H s):∀ {l m:List Dt} {xs:List V},IsDs X.K H l xs→IsDs X.K H m xs→l=m
 | _,_,_,.nil,.nil=>rfl
 | _,_,_,.cons h r,.cons h' r'=>by rw [IsD.inj I h h',IsDs.inj I r r']
end
theorem bv:∀ (l m:List Dt),cB l m=((List.range (min l.length m.length)).all (fun j=>eqD (l.getD j .non) (m.getD j .non)) && l.length == m.length)
 | [],[]=>rfl
 | [],_ :: _=>by simp [cB]
 | _ :: _,[]=>by simp [cB]
 | d :: l,e :: m=>by
  simp only [cB,List.length_cons];rw [bv l m,Nat.succ_min_succ,List.range_succ_eq_map,List.all_cons,List.all_map];have e1:(l.length+1 == m.length+1)=(l.length == m.length):=by
   rw [Bool.eq_iff_iff];simp
  rw [e1,Bool.and_assoc]
  rfl
theorem gI:∀ {l:List Dt} {j:Nat},j < l.length→(l.getD j .non).dep≤gF l
 | [],_,h=>by simp at h
 | d :: l,0,_=>by simp only [List.getD_cons_zero,gF];lia
 | d :: l,j+1,h=>by
  have q:=@gI l j (by simpa using h);simp only [List.getD_cons_succ,gF];lia
theorem Inv.tup' (I:Inv X pins σ H s) {a:Addr} {xs:List V} (h:SqT X.K H a xs):∃ its:List Value,Vals xs its∧s.heap.IsTuple a its.toArray:=by
 obtain ⟨its,r,p,_⟩:=I.tuple h;exact ⟨its,r,p⟩
theorem iP (A:Around):A.in1.units=A.units+1:=by
 first | rfl | simp [Around.in1]
theorem vY (I:Inv X pins σ H s):∀ (n:Nat) (d e:Dt) (x y:V) (u v:Value) (A:Around),d.dep≤n→IsD X.K H d x→IsD X.K H e y→RelV x u→RelV y v→A.units+n < cLine →
  SeqAt.EqAt A s u v (eqD d e)∧SeqAt.RcAt A s u v (eqD d e)∧SeqAt.RcNeAt A s u v (!eqD d e):=by
 intro n
 induction n with
 | zero =>
  intro d e x y u v A hd hx hy rx ry hu;have hu0:A.units < cLine:=by lia
  cases hx with
  | tup h r=>simp [Dt.dep] at hd
  | non =>
   cases rx
   cases hy with
   | non=>cases ry;exact ⟨.same _,.none_none,.none_none⟩
   | bl=>cases ry;exact ⟨.none_bool _,.none_bool _,.none_bool _⟩
   | int=>obtain ⟨t,rfl⟩:=ry;exact ⟨.none_int _ _,.none_int _ _,.none_int _ _⟩
   | str=>obtain ⟨t,rfl⟩:=ry;exact ⟨.none_str _ _,.none_str _ _,.none_str _ _⟩
   | tup h r=>cases ry;obtain ⟨its,_,p⟩:=I.tup' h;exact ⟨.none_tuple p hu0,.none_tuple p hu0,.none_tuple p hu0⟩
  | bl =>
   cases rx
   cases hy with
   | non=>cases ry;exact ⟨.bool_none _,.bool_none _,.bool_none _⟩
   | bl=>cases ry;exact ⟨.bool_bool _ _,.bool_bool _ _,.bool_bool _ _⟩
   | int=>obtain ⟨t,rfl⟩:=ry;exact ⟨.bool_int _ _ _,.bool_int _ _ _,.bool_int _ _ _⟩
   | str=>obtain ⟨t,rfl⟩:=ry;exact ⟨.bool_str _ _ _,.bool_str _ _ _,.bool_str _ _ _⟩
   | tup h r=>cases ry;obtain ⟨its,_,p⟩:=I.tup' h;exact ⟨.bool_tuple _ p hu0,.bool_tuple _ p hu0,.bool_tuple _ p hu0⟩
  | int =>
   obtain ⟨t0,rfl⟩:=rx
   cases hy with
   | non=>cases ry;exact ⟨.int_none _ _,.int_none _ _,.int_none _ _⟩
   | bl=>cases ry;exact ⟨.int_bool _ _ _,.int_bool _ _ _,.int_bool _ _ _⟩
   | int=>obtain ⟨t,rfl⟩:=ry;exact ⟨.int_int _ _ _ _,.int_int _ _ _ _,.int_int _ _ _ _⟩
   | str=>obtain ⟨t,rfl⟩:=ry;exact ⟨.int_str _ _ _ _,.int_str _ _ _ _,.int_str _ _ _ _⟩
   | tup h r=>cases ry;obtain ⟨its,_,p⟩:=I.tup' h;exact ⟨.int_tuple _ _ p hu0,.int_tuple _ _ p hu0,.int_tuple _ _ p hu0⟩
  | str =>
   obtain ⟨t0,rfl⟩:=rx
   cases hy with
   | non=>cases ry;exact ⟨.str_none _ _,.str_none _ _,.str_none _ _⟩
   | bl=>cases ry;exact ⟨.str_bool _ _ _,.str_bool _ _ _,.str_bool _ _ _⟩
   | int=>obtain ⟨t,rfl⟩:=ry;exact ⟨.str_int _ _ _ _,.str_int _ _ _ _,.str_int _ _ _ _⟩
   | str=>obtain ⟨t,rfl⟩:=ry;exact ⟨.str_str _ _ _ _,.str_str _ _ _ _,.str_str _ _ _ _⟩
   | tup h r=>cases ry;obtain ⟨its,_,p⟩:=I.tup' h;exact ⟨.str_tuple _ _ p hu0,.str_tuple _ _ p hu0,.str_tuple _ _ p hu0⟩
 | succ n ih =>
  intro d e x y u v A hd hx hy rx ry hu;have hu0:A.units < cLine:=by lia
  cases hx with
  | tup h r =>
   rename_i l a xs
   cases rx
   cases hy with
   | non=>cases ry;obtain ⟨its,_,p⟩:=I.tup' h;exact ⟨.tuple_none p hu0,.tuple_none p hu0,.tuple_none p hu0⟩
   | bl=>cases ry;obtain ⟨its,_,p⟩:=I.tup' h;exact ⟨.tuple_bool _ p hu0,.tuple_bool _ p hu0,.tuple_bool _ p hu0⟩
   | int=>obtain ⟨t,rfl⟩:=ry;obtain ⟨its,_,p⟩:=I.tup' h;exact ⟨.tuple_int _ _ p hu0,.tuple_int _ _ p hu0,.tuple_int _ _ p hu0⟩
   | str=>obtain ⟨t,rfl⟩:=ry;obtain ⟨its,_,p⟩:=I.tup' h;exact ⟨.tuple_str _ _ p hu0,.tuple_str _ _ p hu0,.tuple_str _ _ p hu0⟩
   | tup h' r' =>
    rename_i m b ys
    cases ry
    obtain ⟨its,q,p⟩:=I.tup' h;obtain ⟨its',q',p'⟩:=I.tup' h';have l1:its.length=l.length:=by rw [← q.length,← r.length]
    have l2:its'.length=m.length:=by rw [← q'.length,← r'.length]
    have he:∀ j (h1:j < its.toArray.size) (h2:j < its'.toArray.size),SeqAt.EqAt A.in1 s its.toArray[j] its'.toArray[j] (eqD (l.getD j .non) (m.getD j .non)):=by
     intro j h1 h2;have j1:j < l.length:=by simpa [l1] using h1
     have j2:j < m.length:=by simpa [l2] using h2
     obtain ⟨x1,ex,dx⟩:=r.get (i:=j) (d:=l.getD j .non) (by simp [List.getD_eq_getElem?_getD,j1]);obtain ⟨y1,ey,dy⟩:=r'.get (i:=j) (d:=m.getD j .non) (by simp [List.getD_eq_getElem?_getD,j2]);obtain ⟨u1,eu,ru⟩:=q.get ex;obtain ⟨v1,ev,rv⟩:=q'.get ey;have e1:its.toArray[j]=u1:=by
      have:its[j]?=some its[j]:=by simp [l1,j1]
      rw [this] at eu
      simpa using Option.some.inj eu
     have e2:its'.toArray[j]=v1:=by
      have:its'[j]?=some its'[j]:=by simp [l2,j2]
      rw [this] at ev
      simpa using Option.some.inj ev
     rw [e1,e2];have hdl:gF l≤n:=by simp only [Dt.dep] at hd;lia
     exact (ih _ _ _ _ _ _ A.in1 (Nat.le_trans (gI j1) hdl) dx dy ru rv (by rw [iP];lia)).1
    have ev:eqD (.tup l) (.tup m)=((List.range (min its.toArray.size its'.toArray.size)).all (fun j=>eqD (l.getD j .non) (m.getD j .non)) && its.toArray.size == its'.toArray.size):=by
     simp only [eqD,List.size_toArray,l1,l2];exact bv l m
    rw [ev];refine ⟨?_,SeqAt.RcAt.tuples p p' hu0 he,SeqAt.RcNeAt.tuples p p' hu0 he⟩
    by_cases hab:a=b
    ·subst hab;have e3:=I.tuple_inj h h';subst e3;have e4:=IsDs.inj I r r';subst e4;rw [← ev,gH];exact .same _
    ·exact .of_refs hab (SeqAt.RcAt.tuples p p' hu0 he)
  | non=>exact ih _ _ _ _ _ _ A (by simp [Dt.dep]) .non hy rx ry (by lia)
  | bl=>exact ih _ _ _ _ _ _ A (by simp [Dt.dep]) .bl hy rx ry (by lia)
  | int=>exact ih _ _ _ _ _ _ A (by simp [Dt.dep]) .int hy rx ry (by lia)
  | str=>exact ih _ _ _ _ _ _ A (by simp [Dt.dep]) .str hy rx ry (by lia)
def vZ (K:PySem.W.Frag):R2:=fun x y H Q=>∃ d e,IsD K H d x∧IsD K H e y∧d.dep≤60∧Q (.bl (eqD d e)) H
theorem uL (hu:X.A.units+64 < cLine):OpR X (compareOp .Eq) (vZ X.K):=by
 intro pins s σ H x y v u Q I rx ry h;obtain ⟨d,e,hd,he,hn,q⟩:=h;exact (vY I 60 d e x y v u X.A hn hd he rx ry (by lia)).2.1 _ _ _ _ ⟨.bl _,H,I,rfl,q⟩
def wa (K:PySem.W.Frag) (neg:Bool):R2:=fun x y H Q=>∃ p b xs ys l m,x=.ref p∧y=.ref b∧SqL K H p xs∧SqL K H b ys∧IsDs K H l xs∧IsDs K H m ys∧gF l≤60∧Q (.bl (if neg then !cB l m else cB l m)) H
theorem iQ (hu:X.A.units+64 < cLine) (I:Inv X pins σ H s) {l m:List Dt} {xs ys:List V} {its its':List Value} (r:IsDs X.K H l xs) (r':IsDs X.K H m ys) (q:Vals xs its) (q':Vals ys its') (hd:gF l≤60) :
  ∀ j (h1:j < its.toArray.size) (h2:j < its'.toArray.size),SeqAt.EqAt X.A.in1 s its.toArray[j] its'.toArray[j] (eqD (l.getD j .non) (m.getD j .non)):=by
 have l1:its.length=l.length:=by rw [← q.length,← r.length]
 have l2:its'.length=m.length:=by rw [← q'.length,← r'.length]
 intro j h1 h2;have j1:j < l.length:=by simpa [l1] using h1
 have j2:j < m.length:=by simpa [l2] using h2
 obtain ⟨x1,ex,dx⟩:=r.get (i:=j) (d:=l.getD j .non) (by simp [List.getD_eq_getElem?_getD,j1]);obtain ⟨y1,ey,dy⟩:=r'.get (i:=j) (d:=m.getD j .non) (by simp [List.getD_eq_getElem?_getD,j2]);obtain ⟨u1,eu,ru⟩:=q.get ex;obtain ⟨v1,ev,rv⟩:=q'.get ey;have e1:its.toArray[j]=u1:=by
  have:its[j]?=some its[j]:=by simp [l1,j1]
  rw [this] at eu
  simpa using Option.some.inj eu
 have e2:its'.toArray[j]=v1:=by
  have:its'[j]?=some its'[j]:=by simp [l2,j2]
  rw [this] at ev
  simpa using Option.some.inj ev
 rw [e1,e2];exact (vY I 60 _ _ _ _ _ _ X.A.in1 (Nat.le_trans (gI j1) hd) dx dy ru rv (by rw [iP];lia)).1
theorem uM (hu:X.A.units+64 < cLine):OpR X (compareOp .Eq) (wa X.K false):=by
 intro pins s σ H x y v u Q I rx ry h;obtain ⟨p,b,xs,ys,l,m,rfl,rfl,hp,hb,r,r',hd,q⟩:=h
 cases rx
 cases ry
 obtain ⟨its,r1,p1,_⟩:=I.list hp;obtain ⟨its',r2,p2,_⟩:=I.list hb;have l1:its.length=l.length:=by rw [← r1.length,← r.length]
 have l2:its'.length=m.length:=by rw [← r2.length,← r'.length]
 have he:=iQ hu I r r' r1 r2 hd;have hu0:X.A.units < cLine:=by lia
 by_cases hs:its.length=its'.length
 ·have ev:cB l m=(List.range its.toArray.size).all (fun j=>eqD (l.getD j .non) (m.getD j .non)):=by
   rw [bv l m,List.size_toArray,l1];have e3:l.length=m.length:=by lia
   rw [← e3,Nat.min_self,beq_self_eq_true,Bool.and_true]
  refine SeqAt.eq_listAt p1.isList p2.isList (by simpa using hs) hu0 he ?_;rw [← ev];exact ⟨.bl _,H,I,rfl,q⟩
 ·have ev:cB l m=false:=by
   have e3:(l.length == m.length)=false:=by simpa using (show ¬ l.length=m.length by lia)
   rw [bv l m,e3,Bool.and_false]
  refine SeqAt.eq_list_lengthsAt p1.isList p2.isList (by simpa using hs) hu0 ?_;have q':Q (.bl (cB l m)) H:=q;rw [ev] at q';exact ⟨.bl _,H,I,rfl,q'⟩
theorem uN (hu:X.A.units+64 < cLine):OpR X (compareOp .NotEq) (wa X.K true):=by
 intro pins s σ H x y v u Q I rx ry h;obtain ⟨p,b,xs,ys,l,m,rfl,rfl,hp,hb,r,r',hd,q⟩:=h
 cases rx
 cases ry
 obtain ⟨its,r1,p1,_⟩:=I.list hp;obtain ⟨its',r2,p2,_⟩:=I.list hb;have l1:its.length=l.length:=by rw [← r1.length,← r.length]
 have l2:its'.length=m.length:=by rw [← r2.length,← r'.length]
 have he:=iQ hu I r r' r1 r2 hd;have hu0:X.A.units < cLine:=by lia
 by_cases hs:its.length=its'.length
 ·have ev:cB l m=(List.range its.toArray.size).all (fun j=>eqD (l.getD j .non) (m.getD j .non)):=by
   rw [bv l m,List.size_toArray,l1];have e3:l.length=m.length:=by lia
   rw [← e3,Nat.min_self,beq_self_eq_true,Bool.and_true]
  refine SeqAt.RcNeAt.lists p1.isList p2.isList (by simpa using hs) hu0 he _ _ _ _ ?_;rw [← ev];exact ⟨.bl _,H,I,rfl,q⟩
 ·have ev:cB l m=false:=by
   have e3:(l.length == m.length)=false:=by simpa using (show ¬ l.length=m.length by lia)
   rw [bv l m,e3,Bool.and_false]
  refine SeqAt.RcNeAt.lists_lengths p1.isList p2.isList (by simpa using hs) hu0 _ _ _ _ ?_;have q':Q (.bl (!cB l m)) H:=q;rw [ev] at q';exact ⟨.bl _,H,I,rfl,q'⟩
end
end L2
namespace PySem.W
open PySem PySem.Spec PyProof.Rows PySem.Calls
structure ExcK (K:Frag) (C:Addr):Prop where
 ga:findIn K (.ref C) "__getattribute__" = some (some (.builtin "BaseException.__getattribute__"))
 gt:findIn K (.ref C) "__getattr__" = some none
 cl:findIn K (.ref C) "__class__" = some (some (.builtin "object.__class__"))
 sb:mroIn K C (.type "BaseException")=some true
 so:mroIn K C (.type "object")=some true
 cd:∃ c,clsIn K C=some c
section
variable {prog:Program} {w:World} {A:Around} {E:Value→Shared→Prop} {h:Heap} {g:Array GenState} {d:Drawn} {t:Nat} {os:OsState} {a C:Addr} {o:Obj} {K:Frag}
end
end PySem.W
namespace L2
open PySem PySem.Spec PyProof.Rows
abbrev bmV:List Value:=[.type "ValueError",.type "Exception",.type "BaseException",.type "object"]
structure ExC (K:PySem.W.Frag) (mg:Str→Option Value) (x:Str) (C:Addr):Prop where
 m:mg x=some (.ref C)
 q:PySem.W.excIn K C bmV "ValueError.__new__" = true
 k:PySem.W.ExcK K C
 kp:PySem.W.keepIn K (.ref C)=true
theorem sA {K:PySem.W.Frag} {h:Heap} {C:Addr} {bmB:List Value} {newId:String} (X:K.In h) (q:PySem.W.excIn K C bmB newId=true) :
  ∃ bm N nm qn bs hd sn sub ab col dd k0 k1 k2 k3 k5 mN,h.get? C=some (excClassObj nm qn C N bs bm hd sn sub ab col dd k0 k1 k2 k3 k5 newId)∧h.Ns N mN∧mN "__init__" = none∧OwnTail h bmB bm:=by
 unfold PySem.W.excIn at q
 split at q
 case h_2=>cases q
 case h_1 dd cd sl ho =>
  split at q
  case h_2=>cases q
  case h_1 C' bm k0 k1 k2 k3 n k5 hm hs =>
   simp only [Bool.and_eq_true,beq_iff_eq,Bool.not_eq_true'] at q;obtain ⟨⟨⟨⟨⟨q1,q2⟩,q3⟩,q4⟩,q5⟩,q6⟩:=q;subst q1 q2;obtain ⟨nm,bs,mro,ns,qn,hd,sn,sub,ab,col,del⟩:=cd;dsimp only at hm q3 q5 q6;subst hm q3;obtain ⟨l⟩:=sl;dsimp only at hs;subst hs;exact ⟨bm,ns,nm,qn,bs,hd,sn,sub,ab,col,dd,k0,k1,k2,k3,k5,_,X _ _ ho,.of_isNs (PySem.W.isNs_of_in X q5),PySem.W.nsMap_none_of_in X q5 q6,PySem.W.tail_of_in X q4⟩
section
variable {X:Cx} {pins:List (Addr×Obj)} {σ:St} {H:Hp} {s:Shared}
end
def CXE (P:Program) (w:World):CXT:=fun outer H s E e s'=>∃ (ea C:Addr) (a0:Value) (B:Heap) (H':Hp),e=.ref ea∧Heap.FlyingW B outer ea (.ref C) a0 s'.heap∧s'.os=s.os∧AllBare s'.gens∧Un (frs outer) [] H H' s.heap s'.heap∧HOk P w H' B ∧
 (∀ b o,s.heap.get? b=some o→H b=none→b∉frs outer→B.get? b=some o)∧(∀ b o,s.heap.get? b=some o→b∉frs outer→∃ o',B.get? b=some o')∧E (.ref C) none H'
theorem uO {fs:List Addr} {H H1:Hp} {h h1 h' B:Heap} (u:Un fs [] H H1 h h1) (c1:∀ b o,h.get? b=some o→H b=none→b∉fs→B.get? b=some o) (c2:∀ b o,h.get? b=some o→b∉fs→∃ o',B.get? b=some o')
  (st:B.StaysIn h') (c3:∀ b o,h.get? b=some o→b∈fs→∃ sl,h'.get? b=some { o with slots:=sl }):Un fs [] H H1 h h' where
 keep:=fun b o q n hb _=>st b o (c1 b o q n hb)
 slot:=fun b o q n hb _=>c3 b o q hb
 free:=u.free
 there:=fun b o q hx=>by
  by_cases hb:b∈fs
  ·obtain ⟨sl,e⟩:=c3 b o q hb;exact ⟨_,e⟩
  ·obtain ⟨o',e⟩:=c2 b o q hb;exact ⟨o',st b o' e⟩
 tups:=u.tups
 frzs:=u.frzs
 tbls:=u.tbls
def uP (X:Cx) (E:XK):Prop:=X.xe=fun e s'=>wpAny (model X.prog X.w) X.A (leaving X.env e) (fun _ s''=>CXE X.prog X.w X.outer X.H₀ X.s₀ E e s'') (fun e' s''=>CXE X.prog X.w X.outer X.H₀ X.s₀ E e' s'') s'
section
variable {X:Cx} {pins:List (Addr×Obj)} {σ:St} {H:Hp} {s:Shared}
theorem qw {base h:Heap} {l:List Env} {b:Addr} (f:h.FunFrames base l) (hb:b∈frs l):∃ o,h.get? b=some o∧∀ vs,o.data≠.fields vs:=by
 obtain ⟨_,o,ho,hn⟩:=f.mem hb;exact ⟨o,ho,hn⟩
theorem qx {E:XK} {C:Addr} {ea:Addr} {vs:List Value} {h':Heap} {tk:Nat} (hx:uP X E) (hstk:X.stack=X.env :: X.outer) (hfr:X.env.frame=some X.env.locals) (hex:X.ex=[]) (I:Inv X pins σ H s) (hm:Heap.MadeExcOf s.heap h' ea (.ref C) vs)
  (q:E (.ref C) none H):X.xe (.ref ea) { s with heap:=h',toks:=tk }:=by
 rw [hx];have F0:s.heap.FunFrames X.base (X.env :: X.outer):=by rw [← hstk];exact I.stack
 have fr0:X.A.frames=some (X.env :: X.outer):=by rw [← hstk];exact I.ok.frames
 have mem:∀ b∈frs X.outer,b∈frs (X.env :: X.outer):=fun b hb=>by
  obtain ⟨env,he,hf⟩:=List.mem_filterMap.mp hb;exact List.mem_filterMap.mpr ⟨env,List.mem_cons_of_mem _ he,hf⟩
 have inv:∀ b,b∈frs (X.env :: X.outer)→b=X.env.locals∨b∈frs X.outer:=fun b hb=>by
  obtain ⟨env,he,hf⟩:=List.mem_filterMap.mp hb;rcases List.mem_cons.mp he with rfl | he
  ·rw [hfr] at hf;exact .inl (Option.some.inj hf).symm
  ·exact .inr (List.mem_filterMap.mpr ⟨env,he,hf⟩)
 have hin:∀ env∈(X.env :: X.outer),∀ b,env.frame=some b→b∈frs (X.env :: X.outer):=fun env he b hb=>List.mem_filterMap.mpr ⟨env,he,hb⟩;have stayB:∀ b o,s.heap.get? b=some o→b∉frs (X.env :: X.outer)→(PySem.W.hideAll s.heap (frs (X.env :: X.outer))).get? b=some o:=fun b o e n=>PySem.W.hideAll_get _ e n;have old:∀ b o,X.s₀.heap.get? b=some o→b∉frs X.outer→b∉frs (X.env :: X.outer):=fun b o e n z=>by
  rcases inv b z with rfl | z
  ·exact absurd (Nat.lt_of_lt_of_le (Heap.lt_size e) I.ok.above) (Nat.lt_irrefl _)
  ·exact n z
 refine wpAny_leaves_madeW (s:={ s with heap:=h',toks:=tk }) fr0 hfr (fun b o e=>PySem.W.of_hideAll _ e) (PySem.W.funFrames_hide F0 hin) hm fun h2 t fl _ _ up=>?_;have B0:Un X.fs [] X.H₀ H X.s₀.heap s.heap:=by have z:=I.base;rw [hex] at z;exact z
 have c1:∀ b o,X.s₀.heap.get? b=some o→X.H₀ b=none→b∉frs X.outer→(PySem.W.hideAll s.heap (frs (X.env :: X.outer))).get? b=some o:=fun b o e n hb=>stayB b o (B0.keep b o e n hb (by simp)) (old b o e hb);have c2:∀ b o,X.s₀.heap.get? b=some o→b∉frs X.outer→∃ o',(PySem.W.hideAll s.heap (frs (X.env :: X.outer))).get? b=some o':=fun b o e hb=>by
  obtain ⟨o',e'⟩:=B0.there b o e (by simp);exact ⟨o',stayB b o' e' (old b o e hb)⟩
 refine ⟨ea,C,_,_,H,rfl,fl,I.os,I.bare,uO B0 c1 c2 fl.1 fun b o e hb=>?_,fun b u e=>?_,c1,c2,q⟩
 ·obtain ⟨sl,e1⟩:=B0.slot b o e (I.ok.frf b hb) hb (by simp);obtain ⟨o2,e2,nf⟩:=qw F0 (mem b hb);rw [e1] at e2;obtain rfl:=Option.some.inj e2;obtain ⟨sl2,e3⟩:=up b _ (hm.keeps b _ e1) nf;exact ⟨sl2,e3⟩
 ·refine (I.hok b u e).stay (fun c v hc z=>stayB c v z fun hf=>?_) (fun _ z=>z) fun _ _ z=>z;have n0:H c=none:=by rw [← hstk] at hf;exact I.stkFree c hf
  rcases hc with rfl | hc
  ·rw [e] at n0;cases n0
  ·rw [hc] at n0;cases n0
def uQ (C:Addr) (E:XK) (t:TA):TS:=fun _ σ H=>t σ H fun xs H1=>xs.length≤sizeLine∧E (.ref C) none H1
theorem ps_raise {E:XK} {x:Str} {C:Addr} {e:Expr} {es:List Expr} {t:TA} {np cpos pos:Pos} (hx:uP X E) (hstk:X.stack=X.env :: X.outer) (hfr:X.env.frame=some X.env.locals) (hex:X.ex=[]) (hc:X.calm=true) (G:ExC X.K X.mg x C) (hg:Gl X x) (ha:PA X (e :: es) t)
  (hdb:(x == ("__debug__" : Str))=false:=by decide) (he:starEach (e :: es) X.env=(false,eval e X.env) :: starEach es X.env:=by rfl) (hpl:(backTo cpos (starEach es X.env)).any (·.1)=false:=by rfl) :
  PS X (.Raise (some (.Call (.Name x np) (e :: es) [] cpos)) none pos) (uQ C E t):=by
 intro pins s σ H D I h;obtain ⟨bm,N,nm,qn,bs,hd,sn,sub,ab,col,dd,k0,k1,k2,k3,k5,mN,hC,hN,hni,T⟩:=sA I.ok.mod.kin G.q;refine wpAny_Raise_call_subT (C:=C) (nm:=nm) (q:=qn) (N:=N) (bs:=bs) (bm:=bm) (hdct:=hd) (sn:=sn) (sub:=sub) (ab:=ab) (col:=col) (dd:=dd) (k0:=k0) (k1:=k1) (k2:=k2) (k3:=k3) (k5:=k5) F.excBase_ValueError (mN:=mN) (T.hasType F.excBase_ValueError.hasBase) (I.ok.hd hc)
  (by rw [he];show (false || (backTo cpos (starEach es X.env)).any (·.1))=false;rw [hpl];rfl) hni (er I hg G.m ⟨rfl,?_⟩ hdb)
 have z:=ha cpos pins s σ H _ I h;rw [he] at z ⊢;refine Calls.evalArgs_plain (wpAny_mono z (fun us s2 ⟨vs,H2,I2,r,hz,q⟩=>?_) fun _ _ y=>y);refine ⟨rfl,by show us.length≤sizeLine;rw [← r.length];exact hz,I2.bk _ _ hC,hN.keeps I2.bk,T.keeps I2.bk,fun h' ea hm=>?_⟩;exact qx (tk:=s2.toks) hx hstk hfr hex I2 hm q
end
theorem Fun.okE {P:Program} {w:World} {K:PySem.W.Frag} {mg:Str→Option Value} {base:Heap} {x qual:Str} {st:Stmt} {f:Addr} {fd:FuncData} {N ps:List Str} {k:Nat} {sp:Sp} (F:Fun K x qual st f fd) (S:FnScope N ps (af st)) (len:∀ vs H Q E,sp vs H Q E→vs.length=ps.length)
  (hbody:∀ (cdv:Value) (A:Around) (outer:List Env) (s:Shared) (H:Hp) (vs:List V) (Q:VK) (E:XK),Room k (A.deeper (envOfC qual (af st) s.heap.objs.size f cdv))→sp vs H Q E →
   ∃ t,PSs (kG (CXE P w) P w K mg base N qual (af st) f cdv A outer s H E) (bK st) t∧t { nx:=fun _ H'=>Q .non H',rt:=Q } (start N vs) H):FnOk P w K mg base (CXE P w) (k+1) f fd ps sp:=by
 obtain ⟨oc,od,kV,doc,pm,an,cdv,ct,osl,rfl,lk,hcd⟩:=F.ex;exact tV lk hcd S len fun A outer s H vs Q E hr hsp=>hbody cdv A outer s H vs Q E hr hsp
theorem xeOf {P:Program} {w:World} {K:PySem.W.Frag} {mg:Str→Option Value} {base:Heap} {N:List Str} {qual:Str} {scope:Scope} {f:Addr} {cd:Value} {A:Around} {outer:List Env} {s:Shared} {H:Hp} {E:XK} :
  uP (kG (CXE P w) P w K mg base N qual scope f cd A outer s H E) E:=rfl
section
variable {X:Cx} {pins:List (Addr×Obj)} {σ:St} {H:Hp} {s:Shared}
end
section
variable {X:Cx} {a b c d:Expr} {ta tb tc td:TE} {pos:Pos}
def sB (r r' r'':R2) (ta tb tc td:TE):TE:=fun σ H Q=>ta σ H fun x H1=>tb σ H1 fun y H2=>r x y H2 fun z H3=>∃ k,z=.bl k ∧
 (if k=true then tc σ H3 fun y' H4=>r' y y' H4 fun z' H5=>∃ k',z'=.bl k'∧(if k'=true then td σ H5 fun w' H6=>r'' y' w' H6 Q else Q (.bl false) H5) else Q (.bl false) H3)
theorem pe_chain3 {op op' op'':CmpOp} {r r' r'':R2} (ho:OpR X (compareOp op) r) (ho':OpR X (compareOp op') r') (ho'':OpR X (compareOp op'') r'') (ha:PE X a ta) (hb:PE X b tb) (hc:PE X c tc) (hd:PE X d td)
  (hm:lastMarks [op,op',op''] [b,c,d]=false:=by with_unfolding_all rfl):PE X (.Compare a [op,op',op''] [b,c,d] pos) (sB r r' r'' ta tb tc td):=by
 intro pins s σ H Q I h;refine Compare_chain (thn (ha pins s σ H _ I h) fun v s1 ⟨x,H1,I1,r1,q1⟩=>chain_link (thn (hb pins s1 σ H1 _ I1 q1) fun u s2 ⟨y,H2,I2,r2,q2⟩ =>
  thn (ho pins s2 σ H2 x y v u _ I2 r1 r2 q2) fun d' s3 ⟨z,H3,I3,r3,k,e,q3⟩=>?_)) hm
 subst e
 cases r3
 refine wpAny_truthy_bool ?_
 cases k with
 | false=>exact ite_ff ⟨.bl false,H3,I3,rfl,q3⟩
 | true =>
  refine ite_tt (chain_link (thn (hc pins s3 σ H3 _ I3 q3) fun w' s4 ⟨z',H4,I4,r4,q4⟩=>thn (ho' pins s4 σ H4 y z' u w' _ I4 r2 r4 q4) fun d2 s5 ⟨z2,H5,I5,r5,k2,e2,q5⟩=>?_));subst e2
  cases r5
  refine wpAny_truthy_bool ?_
  cases k2 with
  | false=>exact ite_ff ⟨.bl false,H5,I5,rfl,q5⟩
  | true=>exact ite_tt (chain_last (thn (hd pins s5 σ H5 _ I5 q5) fun w2 s6 ⟨z3,H6,I6,r6,q6⟩=>ho'' pins s6 σ H6 z' z3 w' w2 Q I6 r4 r6 q6))
end
def ik (D:List (Str×Int)):List (Str×KTD.Dat):=D.map fun p=>(p.1,.flat (.int p.2))
def kT (K:PySem.W.Frag) (a:Addr) (D:List (Str×Int)):Prop:=∀ h,K.In h→KTD.TextTab h a (ik D)
theorem qy {K:PySem.W.Frag} {a:Addr} {D:List (Str×Int)} (e:KTD.tabLook (KTD.datLooks fun b=>K.lookup b) (fun b=>K.lookup b) a (ik D)=true):kT K a D:=fun h X=>KTD.text_of_look (fun b o q=>X b o q) e
def bq (k:Str):List (Str×Int)→V
 | []=>.non
 | (x,i) :: D=>if k=x then .int i else bq k D
theorem iR {k:Str}:∀ {D:List (Str×Int)} {d:KTD.Dat},KTD.datumAt k (ik D)=some d→∃ i,d=.flat (.int i)∧bq k D=.int i
 | [],_,h=>by simp [ik,KTD.datumAt] at h
 | (x,i) :: D,d,h=>by
  simp only [ik,List.map_cons,KTD.datumAt,decide_eq_true_eq] at h
  by_cases hk:k=x
  ·rw [if_pos hk] at h;exact ⟨i,(Option.some.inj h).symm,by simp [bq,hk]⟩
  ·rw [if_neg hk] at h;obtain ⟨j,e1,e2⟩:=iR (D:=D) h;exact ⟨j,e1,by simp [bq,hk,e2]⟩
theorem iS {k:Str}:∀ {D:List (Str×Int)},KTD.datumAt k (ik D)=none→bq k D=.non
 | [],_=>rfl
 | (x,i) :: D,h=>by
  simp only [ik,List.map_cons,KTD.datumAt,decide_eq_true_eq] at h
  by_cases hk:k=x
  ·rw [if_pos hk] at h;cases h
  ·rw [if_neg hk] at h;simp [bq,hk,iS (D:=D) h]
section
variable {X:Cx}
def wc (D:List (Str×Int)) (t:TA):TE:=fun σ H Q=>t σ H fun vs H1=>∃ k,vs=[.str k]∧Q (bq k D) H1
theorem pe_kget {x:Str} {ad:Addr} {D:List (Str×Int)} {e:Expr} {t:TA} {p apos cpos:Pos} (hD:kT X.K ad D) (hg:Gl X x) (hm:X.mg x=some (.ref ad)) (ha:PA X [e] t) (hdb:(x == ("__debug__" : Str))=false:=by decide)
  (hbase:attributeBase (.Name x p) "get" X.env (eval (.Name x p) X.env)=eval (.Name x p) X.env:=by rfl)
  (hfew:((backTo cpos (starEach [e] X.env)).all (fun x=>!x.1) && (backToKw cpos (keywordEach [] X.env)).all (fun x=>x.1.isSome)
   && decide (([e]:List Expr).length+([]:List Keyword).length+(if ([]:List Keyword).isEmpty then 0 else 1) < 30))=true:=by rfl)
  (hline:(apos.endLine == cpos.line)=true:=by rfl) (hs:starEach [e] X.env=(false,eval e X.env) :: starEach [] X.env:=by rfl) :
  PE X (.Call (.Attribute (.Name x p) "get" apos) [e] [] cpos) (wc D t):=by
 intro pins s σ H Q I h;refine wpAny_Call_method_late hbase hfew hline rfl (er I hg hm ?_ hdb);have T:∀ {s':Shared} {σ':St} {H':Hp} {pins':List (Addr×Obj)},Inv X pins' σ' H' s'→KTD.Here X.base s'.heap ad (ik D):=fun J=>⟨hD _ J.ok.mod.kin,J.bk⟩;refine ⟨"dict","dict.get",PySem.F.plainAttrs_dict,PySem.F.slot_dict_get,PySem.F.type_dict_get,(T I).typeIs,(T I).noDict,?_⟩;have hA:=ha cpos pins s σ H _ I h;rw [hs] at hA ⊢;refine Calls.callWith_builtin (by rfl) (Calls.evalArgs_plain ?_);refine thn hA fun us s2 ⟨vs,H2,I2,r2,k,e2,q2⟩=>?_;subst e2;obtain ⟨u,rfl,ru⟩:=ce r2;obtain ⟨tk,rfl⟩:=ru;refine call_meetsIn PySem.F.slot_dict_get (T I2).typeIs PySem.F.entry_dict_get (PySem.F.args_dict_get_2 _ _) (KTD.meets_get1 (h₀:=X.base) (D:=ik D)) ⟨T I2,fun dd v hdd hv=>?_,fun hn=>?_⟩
 ·obtain ⟨i,rfl,el⟩:=iR hdd;have hv':Reads s2.heap v (.int i) []:=hv s2.heap;obtain ⟨t0,rfl⟩:∃ t0,v=.int i t0:=by cases hv';exact ⟨_,rfl⟩
  rw [el] at q2;exact ⟨.int i,H2,I2.tok _,⟨_,rfl⟩,q2⟩
 ·rw [iS hn] at q2;exact ⟨.non,H2,I2.tok _,rfl,q2⟩
end
theorem csR {X:Cx} {scope sc:Scope} {NL N N':List Str} {ρ:List Nat} (hsc:X.env.scope=sc) (hN:X.N=N) (h1:scope.kind=.function) (h2:(scope.names.all fun x=>x.2 != .cell)=true) (h3:∀ x∈scope.names,x.2=.local→scope.names.lookup x.1=some .local)
  (h4:(scope.names.all fun x=>x.2 != .free || sc.names.lookup x.1 == some .cell)=true) (h5:N'=NL++ρ.map fun j=>N.getD j "")
  (h6:(ρ.all fun j=>match N[j]? with | some x=>scope.names.lookup x == some .free && sc.names.lookup x == some .cell | none=>false)=true):CScope X scope NL ρ N':=by
 rw [List.all_eq_true] at h2 h4 h6;refine ⟨h1,fun x hx e=>?_,h3,fun x hx e=>.inl ?_,by rw [hN];exact h5,fun j hj=>?_⟩
 ·have:=h2 x hx;rw [e] at this;exact absurd this (by decide)
 ·have z:=h4 x hx;rw [e] at z;have z2:(sc.names.lookup x.1 == some NameKind.cell)=true:=by simpa using z
  show X.env.scope.names.lookup x.1=some .cell;rw [hsc];exact beq_iff_eq.mp z2
 ·have z:=h6 j hj
  cases q:N[j]? with
  | none=>rw [q] at z;cases z
  | some x =>
   rw [q] at z;simp only [Bool.and_eq_true,beq_iff_eq] at z;exact ⟨x,by rw [hN];exact q,z.1,.inl (by rw [hsc];exact z.2)⟩
structure RoomH (k:Nat) (A:Around):Prop where
 dp:A.depth+3*k+5 < recursionLimit
 un:A.units+16*k+200 < cLine
structure FnOkH (P:Program) (w:World) (K:PySem.W.Frag) (mg:Str→Option Value) (base:Heap) (k:Nat) (f:Addr) (fd:FuncData) (ps:List Str) (sp:Sp):Prop where
 len:∀ vs H Q E,sp vs H Q E→vs.length=ps.length
 run:∀ (A:Around) (outer:List Env) (s:Shared) (H:Hp) (args:Args) (us:List Value) (vs:List V) (Q:VK) (E:XK),RoomH k A→Env0 P w K mg base A outer s H→BindsTo s fd args (ps.zip us)→Vals vs us→sp vs H Q E →
  codeAny (model P w) A (.call (.ref f) args) (CR CX0 outer P w H s Q E) s
section
variable {X:Cx}
end
end L2
namespace HT
open PySem PySem.Spec PyProof.Rows
section
variable {prog:Program} {w:World} {A:Around} {E:Value→Shared→Prop} {s:Shared}
theorem cat_nil {t b:Addr} {ws:List Value} {Q:Value→Shared→Prop} (ht:IsTup s.heap t ([]:List Value).toArray) (hb:IsTup s.heap b ws.toArray) (h:Q (.ref b) s):wpAny (model prog w) A (binaryOp .Add (.ref t) (.ref b)) Q E s:=by
 obtain ⟨⟨cls,dd,data,sl⟩,ho,hc,n,hd⟩:=id ht;obtain ⟨⟨cls2,dd2,data2,sl2⟩,ho2,hc2,n2,hd2⟩:=id hb;simp only at hc hd hc2 hd2;subst hc hd hc2 hd2;exact concat_meets ⟨_,ho,rfl⟩ ⟨_,ho2,rfl⟩ noFill_tuple_add seq_tuple_add PySem.F.slot_tuple_add PySem.F.entry_tuple_add (PySem.F.args_tuple_add_2 _ _) (tuple_addW0 t b _ ws.toArray n n2 dd dd2 sl sl2 (by rfl)) ⟨ho,ho2,h⟩
theorem getItem_tuple_all {t sl:Addr} {items:Array Value} {vl vu:Value} {lo hi:Option Int} {Q:Value→Shared→Prop} (ht:IsTup s.heap t items) (hs:s.heap.IsSliceOf sl vl vu .none) (pl:IsPart vl lo) (pu:IsPart vu hi)
  (h1:sIx items.size 0 lo=0) (h2:sIx items.size items.size hi=items.size) (h:Q (.ref t) s):wpAny (model prog w) A (getItem (.ref t) (.ref sl)) Q E s:=by
 obtain ⟨os,hos,hcs,hds⟩:=id hs;have hTs:s.TypeIs (.ref sl) "slice" :=⟨os,hos,hcs⟩;unfold getItem
 try with_reducible refine wpAny_holding ?_
 first | refine wpAny_bind (wpAny_pure ?_) | skip
 refine wpAny_bind (wpAny_sequenceKey ht.typeIs (by decide) ?_);refine wpAny_bind (wpAny_callSpecial?_slot (name:=Str.ofString "__getitem__") ht.typeIs PyProof.Rows.slot_tuple_getitem (wpAny_call_entry PyProof.Rows.slot_tuple_getitem ht.typeIs entry_tuple_getitem ?_ (args_tuple_getitem _ _)));show wpAny _ _ (Builtin.Tuple.tupleItemsOf (.ref t) >>= _) _ _ s;refine wpAny_bind (tupleItemsOf_ ht ?_);refine wpAny_bind (wpAny_typeOf hTs ?_);rw [if_pos (by decide)];refine wpAny_bind (cA hs pl pu ?_);have hyes:(((sIx items.size 0 lo:Nat):Int) == 0 && (1:Int) == 1 && (sIx items.size items.size hi - sIx items.size 0 lo) == items.size)=true:=by
  rw [h1,h2];simp
 show wpAny _ _ (if (((sIx items.size 0 lo:Nat):Int) == 0 && (1:Int) == 1 && (sIx items.size items.size hi - sIx items.size 0 lo) == items.size)=true then _ else _) _ _ s;rw [if_pos hyes];refine wpAny_bind (m:=Builtin.Tuple.tupleIsExact _) (wpAny_bind (wpAny_typeOf ht.typeIs ?_));refine wpAny_pure ?_;rw [if_pos (by decide)];exact wpAny_bind (wpAny_rule (wpAny_pure ⟨_,rfl,wpAny_pure h⟩))
end
end HT
namespace L2
open PySem PySem.Spec PyProof.Rows
section
variable {X:Cx}
theorem IsD.unref {K:PySem.W.Frag} {H:Hp} {l:List Dt} {v:V} (h:IsD K H (.tup l) v):∃ a xs,v=.ref a∧SqT K H a xs∧IsDs K H l xs:=by
 cases h with
 | tup h r=>exact ⟨_,_,rfl,h,r⟩
def eD (l:List Dt) (lo hi:Option Int):List Dt:=(l.drop (HT.sIx l.length 0 lo)).take (HT.sIx l.length l.length hi - HT.sIx l.length 0 lo)
theorem o9:aW X (.builtin "len") (fun xs H Q=>∃ x l,xs=[x]∧IsD X.K H (.tup l) x∧Q (.int l.length) H):=by
 intro pins s σ H xs us Q I r h;obtain ⟨x,l,rfl,dx,q⟩:=h;obtain ⟨a,ys,rfl,hx,ra⟩:=dx.unref;exact eB pins s σ H [.ref a] us Q I r ⟨a,ys,rfl,.inr hx,by rw [← ra.length];exact q⟩
end
end L2
namespace PySem
open Sem (wp)
section
variable {M:Model} {A:Around} {E:Value→Shared→Prop} {s:Shared}
end
end PySem
namespace L2
open PySem PySem.Spec PyProof.Rows
section
variable {X:Cx} {E:XK}
variable {pins:List (Addr×Obj)} {σ:St} {H:Hp} {s:Shared}
end
section
variable {κ:Type} [DecidableEq κ]
def aK (kvs:List (κ×V)) (k:κ):Option V:=(kvs.find? fun kv=>decide (kv.1=k)).map (·.2)
def js (kvs:List (κ×V)) (k:κ) (v:V):List (κ×V) :=
 if (kvs.any fun kv=>decide (kv.1=k))=true then kvs.map (fun kv=>if kv.1=k then (kv.1,v) else kv) else kvs++[(k,v)]
def xr (kvs:List (κ×V)) (k:κ):List (κ×V):=kvs.filter fun kv=>decide (kv.1≠k)
theorem eE {p:κ×V} {r:List (κ×V)} {k:κ} (e:p.1=k):aK (p :: r) k=some p.2:=by simp [aK,List.find?_cons,e]
theorem eG {p:κ×V} {r:List (κ×V)} {k:κ} (e:¬ p.1=k):aK (p :: r) k=aK r k:=by simp [aK,List.find?_cons,e]
theorem kU (k:κ):∀ kvs:List (κ×V),(kvs.any fun kv=>decide (kv.1=k))=(aK kvs k).isSome
 | []=>rfl
 | p :: r=>by
  rw [List.any_cons]
  by_cases e:p.1=k
  ·simp only [eE e,decide_eq_true e,Bool.true_or,Option.isSome_some]
  ·rw [eG e,decide_eq_false e,Bool.false_or];exact kU k r
theorem kW (kvs:List (κ×V)) (k:κ) (v:V):(js kvs k v).length≤kvs.length+1:=by
 unfold js
 split
 ·rw [List.length_map];lia
 ·rw [List.length_append,List.length_cons,List.length_nil];lia
theorem qz {kvs:List (κ×V)} {k:κ} (v:V) (h:aK kvs k=none):js kvs k v=kvs++[(k,v)]:=by
 unfold js;rw [kU,h];exact if_neg (by decide)
theorem KV.val {kvs:List (κ×V)} {vs:List (κ×Value)} (r:KV kvs vs) (k:κ):RelO (aK kvs k) (valueAt vs k):=by
 unfold KV at r
 induction r with
 | nil=>exact True.intro
 | @cons p q ps qs h t ih =>
  obtain ⟨h1,h2⟩:=h
  by_cases e:p.1=k
  ·have e':q.1=k:=h1.symm.trans e;have b:valueAt (q :: qs) k=some q.2:=by simp [valueAt,List.find?_cons,e']
   rw [eE e,b];exact h2
  ·have e':¬ q.1=k:=fun z=>e (h1.trans z);have b:valueAt (q :: qs) k=valueAt qs k:=by simp [valueAt,List.find?_cons,e']
   rw [eG e,b];exact ih
theorem KV.any {kvs:List (κ×V)} {vs:List (κ×Value)} (r:KV kvs vs) (k:κ):(kvs.any fun kv=>decide (kv.1=k))=vs.any fun kv=>decide (kv.1=k):=by
 unfold KV at r
 induction r with
 | nil=>rfl
 | cons h t ih=>rw [List.any_cons,List.any_cons,ih,h.1]
theorem KV.repl {kvs:List (κ×V)} {vs:List (κ×Value)} (r:KV kvs vs) (k:κ) {y:V} {u:Value} (ry:RelV y u) :
  KV (kvs.map fun kv=>if kv.1=k then (kv.1,y) else kv) (vs.map fun kv=>if kv.1=k then (kv.1,u) else kv):=by
 unfold KV at r ⊢
 induction r with
 | nil=>exact .nil
 | @cons p q ps qs h t ih =>
  rw [List.map_cons,List.map_cons];refine .cons ?_ ih;obtain ⟨h1,h2⟩:=h
  by_cases e:p.1=k
  ·rw [if_pos e,if_pos (h1.symm.trans e)];exact ⟨h1,ry⟩
  ·rw [if_neg e,if_neg (fun z=>e (h1.trans z))];exact ⟨h1,h2⟩
theorem KV.put {kvs:List (κ×V)} {vs:List (κ×Value)} (r:KV kvs vs) (k:κ) {y:V} {u:Value} (ry:RelV y u):KV (js kvs k y) (stored vs k u):=by
 unfold js stored;rw [r.any k]
 by_cases e:(vs.any fun kv=>decide (kv.1=k))=true
 ·rw [if_pos e,if_pos e];exact r.repl k ry
 ·rw [if_neg e,if_neg e];exact Paired.snoc r ⟨rfl,ry⟩
theorem KV.keys {kvs:List (κ×V)} {vs:List (κ×Value)} (r:KV kvs vs):kvs.map (·.1)=vs.map (·.1):=by
 unfold KV at r
 induction r with
 | nil=>rfl
 | cons h t ih=>rw [List.map_cons,List.map_cons,ih,h.1]
theorem KV.length {kvs:List (κ×V)} {vs:List (κ×Value)} (r:KV kvs vs):kvs.length=vs.length:=Paired.length r
end
theorem gJ {P:Program} {w:World} {k:Key} {u:Value} (r:RelV (kV k) u):(ao P w).is k u=true:=by
 cases k with
 | inl i=>obtain ⟨t,e⟩:=(show ∃ t,u=Value.int i t from r);subst e;exact kB P w i t
 | inr x=>obtain ⟨t,e⟩:=(show ∃ t,u=Value.str x t from r);subst e;exact kC P w x t
theorem fq {P:Program} {w:World}:∀ {ks:List Key} {us:List Value},Vals (ks.map kV) us→ItemsAre (ao P w) ks us
 | [],_,r=>by rw [List.map_nil] at r;cases r;exact .nil
 | k :: ks,_,r=>by
  rw [List.map_cons] at r
  cases r with
  | cons h t=>exact .cons (gJ h) (fq t)
abbrev KT (H:Hp):List (List Key×V)→List (List Key×Addr×Value)→Prop:=Paired fun p q=>p.1=q.1∧H q.2.1=some (.tup (p.1.map kV))∧RelV p.2 q.2.2
theorem KT.val {H:Hp} {kvs:List (List Key×V)} {xs:List (List Key×Addr×Value)} (r:KT H kvs xs) (k:List Key):RelO (aK kvs k) ((atKey xs k).map (·.2)):=by
 induction r with
 | nil=>exact True.intro
 | @cons p q ps qs h t ih =>
  obtain ⟨h1,_,h2⟩:=h
  by_cases e:p.1=k
  ·have e':q.1=k:=h1.symm.trans e;have b:atKey (q :: qs) k=some q.2:=by simp [atKey,List.find?_cons,e']
   rw [eE e,b];exact h2
  ·have e':¬ q.1=k:=fun z=>e (h1.trans z);have b:atKey (q :: qs) k=atKey qs k:=by simp [atKey,List.find?_cons,e']
   rw [eG e,b];exact ih
section
variable {P:Program} {w:World} {H:Hp} {h:Heap} {a:Addr}
theorem tX {u:HO} (ok:HOk P w H h) (e:Rd H a u):ObjOk P w H h a u:=e.ok ok
theorem nX {kvs:List (Key×V)} (ok:HOk P w H h) (e:Rd H a (.dK kvs)):kvs.length≤sizeLine∧(a == sysModules)=false∧∃ vs,KV kvs vs∧h.DictOf (ao P w) a vs :=
 show ObjOk P w H h a (.dK kvs) from tX ok e
theorem tY {kvs:List (Key×V)} (ok:HOk P w H h) (e:H a=some (.dK kvs)):kvs.length≤sizeLine∧(a == sysModules)=false∧∃ vs,KV kvs vs∧h.DictOf (ao P w) a vs:=nX ok (.inl e)
theorem qA {ks:List Key} (ok:HOk P w H h) (e:H a=some (.tup (ks.map kV))):(tupleKind (ao P w)).is h ks a:=by
 obtain ⟨_,its,r,o,h1,h2,n,h3⟩:=(show ObjOk P w H h a (.tup (ks.map kV)) from ok a _ e);exact ⟨o,its.toArray,n,h1,h2,h3,by simpa using fq r⟩
theorem qB {kvs:List (List Key×V)} (ok:HOk P w H h) (e:Rd H a (.dT kvs)):kvs.length≤sizeLine∧(a == sysModules)=false ∧
  ∃ xs,KT H kvs xs∧h.DictOfH (tupleKind (ao P w)) a xs:=by
 obtain ⟨z,y,xs,r,o,es,ep,h1,h2,h3,h4,h5⟩:=(show ObjOk P w H h a (.dT kvs) from tX ok e);refine ⟨z,y,xs,r,o,es,ep,h1,h2,h3,h4,fun x hx=>?_,h5⟩;have all:∀ {l:List (List Key×V)} {m:List (List Key×Addr×Value)},KT H l m→∀ x∈m,(tupleKind (ao P w)).is h x.1 x.2.1:=by
  intro l m q
  induction q with
  | nil=>intro x hx;exact nomatch hx
  | @cons p q ps qs hq t ih =>
   intro x hx;rcases List.mem_cons.mp hx with e | hx
   ·subst e;exact qA ok (by rw [← hq.1];exact hq.2.1)
   ·exact ih x hx
 exact all r x hx
end
def DGet (H:Hp) (a:Addr) (y:V) (r:Option V):Prop :=
 (∃ kvs k,Rd H a (.dK kvs)∧y=kV k∧r=aK kvs k)∨∃ kvs k b,Rd H a (.dT kvs)∧y=.ref b∧H b=some (.tup (k.map kV))∧r=aK kvs k
def xu (H:Hp) (a:Addr) (y v:V) (H':Hp):Prop :=
 (∃ kvs k,H a=some (.dK kvs)∧y=kV k∧kvs.length < sizeLine∧H'=upd H a (.dK (js kvs k v))) ∨
 ∃ kvs k b,H a=some (.dT kvs)∧y=.ref b∧H b=some (.tup (k.map kV))∧kvs.length < sizeLine∧H'=upd H a (.dT (js kvs k v))
theorem DGet.k {H:Hp} {a:Addr} {kvs:List (Key×V)} {k:Key} (e:H a=some (.dK kvs)):DGet H a (kV k) (aK kvs k):=.inl ⟨kvs,k,.inl e,rfl,rfl⟩
section
variable {X:Cx} {pins:List (Addr×Obj)} {σ:St} {H:Hp} {s:Shared} {a:Addr} {y v:V} {u r:Value} {o:Option V} {A:Around} {E:Value→Shared→Prop}
theorem Inv.big (I:Inv X pins σ H s):sysModules < s.heap.objs.size:=by
 have h:mainGlobals < s.heap.objs.size:=(I.mod.glob.keeps I.bk).lt;exact Nat.lt_trans (by decide) h
theorem iT {Q:Value→Shared→Prop} (hu:A.units+1 < cLine) (I:Inv X pins σ H s) (g:DGet H a y (some v)) (ry:RelV y u) (h:∀ w' s',Inv X pins σ H s'→RelV v w'→Q w' s') :
  wpAny (model X.prog X.w) A (getItem (.ref a) u) Q E s:=by
 rcases g with ⟨kvs,k,e,ey,l⟩ | ⟨kvs,k,b,e,ey,eb,l⟩
 ·subst ey;obtain ⟨z,hd,vs,rel,dd⟩:=nX I.hok e;obtain ⟨w',hw,rw'⟩:=RelO.some_of (v:=v) (o:=valueAt vs k) (by rw [l];exact rel.val k);exact wpAny_getItem_of (gJ ry) dd.mapOf hw (h w' _ (I.tok _) rw')
 ·subst ey
  cases (show u=Value.ref b from ry)
  obtain ⟨z,hd,xs,rel,dd⟩:=qB I.hok e;obtain ⟨w',hw,rw'⟩:=RelO.some_of (v:=v) (o:=(atKey xs k).map (·.2)) (by rw [l];exact rel.val k);obtain ⟨p,hp,hp2⟩:=Option.map_eq_some_iff.mp hw;refine wpAny_getItem_heap (tupleKind_room_in1 hu) (qA I.hok eb) dd hp ?_;rw [hp2];exact h w' _ (I.tok _) rw'
theorem nY {h':Heap} {t':Nat} {ob:HO} (I:Inv X pins σ H s) (mu:Mut (H a)) (hs:Heap.SameBut a s.heap h') (he:∃ q,h'.get? a=some q) (new:ObjOk X.prog X.w (upd H a ob) h' a ob) :
  Inv X pins σ (upd H a ob) { s with heap:=h',toks:=t' } :=
 I.write (x:=a) (e:=a) mu (.inl rfl) (fun b q hb z=>(hs.2 b hb).trans z) he new
theorem mG {P:Program} {w:World} {H':Hp} {h':Heap} {kvs:List (Key×V)} {vs:List (Key×Value)} (z:kvs.length≤sizeLine) (hd:(a == sysModules)=false) (rel:KV kvs vs) (dd:h'.DictOf (ao P w) a vs) :
  ObjOk P w H' h' a (.dK kvs):=⟨z,hd,vs,rel,dd⟩
end
section
variable {X:Cx} {pins:List (Addr×Obj)} {σ:St} {H:Hp} {s:Shared} {a:Addr} {kvs:List (Key×V)} {k:Key} {u:Value} {A:Around} {E:Value→Shared→Prop}
end
def uR (i:Expr):Prop:=∀ ov iv,subscripted i false ov iv=operate [ov,iv] (getItem ov iv)
theorem nZ {prog:Program} {w:World} {A:Around} {E:Value→Shared→Prop} {s:Shared} {env:Env} {value slice:Expr} {pos:Pos} {T id:String} {Q:Value→Shared→Prop}
  (hl:typeLookup (.type T) "__getitem__" = pure (some (.builtin id))) (hs:uR slice)
  (h:wpAny (model prog w) A (eval value env) (fun o s₁=>wpAny (model prog w) A (eval slice env) (fun i s₂=>s₂.TypeIs o T∧wpAny (model prog w) A (getItem o i) Q E s₂) E s₁) E s) :
  wpAny (model prog w) A (eval (.Subscript value slice pos) env) Q E s:=by
 refine Subscript_ (wpAny_mono h (fun o s₁ h₁=>wpAny_mono h₁ (fun i s₂ h₂=>?_) fun _ _ x=>x) fun _ _ x=>x);obtain ⟨hT,h₂⟩:=h₂;unfold subscriptTail;refine wpAny_bind ?_;rw [getitemInPython_of_ne hT.not_modules];refine wpAny_bind (wpAny_specialOf hT hl ?_);have fin:wpAny (model prog w) A (subscripted slice false o i) (fun r s₃=>wpAny (model prog w) A (letTemporaryGo value o r >>= fun _=>pure r) Q E s₃) E s₂:=by
  rw [hs o i];exact wpAny_operating (wpAny_mono h₂ (fun r s₃ h₃=>wpAny_bind (wpAny_letTemporaryGo (wpAny_pure h₃))) fun _ _ x=>x)
 first
  | exact wpAny_pure (wpAny_bind fin)
  | exact wpAny_bind (wpAny_pure (wpAny_bind fin))
  | exact wpAny_bind fin
theorem fO {X:Cx} {pins:List (Addr×Obj)} {σ:St} {H:Hp} {s:Shared} {a:Addr} {y:V} {o:Option V} (I:Inv X pins σ H s) (g:DGet H a y o):s.TypeIs (.ref a) "dict" :=by
 rcases g with ⟨kvs,k,e,_,_⟩ | ⟨kvs,k,b,e,_,_,_⟩
 ·obtain ⟨_,_,vs,_,dd⟩:=nX I.hok e;exact dd.typeIs
 ·obtain ⟨_,_,xs,_,dd⟩:=qB I.hok e;exact dd.typeIs
def wf (td ty:TE):TE:=fun σ H Q=>td σ H fun x H1=>ty σ H1 fun y H2=>∃ a v,x=.ref a∧DGet H2 a y (some v)∧Q v H2
section
variable {X:Cx} {o i e value:Expr} {pos pos' tpos:Pos} {td ty tv:TE}
theorem gg (hu:X.A.units+1 < cLine) (ho:PE X o td) (hi:PE X i ty) (hs:uR i):PE X (.Subscript o i pos) (wf td ty):=by
 intro pins s σ H Q I h;refine nZ PySem.F.slot_dict_getitem.lookup hs (thn (ho pins s σ H _ I h) fun u s1 ⟨x,H1,I1,rx,q1⟩=>thn (hi pins s1 σ H1 _ I1 q1) fun iv s2 ⟨y,H2,I2,ry,a,v,ex,g,q2⟩=>?_);subst ex;obtain rfl:u=Value.ref a:=rx;exact ⟨fO I2 g,iT hu I2 g ry fun w' s3 I3 rw'=>⟨v,H2,I3,rw',q2⟩⟩
end
theorem qC {P:Program} {w:World} {H:Hp} (h:Heap) (hb:sysModules < h.objs.size):ObjOk P w H (h.push { cls:=.type "dict",data:=.dict #[] }) h.objs.size (.dK []) :=
 ⟨Nat.zero_le _,beq_eq_false_iff_ne.mpr (Ne.symm (Nat.ne_of_lt hb)),[],.nil,Heap.DictOf.new h⟩
def uS:TE:=fun _ H Q=>∀ p,H p=none→Q (.ref p) (upd H p (.dK []))
section
variable {X:Cx} {pos:Pos}
theorem qD:PE X (.Dict [] [] pos) uS:=fun pins s σ H Q I h =>
 wpAny_Dict_empty ⟨.ref s.heap.objs.size,_,I.laid (a:=s.heap.objs.size) (o:=.dK []) (t':=s.toks) (fun _ _ q=>Heap.get?_push_of_some _ q) (Nat.le_refl _) (qC s.heap I.big),rfl,h _ (I.hok.fresh (Nat.le_refl _))⟩
end
structure M2 (X:Cx) (o:Expr) (m:Str) (apos:Pos) (e f:Expr) (cpos:Pos):Prop where
 base:attributeBase o m X.env (eval o X.env)=eval o X.env
 few:((backTo cpos (starEach [e,f] X.env)).all (fun x=>!x.1) && (backToKw cpos (keywordEach [] X.env)).all (fun x=>x.1.isSome)
  && decide (([e,f]:List Expr).length+([]:List Keyword).length+(if ([]:List Keyword).isEmpty then 0 else 1) < 30))=true
 line:(apos.endLine == cpos.line)=true
 trees:backTo cpos (starEach [e,f] X.env)=[(false,eval e X.env),(false,eval f X.env)]
def uT (H:Hp) (a:Addr):Prop:=(∃ kvs,Rd H a (.dK kvs))∨∃ kvs,Rd H a (.dT kvs)
theorem pf {X:Cx} {pins:List (Addr×Obj)} {σ:St} {H:Hp} {s:Shared} {a:Addr} (I:Inv X pins σ H s) (d:uT H a) :
  s.TypeIs (.ref a) "dict" ∧(∀ b,Value.ref a=.ref b→∃ ob,s.heap.get? b=some ob∧ob.dict=none)∧(a == sysModules)=false:=by
 rcases d with ⟨kvs,e⟩ | ⟨kvs,e⟩
 ·obtain ⟨_,hd,vs,_,dd⟩:=nX I.hok e;refine ⟨dd.typeIs,fun b q=>?_,hd⟩
  cases q
  obtain ⟨ob,_,_,h1,h2,_⟩:=dd;exact ⟨ob,h1,h2.2.1⟩
 ·obtain ⟨_,hd,xs,_,dd⟩:=qB I.hok e;refine ⟨dd.typeIs,fun b q=>?_,hd⟩
  cases q
  obtain ⟨ob,_,_,h1,h2,_⟩:=dd;exact ⟨ob,h1,h2.2.1⟩
section
variable {X:Cx} {pins:List (Addr×Obj)} {σ:St} {H:Hp} {s:Shared} {a:Addr} {y d:V} {u r:Value} {o:Option V} {A:Around} {E:Value→Shared→Prop}
end
section
variable {X:Cx} {o e f:Expr} {apos cpos:Pos} {td ty tx:TE}
end
section
variable {X:Cx} {pins:List (Addr×Obj)} {σ:St} {H:Hp} {s:Shared} {a:Addr} {kvs:List (Key×V)} {A:Around} {E:Value→Shared→Prop}
end
section
variable {X:Cx} {pins:List (Addr×Obj)} {σ:St} {H:Hp} {s:Shared} {a:Addr} {y:V} {u:Value} {A:Around} {E:Value→Shared→Prop}
end
end L2
namespace PySem
open Sem (wp)
namespace F
theorem entry_dict_update_loop:entryFor table "dict.update.loop" = some Builtin.«dict.update.loop»:=entryFor_of_tree (by kernel_rfl)
theorem plain_dict_update_loop:plainId "dict.update.loop" = true:=by decide +kernel
theorem miss_keys_tuple:typeLookup (.type "tuple") "keys" = pure none:=by rw [typeLookup_type,builtinLookup_eq_fast];kernel_rfl
end F
theorem fU {prog:Program} {w:World} {A:Around} {E:Value→Shared→Prop} {s:Shared} {a:Addr} {o:Obj} {xs:Array Value} {k:Nat} {Q:Option Value→Shared→Prop}
  (hx:s.heap.get? a=some o) (hc:o.cls=.type "tuple") (hdat:o.data=.seq xs k) (hd:o.dict=none) (hA:A.handled=none)
  (h:∀ h' tk e,Heap.NewExcOf s.heap h' e "AttributeError" →Q none { s with heap:=h',toks:=tk }) :
  wpAny (model prog w) A (getAttr? (.ref a) "keys") Q E s:=by
 obtain ⟨c,dct,dat,sl⟩:=o;simp only at hc hdat hd;subst hc hdat hd;obtain ⟨hp,g,d,tk,os⟩:=s;have hT:∀ tk',(⟨hp,g,d,tk',os⟩:Shared).TypeIs (.ref a) "tuple" :=fun _=>⟨_,hx,rfl⟩;have f1:=sub_AttributeError;have f3:=F.slot_tuple_getattribute.lookup;have f4:=F.slot_tuple_getattribute.bind (.ref a);have f5:=am_tuple_getattr_none;unfold getAttr? getAttrBy? getAttrBy
 repeat (any_goals (first | assumption | exact hT _ | ((with_reducible show wpAny _ _ (call (Value.builtin "tuple.__getattribute__") _ _) _ _ _);refine call_meets F.slot_tuple_getattribute (hT _) am_entry_tuple_getattribute (F.args_tuple_getattribute_2 _ _) (meets_getattribute_miss_tuple a xs k sl "keys" _ F.miss_keys_tuple (by decide)) ⟨hx,hA,fun h' tk' e hx'=>?_⟩) | wp_step))
 obtain ⟨t',u',he⟩:=hx'.there;show wpAny _ _ (getattributeRaised _ _ _ _ _ _ _) _ _ _;unfold getattributeRaised
 repeat (any_goals (first | assumption | wp_step))
 all_goals exact h _ _ _ hx'.of
end PySem
namespace PySem
open Sem (wp)
section
variable {prog:Program} {w:World} {K:Type} [DecidableEq K] {knd:KeyKind prog w K} {A:Around} {E:Value→Shared→Prop}
def Heap.PairItems (h:Heap) (knd:KeyKind prog w K) (items:Array Value) (kvs:List (K×Value)):Prop :=
 items.size=kvs.length∧∀ (i:Nat) (kv:K×Value),kvs[i]?=some kv→∃ (a:Addr) (key:Value),items[i]?=some (.ref a)∧h.IsTuple a #[key,kv.2]∧knd.is kv.1 key=true
theorem Heap.PairItems.stay {h h':Heap} {items:Array Value} {kvs:List (K×Value)} (x:h.PairItems knd items kvs) (k:∀ (i:Nat) (a:Addr) (o:Obj),items[i]?=some (.ref a)→h.get? a=some o→h'.get? a=some o):h'.PairItems knd items kvs :=
 ⟨x.1,fun i kv e=>by
  obtain ⟨a,key,e1,⟨o,e2,r⟩,e3⟩:=x.2 i kv e;exact ⟨a,key,e1,⟨o,k i a o e1 e2,r⟩,e3⟩⟩
theorem eH {t it d:Addr} {items:Array Value} {kvs:List (K×Value)} {R:Result→Shared→Prop} (hh:A.handled=none) (hdt:t≠d) (hit:t≠it) (hdi:d≠it) (hav:∀ (i:Nat) (a:Addr),items[i]?=some (.ref a)→a≠d∧a≠it) (hsz:kvs.length+kvs.length≤sizeLine) :
  ∀ (n i:Nat) (s:Shared) (acc:List (K×Value)),kvs.length - i=n→i≤kvs.length→acc.length≤i→s.heap.IsTuple t items→s.heap.PairItems knd items kvs→s.heap.IsTupleIter it t i→s.heap.DictOf knd d acc →
   (∀ h' tk,h'.DictOf knd d (merged acc (kvs.drop i))→(∀ b o,b≠d→b≠it→s.heap.get? b=some o→h'.get? b=some o)→R (.ok (.ret .none)) { s with heap:=h',toks:=tk }) →
   codeAny (model prog w) A (.builtin "dict.update.loop" ⟨[.ref d,.ref it,rawInt i,.none],[]⟩) R s:=by
 intro n
 induction n with
 | zero =>
  intro i s acc hn hi ha ht hp hs hd hR;have e:i=kvs.length:=by lia
  refine codeAny_builtin F.entry_dict_update_loop ?_;rw [Around.under_plainId F.plain_dict_update_loop _];show wpAny _ A.in1 (pyNext (.ref it) >>= _) _ _ s;refine wpAny_bind (wpAny_pyNext_tuple_end (by first | exact hh | simpa using hh) hs ht (by rw [e,← hp.1];simp) fun h' eb=>?_);show wpAny _ _ (Builtin.Dict.addKeywords d [] >>= _) _ _ _;have hd':h'.DictOf knd d acc:=by
   obtain ⟨o,es,ep,ho,r⟩:=hd;exact ⟨o,es,ep,eb d o hdi ho,r⟩
  have q:=hR h' s.toks (by rw [e,List.drop_length];exact hd') fun b o _ hb z=>eb b o hb z;exact wpAny_bind (wpAny_pure (wpAny_pure q))
 | succ n ih =>
  intro i s acc hn hi ha ht hp hs hd hR;have hlt:i < kvs.length:=by lia
  obtain ⟨kv,hkv⟩:∃ kv,kvs[i]?=some kv:=⟨_,List.getElem?_eq_getElem hlt⟩;obtain ⟨a,key,hx,hpair,hkey⟩:=hp.2 i kv hkv;refine codeAny_builtin F.entry_dict_update_loop ?_;rw [Around.under_plainId F.plain_dict_update_loop _];show wpAny _ A.in1 (pyNext (.ref it) >>= _) _ _ s;refine wpAny_bind (wpAny_pyNext_tuple_item hs ht hx fun h1 hs1 sb=>?_);obtain ⟨av1,av2⟩:=hav i a hx;have keep1:∀ b o,b≠it→s.heap.get? b=some o→h1.get? b=some o:=fun b o hb z=>(sb.2 b hb).trans z;obtain ⟨po,pe,pc,pn,pd⟩:=hpair;have pe1:=keep1 a po av2 pe;have hd1:h1.DictOf knd d acc:=by
   obtain ⟨o,es,ep,ho,r⟩:=hd;exact ⟨o,es,ep,keep1 d o hdi ho,r⟩
  refine wpAny_bind (wpAny_holding ?_);refine wpAny_bind (wpAny_tryCatch ?_);unfold Builtin.Dict.pairItems;refine wpAny_bind (wpAny_typeOf (T:= "tuple") ⟨_,pe1,pc⟩ ?_);rw [if_pos (by decide)];refine wpAny_bind (wpAny_seqItems pe1 pd ?_);refine wpAny_pure ?_;show wpAny _ _ (holding [key,kv.2] (dictSet d key kv.2)) _ _ _;refine wpAny_holding (wpAny_dictSet_pairs (s:={ s with heap:=h1 }) hkey hd1 (fun h2 hd2 sb2=>?_) (by lia));refine wpAny_pure ⟨plainId_quiet F.plain_dict_update_loop _,?_⟩;have keep2:∀ b o,b≠d→b≠it→s.heap.get? b=some o→h2.get? b=some o:=fun b o hb hb' z=>(sb2.2 b hb).trans (keep1 b o hb' z);have hlen:(stored acc kv.1 kv.2).length≤i+1:=by have:=stored_length_le acc kv.1 kv.2;lia
  have ht2:h2.IsTuple t items:=by
   obtain ⟨o,ho,r⟩:=ht;exact ⟨o,keep2 t o hdt hit ho,r⟩
  have hs2:h2.IsTupleIter it t (i+1):=by
   obtain ⟨o,ho,r⟩:=hs1;exact ⟨o,(sb2.2 it (Ne.symm hdi)).trans ho,r⟩
  have e:rawInt ((i:Int)+1)=rawInt ((i+1:Nat):Int):=by rw [Int.natCast_add];rfl
  show codeAny _ _ (.builtin "dict.update.loop" ⟨[.ref d,.ref it,rawInt ((i:Int)+1),.none],[]⟩) _ _;rw [e];refine ih (i+1) { s with heap:=h2,toks:=s.toks+1 } (stored acc kv.1 kv.2) (by lia) hlt hlen ht2 (hp.stay fun j b o z z2=>keep2 b o (hav j b z).1 (hav j b z).2 z2) hs2 hd2 fun h' tk hd' k'=>?_;have q:=hR h' tk (by
   have z:kvs.drop i=kv :: kvs.drop (i+1):=by
    rw [List.drop_eq_getElem_cons hlt];rw [List.getElem?_eq_getElem hlt] at hkv;rw [Option.some.inj hkv]
   rw [z];exact hd') fun b o hb hb' z=>k' b o hb hb' (keep2 b o hb hb' z)
  exact q
theorem fV {s:Shared} {t:Addr} {o:Obj} {items:Array Value} {n:Nat} {kvs:List (K×Value)} {Q:Value→Shared→Prop} (hh:A.handled=none) (ho:s.heap.get? t=some o) (hc:o.cls=.type "tuple") (hdat:o.data=.seq items n) (hd:o.dict=none)
  (hp:s.heap.PairItems knd items kvs) (hsz:kvs.length+kvs.length≤sizeLine)
  (h:∀ h' tk,h'.DictOf knd s.heap.objs.size (merged [] kvs)→(∀ b o,s.heap.get? b=some o→h'.get? b=some o)→Q (.ref s.heap.objs.size) { s with heap:=h',toks:=tk }) :
  wpAny (model prog w) A (call (.type "dict") [.ref t]) Q E s:=by
 refine callType_codes (Q₁:=fun obj s₁=>obj=.ref s.heap.objs.size∧s₁={ s with heap:=s.heap.push { cls:=.type "dict",data:=.dict #[] } }) F.kt_called_dict (F.kt_typeCall_dict_1 _) F.entry_dict_init (kt_code_dict_new _ ⟨rfl,rfl⟩) ?_;rintro obj s₁ ⟨rfl,rfl⟩;have hnew:(s.heap.push { cls:=.type "dict",data:=.dict #[] }).DictOf knd s.heap.objs.size []:=Heap.DictOf.new s.heap;have ho1:(s.heap.push { cls:=.type "dict",data:=.dict #[] }).get? t=some o:=Heap.get?_push_of_some _ ho;have htl:t < s.heap.objs.size:=Heap.lt_size ho;refine ⟨hnew.typeIs,F.args_dict_init_2 _ _,?_⟩;unfold Builtin.«dict.__init__»;refine wpAny_bind ?_;unfold Builtin.Dict.selfAndRest;refine wpAny_bind (wpAny_notOrdered_dict hnew.typeIs ?_);show wpAny _ _ (pure (s.heap.objs.size,[Value.ref t])) _ _ _;refine wpAny_pure ?_;show wpAny _ _ (Builtin.Dict.updateFrom "dict.__init__" s.heap.objs.size (.ref t) [] .none) _ _ _;unfold Builtin.Dict.updateFrom;refine wpAny_bind (wpAny_typeOf (T:= "tuple") ⟨_,ho1,hc⟩ ?_);rw [if_pos (by decide)];refine wpAny_bind (fU ho1 hc hdat hd (by first | exact hh | simpa using hh) fun h1 tk1 e hx=>?_);rw [if_pos (by rfl)];refine wpAny_bind (wpAny_rule ?_);have kp1:∀ b o,(s.heap.push { cls:=.type "dict",data:=.dict #[] }).get? b=some o→h1.get? b=some o:=fun b o z=>hx.keeps b o z;have ht1:h1.IsTuple t items:=⟨o,kp1 t o ho1,hc,n,hdat⟩;refine wpAny_bind (wpAny_pyIter_tuple ht1 ?_);have hit:s.heap.objs.size < h1.objs.size:=by
  obtain ⟨o2,es,ep,ho2,_⟩:=hnew;exact Heap.lt_size (kp1 _ _ ho2)
 have kp0:∀ b o,s.heap.get? b=some o→h1.get? b=some o:=fun b o z=>kp1 b o (Heap.get?_push_of_some _ z);refine wpAny_pure ⟨plainId_quiet F.plain_dict_update_loop _,?_⟩;refine eH (knd:=knd) (t:=t) (items:=items) (kvs:=kvs) (by first | exact hh | simpa using hh) (Nat.ne_of_lt htl) (Nat.ne_of_lt (Nat.lt_trans htl hit)) (Nat.ne_of_lt hit) (fun i a z=>?_) hsz kvs.length 0 _ [] (by lia) (Nat.zero_le _) (Nat.le_refl _)
  ⟨o,Heap.get?_push_of_some _ (kp1 t o ho1),hc,n,hdat⟩ (hp.stay fun i a o2 _ z=>Heap.get?_push_of_some _ (kp0 a o2 z)) ⟨_,Heap.get?_push_size _ rfl,rfl,rfl⟩ ?_ fun h' tk hd' k'=>⟨rfl,?_⟩
 ·have hi:i < kvs.length:=by
   rw [← hp.1];exact (Array.getElem?_eq_some_iff.mp z).1
  obtain ⟨b,key,e1,⟨ob,e2,_⟩,_⟩:=hp.2 i _ (List.getElem?_eq_getElem hi);rw [z] at e1;have e3:a=b:=by injection (Option.some.inj e1)
  subst e3;have:=Heap.lt_size e2;exact ⟨Nat.ne_of_lt this,Nat.ne_of_lt (Nat.lt_trans this hit)⟩
 ·obtain ⟨o2,es,ep,ho2,r⟩:=hnew;exact ⟨o2,es,ep,Heap.get?_push_of_some _ (kp1 _ _ ho2),r⟩
 ·refine h h' tk hd' fun b ob z=>k' b ob (Nat.ne_of_lt (Heap.lt_size z)) (Nat.ne_of_lt (Nat.lt_trans (Heap.lt_size z) hit)) (Heap.get?_push_of_some _ (kp0 b ob z))
end
end PySem
namespace L2
open PySem PySem.Spec PyProof.Rows
def Pl (H:Hp) (a:Addr):Prop:=∃ o u,H a=some (.frz o u)∧o.dict=none
mutual
inductive IsP (K:PySem.W.Frag) (H:Hp):Dt→V→Prop
 | non:IsP K H .non .non
 | bl {b}:IsP K H (.bl b) (.bl b)
 | int {i}:IsP K H (.int i) (.int i)
 | str {z}:IsP K H (.str z) (.str z)
 | tup {l:List Dt} {a:Addr} {xs:List V}:SqT K H a xs→Pl H a→IsPs K H l xs→IsP K H (.tup l) (.ref a)
inductive IsPs (K:PySem.W.Frag) (H:Hp):List Dt→List V→Prop
 | nil:IsPs K H [] []
 | cons {d:Dt} {l:List Dt} {x:V} {xs:List V}:IsP K H d x→IsPs K H l xs→IsPs K H (d :: l) (x :: xs)
end
section
variable {K:PySem.W.Frag} {H H':Hp}
mutual
theorem IsP.d:∀ {d:Dt} {v:V},IsP K H d v→IsD K H d v
 | _,_,.non=>.non
 | _,_,.bl=>.bl
 | _,_,.int=>.int
 | _,_,.str=>.str
 | _,_,.tup h _ r=>.tup h (IsPs.d r)
theorem IsPs.d:∀ {l:List Dt} {xs:List V},IsPs K H l xs→IsDs K H l xs
 | _,_,.nil=>.nil
 | _,_,.cons h r=>.cons (IsP.d h) (IsPs.d r)
end
theorem Pl.same {a:Addr} (g:Same H H') (h:Pl H a):Pl H' a:=by
 obtain ⟨o,u,e,d⟩:=h;exact ⟨o,u,g _ _ e,d⟩
theorem Pl.but {a r:Addr} {ys:List V} (hr:H r=some (.lst ys)) (g:But r H H') (h:Pl H a):Pl H' a:=by
 obtain ⟨o,u,e,d⟩:=h;exact ⟨o,u,g _ _ (gp e hr (by intro z;cases z)) e,d⟩
mutual
theorem IsP.same (g:Same H H'):∀ {d:Dt} {v:V},IsP K H d v→IsP K H' d v
 | _,_,.non=>.non
 | _,_,.bl=>.bl
 | _,_,.int=>.int
 | _,_,.str=>.str
 | _,_,.tup h p r=>.tup (g.tup h) (p.same g) (IsPs.same g r)
theorem IsPs.same (g:Same H H'):∀ {l:List Dt} {xs:List V},IsPs K H l xs→IsPs K H' l xs
 | _,_,.nil=>.nil
 | _,_,.cons h r=>.cons (IsP.same g h) (IsPs.same g r)
end
mutual
theorem IsP.but {r:Addr} {ys:List V} (hr:H r=some (.lst ys)) (g:But r H H'):∀ {d:Dt} {v:V},IsP K H d v→IsP K H' d v
 | _,_,.non=>.non
 | _,_,.bl=>.bl
 | _,_,.int=>.int
 | _,_,.str=>.str
 | _,_,.tup h p q=>.tup (by
   rcases qv hr h with n | n
   ·exact g.tup n h
   ·exact n _) (p.but hr g) (IsPs.but hr g q)
theorem IsPs.but {r:Addr} {ys:List V} (hr:H r=some (.lst ys)) (g:But r H H'):∀ {l:List Dt} {xs:List V},IsPs K H l xs→IsPs K H' l xs
 | _,_,.nil=>.nil
 | _,_,.cons h q=>.cons (IsP.but hr g h) (IsPs.but hr g q)
end
theorem IsPs.length {l:List Dt} {xs:List V} (h:IsPs K H l xs):l.length=xs.length:=h.d.length
theorem IsPs.get {l:List Dt} {xs:List V} (h:IsPs K H l xs) {i:Nat} {d:Dt} (e:l[i]?=some d):∃ x,xs[i]?=some x∧IsP K H d x:=by
 induction l generalizing xs i with
 | nil=>simp at e
 | cons c l ih =>
  cases h with
  | cons h r =>
   cases i with
   | zero=>simp at e;subst e;exact ⟨_,rfl,h⟩
   | succ i=>exact ih r (by simpa using e)
theorem IsPs.get' {l:List Dt} {xs:List V} (h:IsPs K H l xs) {i:Nat} {x:V} (e:xs[i]?=some x):∃ d,l[i]?=some d∧IsP K H d x:=by
 induction l generalizing xs i with
 | nil=>cases h;simp at e
 | cons c l ih =>
  cases h with
  | cons h r =>
   cases i with
   | zero=>simp at e;subst e;exact ⟨_,rfl,h⟩
   | succ i=>exact ih r (by simpa using e)
theorem IsPs.append {l m:List Dt} {xs ys:List V} (h:IsPs K H l xs) (h':IsPs K H m ys):IsPs K H (l++m) (xs++ys):=by
 induction l generalizing xs with
 | nil=>cases h;exact h'
 | cons d l ih=>cases h with | cons h r=>exact .cons h (ih r)
theorem IsPs.drop:∀ {l:List Dt} {xs:List V} (n:Nat),IsPs K H l xs→IsPs K H (l.drop n) (xs.drop n)
 | _,_,0,h=>h
 | _,_,_+1,.nil=>.nil
 | _,_,n+1,.cons _ r=>IsPs.drop n r
theorem IsPs.take:∀ {l:List Dt} {xs:List V} (n:Nat),IsPs K H l xs→IsPs K H (l.take n) (xs.take n)
 | _,_,0,_=>.nil
 | _,_,_+1,.nil=>.nil
 | _,_,n+1,.cons h r=>.cons h (IsPs.take n r)
theorem IsP.unref {l:List Dt} {v:V} (h:IsP K H (.tup l) v):∃ a xs,v=.ref a∧SqT K H a xs∧Pl H a∧IsPs K H l xs:=by
 cases h with
 | tup h p r=>exact ⟨_,_,rfl,h,p,r⟩
end
def plO (xs:List V) (us:List Value):HO:=.frz { cls:=.type "tuple",data:=.seq us.toArray } (.tup xs)
section
variable {X:Cx} {pins:List (Addr×Obj)} {σ:St} {H:Hp} {s:Shared}
theorem Inv.plain {xs:List V} {us:List Value} {t':Nat} (I:Inv X pins σ H s) (r:Vals xs us) (z:xs.length≤sizeLine) :
  Inv X pins σ (upd H s.heap.objs.size (plO xs us)) { s with heap:=s.heap.push { cls:=.type "tuple",data:=.seq us.toArray },toks:=t' }∧H s.heap.objs.size=none :=
 ⟨I.laid (t':=t') (fun b ob q=>Heap.get?_push_of_some _ q) (Nat.le_refl _) ⟨Heap.get?_push_size _ rfl,z,us,r,IsTup.new _ _⟩,I.hok.fresh (Nat.le_refl _)⟩
theorem c6 {p:Addr} {l:List Dt} {xs:List V} {us:List Value} (hf:H p=none) (d:IsPs X.K H l xs):Same H (upd H p (plO xs us))∧IsP X.K (upd H p (plO xs us)) (.tup l) (.ref p) :=
 ⟨ag hf _,.tup (.inl (.inr ⟨_,ac⟩)) ⟨_,_,ac,rfl⟩ (d.same (ag hf _))⟩
variable {e:Expr} {es:List Expr} {t:TA} {pos:Pos}
inductive ITup (K:PySem.W.Frag) (xs:List V) (H1:Hp) (Q:VK):Prop
 | mk (l:List Dt):(IsPs K H1 l xs)→(xs.length≤sizeLine)→(∀ v H',Same H1 H'→IsP K H' (.tup l) v→Q v H')→ITup K xs H1 Q
def tZ (K:PySem.W.Frag) (t:TA):TE:=fun σ H Q=>t σ H fun xs H1=>ITup K xs H1 Q
theorem sC {x1} (h:PA X es t):PE X (.Tuple es x1 pos) (tZ X.K t):=by
 intro pins s σ H Q I hq;refine wpAny_Tuple_spliced (thn (h pos pins s σ H _ I hq) fun us s1 ⟨xs,H1,I1,r,l,d,z,q⟩=>⟨by rw [← r.length];exact z,?_⟩);obtain ⟨I2,hf⟩:=I1.plain (t':=s1.toks) r z;obtain ⟨g,dp⟩:=c6 (X:=X) (us:=us) hf d;exact ⟨.ref s1.heap.objs.size,_,I2,rfl,q _ _ g dp⟩
theorem kX:aW X (.type "tuple") (fun xs H Q=>∃ p ys l,xs=[.ref p]∧SqL X.K H p ys∧IsPs X.K H l ys∧∀ v H',Same H H'→IsP X.K H' (.tup l) v→Q v H'):=by
 intro pins s σ H xs us Q I r h;obtain ⟨p,ys,l,rfl,hq,d,q⟩:=h;obtain ⟨u,rfl,rx⟩:=ce r
 cases rx
 obtain ⟨its,r',pl,hz⟩:=I.list hq;have hlen:=r'.length;refine call_tuple_list pl.isList (fun h' kp=>?_) (by simp only [List.size_toArray] <;> lia);have I1:Inv X pins σ H { s with heap:=h' }:=I.kept (t':=s.toks) kp;obtain ⟨I2,hf⟩:=I1.plain (t':=s.toks) r' hz;obtain ⟨g,dp⟩:=c6 (X:=X) (us:=its) hf d;exact ⟨.ref h'.objs.size,_,I2,rfl,q _ _ g dp⟩
theorem sD:OpR X (binaryOp .Add) (fun x y H Q=>∃ l m,IsP X.K H (.tup l) x∧IsP X.K H (.tup m) y∧l.length+m.length≤sizeLine∧∀ v H',Same H H'→IsP X.K H' (.tup (l++m)) v→Q v H'):=by
 intro pins s σ H x y v u Q I rx ry h;obtain ⟨l,m,dx,dy,hz,q⟩:=h;obtain ⟨a,xs,rfl,ha,pa,ra⟩:=dx.unref;obtain ⟨b,ys,rfl,hb,pb,rb⟩:=dy.unref
 cases rx
 cases ry
 obtain ⟨its,r1,p1,_⟩:=I.tuple ha;obtain ⟨its2,r2,p2,_⟩:=I.tuple hb;have e1:=ra.length;have e2:=rb.length
 by_cases hx:xs=[]
 ·subst hx;have hi:its=[]:=r1.nil_iff.mpr rfl;subst hi;have hl:l=[]:=List.length_eq_zero_iff.mp (by rw [e1];rfl);subst hl;exact HT.cat_nil p1 p2 ⟨.ref b,H,I,rfl,q _ H (Same.refl H) dy⟩
 ·refine HT.cat_tup p1 p2 (fun z=>hx (r1.nil_iff.mp z)) (fun z=>?_) (fun z=>?_) (by rw [← r1.length,← r2.length,← e1,← e2];exact hz)
  ·have hy:=r2.nil_iff.mp z;subst hy;have hm:m=[]:=List.length_eq_zero_iff.mp (by rw [e2];rfl);subst hm;exact ⟨.ref a,H,I,rfl,q _ H (Same.refl H) (by rw [List.append_nil];exact dx)⟩
  ·obtain ⟨I2,hf⟩:=I.plain (t':=s.toks) (r1.append r2) (by rw [List.length_append,← e1,← e2];exact hz);obtain ⟨g,dp⟩:=c6 (X:=X) (us:=its++its2) hf (ra.append rb);exact ⟨.ref s.heap.objs.size,_,I2,rfl,q _ _ g dp⟩
theorem sE:SlR X (fun x lo hi H Q=>∃ l,IsP X.K H (.tup l) x∧∀ v H',Same H H'→IsP X.K H' (.tup (eD l lo hi)) v→Q v H'):=by
 intro pins s σ H x v vl vu lo hi sl Q I rx hs pl pu h;obtain ⟨l,dx,q⟩:=h;obtain ⟨a,xs,rfl,hx,pa,ra⟩:=id dx.unref
 cases rx
 have e1:=ra.length;obtain ⟨its,r,ht,hz⟩:=I.tuple hx;have hlen:its.toArray.size=xs.length:=by rw [List.size_toArray];exact r.length.symm
 refine ⟨"tuple",_,PyProof.Rows.slot_tuple_getitem.lookup,ht.typeIs,?_⟩
 by_cases hw:HT.sIx xs.length 0 lo=0∧HT.sIx xs.length xs.length hi=xs.length
 ·refine HT.getItem_tuple_all ht hs pl pu (by rw [hlen];exact hw.1) (by rw [hlen];exact hw.2) ⟨.ref a,H,I,rfl,q _ H (Same.refl H) ?_⟩;have e:eD l lo hi=l:=by
   unfold eD;rw [e1,hw.1,hw.2,List.drop_zero,Nat.sub_zero,← e1,List.take_length]
  rw [e];exact dx
 ·refine HT.getItem_tuple_cut ht hs pl pu (by rw [hlen];exact hw) ?_ (by rw [hlen];exact hz);rw [hlen];obtain ⟨I2,hf⟩:=I.plain (t':=s.toks) ((r.drop (HT.sIx xs.length 0 lo)).take (HT.sIx xs.length xs.length hi - HT.sIx xs.length 0 lo)) (Nat.le_trans (fK xs lo hi) hz);have d2:IsPs X.K H (eD l lo hi) (fS xs lo hi):=by
   unfold eD fS;rw [e1];exact (ra.drop _).take _
  obtain ⟨g,dp⟩:=c6 (X:=X) (us:=(its.drop (HT.sIx xs.length 0 lo)).take (HT.sIx xs.length xs.length hi - HT.sIx xs.length 0 lo)) hf d2;exact ⟨.ref s.heap.objs.size,_,I2,rfl,q _ _ g dp⟩
theorem sF:IxR X (fun x y H Q=>∃ l i d,IsP X.K H (.tup l) x∧y=.int i∧atI l i=some d∧∀ v,IsP X.K H d v→Q v H):=by
 intro value slice pins s σ H x y v u Q I rx ry h hs;obtain ⟨l,i,d,dx,rfl,ha,q⟩:=h;obtain ⟨a,xs,rfl,hx,pa,ra⟩:=id dx.unref;obtain ⟨j,hj,hd,_⟩:=jj ha;have e1:=ra.length;obtain ⟨w',hw,dw⟩:=ra.get hd;have hat:atI xs i=some w':=by
  unfold atI at ha ⊢;rw [← e1]
  cases z:ixN l.length i with
  | none=>rw [z] at ha;cases ha
  | some j' =>
   rw [z] at ha;have ha':l[j']?=some d:=ha;obtain ⟨w2,hw2,dw2⟩:=ra.get ha';have z2:=ji z;rw [hj] at z2;have:j=j':=Option.some.inj z2.1;subst this;exact hw
 exact uF value slice pins s σ H (.ref a) (.int i) v u Q I rx ry ⟨a,xs,i,w',rfl,rfl,hx,hat,q w' dw⟩ hs
theorem sG:OpR X (binaryOp .Mult) (rI IntMulOk fun i j=>.int (i*j)):=opI fun _ _ _ _ _ _ _ hc q=>mul_int q hc
end
def aR (fs:List (Str×Dt)) (z:Str):Option Dt:=(fs.find? fun p=>decide (p.1=z)).map (·.2)
abbrev prD (p:Str×Dt):Dt:=.tup [.str p.1,p.2]
def DicP (K:PySem.W.Frag) (H:Hp) (p:Addr) (fs:List (Str×Dt)):Prop :=
 ∃ kvs,H p=some (.dK kvs)∧∀ z,(aR fs z=none→aK kvs (Sum.inr z:Key)=none)∧∀ d,aR fs z=some d→∃ v,aK kvs (Sum.inr z:Key)=some v∧IsP K H d v
section
variable {X:Cx} {pins:List (Addr×Obj)} {σ:St} {H:Hp} {s:Shared}
theorem qE (I:Inv X pins σ H s):∀ {fs:List (Str×Dt)} {xs:List V} {its:List Value},IsPs X.K H (fs.map prD) xs→Vals xs its →
  ∃ (kvs:List (Key×V)) (vs:List (Key×Value)),KV kvs vs∧kvs.map (·.1)=fs.map (fun p=>Sum.inr p.1)∧kvs.length=fs.length ∧
   (∀ z,(aR fs z=none→aK kvs (Sum.inr z:Key)=none)∧∀ d,aR fs z=some d→∃ v,aK kvs (Sum.inr z:Key)=some v∧IsP X.K H d v) ∧
   its.length=vs.length∧∀ (i:Nat) (kv:Key×Value),vs[i]?=some kv→∃ (a:Addr) (key:Value),its[i]?=some (.ref a)∧s.heap.IsTuple a #[key,kv.2]∧(ao X.prog X.w).is kv.1 key=true:=by
 intro fs
 induction fs with
 | nil =>
  intro xs its h r
  cases h
  cases r
  exact ⟨[],[],.nil,rfl,rfl,fun z=>⟨fun _=>rfl,fun d q=>by cases q⟩,rfl,fun i kv q=>by simp at q⟩
 | cons f fs ih =>
  intro xs its h r
  cases h with
  | cons h1 h2 =>
   cases r with
   | cons r1 r2 =>
    obtain ⟨kvs,vs,e1,e2,e3,e4,e5,e6⟩:=ih h2 r2;obtain ⟨a,ys,rfl,ha,pa,ra⟩:=h1.unref
    cases r1
    obtain ⟨its',r',p',_⟩:=I.tuple ha
    cases ra with
    | cons d1 ra =>
     cases ra with
     | @cons _ _ v _ d2 ra =>
      cases ra
      cases d1
      cases r' with
      | cons q1 r' =>
       cases r' with
       | @cons _ u _ _ q2 r' =>
        cases r'
        obtain ⟨tk,rfl⟩:=q1;refine ⟨(Sum.inr f.1,v) :: kvs,(Sum.inr f.1,u) :: vs,.cons ⟨rfl,q2⟩ e1,by simp [e2],by simp [e3],fun z=>?_,by simp [e5],fun i kv q=>?_⟩
        ·by_cases hz:f.1=z
         ·subst hz;have l1:aR (f :: fs) f.1=some f.2:=by simp [aR]
          have l2:aK ((Sum.inr f.1,v) :: kvs) (Sum.inr f.1:Key)=some v:=by simp [aK]
          exact ⟨fun q=>(by rw [l1] at q;cases q),fun d q=>(by rw [l1] at q;cases q;exact ⟨v,l2,d2⟩)⟩
         ·have l1:aR (f :: fs) z=aR fs z:=by simp [aR,hz]
          have l2:aK ((Sum.inr f.1,v) :: kvs) (Sum.inr z:Key)=aK kvs (Sum.inr z:Key):=by simp [aK,hz]
          rw [l1,l2];exact e4 z
        ·cases i with
         | zero =>
          simp at q;subst q;exact ⟨a,_,rfl,p',gJ (k:=Sum.inr f.1) ⟨tk,rfl⟩⟩
         | succ i=>exact e6 i kv (by simpa using q)
theorem mH (hc:X.calm=true):aW X (.type "dict") (fun xs H Q=>∃ x fs,xs=[x]∧IsP X.K H (.tup (fs.map prD)) x∧(fs.map (·.1)).Nodup∧fs.length≤1000∧∀ p H',Same H H'→DicP X.K H' p fs→Q (.ref p) H'):=by
 intro pins s σ H xs us Q I r h;obtain ⟨x,fs,rfl,dx,nd,hz,q⟩:=h;obtain ⟨u,rfl,rx⟩:=ce r;obtain ⟨a,ys,rfl,ha,⟨o,ho,eo,dn⟩,ra⟩:=dx.unref
 cases rx
 obtain ⟨its,r',⟨o',e',c',n',d'⟩,_⟩:=I.tuple ha;have e0:s.heap.get? a=some o:=(I.hok a _ eo).1;rw [e0] at e';obtain rfl:=Option.some.inj e';obtain ⟨kvs,vs,k1,k2,k3,k4,k5,k6⟩:=qE I ra r';have hl:vs.length=fs.length:=by rw [← k1.length,k3]
 have big:=I.big;refine fV (knd:=ao X.prog X.w) (kvs:=vs) (I.ok.hd hc) e0 c' d' dn ⟨by rw [List.size_toArray];exact k5,fun i kv z=>?_⟩ (Nat.le_trans (Nat.add_le_add (hl ▸ hz) (hl ▸ hz)) (by decide)) fun h' tk dd kp=>?_
 ·obtain ⟨b,key,z1,z2,z3⟩:=k6 i kv z;exact ⟨b,key,by simpa using z1,z2,z3⟩
 ·have ndv:(vs.map (·.1)).Nodup:=by
   rw [← k1.keys,k2];have z:fs.map (fun p=>(Sum.inr p.1:Key))=(fs.map (·.1)).map Sum.inr:=by rw [List.map_map];rfl
   rw [z];exact List.Pairwise.map _ (fun a b n q=>n (Sum.inr.inj q)) nd
  rw [merged_nil_of_nodup vs ndv] at dd;have hf:=I.hok.fresh (Nat.le_refl s.heap.objs.size);have I2:Inv X pins σ (upd H s.heap.objs.size (.dK kvs)) { s with heap:=h',toks:=tk }:=I.laid (t':=tk) kp (Nat.le_refl _)
   (mG (by rw [k3];exact Nat.le_of_lt (ai hz)) (by simp;exact Nat.ne_of_gt big) k1 dd)
  refine ⟨.ref s.heap.objs.size,_,I2,rfl,q _ _ (ag hf _) ⟨kvs,ac,fun z=>⟨(k4 z).1,fun d l=>?_⟩⟩⟩;obtain ⟨v,l1,l2⟩:=(k4 z).2 d l;exact ⟨v,l1,l2.same (ag hf _)⟩
theorem DicP.get {K:PySem.W.Frag} {p:Addr} {fs:List (Str×Dt)} {z:Str} {d:Dt} (h:DicP K H p fs) (l:aR fs z=some d):∃ v,DGet H p (.str z) (some v)∧IsP K H d v:=by
 obtain ⟨kvs,e,k⟩:=h;obtain ⟨v,l1,l2⟩:=(k z).2 d l;exact ⟨v,by rw [← l1];exact DGet.k (k:=Sum.inr z) e,l2⟩
end
end L2
namespace PySem
open Sem (wp)
open Builtin
section
variable {prog:Program} {w:World} {A:Around} {E:Value→Shared→Prop} {s:Shared}
end
end PySem
namespace L2
open PySem PySem.Spec PyProof.Rows
section
variable {X:Cx}
theorem ph (u:Value):∀ (k:Nat) (acc:Array Value),((List.replicate k #[u]).foldl (·++·) acc)=acc++(List.replicate k u).toArray:=by
 intro k
 induction k with
 | zero=>intro acc;simp
 | succ k ih =>
  intro acc;rw [List.replicate_succ,List.foldl_cons,ih,List.replicate_succ];apply Array.ext';simp
theorem t6 {x:V} {u:Value} (h:RelV x u):∀ k:Nat,Vals (List.replicate k x) (List.replicate k u)
 | 0=>.nil
 | k+1=>.cons h (t6 h k)
def qF (lo c:Int) (n:Nat):It:=⟨fun i _=>i < n,fun i H x H'=>H'=H∧x=.int (lo+i*c),fun i _=>n≤i⟩
theorem kY {P:Program} {w:World} {K:PySem.W.Frag} {tg:Expr} (it:Addr) (lo c:Int) (n:Nat):Turn P w K tg (qF lo c n) [it] it (fun i h=>IsRangeIter h it (lo+(i:Nat)*c) ((n:Int) - (i:Nat)) c) where
 mem:=by simp
 obj:=fun i h st b hb=>by
  have e:b=it:=by simpa using hb
  subst e;exact ⟨_,st,fun v z=>by
   have z':Data.fields _=Data.cell v:=z
   cases z'⟩
 keep:=fun i h h' st k=>k it (by simp) _ st
 item:=by
  intro X hP hw hK hc i pins s σ H E I hf st hg;subst hP hw hK;obtain ⟨f0,f1,f2,f3,f4,f5⟩:=hf it (by simp);have W:=Walks.range (prog:=X.prog) (w:=X.w) (I.ok.hd hc) it lo c n;refine W.item i s _ _ hg st fun v h' tk hv st' kk=>?_;obtain ⟨t,rfl⟩:=hv;have I1:Inv X pins σ H { s with heap:=h',toks:=tk }:=I.turned (fun b o hb e=>kk b o (by simpa using hb) e) f0 f1 f3 f4 f5;exact ⟨_,rfl,gv (s:={ s with heap:=h',toks:=tk }) (n:= "range_iterator") st' rfl rfl (by decide) ⟨.int (lo+i*c),H,I1,⟨t,rfl⟩,⟨rfl,rfl⟩,st',fun b hb=>(hf b hb).1⟩⟩
 done:=by
  intro X hP hw hK hc i pins s σ H E I hf st hg;subst hP hw hK;obtain ⟨f0,f1,f2,f3,f4,f5⟩:=hf it (by simp);exact wpAny_pyNext_range_end (I.ok.hd hc) st (by have:n≤i:=hg;lia) fun h' eb=>⟨rfl,I.turned (t':=s.toks) (fun b o hb e=>eb b o hb e) f0 f1 f3 f4 f5⟩
 self:=fun _ _ _ _ _ st h=>wpAny_pyIter_rangeiter st h
def rngN (a b c:Int):Nat:=(Builtin.Range.rangeSize a b c).toNat
theorem sH {a b c:Int} (hc:0 < c) {i:Nat} (h:i < rngN a b c):a+i*c < b:=by
 unfold rngN Builtin.Range.rangeSize at h;rw [if_pos (show c > 0 from hc)] at h
 by_cases hab:a < b
 ·rw [if_pos hab] at h;have h1:(0:Int)≤(b - a - 1) / c:=Int.ediv_nonneg (by lia) (by lia);have h2:(i:Int)≤(b - a - 1) / c:=by lia
  have h3:(i:Int)*c≤b - a - 1:=Int.le_trans (Int.mul_le_mul_of_nonneg_right h2 (by lia)) (Int.ediv_mul_le _ (by lia));lia
 ·rw [if_neg hab] at h;simp at h
theorem n6 {a b c:Int} (hc:0 < c):(rngN a b c:Int)≤if a < b then b - a else 0:=by
 unfold rngN Builtin.Range.rangeSize;rw [if_pos (show c > 0 from hc)]
 by_cases hab:a < b
 ·rw [if_pos hab,if_pos hab];have h1:(0:Int)≤(b - a - 1) / c:=Int.ediv_nonneg (by lia) (by lia);have h2:(b - a - 1) / c≤b - a - 1:=Int.ediv_le_self _ (by lia);lia
 ·rw [if_neg hab,if_neg hab];simp
variable {tg:Expr}
def wg (ta:TA):TI:=fun σ H R=>ta σ H fun vs H1=>∃ i j c:Int,vs=[.int i,.int j,.int c]∧(0≤i∧i < 2 ^ 62∧0≤j∧j < 2 ^ 62∧0 < c∧c < 1073741824)∧R (qF i c (rngN i j c)) H1
theorem pi {a b c:Expr} {ta:TA} {p pos:Pos} (hg:Gl X "range") (hm:X.mg "range" = none) (ha:PA X [a,b,c] ta) (hs:starEach [a,b,c] X.env=[(false,eval a X.env),(false,eval b X.env),(false,eval c X.env)]:=by rfl) (hs2:starEach [b,c] X.env=[(false,eval b X.env),(false,eval c X.env)]:=by rfl) :
  PI X tg (.Call (.Name "range" p) [a,b,c] [] pos) (wg ta):=by
 intro pins s σ H R I h;refine Call_ (bG I hg hm boot_range (PyProof.Rows.callWith_type1 (thn (ha pos pins s σ H _ I h) fun us s1 ⟨vs,H1,I1,r1,q1⟩=>?_) (by rw [hs,hs2]) (by rw [hs2];rfl)));obtain ⟨i,j,c,e,⟨q1,q2,q3,q4,q5,q6⟩,q⟩:=q1;subst e
 cases r1 with
 | cons r rr =>
  cases rr with
  | cons r' rr =>
   cases rr with
   | cons r'' rr =>
    cases rr
    obtain ⟨t,rfl⟩:=r;obtain ⟨t',rfl⟩:=r';obtain ⟨t'',rfl⟩:=r'';have hn0:=n6 (a:=i) (b:=j) q5;have hsz:Builtin.Range.rangeSize i j c=((rngN i j c:Nat):Int):=rangeSize_toNat i j c;have hn:(rngN i j c:Int) < 2 ^ 62:=by
     split at hn0 <;> lia
    refine call_range_3 (by lia) ?_ (.inl (PyProof.noPylong_small (by lia)));have sm:Builtin.Range.small i j c=true:=by
     unfold Builtin.Range.small Builtin.Range.rangeFitsLong;rw [hsz,if_pos (show c > 0 from q5)];simp only [Bool.and_eq_true,Bool.or_eq_true,decide_eq_true_eq,beq_iff_eq];refine ⟨⟨⟨⟨⟨?_,?_⟩,?_,?_⟩,?_,?_⟩,?_,?_⟩,.inr ⟨?_,?_⟩⟩ <;> lia
    refine wpAny_pyIter_range (IsRange.new ..) sm ?_;have I2:Inv X pins σ H1 { s1 with heap:=s1.heap.push { cls:=.type "range",data:=.fields #[.int i t,.int j t',.int c t''] } }:=I1.kept (t':=s1.toks) fun b o e=>Heap.get?_push_of_some _ e;refine ⟨(s1.heap.push { cls:=.type "range",data:=.fields #[.int i t,.int j t',.int c t''] }).objs.size,[(s1.heap.push { cls:=.type "range",data:=.fields #[.int i t,.int j t',.int c t''] }).objs.size],_,_,H1,rfl,
     I2.kept (t':=s1.toks) fun b o e=>Heap.get?_push_of_some _ e,kY _ i c (rngN i j c),?_,fun b hb=>?_,q⟩
    ·have e1:i+((0:Nat):Int)*c=i:=by simp
     have e2:((rngN i j c:Nat):Int) - ((0:Nat):Int)=Builtin.Range.rangeSize i j c:=by rw [hsz];simp
     show IsRangeIter _ _ (i+((0:Nat):Int)*c) (((rngN i j c:Nat):Int) - ((0:Nat):Int)) c;rw [e1,e2];exact Heap.get?_push_size _ rfl
    ·have e:b=(s1.heap.push { cls:=.type "range",data:=.fields #[.int i t,.int j t',.int c t''] }).objs.size:=by simpa using hb
     subst e;exact I2.fpOk (Nat.le_refl _) (I2.hok.fresh (Nat.le_refl _))
end
theorem passF {P:Program} {w:World} {X:Cx}:jh (CXE P w) X (fun _ _ _=>False):=by
 intro pins σ H s e s' I h;obtain ⟨_,_,_,_,_,_,_,_,_,_,_,_,_,q⟩:=h;exact q.elim
theorem u1 {A:Around} (h:A.units+64 < cLine):A.units+1 < cLine:=by lia
theorem cg {P:Program} {w:World} {K:PySem.W.Frag} {mg:Str→Option Value} {base:Heap} {CX:CXT} {k:Nat} {f:Addr} {fd:FuncData} {ps:List Str} {sp:Sp} (h:∀ vs H Q E,¬ sp vs H Q E):FnOk P w K mg base CX k f fd ps sp :=
 ⟨fun vs H Q E z=>(h vs H Q E z).elim,fun A outer s H args us vs Q E hr e0 hb r z=>(h vs H Q E z).elim⟩
theorem sI {a:Int} {m:Nat} (h0:0≤a) (h:a < 2 ^ m):Builtin.Int.intBits a≤m:=by
 refine intBits_le_iff.mpr ?_;have e:((a.natAbs:Nat):Int)=a:=Int.natAbs_of_nonneg h0;have h':((a.natAbs:Nat):Int) < ((2 ^ m:Nat):Int):=by rw [e];simpa using h
 exact Int.ofNat_lt.mp h'
section
variable {X:Cx}
theorem c7:OpR X (binaryOp .FloorDiv) (rI (fun _ j=>0 < j∧j < 10000000000000000000000000000000000000000000000000000000000000) fun i j=>.int (i / j)):=opI fun i j _ _ _ _ _ hc q=>by
 have h1:(0:Int) < j:=hc.1;have h2:j < 10000000000000000000000000000000000000000000000000000000000000:=hc.2;refine floordiv_int (by lia) (by rw [Int.fdiv_eq_ediv_of_nonneg i (by lia)];exact q) (.inl (PyProof.noPylong_of_log2 ?_));have h3:j.natAbs < 2 ^ 9000:=Nat.lt_of_lt_of_le (show j.natAbs < 10000000000000000000000000000000000000000000000000000000000000 by lia) (by decide +kernel);exact (Nat.log2_lt (by lia)).mpr h3
theorem mt_starts:MtM X "str.startswith" (fun x vs H Q=>∃ y z,x=.str y∧vs=[.str z]∧Q (.bl (Txt.startswith y z)) H):=by
 intro pins s σ H x vs v us Q I rx rv h;obtain ⟨y,z,rfl,rfl,q⟩:=h;obtain ⟨t,rfl⟩:=rx;obtain ⟨u,rfl,t',rfl⟩:=rv.one;exact SC.startswith ⟨.bl _,H,I,rfl,q⟩
theorem call_int_text:aW X (.type "int") (fun xs H Q=>∃ z n,xs=[.str z]∧PySem.intText? z=some n∧z.length≤640∧Q (.int n) H):=by
 intro pins s σ H xs us Q I r h;obtain ⟨z,n,rfl,hn,hl,q⟩:=h;obtain ⟨u,rfl,t,rfl⟩:=ce r;exact PySem.W.KIN.call_text hn hl ⟨.int n,H,I.tok _,⟨_,rfl⟩,q⟩
inductive ICatS (K:PySem.W.Frag) (x y:V) (H:Hp) (Q:VK):Prop
 | mk (l b:Addr) (xs zs:List V):(x=.ref l)→(y=.ref b)→(SqL K H l xs)→(SqL K H b zs)→(xs.length+zs.length≤sizeLine)→(∀ p,H p=none→Q (.ref p) (upd H p (.lst (xs++zs))))→ICatS K x y H Q
def t7 (K:PySem.W.Frag):R2:=fun x y H Q=>ICatS K x y H Q
theorem sJ:OpR X (binaryOp .Add) (t7 X.K):=by
 intro pins s σ H x y v u Q I rx ry h;obtain ⟨l,b,xs,zs,rfl,rfl,hH,hB,hz,q⟩:=h
 cases rx
 cases ry
 obtain ⟨its,r,pl,z⟩:=I.list hH;obtain ⟨its2,r2,pl2,z2⟩:=I.list hB;obtain ⟨⟨cls,dd,data,sl⟩,ho,hc,n,hd⟩:=pl.isList;obtain ⟨⟨cls2,dd2,data2,sl2⟩,ho2,hc2,n2,hd2⟩:=pl2.isList;simp only at hc hd hc2 hd2;subst hc hd hc2 hd2;have l1:=r.length;have l2:=r2.length;have ea:its.toArray++its2.toArray=(its++its2).toArray:=by simp
 refine concat_meets ⟨_,ho,rfl⟩ ⟨_,ho2,rfl⟩ noFill_list_add seq_list_add PySem.F.slot_list_add PySem.F.entry_list_add (PySem.F.args_list_add_2 _ _) (list_addW l b its.toArray its2.toArray n n2 dd dd2 sl sl2 (by simp only [List.size_toArray];lia)) ⟨ho,ho2,?_⟩;rw [ea];exact ⟨.ref _,_,I.lnew (t':=s.toks) (r.append r2) (by rw [List.length_append];lia),rfl,q _ I.fresh⟩
end
open PySem.NumText
def dg (m:Nat):List Nat:=(Nat.toDigits 10 m).map Char.toNat
theorem qG:∀ d:Nat,d < 10→(Nat.digitChar d).toNat=48+d:=by decide
theorem c8 {m:Nat} (h:m < 10):dg m=[48+m]:=by
 unfold dg;rw [Nat.toDigits_of_lt_base h];show [(Nat.digitChar m).toNat]=_;rw [qG m h]
theorem n8 {m:Nat} (h:10≤m):dg m=dg (m / 10)++[48+m % 10]:=by
 have hm:m % 10 < 10:=Nat.mod_lt m (by decide);have t:Nat.toDigits 10 (m / 10)++Nat.toDigits 10 (m % 10)=Nat.toDigits 10 (10*(m / 10)+m % 10):=Nat.toDigits_append_toDigits (by decide) (by lia) hm;rw [Nat.div_add_mod] at t;unfold dg;rw [← t,List.map_append]
 congr 1
 exact c8 hm
theorem ft (m:Nat):AllDigits (dg m):=by
 intro c hc;obtain ⟨ch,hch,e⟩:=List.mem_map.mp hc;rw [← e];exact digit_range (Nat.isDigit_of_mem_toDigits (by decide) (by decide) hch)
theorem uc (m:Nat):dg m≠[]:=by
 intro e;have h:=toDigits_len_ge 10 m;rw [List.map_eq_nil_iff.mp e] at h;exact absurd h (by decide)
theorem qH (m:Nat):digitsVal (dg m)=m:=PySem.W.KIN.val_back m
theorem n9:∀ (m:Nat),0 < m→∃ c r,dg m=c :: r∧49≤c:=by
 intro m
 induction m using Nat.strongRecOn with
 | _ m ih =>
  intro h
  by_cases h1:m < 10
  ·exact ⟨48+m,[],c8 h1,by lia⟩
  ·obtain ⟨c,r,e,hc⟩:=ih (m / 10) (by lia) (by lia);exact ⟨c,r++[48+m % 10],by rw [n8 (by lia),e];rfl,hc⟩
theorem mI:∀ (k m:Nat),m < 10 ^ (k+1)→(dg m).length≤k+1
 | 0,m,h=>by rw [c8 (by simpa using h)];exact Nat.le_refl 1
 | k+1,m,h=>by
  by_cases h1:m < 10
  ·rw [c8 h1];exact Nat.succ_le_succ (Nat.zero_le _)
  ·rw [n8 (by lia),List.length_append,List.length_singleton];have:m / 10 < 10 ^ (k+1):=by
    rw [Nat.pow_succ] at h;exact Nat.div_lt_of_lt_mul (by rw [Nat.mul_comm];exact h)
   have:=mI k (m / 10) this;lia
def strI (n:Int):List Nat:=if n < 0 then 45 :: dg n.natAbs else dg n.natAbs
theorem str_int (n:Int):(Str.ofString (toString n)).cps.toList=strI n:=by
 rw [signs_ofString]
 cases n with
 | ofNat m =>
  have:¬ (Int.ofNat m < 0):=by simp
  unfold strI;rw [if_neg this];show (Nat.repr m).toList.map Char.toNat=_;rw [Nat.toList_repr]
  rfl
 | negSucc m =>
  have:Int.negSucc m < 0:=Int.negSucc_lt_zero m;unfold strI;rw [if_pos this];show ("-" ++Nat.repr (m+1)).toList.map Char.toNat=_;rw [String.toList_append,List.map_append,Nat.toList_repr]
  rfl
theorem jt {x y:Str} (h:x.cps.toList=y.cps.toList):x=y:=by
 obtain ⟨a⟩:=x;obtain ⟨b⟩:=y
 congr 1
 exact Array.toList_inj.mp h
theorem gK (z:Str) (c:Nat):Txt.startswith z ⟨#[c]⟩=decide (z.cps.toList.head?=some c):=by
 obtain ⟨⟨l⟩⟩:=z
 cases l with
 | nil=>rfl
 | cons d r =>
  rw [Bool.eq_iff_iff,decide_eq_true_iff];simp [Txt.startswith,Builtin.Str.subAt,Str.length]
theorem mJ {z:Str} (h:1≤z.length):Txt.slice z (some 1) none=⟨(z.cps.toList.drop 1).toArray⟩:=by
 have e:=slice_from_eq (x:=z) (i:=1) (b:=z.length) (by decide) (by lia) rfl;rw [e];apply jt;show ((z.cps.toList.drop 1).take ((z.length:Int) - 1).toNat)=z.cps.toList.drop 1;apply List.take_of_length_le;have:z.cps.toList.length=z.length:=Array.length_toList;rw [List.length_drop];lia
end L2
namespace L2
open PySem PySem.Spec PyProof.Rows
section
variable {X:Cx} {pins:List (Addr×Obj)} {σ:St} {H:Hp} {s:Shared} {h':Heap}
theorem Inv.turnedT {t':Nat} {wr:List Addr} {T:Addr} {o:HO} (I:Inv X pins σ H s) (k:∀ b u,b∉wr→s.heap.get? b=some u→h'.get? b=some u) (f:∀ b∈wr,dW X pins H b)
  (hT:s.heap.objs.size≤T) (new:ObjOk X.prog X.w (upd H T o) h' T o):Inv X pins σ (upd H T o) { s with heap:=h',toks:=t' }:=by
 have nT:∀ b u,s.heap.get? b=some u→b≠T:=fun b u e z=>absurd (Nat.lt_of_lt_of_le (Heap.lt_size e) (z ▸ hT)) (Nat.lt_irrefl _);have nH:∀ b u,H b=some u→b≠T:=fun b u e z=>absurd (Nat.lt_of_lt_of_le (I.hok.lt e) (z ▸ hT)) (Nat.lt_irrefl _);have nw:∀ b u,H b=some u→b∉wr:=fun b u e z=>by rw [(f b z).1] at e;cases e
 refine I.step (g':=s.gens) (d':=s.drawn) (ch:=wr) (fun b hb=>?_) (fun b u _ _ hc e _=>k b u hc e) (fun b u _ _ hc e _=>⟨u.slots,k b u hc e⟩) (fun b u _ e n=>by rw [ah (nT b u e)];exact n)
  (fun b u hc e=>⟨u,k b u hc e⟩) (fun b xs e=>by rw [ah (nH b _ e)];exact e) (fun b u v e=>by rw [ah (nH b _ e)];exact e) (fun b ps e=>⟨#[],by rw [ah (nH b _ e),e];simp⟩) (fun m hm=>?_) (fun b u e=>?_) I.bare
 ·obtain ⟨f0,f1,f2,f3,f4,f5⟩:=f b hb;exact ⟨f3,f1,f4,f5⟩
 ·obtain ⟨u,es,ep,ho,r⟩:=hm;exact ⟨u,es,ep,k _ u (fun z=>(f _ z).2.1 rfl) ho,r⟩
 ·by_cases hb:b=T
  ·subst hb;rw [ac] at e
   cases e
   exact new
  ·rw [ah hb] at e;refine (I.hok b u e).stay (fun c v hc q=>k c v ?_ q) (fun c q=>?_) fun c xs q=>by rw [ah (nH c _ q)];exact q
   ·rcases hc with z | z
    ·rw [z];exact nw b u e
    ·exact nw c _ z
   ·rw [ah (nH c _ q)];exact q
theorem Inv.turnedL {t':Nat} {wr:List Addr} (I:Inv X pins σ H s) (k:∀ b u,b∉wr→s.heap.get? b=some u→h'.get? b=some u) (f:∀ b∈wr,dW X pins H b):Inv X pins σ H { s with heap:=h',toks:=t' }:=by
 have nw:∀ b u,H b=some u→b∉wr:=fun b u e z=>by rw [(f b z).1] at e;cases e
 refine I.step (g':=s.gens) (d':=s.drawn) (ch:=wr) (fun b hb=>?_) (fun b u _ _ hc e _=>k b u hc e) (fun b u _ _ hc e _=>⟨u.slots,k b u hc e⟩) (fun _ _ _ _ n=>n)
  (fun b u hc e=>⟨u,k b u hc e⟩) (fun _ _ e=>e) (fun _ _ _ e=>e) (fun b ps e=>⟨#[],by rw [e];simp⟩) (fun m hm=>?_) (fun b u e=>?_) I.bare
 ·obtain ⟨f0,f1,f2,f3,f4,f5⟩:=f b hb;exact ⟨f3,f1,f4,f5⟩
 ·obtain ⟨u,es,ep,ho,r⟩:=hm;exact ⟨u,es,ep,k _ u (fun z=>(f _ z).2.1 rfl) ho,r⟩
 ·refine (I.hok b u e).stay (fun c v hc q=>k c v ?_ q) (fun _ q=>q) fun _ _ q=>q;rcases hc with z | z
  ·rw [z];exact nw b u e
  ·exact nw c _ z
end
def Itz (K:PySem.W.Frag) (a b:Addr):It :=
 ⟨fun i H=>∃ xs ys x y,SqL K H a xs∧SqL K H b ys∧xs[i]?=some x∧ys[i]?=some y,
  fun i H v H'=>∃ T x y,v=.ref T∧H T=none∧H'=upd H T (.tup [x,y])∧(∀ xs,SqL K H a xs→xs[i]?=some x)∧(∀ ys,SqL K H b ys→ys[i]?=some y),
  fun i H=>∃ xs ys,SqL K H a xs∧SqL K H b ys∧min xs.length ys.length=i⟩
def wj (z TI TO i1 i2 l1 l2:Addr) (i:Nat) (h:Heap):Prop:=IsZip h z TI TO .none∧IsPair h TI (.ref i1) (.ref i2)∧(∃ a b,IsPair h TO a b)∧h.IsListIter i1 l1 i∧h.IsListIter i2 l2 i
theorem qI {P:Program} {w:World} {K:PySem.W.Frag} {elts:List Expr} {k:Nat} {pos:Pos} (z TI TO i1 i2 l1 l2:Addr) (D:ZipApart z TI TO i1 i2 l1 l2) :
  Turn P w K (.Tuple elts k pos) (Itz K l1 l2) [z,TI,TO,i1,i2] z (wj z TI TO i1 i2 l1 l2) where
 mem:=by simp
 obj:=fun i h st b hb=>by
  obtain ⟨hz,hTI,⟨a,c,hTO⟩,⟨o1,e1,c1,d1⟩,⟨o2,e2,c2,d2⟩⟩:=st;simp only [List.mem_cons,List.not_mem_nil,or_false] at hb;rcases hb with rfl | rfl | rfl | rfl | rfl
  ·exact ⟨_,hz,fun v q=>by cases q⟩
  ·exact ⟨_,hTI,fun v q=>by cases q⟩
  ·exact ⟨_,hTO,fun v q=>by cases q⟩
  ·exact ⟨o1,e1,fun v q=>by rw [d1] at q;cases q⟩
  ·exact ⟨o2,e2,fun v q=>by rw [d2] at q;cases q⟩
 keep:=fun i h h' st kk=>by
  obtain ⟨hz,hTI,⟨a,c,hTO⟩,h1,h2⟩:=st;exact ⟨kk z (by simp) _ hz,kk TI (by simp) _ hTI,⟨a,c,kk TO (by simp) _ hTO⟩,h1.at fun o e=>kk i1 (by simp) o e,h2.at fun o e=>kk i2 (by simp) o e⟩
 item:=by
  intro X hP hw hK hc i pins s σ H E I hf st hg;subst hP hw hK;obtain ⟨xs,ys,x,y,hx,hy,ex,ey⟩:=hg;obtain ⟨its,rv,p,hz⟩:=I.list hx;obtain ⟨its2,rv2,p2,hz2⟩:=I.list hy;obtain ⟨s1,s2,s3,s4,s5⟩:=st;have W:=WalksT.zip2 (prog:=X.prog) (w:=X.w) (I.ok.hd hc) z TI TO i1 i2 l1 l2 D its.toArray its2.toArray;have li:i < xs.length:=(List.getElem?_eq_some_iff.mp ex).1;have li2:i < ys.length:=(List.getElem?_eq_some_iff.mp ey).1;have el:=rv.length;have el2:=rv2.length;have wsub:∀ b∈[z,TO,i1,i2],b∈[z,TI,TO,i1,i2]:=fun b hb=>by
   simp only [List.mem_cons,List.not_mem_nil,or_false] at hb ⊢;rcases hb with rfl | rfl | rfl | rfl <;> simp
  refine W.item i s _ _ (by simp only [List.size_toArray];lia) ⟨s1,s2,s3,s4,s5,p.isList,p2.isList⟩ fun T vals h' tk hv hT hTup hm hk=>?_;obtain ⟨u,v,eu,ev,rfl⟩:=hv;obtain ⟨u',eu',ru⟩:=rv.get ex;obtain ⟨v',ev',rv'⟩:=rv2.get ey;have e1:u=u':=by
   have:its[i]?=some u:=by simpa using eu
   rw [eu'] at this;exact (Option.some.inj this).symm
  have e2:v=v':=by
   have:its2[i]?=some v:=by simpa using ev
   rw [ev'] at this;exact (Option.some.inj this).symm
  subst e1 e2;have hTn:H T=none:=I.hok.fresh hT;have I1:Inv X pins σ (upd H T (.tup [x,y])) { s with heap:=h',toks:=tk }:=I.turnedT hk (fun b hb=>hf b (wsub b hb)) hT ⟨by show 2≤sizeLine;decide,[u,v],.cons ru (.cons rv' .nil),hTup⟩;have ap:=W.apart i T h' hm;have f1:∀ b∈[z,TO,i1,i2],dW X pins (upd H T (.tup [x,y])) b:=fun b hb=>by
   obtain ⟨f0,f1⟩:=hf b (wsub b hb);exact ⟨by rw [ah (fun e:b=T=>ap (by rw [← e];exact hb))];exact f0,f1⟩
  refine ⟨_,rfl,W.go elts k pos i T _ _ _ hm fun h'' st2 hk2=>?_⟩;obtain ⟨t1,t2,t3,t4,t5,_,_⟩:=st2;refine ⟨.ref T,_,Inv.turnedL (s:={ s with heap:=h',toks:=tk }) (t':=tk) I1 hk2 f1,rfl,⟨T,x,y,rfl,hTn,rfl,fun zs q=>by rw [I.list_inj q hx];exact ex,fun zs q=>by rw [I.list_inj q hy];exact ey⟩,⟨t1,t2,t3,t4,t5⟩,fun b hb=>?_⟩;have fb:=(hf b hb).1
  by_cases e:b=T
  ·subst e;have lti:s.heap.objs.size > TI:=Heap.lt_size s2;simp only [List.mem_cons,List.not_mem_nil,or_false] at hb;rcases hb with rfl | rfl | rfl | rfl | rfl
   ·exact absurd (by simp) ap
   ·exact absurd lti (Nat.not_lt.mpr hT)
   ·exact absurd (by simp) ap
   ·exact absurd (by simp) ap
   ·exact absurd (by simp) ap
  ·rw [ah e];exact fb
 done:=by
  intro X hP hw hK hc i pins s σ H E I hf st hg;subst hP hw hK;obtain ⟨xs,ys,hx,hy,hi⟩:=hg;obtain ⟨its,rv,p,hz⟩:=I.list hx;obtain ⟨its2,rv2,p2,hz2⟩:=I.list hy;obtain ⟨s1,s2,s3,s4,s5⟩:=st;have W:=WalksT.zip2 (prog:=X.prog) (w:=X.w) (I.ok.hd hc) z TI TO i1 i2 l1 l2 D its.toArray its2.toArray;have el:=rv.length;have el2:=rv2.length;have en:min its.toArray.size its2.toArray.size=i:=by simp only [List.size_toArray];lia
  have wsub:∀ b∈[z,TO,i1,i2],b∈[z,TI,TO,i1,i2]:=fun b hb=>by
   simp only [List.mem_cons,List.not_mem_nil,or_false] at hb ⊢;rcases hb with rfl | rfl | rfl | rfl <;> simp
  refine W.done s _ _ ?_ fun h' tk hk=>⟨rfl,I.turnedL hk fun b hb=>hf b (wsub b hb)⟩;rw [en];exact ⟨s1,s2,s3,s4,s5,p.isList,p2.isList⟩
 self:=fun _ _ _ _ _ st h=>wpAny_pyIter_zip st.1 h
section
variable {X:Cx} {elts:List Expr} {k:Nat} {tpos:Pos}
def w4 (K:PySem.W.Frag) (ta:TA):TI:=fun σ H R=>ta σ H fun vs H1=>∃ a b,vs=[.ref a,.ref b]∧(∃ xs,SqL K H1 a xs)∧(∃ ys,SqL K H1 b ys)∧R (Itz K a b) H1
theorem uU {a b:Expr} {ta:TA} {p pos:Pos} (hg:Gl X "zip") (hm:X.mg "zip" = none) (ha:PA X [a,b] ta) (hs:starEach [a,b] X.env=[(false,eval a X.env),(false,eval b X.env)]:=by rfl) (hs2:starEach [b] X.env=[(false,eval b X.env)]:=by rfl) :
  PI X (.Tuple elts k tpos) (.Call (.Name "zip" p) [a,b] [] pos) (w4 X.K ta):=by
 intro pins s σ H R I h;refine Call_ (bG I hg hm boot_zip (PyProof.Rows.callWith_type1 (thn (ha pos pins s σ H _ I h) fun us s1 ⟨vs,H1,I1,r1,q1⟩=>?_) (by rw [hs,hs2]) (by rw [hs2];rfl)));obtain ⟨l1,l2,e,⟨xs,hx⟩,⟨ys,hy⟩,q⟩:=q1;subst e;obtain ⟨u,v,rfl,ru,rv⟩:=r1.two
 cases ru
 cases rv
 obtain ⟨its,rr,pl,hz⟩:=I1.list hx;obtain ⟨its2,rr2,pl2,hz2⟩:=I1.list hy;have lt1:l1 < s1.heap.objs.size:=by obtain ⟨o,e,_⟩:=pl.isList;exact Heap.lt_size e
 have lt2:l2 < s1.heap.objs.size:=by obtain ⟨o,e,_⟩:=pl2.isList;exact Heap.lt_size e
 refine call_zip_2 pl.isList pl2.isList fun h' z1 z2 z3 z4 z5 zs kk=>?_;have I2:Inv X pins σ H1 { s1 with heap:=h' }:=I1.kept (t':=s1.toks) kk;refine wpAny_pyIter_zip z1 ?_;refine ⟨_,_,_,_,H1,rfl,I2,qI _ _ _ _ _ l1 l2 ?_,⟨z1,z2,⟨_,_,z3⟩,z4,z5⟩,fun b hb=>?_,q⟩
 ·have lt1':s1.heap.objs.size > l1:=lt1;have lt2':s1.heap.objs.size > l2:=lt2
  constructor <;> (show ¬ (@Eq Nat _ _)) <;> lia
 ·have:s1.heap.objs.size≤b:=by
   simp only [List.mem_cons,List.not_mem_nil,or_false] at hb;rcases hb with rfl | rfl | rfl | rfl | rfl <;> lia
  exact I1.fpOk this (I1.hok.fresh this)
end
theorem qJ {K:PySem.W.Frag} {a b l:Addr} {xs ys:List V} {g:TG} {tb:List V→Addr→St→Hp→(List V→St→Hp→Prop)→Prop} {Q:VK} {σ0:St} {H0:Hp} (Pv:Nat→List V→St→Hp→Prop) (h0:Pv 0 [] σ0 H0)
  (hla:∀ i us σ H,Pv i us σ H→SqL K H a xs∧SqL K H b ys)
  (hs:∀ i x y T us σ H (N:List V→St→Hp→Prop),xs[i]?=some x→ys[i]?=some y→H T=none→Pv i us σ H→(∀ us' σ' H',Pv (i+1) us' σ' H'→N us' σ' H')→g (.ref T) σ (upd H T (.tup [x,y])) fun σ2 H2=>tb us l σ2 H2 N)
  (hd:∀ us σ H,Pv (min xs.length ys.length) us σ H→Q (.ref l) H) :
  ∃ W:Nat→Nat→List V→St→Hp→Prop,(∃ m,W 0 m [] σ0 H0)∧∀ i m us σ' H',W i m us σ' H'→((Itz K a b).stop i H'∧Q (.ref l) H') ∨
   ((Itz K a b).go i H'∧∀ x H'',(Itz K a b).yld i H' x H''→g x σ' H'' fun σ2 H2=>tb us l σ2 H2 fun us' σ3 H3=>∃ m',m' < m∧W (i+1) m' us' σ3 H3):=by
 refine ⟨fun i m us σ H=>m=min xs.length ys.length - i∧i≤min xs.length ys.length∧Pv i us σ H,⟨_,rfl,Nat.zero_le _,h0⟩,?_⟩;rintro i m us σ H ⟨rfl,hi,p⟩;obtain ⟨sa,sb⟩:=hla i us σ H p
 by_cases hlt:i < min xs.length ys.length
 ·obtain ⟨x,ex⟩:∃ x,xs[i]?=some x:=⟨_,List.getElem?_eq_getElem (by lia)⟩;obtain ⟨y,ey⟩:∃ y,ys[i]?=some y:=⟨_,List.getElem?_eq_getElem (by lia)⟩;refine .inr ⟨⟨xs,ys,x,y,sa,sb,ex,ey⟩,fun v H' q=>?_⟩;obtain ⟨T,x',y',rfl,hT,rfl,q1,q2⟩:=q;have e1:=q1 xs sa;have e2:=q2 ys sb;exact hs i x' y' T us σ H _ e1 e2 hT p fun us' σ' H' w=>⟨_,by lia,rfl,hlt,w⟩
 ·have e:i=min xs.length ys.length:=by lia
  subst e;exact .inl ⟨⟨xs,ys,sa,sb,rfl⟩,hd us σ H p⟩
def met:List Key→List Key
 | []=>[]
 | k :: r=>if r.any (fun j=>decide (j=k)) then met r else k :: met r
theorem ju (k:Key):∀ l:List Key,(met l).any (fun j=>decide (j=k))=l.any (fun j=>decide (j=k))
 | []=>rfl
 | a :: r=>by
  unfold met
  split
  ·rename_i h
   rw [ju k r,List.any_cons]
   by_cases e:a=k
   ·subst e;rw [h];simp
   ·simp [e]
  ·rw [List.any_cons,List.any_cons,ju k r]
theorem qK:∀ l:List Key,(met l).length≤l.length
 | []=>Nat.le_refl _
 | a :: r=>by
  unfold met;have:=qK r
  split
  ·rw [List.length_cons];lia
  ·rw [List.length_cons,List.length_cons];lia
theorem og:∀ {l:List Key},l.Nodup→(met l).length=l.length
 | [],_=>rfl
 | a :: r,h=>by
  obtain ⟨h1,h2⟩:=List.nodup_cons.mp h;unfold met;rw [if_neg,List.length_cons,List.length_cons,og h2];intro z;obtain ⟨b,hb,e⟩:=List.any_eq_true.mp z;exact h1 (of_decide_eq_true e ▸ hb)
abbrev fu (ks:List Key) (i:Nat):List Key:=met (ks.take i).reverse
theorem iU {ks:List Key} {i:Nat} {k:Key} (h:ks[i]?=some k):fu ks (i+1)=if (fu ks i).any (fun j=>decide (j=k)) then fu ks i else k :: fu ks i:=by
 have e:(ks.take (i+1)).reverse=k :: (ks.take i).reverse:=by rw [List.take_add_one,h];simp
 show met (ks.take (i+1)).reverse=_;rw [e];show (if (ks.take i).reverse.any (fun j=>decide (j=k)) then met (ks.take i).reverse else k :: met (ks.take i).reverse)=_;rw [← ju k (ks.take i).reverse]
theorem sK (ks:List Key) (i:Nat):(fu ks i).length≤i:=by
 have h:=qK (ks.take i).reverse;rw [List.length_reverse,List.length_take] at h;show (met (ks.take i).reverse).length≤i;lia
section
variable {P:Program} {w:World} {A:Around} {R:Result→Shared→Prop} {it:Addr} {fp wr:List Addr} {G:Array GenState→Array GenState→Prop} {n:Nat} {Pt:Nat→Value→Prop} {St:Nat→Shared→Prop}
abbrev SetK (P:Program) (w:World) (h:Heap) (a:Addr) (l:List Key):Prop:=h.SetOf (ao P w) a (fun k=>l.any fun j=>decide (j=k)) l.length
theorem SetK.kept {h h':Heap} {a:Addr} {l:List Key} (x:SetK P w h a l) (k:∀ o,h.get? a=some o→h'.get? a=some o):SetK P w h' a l:=by
 obtain ⟨o,es,ep,tb,ho,rest⟩:=x;exact ⟨o,es,ep,tb,k o ho,rest⟩
theorem qL {h:Heap} {a:Addr} {S S':Key→Bool} {n n':Nat} (x:h.SetOf (ao P w) a S n) (e:∀ k,S k=S' k) (en:n=n'):h.SetOf (ao P w) a S' n':=by
 cases en
 cases (funext e:S=S')
 exact x
theorem qM (W:WalksS P w A.in1 it fp wr G n Pt St) (S:Addr) (hS0:S∉fp) (ks:List Key) (hks:ks.length=n) (hv:∀ i v,Pt i v→∃ k,ks[i]?=some k∧(ao P w).is k v=true∧v.scannable=true) (hn:n+1 < scanBound) :
  ∀ (d i:Nat) (s:Shared),n - i=d→i≤n→St i s→SetK P w s.heap S (fu ks i) →
   (∀ s',Moved (S :: wr) G s s'→SetK P w s'.heap S (fu ks n)→R (.ok (.ret .none)) s')→codeAny (model P w) A (.builtin "set.update.loop" ⟨[.ref S,.ref it],[]⟩) R s:=by
 have nw:S∉wr:=fun z=>hS0 (W.sub _ z);have up:∀ b∈wr,b∈S :: wr:=fun b z=>List.mem_cons_of_mem _ z;intro d
 induction d with
 | zero =>
  intro i s e1 e2 st hS hR;obtain rfl:i=n:=by lia
  refine codeAny_builtin PyProof.Rows.F.entry_set_update_loop (by
   rw [Around.under_plainId PyProof.Rows.F.plain_set_update_loop _];show wpAny _ A.in1 (pyNext (.ref it) >>= _) _ _ s;refine wpAny_bind (W.done s _ _ st fun s' mv=>?_);exact wpAny_pure (hR s' (mv.mono up) (hS.kept fun o q=>mv.heap S o nw q)))
 | succ d ih =>
  intro i s e1 e2 st hS hR;have lt:i < n:=by lia
  refine codeAny_builtin PyProof.Rows.F.entry_set_update_loop (by
   rw [Around.under_plainId PyProof.Rows.F.plain_set_update_loop _];show wpAny _ A.in1 (pyNext (.ref it) >>= _) _ _ s;refine wpAny_bind (W.item i s _ _ lt st fun v s' pv st' mv=>?_);obtain ⟨k,ek,kv,sc⟩:=hv i v pv;have hS':=hS.kept (h':=s'.heap) fun o q=>mv.heap S o nw q;show wpAny _ A.in1 (holding [v] (setAdd S v) >>= _) _ _ s';refine wpAny_bind (wpAny_holding (by
    unfold setAdd;refine wpAny_holding (wpAny_bind ((ao P w).pyHash kv ?_));have room:(fu ks i).length+1 < scanBound:=by have:=sK ks i;lia
    refine wpAny_setAddHashed_of (knd:=ao P w) (s:={ s' with toks:=s'.toks+1 }) kv sc hS' room fun h2 sb hS2=>?_;have hS3:SetK P w h2 S (fu ks (i+1)):=by
     refine qL hS2 (fun j=>?_) ?_
     ·rw [iU ek]
      split
      ·rename_i c
       by_cases z:j=k
       ·subst z;rw [c];simp
       ·simp [z]
      ·rw [List.any_cons,Bool.or_comm]
       congr 1
       exact decide_eq_decide.mpr eq_comm
     ·rw [iU ek]
      split <;> rfl
    refine wpAny_pure ⟨plainId_quiet PyProof.Rows.F.plain_set_update_loop _,ih (i+1) _ (by lia) lt (W.frame _ s' _ _ st' (Nat.le_succ _) fun b hb o q=>?_) hS3 fun s3 mv3 hS4=>?_⟩
    ·rw [sb.2 b (fun z:b=S=>hS0 (by rw [← z];exact hb))];exact q
    ·refine hR s3 (Moved.trans W.gtrans ((mv.mono up).then_heap (Nat.le_succ _) fun b o hb q=>?_) mv3) hS4;rw [sb.2 b (fun z:b=S=>hb (by rw [z];exact List.mem_cons_self))];exact q)))
theorem il:isSubtype (.type "tuple") (.type "set")=pure false:=cL _ _
theorem dJ:isSubtype (.type "tuple") (.type "frozenset")=pure false:=cL _ _
end
section
variable {P:Program} {w:World} {A:Around} {E:Value→Shared→Prop} {s:Shared}
def jv (b:Bool):Obj:={ cls:=.type "set",dict:=none,data:=.set #[] 0 (.fresh 0 0 b) }
set_option maxHeartbeats 3200000 in
theorem jw {t:Addr} {its:Array Value} {ks:List Key} {Q:Value→Shared→Prop} (hh:A.handled=none) (ht:s.heap.IsTuple t its) (hl:ks.length=its.size) (hv:∀ (i:Nat) v,its[i]?=some v→∃ k,ks[i]?=some k∧(ao P w).is k v=true∧v.scannable=true)
  (hn:its.size+1 < scanBound) (h:∀ (h':Heap) (tk:Nat),SetK P w h' s.heap.objs.size (fu ks its.size)→(∀ b o,s.heap.get? b=some o→h'.get? b=some o)→Q (.ref s.heap.objs.size) { s with heap:=h',toks:=tk }) :
  wpAny (model P w) A (call (.type "set") [.ref t]) Q E s:=by
 obtain ⟨c0,tl,hmro⟩:=PySem.F.called_set.mro;have k1:=PySem.F.called_set.made;have k2:=PySem.F.called_set.sub;refine wpAny_call (codeAny_of_tree (by
  show wpAny _ _ (callAny (.type "set") _) _ _ _;refine wpAny_pure ⟨Code.quiet_builtin _ (by decide +kernel),codeAny_builtin PySem.F.entry_type_call ?_⟩;rw [Around.under_plain (weight_type_call_type "set" [.ref t] []) rfl];have k3:=PySem.F.called_set.notType;have k4:=PySem.F.called_set.canCreate;have k5:=PySem.F.typeCall_set_1 (.ref t)
  repeat (any_goals (first | assumption | wp_step))
  refine codeAny_mono (code_set_new_1 (.ref t) (E:=E) (Q₁:=fun ob s1=>∃ b:Bool,ob=.ref s.heap.objs.size∧s1={ s with heap:=s.heap.push (jv b) }) fun b=>⟨b,rfl,rfl⟩) fun r s1 hr=>?_
  cases r with
  | error e=>exact hr
  | ok fl =>
   cases fl with
   | ret ob =>
    obtain ⟨b,rfl,rfl⟩:=hr;have g1:(s.heap.push (jv b)).get? s.heap.objs.size=some (jv b):=Heap.get?_push_size _ rfl;have tS:Shared.TypeIs { s with heap:=s.heap.push (jv b) } (.ref s.heap.objs.size) "set" :=⟨_,g1,rfl⟩;have k6:=PySem.F.called_set.init.lookup;have k7:=PySem.F.called_set.init.bind (.ref s.heap.objs.size)
    repeat (any_goals (first | assumption | wp_step))
    refine codeAny_mono (codeAny_call_builtin (R:=wants (fun r s2=>r=.none∧∃ h' tk,s2={ s with heap:=h',toks:=tk }∧SetK P w h' s.heap.objs.size (fu ks its.size)∧(∀ b o,s.heap.get? b=some o→h'.get? b=some o)) E)
     PySem.F.called_set.init.plain PySem.F.entry_set_init (check_set_init_1 tS ?_)) fun r2 s2 hr2=>?_
    ·obtain ⟨⟨oc,od,oa,osl⟩,ho,hcl,nl,hdt⟩:=id ht;simp only at hcl hdt;subst hcl hdt;have ht1:(s.heap.push (jv b)).IsTuple t its:=⟨_,Heap.get?_push_of_some _ ho,rfl,nl,rfl⟩;have ho1:(s.heap.push (jv b)).get? t=some { cls:=.type "tuple",dict:=od,data:=.seq its nl,slots:=osl }:=Heap.get?_push_of_some _ ho;have k8:=il;have k9:=dJ;have ka:(Value.type "tuple" == Value.type "dict")=false:=by decide
     unfold Builtin.«set.__init__» noKeywords Builtin.Frozenset.updateFrom
     generalize hPI:pyIter=PI
     wp_walk
     subst hPI;refine wpAny_pyIter_tuple ht1 ?_;refine wpAny_bind (wpAny_runValue ?_);have lt:s.heap.objs.size > t:=Heap.lt_size ho;have hh3:A.in1.in1.in1.handled=none:=by simp [hh]
     have sz:(s.heap.push (jv b)).objs.size=s.heap.objs.size+1:=Heap.size_push ..;have ne1:t≠(s.heap.push (jv b)).objs.size:=by rw [sz];exact Nat.ne_of_lt (Nat.lt_succ_of_lt lt)
     have nS:s.heap.objs.size∉[(s.heap.push (jv b)).objs.size,t]:=by
      rw [sz];intro z;rcases List.mem_cons.mp z with z | z
      ·exact absurd z (Nat.ne_of_lt (Nat.lt_succ_self _))
      ·exact absurd (List.mem_singleton.mp z) (Nat.ne_of_gt lt)
     refine qM ((Walks.tuple hh3 _ t ne1 its).toS) s.heap.objs.size nS ks hl hv hn (its.size - 0) 0 _ rfl (Nat.zero_le _) ⟨⟨_,Heap.get?_push_size _ rfl,rfl,rfl⟩,ht1.push _⟩ ?_ ?_
     ·exact ⟨_,#[],0,_,Heap.get?_push_of_some _ g1,⟨rfl,rfl,rfl⟩,rfl,(fun e he=>by simp at he),(fun k=>⟨fun z=>Bool.noConfusion (show false=true from z),fun ⟨e,he,_⟩=>(List.not_mem_nil he).elim⟩),by decide,rfl,rfl⟩
     ·intro s3 mv hS3;obtain ⟨h3,g3,d3,t3,o3⟩:=s3
      cases (mv.gens:g3=s.gens)
      cases (mv.drawn:d3=s.drawn)
      cases (mv.os:o3=s.os)
      refine wpAny_pure (wpAny_pure ⟨rfl,h3,t3,rfl,hS3,fun c o q=>?_⟩);have lc:s.heap.objs.size > c:=Heap.lt_size q;refine mv.heap c o ?_ (Heap.get?_push_of_some _ (Heap.get?_push_of_some _ q));intro z;rcases List.mem_cons.mp z with z | z
      ·exact absurd z (Nat.ne_of_lt lc)
      ·exact absurd ((List.mem_singleton.mp z).trans sz) (Nat.ne_of_lt (Nat.lt_succ_of_lt lc))
    ·cases r2 with
     | error e=>exact hr2
     | ok fl2 =>
      cases fl2 with
      | ret r =>
       obtain ⟨rfl,h',tk,rfl,q1,q2⟩:=hr2
       repeat (any_goals (first | assumption | wp_step))
       exact h _ _ q1 q2
      | _=>exact hr2.elim
   | _=>exact hr.elim))
end
def uV (P:Program) (w:World) (p:Addr) (n:Nat):HO:=.ext fun h=>∃ l,SetK P w h p l∧l.length=n
section
variable {X:Cx}
theorem sL {k:Key} {u:Value} (r:RelV (kV k) u):u.scannable=true:=by
 cases k with
 | inl i=>obtain ⟨t,rfl⟩:=r;rfl
 | inr z=>obtain ⟨t,rfl⟩:=r;rfl
theorem pj (hc:X.calm=true):aW X (.type "set") (fun xs H Q=>∃ a ks,xs=[.ref a]∧SqT X.K H a (ks.map kV)∧ks.length≤1000∧∀ p,H p=none→Q (.ref p) (upd H p (uV X.prog X.w p (fu ks ks.length).length))):=by
 intro pins s σ H xs us Q I r h;obtain ⟨a,ks,rfl,ha,hl,q⟩:=h;obtain ⟨u,rfl,rx⟩:=ce r
 cases rx
 obtain ⟨its,rv,ht,hz⟩:=I.tuple ha;have el:=rv.length;rw [List.length_map] at el;have ez:its.toArray.size=ks.length:=by rw [List.size_toArray,el]
 refine jw (ks:=ks) (I.ok.hd hc) (show s.heap.IsTuple a its.toArray from ht) ez.symm (fun i v e=>?_) (by rw [ez];unfold scanBound;lia) fun h' tk hS kk=>?_
 ·have e':its[i]?=some v:=by simpa using e
  have hi:i < ks.length:=by rw [el];exact (List.getElem?_eq_some_iff.mp e').1
  obtain ⟨v',ev,rk⟩:=rv.get (i:=i) (x:=kV ks[i]) (by rw [List.getElem?_map,List.getElem?_eq_getElem hi];rfl);rw [e'] at ev
  cases ev
  exact ⟨ks[i],List.getElem?_eq_getElem hi,gJ rk,sL rk⟩
 ·rw [ez] at hS;refine ⟨.ref s.heap.objs.size,_,I.laid (a:=s.heap.objs.size) (o:=uV X.prog X.w s.heap.objs.size (fu ks ks.length).length) kk (Nat.le_refl _) ?_,rfl,q _ (I.hok.fresh (Nat.le_refl _))⟩;obtain ⟨o,_,_,_,ho,_⟩:=id hS;exact ⟨⟨_,hS,rfl⟩,⟨o,ho⟩,fun h1 h2 ⟨l,hl,e⟩ k=>⟨l,hl.kept k,e⟩⟩
theorem pp:aW X (.builtin "len") (fun xs H Q=>∃ p n,xs=[.ref p]∧H p=some (uV X.prog X.w p n)∧Q (.int n) H):=by
 intro pins s σ H xs us Q I r h;obtain ⟨p,n,rfl,e,q⟩:=h;obtain ⟨u,rfl,rx⟩:=ce r
 cases rx
 obtain ⟨⟨l,hS,en⟩,_,_⟩:=I.hok p _ e;obtain ⟨o,es,ep,tb,ho,hex,hd,_,_,hb,hf,hn⟩:=hS;have e2:es.size=n:=hn.trans en;have hb':es.size < 4096:=hb;exact call_len_set ho hex hd hf (by lia) ⟨.int n,H,I.tok _,⟨_,by rw [e2]⟩,q⟩
end
section
variable {K:PySem.W.Frag} {a b l:Addr} {xs ys:List V} {g:TG} {tb:List V→Addr→St→Hp→(List V→St→Hp→Prop)→Prop} {R:Hp→Prop} {σ0:St} {H0:Hp}
theorem aG (Pv:Nat→List V→St→Hp→Prop) (h0:Pv 0 [] σ0 H0) (hl:∀ i ys σ H,i≤xs.length→Pv i ys σ H→SqT K H a xs)
  (hs:∀ i x ys σ H (N:List V→St→Hp→Prop),xs[i]?=some x→Pv i ys σ H→(∀ ys' σ' H',Pv (i+1) ys' σ' H'→N ys' σ' H')→g x σ H fun σ2 H2=>tb ys l σ2 H2 N)
  (hd:∀ ys σ H,Pv xs.length ys σ H→R H) :
  ∃ W:Nat→Nat→List V→St→Hp→Prop,(∃ m,W 0 m [] σ0 H0)∧∀ i m ys σ' H',W i m ys σ' H'→((Itt K a).stop i H'∧R H') ∨
   ((Itt K a).go i H'∧∀ x H'',(Itt K a).yld i H' x H''→g x σ' H'' fun σ2 H2=>tb ys l σ2 H2 fun ys' σ3 H3=>∃ m',m' < m∧W (i+1) m' ys' σ3 H3):=qu (Q:=fun _ H=>R H) Pv h0 hl hs hd
theorem dX (Pv:Nat→List V→St→Hp→Prop) (h0:Pv 0 [] σ0 H0) (hl:∀ i ys σ H,i≤xs.length→Pv i ys σ H→SqL K H a xs)
  (hs:∀ i x ys σ H (N:List V→St→Hp→Prop),xs[i]?=some x→Pv i ys σ H→(∀ ys' σ' H',Pv (i+1) ys' σ' H'→N ys' σ' H')→g x σ H fun σ2 H2=>tb ys l σ2 H2 N)
  (hd:∀ ys σ H,Pv xs.length ys σ H→R H) :
  ∃ W:Nat→Nat→List V→St→Hp→Prop,(∃ m,W 0 m [] σ0 H0)∧∀ i m ys σ' H',W i m ys σ' H'→((Itl K a).stop i H'∧R H') ∨
   ((Itl K a).go i H'∧∀ x H'',(Itl K a).yld i H' x H''→g x σ' H'' fun σ2 H2=>tb ys l σ2 H2 fun ys' σ3 H3=>∃ m',m' < m∧W (i+1) m' ys' σ3 H3):=o8 (Q:=fun _ H=>R H) Pv h0 hl hs hd
theorem pq (Pv:Nat→List V→St→Hp→Prop) (h0:Pv 0 [] σ0 H0) (hla:∀ i us σ H,Pv i us σ H→SqL K H a xs∧SqL K H b ys)
  (hs:∀ i x y T us σ H (N:List V→St→Hp→Prop),xs[i]?=some x→ys[i]?=some y→H T=none→Pv i us σ H→(∀ us' σ' H',Pv (i+1) us' σ' H'→N us' σ' H')→g (.ref T) σ (upd H T (.tup [x,y])) fun σ2 H2=>tb us l σ2 H2 N)
  (hd:∀ us σ H,Pv (min xs.length ys.length) us σ H→R H) :
  ∃ W:Nat→Nat→List V→St→Hp→Prop,(∃ m,W 0 m [] σ0 H0)∧∀ i m us σ' H',W i m us σ' H'→((Itz K a b).stop i H'∧R H') ∨
   ((Itz K a b).go i H'∧∀ x H'',(Itz K a b).yld i H' x H''→g x σ' H'' fun σ2 H2=>tb us l σ2 H2 fun us' σ3 H3=>∃ m',m' < m∧W (i+1) m' us' σ3 H3):=qJ (Q:=fun _ H=>R H) Pv h0 hla hs hd
end
theorem ci {X:Cx} {K:PySem.W.Frag} {es:List Expr} {k:Nat} {pos:Pos} {t:TGs} {n:Nat} (hK:X.K=K) (hc:X.calm=true) (h:PGs X es t)
  (hn:(assignEach es X.env).length=n:=by rfl) (hst:(assignEach es X.env).findIdx? (·.1)=none:=by rfl):PG X (.Tuple es k pos) (vM K n t):=by
 subst hK;exact pX hc h hn hst
theorem az {H H1:Hp} {l:Addr} {o:HO} (hl:H l=none) (g:Same H H1):Same H (upd H1 l o):=fun b u e=>by rw [ah (ak e hl)];exact g b u e
section
variable {X:Cx}
theorem kZ {elt tgt iter:Expr} {ifs:List Expr} {scope:Scope} {pos spos py:Pos} {NL N':List Str} {ρ:List Nat} {wi:TI} {g:TG} {tb:List V→Addr→St→Hp→(List V→St→Hp→Prop)→Prop} {body:Value→Env→Sem Unit} {j:Nat} {y:Str}
  (hN:X.N.Nodup) (hj:X.N[j]?=some y) (hy:Loc X.env.scope y) (hfn:X.fn y=true∨X.env.scope.names.lookup y=some .local)
  (hsw:swapsWith (.ListComp elt [⟨tgt,iter,ifs,0⟩] scope pos) (some (.Name y py)) spos.line X.env=pure true)
  (hc:X.calm=true) (S:CScope X scope NL ρ N') (hi:PI X tgt iter wi)
  (hg:∀ C s₀ H₀ fp,PG (ccx X scope C N' s₀ H₀ fp) tgt g) (hb:∀ C s₀ H₀ fp,PB (ccx X scope C N' s₀ H₀ fp) (fun acc=>body acc (ccx X scope C N' s₀ H₀ fp).env) tb)
  (he:∀ (it acc:Value) (env:Env),compTurn (.ListComp elt [⟨tgt,iter,ifs,0⟩] scope pos) 0 it acc env=(standAt iter.pos >>= fun _=>pyNext it >>= fun r=>match r with
   | none=>pure (.done .next)
   | some v=>letOwnedTupleGo tgt it v >>= fun _=>assign tgt env v >>= fun _=>body acc env >>= fun _=>again (.compLoop (.ListComp elt [⟨tgt,iter,ifs,0⟩] scope pos) 0 it acc env)))
  (hs:∀ x,foldedSetIterable iter X.env x=pure x:=by intro _;rfl):PS X (.Assign [.Name y py] (.ListComp elt [⟨tgt,iter,ifs,0⟩] scope pos) spos) (pY (iO NL.length ρ wi g tb) (gu j)):=by
 intro pins s σ H D0 I h;have free_in:∀ x∈scope.names,x.2=.free→∃ c,X.env.cells.lookup x.1=some c:=fun x hx hk=>I.ok.has x.1 (S.frees x hx hk);rw [exec_Assign_Name_used _ _ _ _ hsw];refine wpAny_bind (wpAny_standAt (wpAny_bind ?_));rw [arm_evalThenUse_ListComp];refine wpAny_bind (thn (Q:=fun _ s'=>SP X pins D0 .next s') ?_ fun _ s' q0=>wpAny_pure (wpAny_pure q0));refine wpAny_comprehension_free (use:=some (assign (.Name y py) X.env)) (Q:=fun _ s'=>SP X pins D0 .next s') rfl hs (gD free_in) S.kind S.locs ?_;refine thn (hi pins s σ H _ I h) fun v s1 h1=>thn h1 fun itv s2 h2=>?_;obtain ⟨it,fp,tn,J,H2,e,I2,T,st2,f2,w⟩:=h2;subst e;refine wpAny_newObj_type (wpAny_newFunctionEnv S.nocell (by intro y hy;simp at hy) (fun h₁ hns₁ hsb₁=>?_) S.kind);dsimp only at hns₁ hsb₁ ⊢
 generalize hH2:s2.heap.push { cls:=.type "list",dict:=none,data:=.seq ([]:List Value).toArray }=h2' at hns₁ hsb₁ ⊢
 have hCs:h2'.objs.size=s2.heap.objs.size+1:=by rw [← hH2,Heap.size_push]
 have hDC:s2.heap.objs.size≠h2'.objs.size:=by rw [hCs];exact Nat.ne_of_lt (Nat.lt_succ_self _)
 have hC:s2.heap.objs.size≤h2'.objs.size:=by rw [hCs];exact Nat.le_succ _
 have old:∀ b o,s2.heap.get? b=some o→h₁.get? b=some o:=fun b o e=>hsb₁.extBut b o (Nat.ne_of_lt (Nat.lt_of_lt_of_le (Heap.lt_size e) hC)) (Heap.get?_push_of_some _ (hH2 ▸ Heap.get?_push_of_some _ e));have hd:h₁.get? s2.heap.objs.size=some { cls:=.type "list",data:=.seq #[] 0 }:=hsb₁.extBut _ _ hDC (Heap.get?_push_of_some _ (hH2 ▸ Heap.get?_push_size _ rfl));have hfo:∀ b∈fp,∃ o,s2.heap.get? b=some o:=fun b hb=>let ⟨o,e,_⟩:=T.obj _ _ st2 b hb;⟨o,e⟩;have I4:Inv (ccx X scope h2'.objs.size N' s2 H2 fp) (X.pn++pins) (cst NL.length ρ σ) (upd H2 s2.heap.objs.size (.lst [])) { s2 with heap:=h₁,toks:=s2.toks+([]:List (Str×Value)).length } :=
  Inv.comp S I2 f2 hfo hC (Nat.le_refl _) hDC old hd (by simpa using hns₁)
 have hD0:H2 s2.heap.objs.size=none:=I2.hok.fresh (Nat.le_refl _);have nfp:s2.heap.objs.size∉fp:=fun z=>by
  obtain ⟨o,e⟩:=hfo _ z;exact absurd (Heap.lt_size e) (Nat.lt_irrefl _)
 obtain ⟨W,⟨m0,w0⟩,turn⟩:=w s2.heap.objs.size hD0;have stat:∀ {H':Hp},(∀ b∈fp,H' b=none)→∀ b∈fp,dW (ccx X scope h2'.objs.size N' s2 H2 fp) (X.pn++pins) H' b:=fun {H'} hn b hb=>by
  obtain ⟨f0,f1,f2',f3,f4,f5⟩:=f2 b hb;have ok:=I4.ok;refine ⟨hn b hb,(ok.exf b hb).1,ok.exfs b hb,.inl hb,(ok.exf b hb).2,fun p hp=>f5 p hp⟩
 have loop:∀ s₃:Shared,s₃={ s2 with heap:=h₁,toks:=s2.toks+([]:List (Str×Value)).length } →
   codeAny (model X.prog X.w) X.A (.compLoop (.ListComp elt [⟨tgt,iter,ifs,0⟩] scope pos) 0 (.ref it) (.ref s2.heap.objs.size) (compEnvC scope (cf X.env scope.names []) h2'.objs.size X.env))
    (compPost (model X.prog X.w) X.A X.xe (some (assign (.Name y py) X.env)) (fun _ s'=>SP X pins D0 .next s') (.ref s2.heap.objs.size) h2'.objs.size) s₃:=by
  rintro s₃ rfl;refine codeAny_loop rfl (fun n s'=>∃ i ys σ' H',Inv (ccx X scope h2'.objs.size N' s2 H2 fp) (X.pn++pins) σ' H' s'∧tn i s'.heap∧(∀ b∈fp,H' b=none)∧W i n ys σ' H') (fun n s3 hI=>?_) m0
   ⟨0,[],_,_,I4,T.keep _ _ _ st2 (fun b _ o e=>old b o e),fun b hb=>?_,w0⟩
  ·obtain ⟨i,ys,σ3,H3,I3,st3,fr3,w3⟩:=hI;show wpAny _ _ ((compTurn (.ListComp elt [⟨tgt,iter,ifs,0⟩] scope pos) 0 (.ref it) (.ref s2.heap.objs.size) (compEnvC scope (cf X.env scope.names []) h2'.objs.size X.env)).onRaise (fun x=>do noteFrame x _;theTreesLotGoes x)) _ _ s3;refine wpAny_noted ?_;rw [he];refine wpAny_bind (wpAny_standAt (wpAny_bind ?_));rcases turn i n ys σ3 H3 w3 with ⟨stop,qn⟩ | ⟨go,step⟩
   ·refine thn (T.done (ccx X scope h2'.objs.size N' s2 H2 fp) rfl rfl rfl hc i _ s3 σ3 H3 _ I3 (stat fr3) st3 stop) fun r s4 ⟨hr,I5⟩=>?_;subst hr;refine wpAny_pure ?_;obtain ⟨m,hm,_⟩:=id I5.loc;have IX:Inv X pins σ H3 { s4 with heap:=s4.heap }:=Inv.compEnd I2 f2 hC I5 (Heap.SameBut.refl _ _);have cne:∀ x c,X.env.cells.lookup x=some c→c≠h2'.objs.size:=fun x c ec z=>by
     obtain ⟨v0,oc,hoc,_⟩:=I2.cell x c ec;exact absurd (Nat.lt_of_lt_of_le (Heap.lt_size hoc) hC) (by rw [z];exact Nat.lt_irrefl _)
    have lne:h2'.objs.size≠X.env.locals:=Nat.ne_of_gt (Nat.lt_of_lt_of_le I2.lt hC);refine wpAny_assign_Name (iH IX hN hj hy (v:=.ref s2.heap.objs.size) rfl (fun s5 I6 ⟨a,sb,ha⟩=>?_) hfn);have na:h2'.objs.size≠a:=fun z=>by
     rcases ha with e | e
     ·exact lne (z.trans e)
     ·exact cne _ _ e z.symm
    refine ⟨m,hm.at' fun o e=>(sb.2 _ na).trans e,fun h' hs'=>⟨_,H3,?_,qn⟩⟩;exact I6.turned (t':=s5.toks) (fun b o hb' e=>(hs'.2 b hb').trans e) I5.free lne (.inr (Nat.le_trans I2.sz hC)) cne fun q hq z=>by
     obtain ⟨e,_⟩:=I2.pin q hq;exact absurd (Nat.lt_of_lt_of_le (Heap.lt_size e) hC) (by rw [z];exact Nat.lt_irrefl _)
   ·refine thn (T.item (ccx X scope h2'.objs.size N' s2 H2 fp) rfl rfl rfl hc i _ s3 σ3 H3 _ I3 (stat fr3) st3 go) fun r s4 ⟨u,hr,h4⟩=>?_;subst hr;refine wpAny_bind (thn h4 fun _ s5 ⟨x,H5,I5,r5,y5,st5,fr5⟩=>?_);have I5':=I5.pinned (stat fr5) (T.obj _ _ st5);refine wpAny_bind (wpAny_mono (hg h2'.objs.size s2 H2 fp _ s5 σ3 H5 x u _ I5' r5 (step x H5 y5)) (fun _ s6 ⟨σ6,H6,I6,q6⟩=>?_) fun _ _ z=>z.elim);refine wpAny_bind (wpAny_mono (hb h2'.objs.size s2 H2 fp _ s6 σ6 H6 s2.heap.objs.size ys _ I6 q6) (fun _ s7 ⟨ys7,σ7,H7,I7,m',hm,w7⟩=>?_) fun _ _ z=>z.elim);refine wpAny_pure ⟨rfl,m',hm,i+1,ys7,σ7,H7,I7.unpinned,T.keep _ _ _ st5 fun b hb o e=>(I7.pin (b,o) (List.mem_append_right _ (List.mem_append_right _ (br hb e)))).1,fun b hb=>?_,w7⟩;obtain ⟨o,e,d⟩:=T.obj _ _ st5 b hb;exact (I7.pin (b,o) (List.mem_append_right _ (List.mem_append_right _ (br hb e)))).2.1
  ·rw [ah (show b≠s2.heap.objs.size from fun z=>nfp (by rw [← z];exact hb))];exact (f2 b hb).1
 refine codeAny_compStart_list (loop _ rfl) (T.self _ 0 _ _ _ ?_ (loop _ rfl));exact T.keep _ _ _ st2 fun b _ o e=>old b o e
theorem ps_setC {elt tgt iter:Expr} {scope:Scope} {pos spos py:Pos} {NL N':List Str} {ρ:List Nat} {wi:TI} {g:TG} {te:TE} {j:Nat} {y:Str} (hN:X.N.Nodup) (hj:X.N[j]?=some y) (hy:Loc X.env.scope y)
  (hc:X.calm=true) (S:CScope X scope NL ρ N') (hi:PI X tgt iter wi) (hg:∀ C s₀ H₀ fp,PG (ccx X scope C N' s₀ H₀ fp) tgt g) (he:∀ C s₀ H₀ fp,PE (ccx X scope C N' s₀ H₀ fp) elt te)
  (hsw:swapsWith (.ListComp elt [⟨tgt,iter,[],0⟩] scope pos) (some (.Name y py)) spos.line X.env=pure true:=by rfl) (hfn:X.fn y=true∨X.env.scope.names.lookup y=some .local:=by first | exact .inl rfl | exact .inr rfl | assumption)
  (hs:∀ x,foldedSetIterable iter X.env x=pure x:=by intro _;rfl):PS X (.Assign [.Name y py] (.ListComp elt [⟨tgt,iter,[],0⟩] scope pos) spos) (pY (iO NL.length ρ wi g (cEl te)) (gu j)) :=
 kZ (body:=fun acc env=>do let x ← eval elt env;let _ ← call (.builtin "list.append") [acc,x];pure ()) hN hj hy hfn hsw hc S hi hg (fun C s₀ H₀ fp=>qo (he C s₀ H₀ fp)) (fun it acc env=>kI elt tgt iter scope pos it acc env) hs
end
section
variable {X:Cx}
variable {K:PySem.W.Frag}
theorem pe_tupPK {es:List Expr} {x1:Nat} {pos:Pos} {t:TA} (hK:X.K=K) (h:PA X es t):PE X (.Tuple es x1 pos) (tZ K t):=by subst hK;exact sC h
theorem aS (hK:X.K=K):IxR X (vR K):=by subst hK;exact sj
theorem oh (hK:X.K=K) (hu:X.A.units+64 < cLine):OpR X (compareOp .Eq) (vZ K):=by subst hK;exact uL hu
theorem op_in_seqK (hK:X.K=K):OpR X (compareOp .In) (rIn K false):=by subst hK;exact oY
end
section
variable {X:Cx}
end
section
variable {X:Cx}
theorem iV:∀ {ss:List Str} {us:List Value},StrsAre us ss→Vals (ss.map V.str) us
 | _,_,.nil=>.nil
 | _,_,.cons z t r=>.cons ⟨t,rfl⟩ (iV r)
end
abbrev two (v:Value) (c:Nat):Obj:={ cls:=.type "list",dict:=none,data:=.seq #[v,v] c,slots:=#[] }
section
variable {prog:Program} {w:World} {A:Around} {R:Result→Shared→Prop} {it:Addr} {fp wr:List Addr} {n:Nat} {P:Nat→Value→Prop} {St:Nat→Heap→Prop}
end
section
variable {prog:Program} {w:World} {A:Around} {E:Value→Shared→Prop} {s:Shared} {l:Addr} {zs:Array (Int×Tok)} {d:Value} {Q:Value→Shared→Prop}
end
section
variable {X:Cx}
end
section
variable {X:Cx} {K:PySem.W.Frag}
end
section
variable {l:Addr} {g:TG} {tb:List V→Addr→St→Hp→(List V→St→Hp→Prop)→Prop} {R:Hp→Prop} {σ0:St} {H0:Hp} {lo:Int} {n:Nat} {z:Str}
theorem c9 (Pv:Nat→List V→St→Hp→Prop) (h0:Pv 0 [] σ0 H0) (hs:∀ i ys σ H (N:List V→St→Hp→Prop),i < n→Pv i ys σ H→(∀ ys' σ' H',Pv (i+1) ys' σ' H'→N ys' σ' H')→g (.int (lo+i)) σ H fun σ2 H2=>tb ys l σ2 H2 N) (hd:∀ ys σ H,Pv n ys σ H→R H) :
  ∃ W:Nat→Nat→List V→St→Hp→Prop,(∃ m,W 0 m [] σ0 H0)∧∀ i m ys σ' H',W i m ys σ' H'→((Itr lo n).stop i H'∧R H')∨((Itr lo n).go i H'∧∀ x H'',(Itr lo n).yld i H' x H''→g x σ' H'' fun σ2 H2=>tb ys l σ2 H2 fun ys' σ3 H3=>∃ m',m' < m∧W (i+1) m' ys' σ3 H3):=mF (Q:=fun _ H=>R H) Pv h0 hs hd
theorem pw (Pv:Nat→List V→St→Hp→Prop) (h0:Pv 0 [] σ0 H0) (hs:∀ i c ys σ H (N:List V→St→Hp→Prop),z.cps[i]?=some c→Pv i ys σ H→(∀ ys' σ' H',Pv (i+1) ys' σ' H'→N ys' σ' H')→g (.str ⟨#[c]⟩) σ H fun σ2 H2=>tb ys l σ2 H2 N) (hd:∀ ys σ H,Pv z.cps.size ys σ H→R H) :
  ∃ W:Nat→Nat→List V→St→Hp→Prop,(∃ m,W 0 m [] σ0 H0)∧∀ i m ys σ' H',W i m ys σ' H'→((Its z).stop i H'∧R H')∨((Its z).go i H'∧∀ x H'',(Its z).yld i H' x H''→g x σ' H'' fun σ2 H2=>tb ys l σ2 H2 fun ys' σ3 H3=>∃ m',m' < m∧W (i+1) m' ys' σ3 H3):=gE (Q:=fun _ H=>R H) Pv h0 hs hd
end
section
variable {X:Cx} {K:PySem.W.Frag}
inductive JIxP (K:PySem.W.Frag) (x y:V) (H:Hp) (Q:VK):Prop
 | mk (l:List Dt) (i:Int) (d:Dt):(IsP K H (.tup l) x)→(y=.int i)→(atI l i=some d)→(∀ v,IsP K H d v→Q v H)→JIxP K x y H Q
def wk (K:PySem.W.Frag):R2:=fun x y H Q=>JIxP K x y H Q
inductive JCatP (K:PySem.W.Frag) (x y:V) (H:Hp) (Q:VK):Prop
 | mk (l m:List Dt):(IsP K H (.tup l) x)→(IsP K H (.tup m) y)→(l.length+m.length≤sizeLine)→(∀ v H',Same H H'→IsP K H' (.tup (l++m)) v→Q v H')→JCatP K x y H Q
def wl (K:PySem.W.Frag):R2:=fun x y H Q=>JCatP K x y H Q
inductive JLenD (K:PySem.W.Frag) (xs:List V) (H:Hp) (Q:VK):Prop
 | mk (x:V) (l:List Dt):(xs=[x])→(IsD K H (.tup l) x)→(Q (.int l.length) H)→JLenD K xs H Q
def wm (K:PySem.W.Frag):List V→Hp→VK→Prop:=fun xs H Q=>JLenD K xs H Q
inductive JIsi (K:PySem.W.Frag) (xs:List V) (H:Hp) (Q:VK):Prop
 | mk (x:V) (T:String) (b:Bool):(xs=[x,.ty T])→(IsiB K H x T b)→(Q (.bl b) H)→JIsi K xs H Q
def w5 (K:PySem.W.Frag):List V→Hp→VK→Prop:=fun xs H Q=>JIsi K xs H Q
inductive JTupP (K:PySem.W.Frag) (xs:List V) (H:Hp) (Q:VK):Prop
 | mk (p:Addr) (ys:List V) (l:List Dt):(xs=[.ref p])→(SqL K H p ys)→(IsPs K H l ys)→(∀ v H',Same H H'→IsP K H' (.tup l) v→Q v H')→JTupP K xs H Q
def wn (K:PySem.W.Frag):List V→Hp→VK→Prop:=fun xs H Q=>JTupP K xs H Q
def wo (K:PySem.W.Frag):List V→Hp→VK→Prop:=fun xs H Q=>∃ x fs,xs=[x]∧IsP K H (.tup (fs.map prD)) x∧(fs.map (·.1)).Nodup∧fs.length≤1000∧∀ p H',Same H H'→DicP K H' p fs→Q (.ref p) H'
theorem cC (hK:X.K=K):IxR X (wk K):=by
 subst hK;intro e1 e2 pins s σ H x y v u Q I rx ry h hs;obtain ⟨l,i,d,a,b,c,q⟩:=h;exact sF _ _ _ _ _ _ _ _ _ _ _ I rx ry ⟨l,i,d,a,b,c,q⟩ hs
theorem qN (hK:X.K=K):OpR X (binaryOp .Add) (wl K):=by
 subst hK;intro pins s σ H x y v u Q I rx ry h;obtain ⟨l,m,a,b,c,q⟩:=h;exact sD _ _ _ _ _ _ _ _ _ I rx ry ⟨l,m,a,b,c,q⟩
theorem call_lenDN (hK:X.K=K):aW X (.builtin "len") (wm K):=by
 subst hK;intro pins s σ H xs us Q I r h;obtain ⟨x,l,a,b,q⟩:=h;exact o9 _ _ _ _ _ _ _ I r ⟨x,l,a,b,q⟩
theorem aD (hK:X.K=K):aW X (.builtin "isinstance") (w5 K):=by
 subst hK;intro pins s σ H xs us Q I r h;obtain ⟨x,l,m,a,b,q⟩:=h;exact qp _ _ _ _ _ _ _ I r ⟨x,l,m,a,b,q⟩
theorem aY (hK:X.K=K):aW X (.type "tuple") (wn K):=by
 subst hK;intro pins s σ H xs us Q I r h;obtain ⟨x,l,m,a,b,c,q⟩:=h;exact kX _ _ _ _ _ _ _ I r ⟨x,l,m,a,b,c,q⟩
theorem call_dictPN (hK:X.K=K) (hc:X.calm=true):aW X (.type "dict") (wo K):=by subst hK;exact mH hc
theorem aP {tg l:Expr} {tl:TE} (hK:X.K=K) (hl:PE X l tl):PI X tg l (vN K tl):=by subst hK;exact uz hl
theorem da {tg l:Expr} {tl:TE} (hK:X.K=K) (hl:PE X l tl):PI X tg l (tT K tl):=by subst hK;exact r0 hl
end
section
variable {prog:Program} {w:World} {A:Around} {E:Value→Shared→Prop} {s:Shared}
theorem a8 {b t:Addr} {k:Nat} {its:Array Value} {v:Value} {Q:Value→Shared→Prop} (hb:IsTupIter s.heap b t k) (ht:IsTup s.heap t its) (hv:its[k]?=some v)
  (q:∀ h',IsTupIter h' b t (k+1)→Heap.SameBut b s.heap h'→Q v { s with heap:=h' }):wpAny (model prog w) A (Builtin.SmallTypes.nextOf (.ref b)) Q E s:=by
 obtain ⟨ob,gb,cb,db⟩:=id hb;obtain ⟨ot,gt,_,nt,dt⟩:=ht;unfold Builtin.SmallTypes.nextOf;refine wpAny_bind (wpAny_callSpecial?_slot (name:=Str.ofString "__next__") hb.typeIs slot_tupleiter_next (wpAny_call_entry slot_tupleiter_next hb.typeIs entry_tupleiter_next ?_ (args_tupleiter_next _)));refine show wpAny _ _ (field (.ref b) 0 >>= _) _ _ s from wpAny_bind (wpAny_field gb db (x:=.ref t) rfl ?_);refine show wpAny _ _ (if (Value.ref t == Value.none)=true then _ else _) _ _ s from ?_;rw [if_neg (by exact Bool.false_ne_true)];refine show wpAny _ _ (field (.ref b) 1 >>= _) _ _ s from wpAny_bind (wpAny_field gb db (x:=.int k 0) rfl ?_);refine show wpAny _ _ (seqItems? (.ref t) >>= _) _ _ s from wpAny_bind (wpAny_seqItems gt dt ?_);simp only [hv,Int.toNat_natCast];refine wpAny_bind (wpAny_setField gb db (by simp) (wpAny_pure ⟨v,rfl,wpAny_pure (q _ ⟨_,Heap.get?_update_self _ gb (Obj.isFreed_of_fields (Obj.data_mapFields db _)),(Obj.cls_mapFields ..).trans cb,?_⟩ (Heap.SameBut.update ..))⟩));rw [Obj.data_mapFields db];simp [rawInt]
theorem dF {b t:Addr} {k:Nat} {its:Array Value} {Q:Value→Shared→Prop} (hh:A.handled=none) (hb:IsTupIter s.heap b t k) (ht:IsTup s.heap t its) (hv:its[k]?=none)
  (q:∀ h' e,Heap.ExtBut b s.heap h'→(∃ o,h'.get? e=some o∧o.cls=.type "StopIteration")→E (.ref e) { s with heap:=h' }):wpAny (model prog w) A (Builtin.SmallTypes.nextOf (.ref b)) Q E s:=by
 obtain ⟨ob,gb,cb,db⟩:=id hb;obtain ⟨ot,gt,_,nt,dt⟩:=ht;unfold Builtin.SmallTypes.nextOf;refine wpAny_bind (wpAny_callSpecial?_slot (name:=Str.ofString "__next__") hb.typeIs slot_tupleiter_next (wpAny_call_entry slot_tupleiter_next hb.typeIs entry_tupleiter_next ?_ (args_tupleiter_next _)));refine show wpAny _ _ (field (.ref b) 0 >>= _) _ _ s from wpAny_bind (wpAny_field gb db (x:=.ref t) rfl ?_);refine show wpAny _ _ (if (Value.ref t == Value.none)=true then _ else _) _ _ s from ?_;rw [if_neg (by exact Bool.false_ne_true)];refine show wpAny _ _ (field (.ref b) 1 >>= _) _ _ s from wpAny_bind (wpAny_field gb db (x:=.int k 0) rfl ?_);refine show wpAny _ _ (seqItems? (.ref t) >>= _) _ _ s from wpAny_bind (wpAny_seqItems gt dt ?_);simp only [hv,Int.toNat_natCast];refine wpAny_bind (wpAny_rule (wpAny_bind (wpAny_setField gb db (by simp) ?_)));refine show wpAny _ _ (newExc (.type "StopIteration") [] >>= _) _ _ _ from wpAny_bind ?_;simp only [newTuple,newExc];refine wpAny_bind (wpAny_newObj_type (wpAny_bind (m:=firstArgMember _ _) (wpAny_of_eq (a:=Value.none) (by first | rfl | (simp only [firstArgMember];rfl)) (wpAny_newObj_type ?_ (by size_fits)))) (by size_fits));simp only [raiseNew];refine wpAny_bind (wpAny_handled ?_);rw [show A.in1.handled=none from hh];exact wpAny_bind (wpAny_pure (wpAny_throw (q _ _ (((Heap.SameBut.update ..).extBut.push _).push _) ⟨_,Heap.get?_push_size _ rfl,rfl⟩)))
theorem px {z P0 P1 u v l m:Addr} {k:Nat} {xs ys:Array Value} {x y a b:Value} {Q:Option Value→Shared→Prop} (D:ZipApart z P0 P1 u v l m) (Z:IsZip s.heap z P0 P1 .none) (I0:IsPair s.heap P0 (.ref u) (.ref v)) (I1:IsPair s.heap P1 a b)
  (wu:IsTupIter s.heap u l k) (wv:IsTupIter s.heap v m k) (tl:IsTup s.heap l xs) (tm:IsTup s.heap m ys) (ex:xs[k]?=some x) (ey:ys[k]?=some y)
  (q:∀ h',IsZip h' z P0 P1 (rawInt s.heap.objs.size)→IsPair h' P1 x y→IsTupIter h' u l (k+1)→IsTupIter h' v m (k+1)→IsPair h' s.heap.objs.size x y→h'.objs.size=s.heap.objs.size+1 →
   (∀ c o,c≠z→c≠P1→c≠u→c≠v→s.heap.get? c=some o→h'.get? c=some o)→Q (some (.ref s.heap.objs.size)) { s with heap:=h' }):wpAny (model prog w) A (pyNext (.ref z)) Q E s:=by
 have hT:s.TypeIs (.ref z) "zip" :=⟨_,Z,rfl⟩;unfold pyNext;refine wpAny_bind (wpAny_attempt (wpAny_callSpecial?_slot (name:=Str.ofString "__next__") hT F.slot_zip_next (wpAny_call_entry F.slot_zip_next hT F.entry_zip_next ?_ (F.args_zip_next_1 _))));refine show wpAny _ _ (field (.ref z) 2 >>= _) _ _ _ from wpAny_bind (wpAny_field Z rfl (x:=.bool false) rfl ?_);refine show wpAny _ _ (field (.ref z) 3 >>= _) _ _ _ from wpAny_bind (wpAny_field Z rfl (x:=.ref P0) rfl (wpAny_bind (wpAny_seqItems I0 rfl ?_)));refine show wpAny _ _ (Builtin.SmallTypes.ownedTupleIsFree (.ref z) >>= _) _ _ _ from wpAny_bind ?_;unfold Builtin.SmallTypes.ownedTupleIsFree;refine wpAny_bind (wpAny_field Z rfl (x:=.none) rfl (wpAny_pure ?_));rw [if_pos rfl];refine wpAny_bind (wpAny_rule (wpAny_bind (wpAny_field Z rfl (x:=.ref P1) rfl (wpAny_bind (wpAny_setField_rec Z (by simp) fun ha Za sa=>?_)))));replace Za:IsZip ha z P0 P1 .ellipsis:=Za;refine wpAny_bind ?_;simp only [List.zipIdx_cons,List.forIn_cons,List.zipIdx_nil,List.forIn_nil];refine wpAny_bind (wpAny_bind (wpAny_onRaise ?_));refine show wpAny _ _ (Builtin.SmallTypes.nextOf (.ref u) >>= _) _ _ _ from wpAny_bind (a8 (wu.extBut sa.extBut D.i1z) (tl.extBut sa.extBut D.l1z) ex fun hb wb sb=>wpAny_pure ?_);have Ib:IsPair hb P1 a b:=sb.extBut _ _ D.TOi1 (sa.extBut _ _ D.TOz I1);refine wpAny_bind (wpAny_seqItems Ib rfl (wpAny_bind (wpAny_updateSeq_pair Ib fun hc Ic sc=>wpAny_bind (wpAny_letGo (wpAny_pure ?_)))));replace Ic:IsPair hc P1 x b:=Ic;refine wpAny_bind (wpAny_bind (wpAny_onRaise ?_));refine show wpAny _ _ (Builtin.SmallTypes.nextOf (.ref v) >>= _) _ _ _ from wpAny_bind (a8 (((wv.extBut sa.extBut D.i2z).extBut sb.extBut D.i12.symm).extBut sc.extBut D.TOi2.symm) (((tm.extBut sa.extBut D.l2z).extBut sb.extBut D.l2i1).extBut sc.extBut D.l2TO) ey fun hd wd sd=>wpAny_pure ?_);have Id:IsPair hd P1 x b:=sd.extBut _ _ D.TOi2 Ic;refine wpAny_bind (wpAny_seqItems Id rfl (wpAny_bind (wpAny_updateSeq_pair Id fun he Ie se=>wpAny_bind (wpAny_letGo (wpAny_pure (wpAny_pure ?_))))));replace Ie:IsPair he P1 x y:=Ie;refine wpAny_bind (wpAny_seqItems Ie rfl (wpAny_bind (wpAny_newTuple ?_)));have size:he.objs.size=s.heap.objs.size:=by rw [se.1,sd.1,sc.1,sb.1,sa.1]
 have Ze:IsZip he z P0 P1 .ellipsis:=se.extBut _ _ D.TOz.symm (sd.extBut _ _ D.i2z.symm (sc.extBut _ _ D.TOz.symm (sb.extBut _ _ D.i1z.symm Za)));have keep:∀ c o,c≠z→c≠P1→c≠u→c≠v→s.heap.get? c=some o→he.get? c=some o:=fun c o n1 n2 n3 n4 e=>se.extBut _ _ n2 (sd.extBut _ _ n4 (sc.extBut _ _ n2 (sb.extBut _ _ n3 (sa.extBut _ _ n1 e))));have we:IsTupIter he u l (k+1):=((wb.extBut sc.extBut D.TOi1.symm).extBut sd.extBut D.i12).extBut se.extBut D.TOi1.symm;have we':IsTupIter he v m (k+1):=wd.extBut se.extBut D.TOi2.symm;have ltz:z < he.objs.size:=Heap.lt_size Ze;refine show wpAny _ _ (Builtin.SmallTypes.ownedTupleHandOut (.ref z) (.ref he.objs.size) >>= _) _ _ _ from wpAny_bind ?_;unfold Builtin.SmallTypes.ownedTupleHandOut;have Zf:IsZip (he.push { cls:=.type "tuple",data:=.seq #[x,y] }) z P0 P1 .ellipsis:=Heap.get?_push_of_some _ Ze;refine wpAny_bind (wpAny_setField_rec Zf (by simp) fun hg Zg sg=>?_);replace Zg:IsZip hg z P0 P1 (rawInt he.objs.size):=Zg;refine wpAny_setField_rec Zg (by simp) fun hi Zi si=>?_;replace Zi:IsZip hi z P0 P1 (rawInt he.objs.size):=Zi;have up:∀ c o,c≠z→he.get? c=some o→hi.get? c=some o:=fun c o n e=>si.extBut _ _ n (sg.extBut _ _ n (Heap.get?_push_of_some _ e));have Ti:IsPair hi he.objs.size x y:=si.extBut _ _ (Nat.ne_of_gt ltz) (sg.extBut _ _ (Nat.ne_of_gt ltz) (Heap.get?_push_size _ rfl));have size':hi.objs.size=he.objs.size+1:=by rw [si.1,sg.1,Heap.size_push]
 refine wpAny_pure ⟨_,rfl,wpAny_pure ?_⟩;rw [size] at Zi Ti size';have go:=q hi Zi (up _ _ D.TOz Ie) (by obtain ⟨o,e,r⟩:=we;exact ⟨o,up _ o D.i1z e,r⟩) (by obtain ⟨o,e,r⟩:=we';exact ⟨o,up _ o D.i2z e,r⟩) Ti size' fun c o n1 n2 n3 n4 e=>up c o n1 (keep c o n1 n2 n3 n4 e);rw [← size] at go;exact go
theorem qO {z P0 P1 u v l m:Addr} {k:Nat} {xs ys:Array Value} {a b:Value} {Q:Option Value→Shared→Prop} (hh:A.handled=none) (D:ZipApart z P0 P1 u v l m) (Z:IsZip s.heap z P0 P1 .none) (I0:IsPair s.heap P0 (.ref u) (.ref v)) (I1:IsPair s.heap P1 a b)
  (wu:IsTupIter s.heap u l k) (wv:IsTupIter s.heap v m k) (tl:IsTup s.heap l xs) (tm:IsTup s.heap m ys) (no:xs[k]?=none∨ys[k]?=none)
  (q:∀ h',(∀ c o,c≠z→c≠P1→c≠u→c≠v→s.heap.get? c=some o→h'.get? c=some o)→Q none { s with heap:=h' }):wpAny (model prog w) A (pyNext (.ref z)) Q E s:=by
 have hT:s.TypeIs (.ref z) "zip" :=⟨_,Z,rfl⟩;unfold pyNext;refine wpAny_bind (wpAny_attempt (wpAny_callSpecial?_slot (name:=Str.ofString "__next__") hT F.slot_zip_next (wpAny_call_entry F.slot_zip_next hT F.entry_zip_next ?_ (F.args_zip_next_1 _))));refine show wpAny _ _ (field (.ref z) 2 >>= _) _ _ _ from wpAny_bind (wpAny_field Z rfl (x:=.bool false) rfl ?_);refine show wpAny _ _ (field (.ref z) 3 >>= _) _ _ _ from wpAny_bind (wpAny_field Z rfl (x:=.ref P0) rfl (wpAny_bind (wpAny_seqItems I0 rfl ?_)));refine show wpAny _ _ (Builtin.SmallTypes.ownedTupleIsFree (.ref z) >>= _) _ _ _ from wpAny_bind ?_;unfold Builtin.SmallTypes.ownedTupleIsFree;refine wpAny_bind (wpAny_field Z rfl (x:=.none) rfl (wpAny_pure ?_));rw [if_pos rfl];refine wpAny_bind (wpAny_rule (wpAny_bind (wpAny_field Z rfl (x:=.ref P1) rfl (wpAny_bind (wpAny_setField_rec Z (by simp) fun ha Za sa=>?_)))));replace Za:IsZip ha z P0 P1 .ellipsis:=Za;refine wpAny_bind ?_;simp only [List.zipIdx_cons,List.forIn_cons,List.zipIdx_nil,List.forIn_nil];refine wpAny_bind (wpAny_bind (wpAny_onRaise ?_));have stop:∀ {h':Heap} {e:Addr},(∃ o,h'.get? e=some o∧o.cls=.type "StopIteration")→IsZip h' z P0 P1 .ellipsis→e≠z:=fun he hz c=>by
  obtain ⟨o,ho,hc⟩:=he;subst c;rw [hz] at ho
  cases ho
  simp at hc
 have fin:∀ {h':Heap} {e:Addr},(∃ o,h'.get? e=some o∧o.cls=.type "StopIteration")→(∀ c o,c≠z→c≠P1→c≠u→c≠v→s.heap.get? c=some o→h'.get? c=some o) →
   wpAny (model prog w) A (do if (← isInstance (.ref e) (.type "StopIteration")) then pure none else throw (.ref e)) Q E { s with heap:=h' }:=fun {h' e} he hk=>by
  obtain ⟨o,ho,hc⟩:=he;exact wpAny_bind (wpAny_isInstance (T:= "StopIteration") (b:=true) ⟨o,ho,hc⟩ isSubtype_stop (wpAny_pure (q _ hk)))
 cases ex:xs[k]? with
 | none =>
  refine show wpAny _ _ (Builtin.SmallTypes.nextOf (.ref u) >>= _) _ _ _ from wpAny_bind (dF hh (wu.extBut sa.extBut D.i1z) (tl.extBut sa.extBut D.l1z) ex fun hb e sb he=>?_);have Zb:IsZip hb z P0 P1 .ellipsis:=sb _ _ D.i1z.symm Za;have ne:=stop he Zb;obtain ⟨o,ho,hc⟩:=he;exact wpAny_setField_rec Zb (by simp) fun hd _ sd=>fin ⟨o,sd.extBut _ _ ne ho,hc⟩ fun c o n1 _ n3 _ e=>sd.extBut _ _ n1 (sb _ _ n3 (sa.extBut _ _ n1 e))
 | some x =>
  have ey:ys[k]?=none:=no.resolve_left (by rw [ex];simp);refine show wpAny _ _ (Builtin.SmallTypes.nextOf (.ref u) >>= _) _ _ _ from wpAny_bind (a8 (wu.extBut sa.extBut D.i1z) (tl.extBut sa.extBut D.l1z) ex fun hb wb sb=>wpAny_pure ?_);have Ib:IsPair hb P1 a b:=sb.extBut _ _ D.TOi1 (sa.extBut _ _ D.TOz I1);refine wpAny_bind (wpAny_seqItems Ib rfl (wpAny_bind (wpAny_updateSeq_pair Ib fun hc Ic sc=>wpAny_bind (wpAny_letGo (wpAny_pure (wpAny_bind (wpAny_bind (wpAny_onRaise ?_))))))));refine show wpAny _ _ (Builtin.SmallTypes.nextOf (.ref v) >>= _) _ _ _ from wpAny_bind (dF hh (((wv.extBut sa.extBut D.i2z).extBut sb.extBut D.i12.symm).extBut sc.extBut D.TOi2.symm) (((tm.extBut sa.extBut D.l2z).extBut sb.extBut D.l2i1).extBut sc.extBut D.l2TO) ey fun hd e sd he=>?_);have Zd:IsZip hd z P0 P1 .ellipsis:=sd _ _ D.i2z.symm (sc.extBut _ _ D.TOz.symm (sb.extBut _ _ D.i1z.symm Za));have ne:=stop he Zd;obtain ⟨o,ho,hcl⟩:=he;exact wpAny_setField_rec Zd (by simp) fun hf _ sf=>fin ⟨o,sf.extBut _ _ ne ho,hcl⟩ fun c o n1 n2 n3 n4 e=>sf.extBut _ _ n1 (sd _ _ n4 (sc.extBut _ _ n2 (sb.extBut _ _ n3 (sa.extBut _ _ n1 e))))
abbrev zT1 (h:Heap) (l:Addr):Heap:=h.push { cls:=.type "tuple_iterator",data:=.fields #[.ref l,.int 0 0] }
abbrev zT2 (h:Heap) (l m:Addr):Heap:=(zT1 h l).push { cls:=.type "tuple_iterator",data:=.fields #[.ref m,.int 0 0] }
abbrev zT3 (h:Heap) (l m:Addr):Heap:=(zT2 h l m).push { cls:=.type "tuple",data:=.seq #[.ref h.objs.size,.ref (zT1 h l).objs.size] }
abbrev zT4 (h:Heap) (l m:Addr):Heap:=(zT3 h l m).push { cls:=.type "tuple",data:=.seq #[.none,.none] }
abbrev zT5 (h:Heap) (l m:Addr):Heap:=(zT4 h l m).push { cls:=.type "zip",data:=.fields #[.none,.bool false,.bool false,.ref (zT2 h l m).objs.size,.ref (zT3 h l m).objs.size] }
theorem mK (l m:Addr) (xs ys:Array Value) :
  Meets (Builtin.«zip.__new__» ⟨[.type "zip",.ref l,.ref m],[]⟩) (fun _ R s=>IsTup s.heap l xs∧IsTup s.heap m ys∧R (.ok (.ret (.ref (zT4 s.heap l m).objs.size))) { s with heap:=zT5 s.heap l m }) :=
 .of_wp fun prog w A R s h=>by
  obtain ⟨hp,g,d,tk,os⟩:=s;obtain ⟨tl,tm,h⟩:=h;have sub:=sub_zip;have T1:IsTup (Shared.heap ⟨hp,g,d,tk,os⟩) l xs:=tl;have T2:IsTup (Shared.heap ⟨hp.push { cls:=.type "tuple_iterator",data:=.fields #[.ref l,.int 0 0] },g,d,tk,os⟩) m ys:=IsTup.push tm _
  wp_walk using iter_tuple T1,iter_tuple T2
  exact ⟨_,rfl,h⟩
theorem iW {l m:Addr} {xs ys:Array Value} {Q:Value→Shared→Prop} (tl:IsTup s.heap l xs) (tm:IsTup s.heap m ys)
  (q:∀ h',IsZip h' (s.heap.objs.size+4) (s.heap.objs.size+2) (s.heap.objs.size+3) .none→IsPair h' (s.heap.objs.size+2) (.ref s.heap.objs.size) (.ref (s.heap.objs.size+1))→IsPair h' (s.heap.objs.size+3) .none .none →
   IsTupIter h' s.heap.objs.size l 0→IsTupIter h' (s.heap.objs.size+1) m 0→h'.objs.size=s.heap.objs.size+5→(∀ c o,s.heap.get? c=some o→h'.get? c=some o)→Q (.ref (s.heap.objs.size+4)) { s with heap:=h' }) :
  wpAny (model prog w) A (call (.type "zip") [.ref l,.ref m]) Q E s:=by
 refine callType_new F.called_zip (by decide) (F.typeCall_zip_2 _ _) (F.newCall_zip_2 _ _) (fun obj=>F.args_object_init_3 obj _ _) F.entry_zip_new (mK l m xs ys) ⟨tl,tm,?_⟩;have n1:(zT1 s.heap l).objs.size=s.heap.objs.size+1:=Heap.size_push ..;have n2:(zT2 s.heap l m).objs.size=s.heap.objs.size+2:=by rw [Heap.size_push,n1]
 have n3:(zT3 s.heap l m).objs.size=s.heap.objs.size+3:=by rw [Heap.size_push,n2]
 have n4:(zT4 s.heap l m).objs.size=s.heap.objs.size+4:=by rw [Heap.size_push,n3]
 have n5:(zT5 s.heap l m).objs.size=s.heap.objs.size+5:=by rw [Heap.size_push,n4]
 have e5:(zT5 s.heap l m).get? (zT4 s.heap l m).objs.size=some _:=Heap.get?_push_size _ rfl;have e4:(zT5 s.heap l m).get? (zT3 s.heap l m).objs.size=some _:=Heap.get?_push_of_some _ (Heap.get?_push_size _ rfl);have e3:(zT5 s.heap l m).get? (zT2 s.heap l m).objs.size=some _:=Heap.get?_push_of_some _ (Heap.get?_push_of_some _ (Heap.get?_push_size _ rfl));have e2:(zT5 s.heap l m).get? (zT1 s.heap l).objs.size=some _:=Heap.get?_push_of_some _ (Heap.get?_push_of_some _ (Heap.get?_push_of_some _ (Heap.get?_push_size _ rfl)));have e1:(zT5 s.heap l m).get? s.heap.objs.size=some _:=Heap.get?_push_of_some _ (Heap.get?_push_of_some _ (Heap.get?_push_of_some _ (Heap.get?_push_of_some _ (Heap.get?_push_size _ rfl))));refine show _∧_ from ?_;rw [n2,n3,n4] at e5;rw [n1,n2] at e3;rw [n3] at e4;rw [n1] at e2;rw [n4];exact ⟨⟨_,e5,rfl⟩,q _ e5 e3 e4 ⟨_,e1,rfl,rfl⟩ ⟨_,e2,rfl,rfl⟩ n5 fun c o x=>Heap.get?_push_of_some _ (Heap.get?_push_of_some _ (Heap.get?_push_of_some _ (Heap.get?_push_of_some _ (Heap.get?_push_of_some _ x))))⟩
end
section
variable {X:Cx} {elts:List Expr} {k:Nat} {tpos:Pos}
end
section
variable {X:Cx} {K:PySem.W.Frag}
end
section
variable {prog:Program} {w:World} {A:Around} {E:Value→Shared→Prop} {s:Shared}
end
section
variable {X:Cx}
def DicQ (K:PySem.W.Frag) (H:Hp) (p:Addr) (fs:List (Str×Dt)):Prop :=
 ∃ kvs,H p=some (.dK kvs)∧kvs.map (·.1)=fs.map (fun p=>(Sum.inr p.1:Key))∧∀ z,(aR fs z=none→aK kvs (Sum.inr z:Key)=none)∧∀ d,aR fs z=some d→∃ v,aK kvs (Sum.inr z:Key)=some v∧IsP K H d v
theorem DicQ.p {K:PySem.W.Frag} {H:Hp} {p:Addr} {fs:List (Str×Dt)} (h:DicQ K H p fs):DicP K H p fs:=by
 obtain ⟨kvs,e,_,k⟩:=h;exact ⟨kvs,e,k⟩
end
section
variable {prog:Program} {w:World} {A:Around} {E:Value→Shared→Prop} {s:Shared}
theorem ud {a:Addr} {Q:Option Obj→Shared→Prop} (h:Q (s.heap.get? a) s):wpAny (model prog w) A (loadIfAlive a) Q E s:=fun Γ p _=>by
 show Sem.wp _ _ (.loadIfAlive a .pure) _ _ _ _;rw [Sem.wp_loadIfAlive];exact h
end
section
variable {prog:Program} {w:World} {A:Around} {E:Value→Shared→Prop} {s:Shared}
end
def lay (H:Hp):List (Addr×HO)→Hp
 | []=>H
 | p :: r=>lay (upd H p.1 p.2) r
theorem oi:∀ {r:List (Addr×HO)} {H:Hp} {b:Addr} {o:HO},lay H r b=some o→H b=some o∨(b,o)∈r
 | [],_,_,_,h=>.inl h
 | p :: r,H,b,o,h=>by
  rcases oi (r:=r) h with h | h
  ·by_cases hb:b=p.1
   ·subst hb;rw [ac] at h;obtain rfl:=Option.some.inj h;exact .inr List.mem_cons_self
   ·rw [ah hb] at h;exact .inl h
  ·exact .inr (List.mem_cons_of_mem _ h)
theorem jx:∀ {r:List (Addr×HO)} {H:Hp},(∀ p∈r,H p.1=none)→(r.map (·.1)).Nodup→Same H (lay H r)
 | [],H,_,_=>Same.refl H
 | p :: r,H,f,n=>by
  have n':=List.nodup_cons.mp (show (p.1 :: r.map (·.1)).Nodup from n);refine (ag (f p List.mem_cons_self) p.2).trans (jx (fun q hq=>?_) n'.2);rw [ah (show q.1≠p.1 from fun e=>n'.1 (List.mem_map.mpr ⟨q,hq,e⟩))];exact f q (List.mem_cons_of_mem _ hq)
theorem qP:∀ {r:List (Addr×HO)} {H:Hp},(∀ p∈r,H p.1=none)→(r.map (·.1)).Nodup→∀ p∈r,lay H r p.1=some p.2
 | [],H,_,_=>fun p hp=>by cases hp
 | p :: r,H,f,n=>fun q hq=>by
  have n':=List.nodup_cons.mp (show (p.1 :: r.map (·.1)).Nodup from n);have f':∀ q∈r,upd H p.1 p.2 q.1=none:=fun q hq=>by
   rw [ah (show q.1≠p.1 from fun e=>n'.1 (List.mem_map.mpr ⟨q,hq,e⟩))];exact f q (List.mem_cons_of_mem _ hq)
  rcases List.mem_cons.mp hq with rfl | hq
  ·exact jx f' n'.2 _ _ ac
  ·exact qP f' n'.2 q hq
section
variable {X:Cx} {pins:List (Addr×Obj)} {σ:St} {H H':Hp} {s:Shared} {h':Heap}
theorem Inv.many {t':Nat} (I:Inv X pins σ H s) (k:∀ b u,s.heap.get? b=some u→h'.get? b=some u) (old:Same H H') (new:∀ b o,H' b=some o→H b=some o∨s.heap.objs.size≤b∧ObjOk X.prog X.w H' h' b o):Inv X pins σ H' { s with heap:=h',toks:=t' }:=by
 refine I.un ⟨fun b u q _ _ _=>k b u q,fun b u q _ _ _=>⟨u.slots,k b u q⟩,fun b u q n _=>?_,fun b u q _=>⟨u,k b u q⟩,fun b xs q=>old _ _ q,fun b u xs q=>old _ _ q,fun b ps q=>⟨#[],by rw [old _ _ q];simp⟩⟩ fun b o e=>?_
 ·cases e:H' b with
  | none=>rfl
  | some o =>
   rcases new b o e with e' | ⟨l,_⟩
   ·rw [n] at e';cases e'
   ·exact absurd (Heap.lt_size q) (Nat.not_lt.mpr l)
 ·rcases new b o e with e' | ⟨_,ok⟩
  ·exact (I.hok b o e').stay (fun c v _ q=>k c v q) (fun c q=>old _ _ q) fun c xs q=>old _ _ q
  ·exact ok
end
def enD:Nat→List Dt→List Dt
 | _,[]=>[]
 | j,d :: l=>.tup [.int j,d] :: enD (j+1) l
abbrev wq (j tk:Nat) (x:Value):Obj:={ cls:=.type "tuple",data:=.seq #[.int j tk,x] }
inductive Rws (h:Heap) (lo:Nat):Nat→List V→List (Addr×HO)→Prop
 | nil {j:Nat}:Rws h lo j [] []
 | cons {j T tk:Nat} {x:Value} {v:V} {vs:List V} {r:List (Addr×HO)}:lo < T→RelV v x→h.get? T=some (wq j tk x)→Rws h lo (j+1) vs r→Rws h lo j (v :: vs) ((T,plO [.int j,v] [.int j tk,x]) :: r)
theorem iX:∀ (r:List (Addr×HO)),Vals (r.map fun p=>V.ref p.1) (r.map fun p=>Value.ref p.1)
 | []=>.nil
 | p :: r=>.cons rfl (iX r)
section
variable {X:Cx}
end
section
variable {prog:Program} {w:World} {A:Around} {E:Value→Shared→Prop} {s:Shared}
end
section
variable {X:Cx}
end
def Itd (a:Addr) (ob:Obj) (kvs:List (Key×V)):It where
 go i H:=H a=some (.frz ob (.dK kvs))∧i < kvs.length
 yld i H x H':=H'=H∧∀ p,kvs[i]?=some p→x=kV p.1
 stop i H:=H a=some (.frz ob (.dK kvs))∧kvs.length≤i
theorem sM {P:Program} {w:World} {k:Key} {v:Value} (h:(ao P w).is k v=true):RelV (kV k) v:=by
 rcases aJ (show gn k v=true from h) with ⟨i,t,rfl,rfl⟩ | ⟨x,t,rfl,rfl⟩
 ·exact ⟨t,rfl⟩
 ·exact ⟨t,rfl⟩
theorem qQ {X:Cx} {pins:List (Addr×Obj)} {σ:St} {H:Hp} {s:Shared} {a:Addr} {ob:Obj} {kvs:List (Key×V)} {es:Array DictEntry} {ep:Nat} (I:Inv X pins σ H s) (ha:H a=some (.frz ob (.dK kvs))) (hep:ob.data=.dict es ep) :
  ∃ vs,KV kvs vs∧s.heap.DictAt (ao X.prog X.w) a vs ep∧(a == sysModules)=false:=by
 obtain ⟨ho,_,hs,vs,r,o,es',ep',h1,h2,h3,h4⟩:=(show ObjOk X.prog X.w H s.heap a (.frz ob (.dK kvs)) from I.hok a _ ha);rw [ho] at h1;obtain rfl:=Option.some.inj h1;have h3':=h3;rw [hep] at h3';injection h3' with e1 e2
 subst e1 e2;exact ⟨vs,r,⟨ob,es,ho,h2,hep,h4⟩,hs⟩
theorem pz {P:Program} {w:World} {K:PySem.W.Frag} {tg:Expr} (a it:Addr) (ob:Obj) (kvs:List (Key×V)) (es:Array DictEntry) (ep:Nat) (hep:ob.data=.dict es ep) :
  Turn P w K tg (Itd a ob kvs) [it] it (fun i h=>h.IsKeyIter it a i kvs.length ep) where
 mem:=by simp
 obj:=fun i h st b hb=>by
  have e:b=it:=by simpa using hb
  subst e;obtain ⟨o,e,c,d⟩:=st;exact ⟨o,e,fun v z=>by rw [d] at z;cases z⟩
 keep:=fun i h h' st k=>st.at fun o e=>k it (by simp) o e
 item:=by
  intro X hP hw hK hc i pins s σ H E I hf st hg;subst hP hw hK;obtain ⟨ha,hi⟩:=hg;obtain ⟨vs,r,at0,_⟩:=qQ I ha hep;have hl:=r.length;obtain ⟨⟨k,v⟩,hk⟩:∃ p,vs[i]?=some p:=⟨_,List.getElem?_eq_getElem (by lia)⟩;have hk':(kvs.map (·.1))[i]?=some k:=by rw [r.keys,List.getElem?_map,hk];rfl
  obtain ⟨f0,f1,f2,f3,f4,f5⟩:=hf it (by simp);refine wpAny_pyNext_dict_item (knd:=ao X.prog X.w) (show s.heap.IsKeyIter it a i vs.length ep by rw [← hl];exact st) at0 hk fun key h' hkey st' sb=>?_;have I1:Inv X pins σ H { s with heap:=h' }:=I.turned (t':=s.toks) (fun b o hb e=>(sb.2 b hb).trans e) f0 f1 f3 f4 f5;rw [← hl] at st';obtain ⟨o,e,c,d⟩:=id st';refine ⟨key,rfl,gv (s:={ s with heap:=h' }) e c d (by decide) ⟨kV k,H,I1,sM hkey,⟨rfl,fun p hp=>?_⟩,st',fun b hb=>(hf b hb).1⟩⟩;rw [List.getElem?_map,hp] at hk';exact congrArg kV (Option.some.inj hk').symm
 done:=by
  intro X hP hw hK hc i pins s σ H E I hf st hg;subst hP hw hK;obtain ⟨ha,hi⟩:=hg;obtain ⟨vs,r,at0,_⟩:=qQ I ha hep;have hl:=r.length;obtain ⟨f0,f1,f2,f3,f4,f5⟩:=hf it (by simp);exact wpAny_pyNext_dict_end (knd:=ao X.prog X.w) (I.ok.hd hc) (show s.heap.IsKeyIter it a i vs.length ep by rw [← hl];exact st) at0 (List.getElem?_eq_none (by lia)) fun h' eb=>⟨rfl,I.turned (t':=s.toks) (fun b o hb e=>eb b o hb e) f0 f1 f3 f4 f5⟩
 self:=fun _ _ _ _ _ st h=>wpAny_pyIter_keyiter st h
section
variable {X:Cx} {tg:Expr} {pins:List (Addr×Obj)} {σ:St} {H:Hp} {s:Shared}
theorem Inv.freeze {a:Addr} {ob:Obj} {kvs:List (Key×V)} (I:Inv X pins σ H s) (ha:H a=some (.dK kvs)) (ho:s.heap.get? a=some ob):Inv X pins σ (upd H a (.frz ob (.dK kvs))) s:=by
 refine I.step (h':=s.heap) (g':=s.gens) (d':=s.drawn) (t':=s.toks) (ch:=[]) (fun _ z=>nomatch z) (fun b o _ _ _ e _=>e) (fun b o _ _ _ e _=>⟨o.slots,e⟩) (fun b o _ e n=>?_) (fun b o _ e=>⟨o,e⟩) (fun b xs e=>?_) (fun b o u e=>?_) (fun b ps e=>?_) (fun m e=>e) (fun b u e=>?_) I.bare
 ·rw [ah (fun z=>by rw [z,ha] at n;cases n)];exact n
 ·rw [ah (fun z=>by rw [z,ha] at e;cases e)];exact e
 ·rw [ah (fun z=>by rw [z,ha] at e;cases e)];exact e
 ·refine ⟨#[],?_⟩;rw [ah (fun z=>by rw [z,ha] at e;cases e),Array.append_empty];exact e
 ·have st:∀ {u:HO},ObjOk X.prog X.w H s.heap b u→ObjOk X.prog X.w (upd H a (.frz ob (.dK kvs))) s.heap b u:=fun q=>q.stay (fun _ _ _ e=>e) (fun c r=>by rw [ah (fun z=>by rw [z,ha] at r;cases r)];exact r) fun c xs r=>by rw [ah (fun z=>by rw [z,ha] at r;cases r)];exact r
  by_cases hb:b=a
  ·subst hb;rw [ac] at e;obtain rfl:=Option.some.inj e;exact ⟨ho,st (I.hok b _ ha)⟩
  ·rw [ah hb] at e;exact st (I.hok b _ e)
end
section
variable {X:Cx}
end
section
variable {a:Addr} {ob:Obj} {kvs:List (Key×V)} {g:TG} {l:Addr} {σ0:St} {H0:Hp} {R:Hp→Prop} {tb:List V→Addr→St→Hp→(List V→St→Hp→Prop)→Prop}
end
section
variable {X:Cx}
theorem fw {elt tgt iter c:Expr} {scope:Scope} {pos spos py:Pos} {NL N':List Str} {ρ:List Nat} {wi:TI} {g:TG} {tc:TT} {te:TE} {j:Nat} {y:Str} (hN:X.N.Nodup) (hj:X.N[j]?=some y) (hy:Loc X.env.scope y)
  (hc:X.calm=true) (S:CScope X scope NL ρ N') (hi:PI X tgt iter wi) (hg:∀ C s₀ H₀ fp,PG (ccx X scope C N' s₀ H₀ fp) tgt g) (ht:∀ C s₀ H₀ fp,PT (ccx X scope C N' s₀ H₀ fp) c tc) (he:∀ C s₀ H₀ fp,PE (ccx X scope C N' s₀ H₀ fp) elt te)
  (hsw:swapsWith (.ListComp elt [⟨tgt,iter,[c],0⟩] scope pos) (some (.Name y py)) spos.line X.env=pure true:=by rfl) (hfn:X.fn y=true∨X.env.scope.names.lookup y=some .local:=by first | exact .inl rfl | exact .inr rfl | assumption)
  (hs:∀ x,foldedSetIterable iter X.env x=pure x:=by intro _;rfl):PS X (.Assign [.Name y py] (.ListComp elt [⟨tgt,iter,[c],0⟩] scope pos) spos) (pY (iO NL.length ρ wi g (cIf tc te)) (gu j)) :=
 kZ (body:=fun acc env=>do
  let b ← PySem.isTrue c env (eval c env)
  if b then (do let x ← eval elt env;let _ ← call (.builtin "list.append") [acc,x];pure ()) else pure ()) hN hj hy hfn hsw hc S hi hg (fun C s₀ H₀ fp=>tW (ht C s₀ H₀ fp) (he C s₀ H₀ fp)) (fun it acc env=>kJ elt tgt iter c scope pos it acc env) hs
end
section
variable {prog:Program} {w:World} {A:Around} {E:Value→Shared→Prop} {s:Shared}
end
section
variable {X:Cx}
end
section
variable {X:Cx} {K:PySem.W.Frag}
theorem qR {K:PySem.W.Frag} {H:Hp} {d:Dt} {x:V} (h:IsP K H d x):∀ k:Nat,IsPs K H (List.replicate k d) (List.replicate k x)
 | 0=>.nil
 | k+1=>.cons h (qR h k)
end
section
variable {X:Cx} {K:PySem.W.Frag}
inductive JSlP (K:PySem.W.Frag) (x:V) (lo hi:Option Int) (H:Hp) (Q:VK):Prop
 | mk (l:List Dt):(IsP K H (.tup l) x)→(∀ v H',Same H H'→IsP K H' (.tup (eD l lo hi)) v→Q v H')→JSlP K x lo hi H Q
def xf (K:PySem.W.Frag):V→Option Int→Option Int→Hp→VK→Prop:=fun x lo hi H Q=>JSlP K x lo hi H Q
inductive JLenS (K:PySem.W.Frag) (xs:List V) (H:Hp) (Q:VK):Prop
 | mk (p:Addr) (ys:List V):(xs=[.ref p])→((SqL K H p ys∨SqT K H p ys))→(Q (.int ys.length) H)→JLenS K xs H Q
def wt (K:PySem.W.Frag):List V→Hp→VK→Prop:=fun xs H Q=>JLenS K xs H Q
def sN (K:PySem.W.Frag):List V→Hp→VK→Prop:=fun xs H Q=>∃ p ys,xs=[.ref p]∧(SqL K H p ys∨SqT K H p ys)∧∀ l,H l=none→Q (.ref l) (upd H l (.lst ys))
def xh (K:PySem.W.Frag):List V→Hp→VK→Prop:=fun xs H Q=>∃ p ys,xs=[.ref p]∧true=true∧SqL K H p (bls ys)∧Q (.bl (ys.all id)) H
theorem eI (hK:X.K=K):SlR X (xf K):=by
 subst hK;intro pins s σ H x v vl vu lo hi sl Q I rx hs pl pu h;obtain ⟨l,a,q⟩:=h;exact sE _ _ _ _ _ _ _ _ _ _ _ _ I rx hs pl pu ⟨l,a,q⟩
theorem lg (hK:X.K=K):SlR X (vT K):=by subst hK;exact sq
theorem lh (hK:X.K=K):OpR X (binaryOp .Add) (t7 K):=by subst hK;exact sJ
theorem aM (hK:X.K=K):aW X (.builtin "len") (wt K):=by
 subst hK;intro pins s σ H xs us Q I r h;obtain ⟨x,l,a,b,q⟩:=h;exact eB _ _ _ _ _ _ _ I r ⟨x,l,a,b,q⟩
theorem im (hK:X.K=K):aW X (.type "list") (sN K):=by subst hK;exact jl
theorem call_allN (hK:X.K=K) (hc:X.calm=true):aW X (.builtin "all") (xh K):=by
 subst hK;intro pins s σ H xs us Q I r h;obtain ⟨p,ys,rfl,_,hs,q⟩:=h;exact qq _ _ _ _ _ _ _ I r ⟨p,ys,rfl,hc,hs,q⟩
end
section
variable {K:PySem.W.Frag} {a b l:Addr} {xs ys:List V} {g:TG} {tb:List V→Addr→St→Hp→(List V→St→Hp→Prop)→Prop} {R:Hp→Prop} {σ0:St} {H0:Hp}
end
section
variable {X:Cx} {K:PySem.W.Frag}
theorem oj:∀ {zs:List Str} {its:List Value},Vals (zs.map V.str) its→StrsAre its zs
 | [],its,h=>by cases h;exact .nil
 | z :: zs,its,h=>by
  cases h with
  | cons h1 h2 =>
   obtain ⟨t,rfl⟩:=h1;exact .cons z t (oj h2)
theorem gL:∀ {zs:List Str} {its:List Value},StrsAre its zs→∀ (m:Nat) (hm:m < its.length) (k:Str),isStrOf k its[m]=decide (zs[m]?=some k)
 | _,_,.nil,m,hm,_=>absurd hm (Nat.not_lt_zero _)
 | _,_,.cons z t h,0,hm,k=>by
  show (z == k)=decide (some z=some k)
  by_cases e:z=k
  ·subst e;simp
  ·rw [decide_eq_false (fun c=>e (Option.some.inj c))]
   simpa using e
 | _,_,.cons z t h,m+1,hm,k=>gL h m (by simpa using hm) k
end
end L2
namespace PySem
open Sem (wp)
namespace F
end F
section
variable {prog:Program} {w:World} {K:Type} [DecidableEq K] {kd:KeyKind prog w K} {A:Around} {E:Value→Shared→Prop}
end
end PySem
namespace L2
open PySem PySem.Spec PyProof.Rows
def kDt:Key→Dt
 | .inl i=>.int i
 | .inr z=>.str z
theorem jy {K:PySem.W.Frag} {H:Hp} {k:Key} {v:V} (h:IsP K H (kDt k) v):v=kV k:=by
 cases k <;> (cases h;rfl)
theorem iY {K:PySem.W.Frag} {H:Hp}:∀ {ks:List Key} {xs:List V},IsPs K H (ks.map kDt) xs→xs=ks.map kV
 | [],_,h=>by cases h;rfl
 | k :: ks,_,h=>by
  cases h with
  | cons h r=>rw [jy h,iY r];rfl
def wx (P:Program) (w:World) (p:Addr) (xs:List (List Key×Addr×Value)) (h:Heap):Prop :=
 ∃ o es ep,h.get? p=some o∧o.ExactDict∧o.data=.dict es ep∧es.toList=xs.map (entryOfKey (tupleKind (ao P w)))∧(xs.map (·.1)).Nodup
def xw (P:Program) (w:World) (K:PySem.W.Frag) (H:Hp) (p:Addr) (kvs:List (List Key×Dt)):Prop :=
 (p == sysModules)=false∧∃ xs:List (List Key×Addr×Value),H p=some (.ext (wx P w p xs)) ∧
  Paired (fun (a:List Key×Dt) (b:List Key×Addr×Value)=>a.1=b.1∧IsP K H (.tup (a.1.map kDt)) (.ref b.2.1)∧∃ v,RelV v b.2.2∧IsP K H a.2 v) kvs xs
section
variable {X:Cx} {pins:List (Addr×Obj)} {σ:St} {H:Hp} {s:Shared}
theorem sO (I:Inv X pins σ H s) {ks:List Key} {a:Addr} (h:IsP X.K H (.tup (ks.map kDt)) (.ref a)):IsTupleKey (ao X.prog X.w) s.heap ks a:=by
 obtain ⟨b,ys,e,ha,_,ra⟩:=h.unref
 cases e
 obtain ⟨its,r,⟨o,h1,h2,n,h3⟩,_⟩:=I.tuple ha;rw [iY ra] at r;exact ⟨o,its.toArray,n,h1,h2,h3,by simpa using fq r⟩
end
end L2
namespace PySem
open Sem (wp)
section
variable {prog:Program} {w:World} {K:Type} [DecidableEq K] {knd:HeapKind prog w K} {A:Around} {E:Value→Shared→Prop} {s:Shared}
end
end PySem
namespace L2
open PySem PySem.Spec PyProof.Rows
section
variable {X:Cx} {pins:List (Addr×Obj)} {σ:St} {H:Hp} {s:Shared}
end
theorem u2 {A:Around} (h:A.units+64 < cLine):A.units+2 < cLine:=by lia
section
variable {X:Cx} {o e f:Expr} {apos cpos:Pos} {td ty tx:TE}
end
end L2
namespace PySem
open Sem (wp)
open PyProof.Rows
section
variable {prog:Program} {w:World} {A:Around} {E:Value→Shared→Prop} {s:Shared} {δ:Type} {R:δ→Value→Prop} {h₀:Heap} {a:Addr} {D:List (Str×δ)} {k:Str} {tk:Tok}
theorem lp {Q:Option Value→Shared→Prop} (T:KTD.TabOf R h₀ a D) (kp:∀ b o,h₀.get? b=some o→s.heap.get? b=some o) (q1:∀ d v,KTD.datumAt k D=some d→R d v→Q (some v) { s with toks:=s.toks+1 })
  (q2:KTD.datumAt k D=none→Q none { s with toks:=s.toks+1 }):wpAny (model prog w) A (dictGet a (.str k tk)) Q E s:=by
 obtain ⟨_,o,es,ep,ho0,hc,hd,hr⟩:=T;have ho:=kp _ _ ho0;obtain ⟨l⟩:=es;unfold dictGet
 try with_reducible refine wpAny_holding ?_
 refine wpAny_bind (wpAny_pyHash_str (wpAny_bind (KTD.kt_dictFind_strs (s:={ s with toks:=s.toks+1 }) ho hd (by simpa using hr.exact) ?_)));have hq:Q (findBy (fun k v=>v.isStr k) (Array.mk l) k) { s with toks:=s.toks+1 }:=by
  rw [show findBy (fun k v=>v.isStr k) (Array.mk l) k=(l.find? fun e=>e.key.isStr k).map (·.val) by simp [findBy]]
  cases hat:KTD.datumAt k D with
  | none=>rw [show (l.find? fun e=>e.key.isStr k).map (·.val)=none by have:=hr.find_none hat;simpa using this];exact q2 hat
  | some d =>
   obtain ⟨v,hv,rv⟩:=hr.find_some hat;rw [show (l.find? fun e=>e.key.isStr k).map (·.val)=some v from hv];exact q1 d v hat rv
 rw [findBy_of_findIdx?] at hq
 cases hi:(Array.mk l).findIdx? fun e=>e.key.isStr k with
 | some i=>rw [hi] at hq;exact wpAny_bind (wpAny_dictEntries (s:={ s with toks:=s.toks+1 }) ho hd (wpAny_pure hq))
 | none=>rw [hi] at hq;exact wpAny_pure hq
theorem mL {dflt:Value}:MeetsIn prog w (Builtin.«dict.get» ⟨[.ref a,.str k tk,dflt],[]⟩) (fun _ Rr s=>KTD.TabOf R h₀ a D∧(∀ b o,h₀.get? b=some o→s.heap.get? b=some o)∧(∀ d v,KTD.datumAt k D=some d→R d v→Rr (.ok (.ret v)) { s with toks:=s.toks+1 }) ∧
  (KTD.datumAt k D=none→Rr (.ok (.ret dflt)) { s with toks:=s.toks+1 })) :=
 .of_wp fun A Rr s ⟨T,kp,h1,h2⟩=>by
  show wpAny _ _ (dictGet a (.str k tk) >>= _) _ _ s;refine wpAny_bind (lp T kp (fun d v ha hv=>wpAny_pure ⟨v,rfl,h1 d v ha hv⟩) fun hn=>wpAny_bind (m:=Builtin.Dict.missed a (.str k tk)) (wpAny_missed_other T.1 (wpAny_pure ⟨dflt,rfl,h2 hn⟩)))
end
end PySem
namespace L2
open PySem PySem.Spec PyProof.Rows
def mM (K:PySem.W.Frag) (a:Addr) (D:List (Str×Addr)):Prop:=∀ h,K.In h→KTD.TabOf (fun b v=>v=Value.ref b) h a D
theorem vF {K:PySem.W.Frag} {a:Addr} {D:List (Str×Addr)} (e:KTD.tabLook (fun b v=>v == Value.ref b) (fun b=>K.lookup b) a D=true):mM K a D :=
 fun _ X=>KTD.tab_of_look (L:=fun b v=>v == Value.ref b) (R:=fun b v=>v=Value.ref b) (fun _ _ z=>eq_of_beq z) (fun b o q=>X b o q) e
def jz (K:PySem.W.Frag) (b:Addr) (ws:List Str):Bool:=match K.lookup b with
 | some o=>o.cls == .type "tuple" && (match o.data with | .seq vs _=>KTD.strsLook vs.toList ws && decide (vs.size≤1000) | _=>false)
 | none=>false
def qS (K:PySem.W.Frag) (D:List (Addr×List Str)):Bool:=D.all fun p=>jz K p.1 p.2
def ue (K:PySem.W.Frag) (D:List (Addr×List Str)):Prop:=∀ p∈D,∀ H:Hp,SqT K H p.1 (p.2.map V.str)
theorem wy {K:PySem.W.Frag} {D:List (Addr×List Str)} (e:qS K D=true):ue K D:=by
 intro p hp H;have e1:jz K p.1 p.2=true:=List.all_eq_true.mp e p hp;unfold jz at e1
 split at e1
 ·rename_i o ho
  simp only [Bool.and_eq_true] at e1;obtain ⟨e2,e3⟩:=e1
  split at e3
  ·rename_i vs n hd
   simp only [Bool.and_eq_true] at e3;exact .inr ⟨o,vs,n,ho,eq_of_beq e2,hd,Nat.le_of_lt (ai (of_decide_eq_true e3.2)),iV (KTD.strs_of_look e3.1)⟩
  ·cases e3
 ·cases e1
def lq (k:Str):List (Str×Addr)→Option Addr
 | []=>none
 | (x,b) :: D=>if k=x then some b else lq k D
theorem gM {k:Str}:∀ D:List (Str×Addr),KTD.datumAt k D=lq k D
 | []=>rfl
 | (x,b) :: D=>by
  show (if decide (k=x)=true then some b else KTD.datumAt k D)=_
  by_cases h:k=x
  ·simp [lq,h]
  ·simp [lq,h,gM D]
def uW (D:List (Str×Addr)) (ty tx:TE):TE:=fun σ H Q=>ty σ H fun y H1=>tx σ H1 fun z H2=>∃ k,y=.str k∧Q (match lq k D with | some b=>.ref b | none=>z) H2
section
variable {X:Cx}
theorem pe_kgetA {x:Str} {ad:Addr} {D:List (Str×Addr)} {e f:Expr} {ty tx:TE} {p apos cpos:Pos} (hD:mM X.K ad D) (hg:Gl X x) (hm:X.mg x=some (.ref ad)) (he:PE X e ty) (hf:PE X f tx) (m:M2 X (.Name x p) "get" apos e f cpos) (hdb:(x == ("__debug__" : Str))=false:=by decide) :
  PE X (.Call (.Attribute (.Name x p) "get" apos) [e,f] [] cpos) (uW D ty tx):=by
 intro pins s σ H Q I h;have T:∀ {s':Shared} {σ':St} {H':Hp} {pins':List (Addr×Obj)},Inv X pins' σ' H' s'→KTD.TabOf (fun b v=>v=Value.ref b) X.base ad D:=fun J=>hD _ J.ok.mod.kin;have ty0:∀ {s':Shared} {σ':St} {H':Hp} {pins':List (Addr×Obj)},Inv X pins' σ' H' s'→s'.TypeIs (.ref ad) "dict" ∧(∀ b,Value.ref ad=.ref b→∃ ob,s'.heap.get? b=some ob∧ob.dict=none):=fun {s' σ' H' pins'} J=>by
  obtain ⟨_,o,_,_,ho,hc,_⟩:=T J;refine ⟨⟨o,J.bk _ _ ho,hc.1⟩,fun b q=>?_⟩;injection q with q
  subst q;exact ⟨o,J.bk _ _ ho,hc.2.1⟩
 refine wpAny_Call_method_late m.base m.few m.line rfl (er I hg hm ?_ hdb);refine ⟨"dict","dict.get",PySem.F.plainAttrs_dict,PySem.F.slot_dict_get,PySem.F.type_dict_get,(ty0 I).1,(ty0 I).2,?_⟩;rw [m.trees];refine Calls.callWith_builtin rfl (Calls.evalArgs_plain (Calls.spliced_cons (thn (he pins s σ H _ I h) fun iv s2 ⟨y,H2,I2,ry,q2⟩ =>
  Calls.spliced_cons (thn (hf pins s2 σ H2 _ I2 q2) fun fv s3 ⟨z,H3,I3,rz,k,ey,q3⟩=>Calls.spliced_nil ?_))))
 subst ey;obtain ⟨tk,rfl⟩:=ry;refine call_meetsIn PySem.F.slot_dict_get (ty0 I3).1 PySem.F.entry_dict_get (PySem.F.args_dict_get_3 _ _ _) (mL (h₀:=X.base) (D:=D) (R:=fun b v=>v=Value.ref b)) ⟨T I3,fun b o z=>I3.bk b o z,fun b v hb hv=>?_,fun hn=>?_⟩
 ·subst hv;rw [← gM,hb] at q3;exact ⟨.ref b,H3,I3.tok _,rfl,q3⟩
 ·rw [← gM,hn] at q3;exact ⟨z,H3,I3.tok _,rz,q3⟩
end
section
variable {prog:Program} {w:World} {A:Around} {E:Value→Shared→Prop} {s:Shared}
abbrev zpO (f0:Value) (f1:Bool) (P0 P1:Addr):Obj:={ cls:=.type "zip",dict:=none,data:=.fields #[f0,.bool f1,.bool false,.ref P0,.ref P1],slots:=#[] }
def ZS (h:Heap) (z P0 P1 u v:Addr):Prop:=∃ (T:Nat) (f1:Bool) (o:Obj),h.get? z=some (zpO (rawInt T) f1 P0 P1)∧h.get? T=some o∧T≠z∧T≠u∧T≠v∧o.cls=.type "tuple"
theorem pA {z P0 P1 u v l m:Addr} {k:Nat} {xs ys:Array Value} {x y:Value} {Q:Option Value→Shared→Prop} (D:ZipApart z P0 P1 u v l m) (Z:ZS s.heap z P0 P1 u v) (I0:IsPair s.heap P0 (.ref u) (.ref v))
  (wu:IsTupIter s.heap u l k) (wv:IsTupIter s.heap v m k) (tl:IsTup s.heap l xs) (tm:IsTup s.heap m ys) (ex:xs[k]?=some x) (ey:ys[k]?=some y)
  (q:∀ h',ZS h' z P0 P1 u v→IsTupIter h' u l (k+1)→IsTupIter h' v m (k+1)→IsPair h' s.heap.objs.size x y→h'.objs.size=s.heap.objs.size+1 →
   (∀ c o,c≠z→c≠u→c≠v→s.heap.get? c=some o→h'.get? c=some o)→Q (some (.ref s.heap.objs.size)) { s with heap:=h' }):wpAny (model prog w) A (pyNext (.ref z)) Q E s:=by
 obtain ⟨T,f1,oT,gz,gT,n1,n2,n3,n4⟩:=Z;have hT:s.TypeIs (.ref z) "zip" :=⟨_,gz,rfl⟩;obtain ⟨hp,g,d,tk,os⟩:=s;unfold pyNext;refine wpAny_bind (wpAny_attempt (wpAny_callSpecial?_slot (name:=Str.ofString "__next__") hT F.slot_zip_next (wpAny_call_entry F.slot_zip_next hT F.entry_zip_next ?_ (F.args_zip_next_1 _))));refine show wpAny _ _ (field (.ref z) 2 >>= _) _ _ _ from wpAny_bind (wpAny_field gz rfl (x:=.bool false) rfl ?_);refine show wpAny _ _ (field (.ref z) 3 >>= _) _ _ _ from wpAny_bind (wpAny_field gz rfl (x:=.ref P0) rfl (wpAny_bind (wpAny_seqItems I0 rfl ?_)));refine show wpAny _ _ (Builtin.SmallTypes.ownedTupleIsFree (.ref z) >>= _) _ _ _ from wpAny_bind ?_;unfold Builtin.SmallTypes.ownedTupleIsFree;refine wpAny_bind (wpAny_field gz rfl (x:=rawInt T) rfl ?_);refine show wpAny _ _ (loadIfAlive (T:Int).toNat >>= _) _ _ _ from wpAny_bind (ud ?_);rw [Int.toNat_natCast];refine show wpAny _ _ (if (hp.get? T).isNone=true then _ else _) _ _ _ from ?_;rw [show hp.get? T=some oT from gT,if_neg (by simp)];refine show wpAny _ _ (field (.ref z) 1 >>= _) _ _ _ from wpAny_bind (wpAny_field gz rfl (x:=.bool f1) rfl ?_)
 cases f1 with
 | true =>
  refine wpAny_pure ?_;rw [if_neg (by decide)];refine wpAny_bind ?_;rw [← Array.forIn_toList];simp only [List.forIn_cons,List.forIn_nil];refine wpAny_bind (wpAny_bind (wpAny_holding ?_));refine show wpAny _ _ (Builtin.SmallTypes.nextOf (.ref u) >>= _) _ _ _ from wpAny_bind (a8 (s:=⟨hp,g,d,tk,os⟩) (wu) (tl) ex fun hb wb sb=>wpAny_pure ?_);refine wpAny_pure ?_;refine wpAny_bind (wpAny_bind (wpAny_holding ?_));refine show wpAny _ _ (Builtin.SmallTypes.nextOf (.ref v) >>= _) _ _ _ from wpAny_bind (a8 (s:=⟨hb,g,d,tk,os⟩) ((wv).extBut sb.extBut D.i12.symm) ((tm).extBut sb.extBut D.l2i1) ey fun hd wd sd=>wpAny_pure ?_);refine wpAny_pure (wpAny_pure ?_);refine wpAny_bind (wpAny_newTuple (hsz:=by show 2≤sizeLine;decide) ?_);replace sb:Heap.SameBut u hp hb:=sb;replace sd:Heap.SameBut v hb hd:=sd;have size:hd.objs.size=hp.objs.size:=by rw [sd.1,sb.1]
  have keep:∀ c o,c≠z→c≠u→c≠v→hp.get? c=some o→hd.get? c=some o:=fun c o m1 m2 m3 e=>sd.extBut _ _ m3 (sb.extBut _ _ m2 (e));have gzd:hd.get? z=some (zpO (rawInt T) true P0 P1):=sd.extBut _ _ D.i2z.symm (sb.extBut _ _ D.i1z.symm gz);have we:IsTupIter hd u l (k+1):=wb.extBut sd.extBut D.i12;have e:=q (hd.push { cls:=.type "tuple",data:=.seq #[x,y] }) ⟨T,true,oT,Heap.get?_push_of_some _ gzd,Heap.get?_push_of_some _ (keep T oT n1 n2 n3 gT),n1,n2,n3,n4⟩
   (by obtain ⟨o,ho,r⟩:=we;exact ⟨o,Heap.get?_push_of_some _ ho,r⟩) (by obtain ⟨o,ho,r⟩:=wd;exact ⟨o,Heap.get?_push_of_some _ ho,r⟩)
   (by show (hd.push _).get? hp.objs.size=_;rw [← size];exact Heap.get?_push_size _ rfl) (by rw [Heap.size_push,size]) fun c o m1 m2 m3 ec=>Heap.get?_push_of_some _ (keep c o m1 m2 m3 ec)
  refine wpAny_pure ⟨_,rfl,wpAny_pure ?_⟩;rw [← size] at e;exact e
 | false =>
  refine show wpAny _ _ (setField (.ref z) 1 (.bool true) >>= _) _ _ _ from wpAny_bind (wpAny_setField_rec gz (by simp) fun ha ga sa=>wpAny_pure ?_);replace sa:Heap.SameBut z hp ha:=sa;replace ga:ha.get? z=some (zpO (rawInt T) true P0 P1):=ga;rw [if_neg (by decide)];refine wpAny_bind ?_;rw [← Array.forIn_toList];simp only [List.forIn_cons,List.forIn_nil];refine wpAny_bind (wpAny_bind (wpAny_holding ?_));refine show wpAny _ _ (Builtin.SmallTypes.nextOf (.ref u) >>= _) _ _ _ from wpAny_bind (a8 (s:=⟨ha,g,d,tk,os⟩) (wu.extBut sa.extBut D.i1z) (tl.extBut sa.extBut D.l1z) ex fun hb wb sb=>wpAny_pure ?_);refine wpAny_pure ?_;refine wpAny_bind (wpAny_bind (wpAny_holding ?_));refine show wpAny _ _ (Builtin.SmallTypes.nextOf (.ref v) >>= _) _ _ _ from wpAny_bind (a8 (s:=⟨hb,g,d,tk,os⟩) ((wv.extBut sa.extBut D.i2z).extBut sb.extBut D.i12.symm) ((tm.extBut sa.extBut D.l2z).extBut sb.extBut D.l2i1) ey fun hd wd sd=>wpAny_pure ?_);refine wpAny_pure (wpAny_pure ?_);refine wpAny_bind (wpAny_newTuple (hsz:=by show 2≤sizeLine;decide) ?_);replace sb:Heap.SameBut u ha hb:=sb;replace sd:Heap.SameBut v hb hd:=sd;have size:hd.objs.size=hp.objs.size:=by rw [sd.1,sb.1,sa.1]
  have keep:∀ c o,c≠z→c≠u→c≠v→hp.get? c=some o→hd.get? c=some o:=fun c o m1 m2 m3 e=>sd.extBut _ _ m3 (sb.extBut _ _ m2 (sa.extBut _ _ m1 e));have gzd:hd.get? z=some (zpO (rawInt T) true P0 P1):=sd.extBut _ _ D.i2z.symm (sb.extBut _ _ D.i1z.symm ga);have we:IsTupIter hd u l (k+1):=wb.extBut sd.extBut D.i12;have e:=q (hd.push { cls:=.type "tuple",data:=.seq #[x,y] }) ⟨T,true,oT,Heap.get?_push_of_some _ gzd,Heap.get?_push_of_some _ (keep T oT n1 n2 n3 gT),n1,n2,n3,n4⟩
   (by obtain ⟨o,ho,r⟩:=we;exact ⟨o,Heap.get?_push_of_some _ ho,r⟩) (by obtain ⟨o,ho,r⟩:=wd;exact ⟨o,Heap.get?_push_of_some _ ho,r⟩)
   (by show (hd.push _).get? hp.objs.size=_;rw [← size];exact Heap.get?_push_size _ rfl) (by rw [Heap.size_push,size]) fun c o m1 m2 m3 ec=>Heap.get?_push_of_some _ (keep c o m1 m2 m3 ec)
  refine wpAny_pure ⟨_,rfl,wpAny_pure ?_⟩;rw [← size] at e;exact e
theorem qT {z P0 P1 u v l m:Addr} {k:Nat} {xs:Array Value} {Q:Option Value→Shared→Prop} (hh:A.handled=none) (D:ZipApart z P0 P1 u v l m) (Z:ZS s.heap z P0 P1 u v) (I0:IsPair s.heap P0 (.ref u) (.ref v))
  (wu:IsTupIter s.heap u l k) (tl:IsTup s.heap l xs) (ex:xs[k]?=none)
  (q:∀ h',(∀ c o,c≠z→c≠u→c≠v→s.heap.get? c=some o→h'.get? c=some o)→Q none { s with heap:=h' }):wpAny (model prog w) A (pyNext (.ref z)) Q E s:=by
 obtain ⟨T,f1,oT,gz,gT,n1,n2,n3,n4⟩:=Z;have hT:s.TypeIs (.ref z) "zip" :=⟨_,gz,rfl⟩;obtain ⟨hp,g,d,tk,os⟩:=s;unfold pyNext;refine wpAny_bind (wpAny_attempt (wpAny_callSpecial?_slot (name:=Str.ofString "__next__") hT F.slot_zip_next (wpAny_call_entry F.slot_zip_next hT F.entry_zip_next ?_ (F.args_zip_next_1 _))));refine show wpAny _ _ (field (.ref z) 2 >>= _) _ _ _ from wpAny_bind (wpAny_field gz rfl (x:=.bool false) rfl ?_);refine show wpAny _ _ (field (.ref z) 3 >>= _) _ _ _ from wpAny_bind (wpAny_field gz rfl (x:=.ref P0) rfl (wpAny_bind (wpAny_seqItems I0 rfl ?_)));refine show wpAny _ _ (Builtin.SmallTypes.ownedTupleIsFree (.ref z) >>= _) _ _ _ from wpAny_bind ?_;unfold Builtin.SmallTypes.ownedTupleIsFree;refine wpAny_bind (wpAny_field gz rfl (x:=rawInt T) rfl ?_);refine show wpAny _ _ (loadIfAlive (T:Int).toNat >>= _) _ _ _ from wpAny_bind (ud ?_);rw [Int.toNat_natCast];refine show wpAny _ _ (if (hp.get? T).isNone=true then _ else _) _ _ _ from ?_;rw [show hp.get? T=some oT from gT,if_neg (by simp)];refine show wpAny _ _ (field (.ref z) 1 >>= _) _ _ _ from wpAny_bind (wpAny_field gz rfl (x:=.bool f1) rfl ?_)
 cases f1 with
 | true =>
  refine wpAny_pure ?_;rw [if_neg (by decide)];refine wpAny_bind ?_;rw [← Array.forIn_toList];simp only [List.forIn_cons,List.forIn_nil];refine wpAny_bind (wpAny_bind (wpAny_holding ?_));refine show wpAny _ _ (Builtin.SmallTypes.nextOf (.ref u) >>= _) _ _ _ from wpAny_bind (dF (s:=⟨hp,g,d,tk,os⟩) hh (wu) (tl) ex fun hb e sb hex=>?_);obtain ⟨o,ho,hc⟩:=hex;exact wpAny_bind (wpAny_isInstance (T:= "StopIteration") (b:=true) ⟨o,ho,hc⟩ isSubtype_stop (wpAny_pure (q hb fun c o m1 m2 m3 e=>sb _ _ m2 (e))))
 | false =>
  refine show wpAny _ _ (setField (.ref z) 1 (.bool true) >>= _) _ _ _ from wpAny_bind (wpAny_setField_rec gz (by simp) fun ha ga sa=>wpAny_pure ?_);replace sa:Heap.SameBut z hp ha:=sa;rw [if_neg (by decide)];refine wpAny_bind ?_;rw [← Array.forIn_toList];simp only [List.forIn_cons,List.forIn_nil];refine wpAny_bind (wpAny_bind (wpAny_holding ?_));refine show wpAny _ _ (Builtin.SmallTypes.nextOf (.ref u) >>= _) _ _ _ from wpAny_bind (dF (s:=⟨ha,g,d,tk,os⟩) hh (wu.extBut sa.extBut D.i1z) (tl.extBut sa.extBut D.l1z) ex fun hb e sb hex=>?_);obtain ⟨o,ho,hc⟩:=hex;exact wpAny_bind (wpAny_isInstance (T:= "StopIteration") (b:=true) ⟨o,ho,hc⟩ isSubtype_stop (wpAny_pure (q hb fun c o m1 m2 m3 e=>sb _ _ m2 (sa.extBut _ _ m1 e))))
end
theorem gN:typeLookup (.type "zip") "__getattr__" = pure none:=by rw [typeLookup_type,builtinLookup_eq_fast];kernel_rfl
theorem lA:typeLookup (.type "zip") "keys" = pure none:=by rw [typeLookup_type,builtinLookup_eq_fast];kernel_rfl
theorem qU:entryFor table "zip.__getattribute__" = some Builtin.«object.__getattribute__»:=entryFor_alias (id':= "object.__getattribute__") (by kernel_rfl) (by decide +kernel) (by decide +kernel) (by kernel_rfl)
theorem mO (a:Addr) (fs:Array Value) (sl:Array (Option Value)) (u:Tok) :
  Meets (Builtin.«object.__getattribute__» ⟨[.ref a,.str "keys" u],[]⟩) (fun A R s=>s.heap.get? a=some { cls:=.type "zip",dict:=none,data:=.fields fs,slots:=sl }∧raisesAttr (.ref a) "keys" A R s) :=
 Meets.of_wp fun prog w A R s hs=>by
  obtain ⟨hp,g,d,tk,os⟩:=s;obtain ⟨hx,hr⟩:=hs;have hT:(⟨hp,g,d,tk,os⟩:Shared).TypeIs (.ref a) "zip" :=⟨_,hx,rfl⟩;have miss:=lA;have nm:(["__module__","__name__","__qualname__","__doc__","__annotations__"]:List Str).contains "keys" = false:=by decide
  unfold Builtin.«object.__getattribute__»;repeat (any_goals (first | assumption | wp_step))
  (try simp only [nm,Bool.false_eq_true,if_false]);repeat (any_goals (first | assumption | wp_step))
  exact wpAny_raiseAttrError hr.1 hr.2 (attrMsg_fits (by decide +kernel) (by decide))
section
variable {prog:Program} {w:World} {A:Around} {E:Value→Shared→Prop} {s:Shared}
theorem io {a:Addr} {fs:Array Value} {sl:Array (Option Value)} {Q:Option Value→Shared→Prop}
  (hx:s.heap.get? a=some { cls:=.type "zip",dict:=none,data:=.fields fs,slots:=sl }) (hA:A.handled=none)
  (h:∀ h' tk e,Heap.NewExcOf s.heap h' e "AttributeError" →Q none { s with heap:=h',toks:=tk }) :
  wpAny (model prog w) A (getAttr? (.ref a) "keys") Q E s:=by
 obtain ⟨hp,g,d,tk,os⟩:=s;have hT:∀ tk',(⟨hp,g,d,tk',os⟩:Shared).TypeIs (.ref a) "zip" :=fun _=>⟨_,hx,rfl⟩;have f1:=sub_AttributeError;have f3:=PySem.F.slot_zip_getattribute.lookup;have f4:=PySem.F.slot_zip_getattribute.bind (.ref a);have f5:=gN;unfold getAttr? getAttrBy? getAttrBy
 repeat (any_goals (first | assumption | exact hT _ | ((with_reducible show wpAny _ _ (call (Value.builtin "zip.__getattribute__") _ _) _ _ _);refine call_meets PySem.F.slot_zip_getattribute (hT _) qU (PySem.F.args_zip_getattribute_2 _ _) (mO a fs sl _) ⟨hx,hA,fun h' tk' e hx'=>?_⟩) | wp_step))
 obtain ⟨t',u',he⟩:=hx'.there;show wpAny _ _ (getattributeRaised _ _ _ _ _ _ _) _ _ _;unfold getattributeRaised
 repeat (any_goals (first | assumption | wp_step))
 all_goals exact h _ _ _ hx'.of
def ZQ (h:Heap) (z P0 P1 u v:Addr):Prop:=(IsZip h z P0 P1 .none∧∃ a b,IsPair h P1 a b)∨ZS h z P0 P1 u v
theorem iZ {z P0 P1 u v l m:Addr} {k:Nat} {xs ys:Array Value} {x y:Value} {Q:Option Value→Shared→Prop} (D:ZipApart z P0 P1 u v l m) (Z:ZQ s.heap z P0 P1 u v) (I0:IsPair s.heap P0 (.ref u) (.ref v))
  (wu:IsTupIter s.heap u l k) (wv:IsTupIter s.heap v m k) (tl:IsTup s.heap l xs) (tm:IsTup s.heap m ys) (ex:xs[k]?=some x) (ey:ys[k]?=some y)
  (q:∀ h',ZS h' z P0 P1 u v→IsTupIter h' u l (k+1)→IsTupIter h' v m (k+1)→IsPair h' s.heap.objs.size x y→h'.objs.size=s.heap.objs.size+1 →
   (∀ c o,c≠z→c≠P1→c≠u→c≠v→s.heap.get? c=some o→h'.get? c=some o)→Q (some (.ref s.heap.objs.size)) { s with heap:=h' }):wpAny (model prog w) A (pyNext (.ref z)) Q E s:=by
 have lu:u < s.heap.objs.size:=by obtain ⟨o,e,_⟩:=wu;exact Heap.lt_size e
 have lv:v < s.heap.objs.size:=by obtain ⟨o,e,_⟩:=wv;exact Heap.lt_size e
 rcases Z with ⟨Z,a,b,I1⟩ | Z
 ·have lz:z < s.heap.objs.size:=Heap.lt_size Z;exact px D Z I0 I1 wu wv tl tm ex ey fun h' z1 _ z3 z4 z5 z6 kp=>q h' ⟨_,false,_,z1,z5,Nat.ne_of_gt lz,Nat.ne_of_gt lu,Nat.ne_of_gt lv,rfl⟩ z3 z4 z5 z6 kp
 ·exact pA D Z I0 wu wv tl tm ex ey fun h' z1 z3 z4 z5 z6 kp=>q h' z1 z3 z4 z5 z6 fun c o n1 _ n3 n4 e=>kp c o n1 n3 n4 e
theorem lB {z P0 P1 u v l m:Addr} {k:Nat} {xs ys:Array Value} {Q:Option Value→Shared→Prop} (hh:A.handled=none) (D:ZipApart z P0 P1 u v l m) (Z:ZQ s.heap z P0 P1 u v) (I0:IsPair s.heap P0 (.ref u) (.ref v))
  (wu:IsTupIter s.heap u l k) (wv:IsTupIter s.heap v m k) (tl:IsTup s.heap l xs) (tm:IsTup s.heap m ys) (ex:xs[k]?=none)
  (q:∀ h',(∀ c o,c≠z→c≠P1→c≠u→c≠v→s.heap.get? c=some o→h'.get? c=some o)→Q none { s with heap:=h' }):wpAny (model prog w) A (pyNext (.ref z)) Q E s:=by
 rcases Z with ⟨Z,a,b,I1⟩ | Z
 ·exact qO hh D Z I0 I1 wu wv tl tm (.inl ex) q
 ·exact qT hh D Z I0 wu tl ex fun h' kp=>q h' fun c o n1 _ n3 n4 e=>kp c o n1 n3 n4 e
end
section
variable {prog:Program} {w:World} {K:Type} [DecidableEq K] {knd:KeyKind prog w K} {A:Around} {E:Value→Shared→Prop}
structure ZOff (d z P0 P1 u v l m:Addr):Prop where
 z:d≠z
 P0:d≠P0
 P1:d≠P1
 u:d≠u
 v:d≠v
 l:d≠l
 m:d≠m
theorem dY {z P0 P1 u v l m d:Addr} {xs ys:Array Value} {kvs:List (K×Value)} {R:Result→Shared→Prop} (hh:A.handled=none) (D:ZipApart z P0 P1 u v l m) (O:ZOff d z P0 P1 u v l m)
  (hx:xs.size=kvs.length) (hk:∀ (i:Nat) (kv:K×Value),kvs[i]?=some kv→∃ key,xs[i]?=some key∧ys[i]?=some kv.2∧knd.is kv.1 key=true) (hsz:kvs.length+kvs.length≤sizeLine) :
  ∀ (n i:Nat) (s:Shared) (acc:List (K×Value)),kvs.length - i=n→i≤kvs.length→acc.length≤i→ZQ s.heap z P0 P1 u v→IsPair s.heap P0 (.ref u) (.ref v)→IsTupIter s.heap u l i→IsTupIter s.heap v m i→IsTup s.heap l xs→IsTup s.heap m ys→s.heap.DictOf knd d acc →
   (∀ h' tk,h'.DictOf knd d (merged acc (kvs.drop i))→(∀ b o,b≠d→b≠z→b≠P1→b≠u→b≠v→s.heap.get? b=some o→h'.get? b=some o)→R (.ok (.ret .none)) { s with heap:=h',toks:=tk }) →
   codeAny (model prog w) A (.builtin "dict.update.loop" ⟨[.ref d,.ref z,rawInt i,.none],[]⟩) R s:=by
 intro n
 induction n with
 | zero =>
  intro i s acc hn hi ha Z I0 wu wv tl tm hd hR;have e:i=kvs.length:=by lia
  refine codeAny_builtin F.entry_dict_update_loop ?_;rw [Around.under_plainId F.plain_dict_update_loop _];show wpAny _ A.in1 (pyNext (.ref z) >>= _) _ _ s;refine wpAny_bind (lB (by first | exact hh | simpa using hh) D Z I0 wu wv tl tm (by rw [e,← hx];simp) fun h' eb=>?_);show wpAny _ _ (Builtin.Dict.addKeywords d [] >>= _) _ _ _;have hd':h'.DictOf knd d acc:=by
   obtain ⟨o,es,ep,ho,r⟩:=hd;exact ⟨o,es,ep,eb d o O.z O.P1 O.u O.v ho,r⟩
  have q:=hR h' s.toks (by rw [e,List.drop_length];exact hd') fun b o _ n1 n2 n3 n4 z=>eb b o n1 n2 n3 n4 z;exact wpAny_bind (wpAny_pure (wpAny_pure q))
 | succ n ih =>
  intro i s acc hn hi ha Z I0 wu wv tl tm hd hR;have hlt:i < kvs.length:=by lia
  obtain ⟨kv,hkv⟩:∃ kv,kvs[i]?=some kv:=⟨_,List.getElem?_eq_getElem hlt⟩;obtain ⟨key,ex,ey,hkey⟩:=hk i kv hkv;refine codeAny_builtin F.entry_dict_update_loop ?_;rw [Around.under_plainId F.plain_dict_update_loop _];show wpAny _ A.in1 (pyNext (.ref z) >>= _) _ _ s;refine wpAny_bind (iZ D Z I0 wu wv tl tm ex ey fun h1 Z1 wu1 wv1 pr1 sz1 k1=>?_);have hd1:h1.DictOf knd d acc:=by
   obtain ⟨o,es,ep,ho,r⟩:=hd;exact ⟨o,es,ep,k1 d o O.z O.P1 O.u O.v ho,r⟩
  have ld:d < s.heap.objs.size:=by obtain ⟨o,_,_,e,_⟩:=hd;exact Heap.lt_size e
  refine wpAny_bind (wpAny_holding ?_);refine wpAny_bind (wpAny_tryCatch ?_);unfold Builtin.Dict.pairItems;refine wpAny_bind (wpAny_typeOf (T:= "tuple") ⟨_,pr1,rfl⟩ ?_);rw [if_pos (by decide)];refine wpAny_bind (wpAny_seqItems pr1 rfl ?_);refine wpAny_pure ?_;show wpAny _ _ (holding [key,kv.2] (dictSet d key kv.2)) _ _ _;refine wpAny_holding (wpAny_dictSet_pairs (s:={ s with heap:=h1 }) hkey hd1 (fun h2 hd2 sb2=>?_) (by lia));refine wpAny_pure ⟨plainId_quiet F.plain_dict_update_loop _,?_⟩;have keep2:∀ b o,b≠d→h1.get? b=some o→h2.get? b=some o:=fun b o hb z=>(sb2.2 b hb).trans z;have hlen:(stored acc kv.1 kv.2).length≤i+1:=by have:=stored_length_le acc kv.1 kv.2;lia
  have Z2:ZQ h2 z P0 P1 u v:=by
   obtain ⟨T,f1,oT,gz,gT,n1,n2,n3,n4⟩:=Z1;refine .inr ⟨T,f1,oT,keep2 _ _ O.z.symm gz,keep2 _ _ (fun c=>?_) gT,n1,n2,n3,n4⟩;obtain ⟨o,_,_,ho,hc,_⟩:=hd1;have gT':h1.get? d=some oT:=by rw [← c];exact gT
   rw [ho] at gT';obtain rfl:=Option.some.inj gT';rw [hc.1] at n4;exact absurd (Value.type.inj n4) (by decide)
  have I2:IsPair h2 P0 (.ref u) (.ref v):=keep2 _ _ O.P0.symm (k1 _ _ D.TIz D.TITO D.TIi1 D.TIi2 I0);have wu2:IsTupIter h2 u l (i+1):=by obtain ⟨o,ho,r⟩:=wu1;exact ⟨o,keep2 _ _ O.u.symm ho,r⟩
  have wv2:IsTupIter h2 v m (i+1):=by obtain ⟨o,ho,r⟩:=wv1;exact ⟨o,keep2 _ _ O.v.symm ho,r⟩
  have tl2:IsTup h2 l xs:=by obtain ⟨o,ho,r⟩:=tl;exact ⟨o,keep2 _ _ O.l.symm (k1 _ _ D.l1z D.l1TO D.l1i1 D.l1i2 ho),r⟩
  have tm2:IsTup h2 m ys:=by obtain ⟨o,ho,r⟩:=tm;exact ⟨o,keep2 _ _ O.m.symm (k1 _ _ D.l2z D.l2TO D.l2i1 D.l2i2 ho),r⟩
  have e:rawInt ((i:Int)+1)=rawInt ((i+1:Nat):Int):=by rw [Int.natCast_add];rfl
  show codeAny _ _ (.builtin "dict.update.loop" ⟨[.ref d,.ref z,rawInt ((i:Int)+1),.none],[]⟩) _ _;rw [e];refine ih (i+1) { s with heap:=h2,toks:=s.toks+1 } (stored acc kv.1 kv.2) (by lia) hlt hlen Z2 I2 wu2 wv2 tl2 tm2 hd2 fun h' tk hd' k'=>?_;have q:=hR h' tk (by
   have z:kvs.drop i=kv :: kvs.drop (i+1):=by
    rw [List.drop_eq_getElem_cons hlt];rw [List.getElem?_eq_getElem hlt] at hkv;rw [Option.some.inj hkv]
   rw [z];exact hd') fun b o hb n1 n2 n3 n4 z=>k' b o hb n1 n2 n3 n4 (keep2 b o hb (k1 b o n1 n2 n3 n4 z))
  exact q
end
section
variable {prog:Program} {w:World} {K:Type} [DecidableEq K] {knd:KeyKind prog w K} {A:Around} {E:Value→Shared→Prop}
theorem ip {s:Shared} {z P0 P1 u v l m:Addr} {xs ys:Array Value} {a b:Value} {kvs:List (K×Value)} {Q:Value→Shared→Prop} (hh:A.handled=none) (D:ZipApart z P0 P1 u v l m) (Z:IsZip s.heap z P0 P1 .none) (I0:IsPair s.heap P0 (.ref u) (.ref v)) (I1:IsPair s.heap P1 a b)
  (wu:IsTupIter s.heap u l 0) (wv:IsTupIter s.heap v m 0) (tl:IsTup s.heap l xs) (tm:IsTup s.heap m ys)
  (hx:xs.size=kvs.length) (hk:∀ (i:Nat) (kv:K×Value),kvs[i]?=some kv→∃ key,xs[i]?=some key∧ys[i]?=some kv.2∧knd.is kv.1 key=true) (hsz:kvs.length+kvs.length≤sizeLine)
  (h:∀ h' tk,h'.DictOf knd s.heap.objs.size (merged [] kvs)→(∀ b o,b≠z→b≠P1→b≠u→b≠v→s.heap.get? b=some o→h'.get? b=some o)→Q (.ref s.heap.objs.size) { s with heap:=h',toks:=tk }) :
  wpAny (model prog w) A (call (.type "dict") [.ref z]) Q E s:=by
 refine callType_codes (Q₁:=fun obj s₁=>obj=.ref s.heap.objs.size∧s₁={ s with heap:=s.heap.push { cls:=.type "dict",data:=.dict #[] } }) F.kt_called_dict (F.kt_typeCall_dict_1 _) F.entry_dict_init (kt_code_dict_new _ ⟨rfl,rfl⟩) ?_;rintro obj s₁ ⟨rfl,rfl⟩;have hnew:(s.heap.push { cls:=.type "dict",data:=.dict #[] }).DictOf knd s.heap.objs.size []:=Heap.DictOf.new s.heap;refine ⟨hnew.typeIs,F.args_dict_init_2 _ _,?_⟩;unfold Builtin.«dict.__init__»;refine wpAny_bind ?_;unfold Builtin.Dict.selfAndRest;refine wpAny_bind (wpAny_notOrdered_dict hnew.typeIs ?_);show wpAny _ _ (pure (s.heap.objs.size,[Value.ref z])) _ _ _;refine wpAny_pure ?_;show wpAny _ _ (Builtin.Dict.updateFrom "dict.__init__" s.heap.objs.size (.ref z) [] .none) _ _ _;unfold Builtin.Dict.updateFrom;have up:∀ b o,s.heap.get? b=some o→(s.heap.push { cls:=.type "dict",data:=.dict #[] }).get? b=some o:=fun b o e=>Heap.get?_push_of_some _ e;refine wpAny_bind (wpAny_typeOf (T:= "zip") ⟨_,up _ _ Z,rfl⟩ ?_);rw [if_pos (by decide)];refine wpAny_bind (io (up _ _ Z) (by first | exact hh | simpa using hh) fun h1 tk1 e hx1=>?_);rw [if_pos (by rfl)];refine wpAny_bind (wpAny_rule ?_);have kp1:∀ b o,(s.heap.push { cls:=.type "dict",data:=.dict #[] }).get? b=some o→h1.get? b=some o:=fun b o z=>hx1.keeps b o z;have kp0:∀ b o,s.heap.get? b=some o→h1.get? b=some o:=fun b o z=>kp1 b o (up b o z);refine wpAny_bind (wpAny_pyIter_zip (kp0 _ _ Z) ?_);refine wpAny_pure ⟨plainId_quiet F.plain_dict_update_loop _,?_⟩;have lt:∀ {c:Addr} {o:Obj},s.heap.get? c=some o→s.heap.objs.size≠c:=fun e=>Nat.ne_of_gt (Heap.lt_size e);refine dY (knd:=knd) (kvs:=kvs) (l:=l) (m:=m) (by first | exact hh | simpa using hh) D ⟨lt Z,lt I0,lt I1,?_,?_,?_,?_⟩ hx hk hsz kvs.length 0 _ [] (by lia) (Nat.zero_le _) (Nat.le_refl _) (.inl ⟨kp0 _ _ Z,_,_,kp0 _ _ I1⟩) (kp0 _ _ I0) ?_ ?_ ?_ ?_ ?_ fun h' tk hd' k'=>⟨rfl,?_⟩
 ·obtain ⟨o,e,_⟩:=wu;exact lt e
 ·obtain ⟨o,e,_⟩:=wv;exact lt e
 ·obtain ⟨o,e,_⟩:=tl;exact lt e
 ·obtain ⟨o,e,_⟩:=tm;exact lt e
 ·obtain ⟨o,e,r⟩:=wu;exact ⟨o,kp0 _ _ e,r⟩
 ·obtain ⟨o,e,r⟩:=wv;exact ⟨o,kp0 _ _ e,r⟩
 ·obtain ⟨o,e,r⟩:=tl;exact ⟨o,kp0 _ _ e,r⟩
 ·obtain ⟨o,e,r⟩:=tm;exact ⟨o,kp0 _ _ e,r⟩
 ·obtain ⟨o2,es,ep,ho2,r⟩:=hnew;exact ⟨o2,es,ep,kp1 _ _ ho2,r⟩
 ·exact h h' tk hd' fun b ob n1 n2 n3 n4 e=>k' b ob (Nat.ne_of_lt (Heap.lt_size e)) n1 n2 n3 n4 (kp0 b ob e)
end
section
variable {X:Cx}
theorem pB {K:PySem.W.Frag} {H:Hp}:∀ {ws:List Str} {us:List Dt} {xs ys:List V} {its its2:List Value},IsPs K H (ws.map Dt.str) xs→Vals xs its→IsPs K H us ys→Vals ys its2→us.length=ws.length →
  ∃ (kvs:List (Key×V)) (vs:List (Key×Value)),KV kvs vs∧kvs.map (·.1)=(ws.zip us).map (fun p=>Sum.inr p.1)∧kvs.length=ws.length ∧
   (∀ z,(aR (ws.zip us) z=none→aK kvs (Sum.inr z:Key)=none)∧∀ d,aR (ws.zip us) z=some d→∃ v,aK kvs (Sum.inr z:Key)=some v∧IsP K H d v) ∧
   its.length=vs.length∧∀ (i:Nat) (kv:Key×Value),vs[i]?=some kv→∃ key,its[i]?=some key∧its2[i]?=some kv.2∧(ao X.prog X.w).is kv.1 key=true:=by
 intro ws
 induction ws with
 | nil =>
  intro us xs ys its its2 h1 r1 h2 r2 e
  cases h1
  cases r1
  exact ⟨[],[],.nil,rfl,rfl,fun z=>⟨fun _=>rfl,fun d q=>by cases q⟩,rfl,fun i kv q=>by simp at q⟩
 | cons f ws ih =>
  intro us xs ys its its2 h1 r1 h2 r2 e
  cases us with
  | nil=>cases e
  | cons t us =>
  cases h1 with
  | cons d1 h1 =>
  cases h2 with
  | @cons _ _ v _ d2 h2 =>
  cases r1 with
  | cons q1 r1 =>
  cases r2 with
  | @cons _ u _ _ q2 r2 =>
  obtain ⟨kvs,vs,e1,e2,e3,e4,e5,e6⟩:=ih h1 r1 h2 r2 (Nat.succ.inj e)
  cases d1
  obtain ⟨tk,rfl⟩:=q1;refine ⟨(Sum.inr f,v) :: kvs,(Sum.inr f,u) :: vs,.cons ⟨rfl,q2⟩ e1,by simp [e2],by simp [e3],fun z=>?_,by simp [e5],fun i kv q=>?_⟩
  ·by_cases hz:f=z
   ·subst hz;have l1:aR ((f :: ws).zip (t :: us)) f=some t:=by simp [aR]
    have l2:aK ((Sum.inr f,v) :: kvs) (Sum.inr f:Key)=some v:=by simp [aK]
    exact ⟨fun q=>(by rw [l1] at q;cases q),fun d q=>(by rw [l1] at q;cases q;exact ⟨v,l2,d2⟩)⟩
   ·have l1:aR ((f :: ws).zip (t :: us)) z=aR (ws.zip us) z:=by simp [aR,hz]
    have l2:aK ((Sum.inr f,v) :: kvs) (Sum.inr z:Key)=aK kvs (Sum.inr z:Key):=by simp [aK,hz]
    rw [l1,l2];exact e4 z
  ·cases i with
   | zero =>
    simp at q;subst q;exact ⟨_,rfl,rfl,gJ (k:=Sum.inr f) ⟨tk,rfl⟩⟩
   | succ i=>exact e6 i kv (by simpa using q)
def uX (K:PySem.W.Frag) (ta:TA):TE:=fun σ H Q=>ta σ H fun vs H1=>∃ (x y:V) (ws:List Str) (us:List Dt),vs=[x,y]∧IsP K H1 (.tup (ws.map Dt.str)) x∧IsP K H1 (.tup us) y∧us.length=ws.length∧ws.Nodup∧ws.length≤1000 ∧
 ∀ p H',Same H1 H'→H1 p=none→DicQ K H' p (ws.zip us)→Q (.ref p) H'
theorem pe_dictZ {a b:Expr} {ta:TA} {p p' pos pos':Pos} (hc:X.calm=true) (hgd:Gl X "dict") (hmd:X.mg "dict" = none) (hgz:Gl X "zip") (hmz:X.mg "zip" = none) (ha:PA X [a,b] ta)
  (hs:starEach [a,b] X.env=[(false,eval a X.env),(false,eval b X.env)]:=by rfl) (hs2:starEach [b] X.env=[(false,eval b X.env)]:=by rfl)
  (ho:starEach [.Call (.Name "zip" p') [a,b] [] pos'] X.env=[(false,eval (.Call (.Name "zip" p') [a,b] [] pos') X.env)]:=by rfl) :
  PE X (.Call (.Name "dict" p) [.Call (.Name "zip" p') [a,b] [] pos'] [] pos) (uX X.K ta):=by
 intro pins s σ H Q I h;refine wpAny_Call_Name_kw (bG I hgd hmd boot_dict ?_ (by decide) (by decide));refine PyProof.Rows.callWith_type1 ?_ (by rw [ho];rfl) rfl;rw [ho];refine Calls.spliced_cons ?_;refine wpAny_Call_Name_kw (bG I hgz hmz boot_zip ?_ (by decide) (by decide));refine PyProof.Rows.callWith_type1 (thn (ha pos' pins s σ H _ I h) fun us s1 ⟨vs,H1,I1,r1,q1⟩=>?_) (by rw [hs,hs2]) (by rw [hs2];rfl);obtain ⟨x,y,ws,ds,e,hx,hy,el,nd,hz,q⟩:=q1;subst e;obtain ⟨l1,zs,rfl,hl1,_,ra⟩:=hx.unref;obtain ⟨l2,zs2,rfl,hl2,_,rb⟩:=hy.unref;obtain ⟨u,v,rfl,ru,rv⟩:=r1.two
 cases ru
 cases rv
 obtain ⟨its,rr,pl,_⟩:=I1.tuple hl1;obtain ⟨its2,rr2,pl2,_⟩:=I1.tuple hl2;have lt1:s1.heap.objs.size > l1:=by obtain ⟨o,e,_⟩:=pl;exact Heap.lt_size e
 have lt2:s1.heap.objs.size > l2:=by obtain ⟨o,e,_⟩:=pl2;exact Heap.lt_size e
 refine iW pl pl2 fun h' z1 z2 z3 z4 z5 zs kk=>?_;refine Calls.spliced_nil ?_;obtain ⟨kvs,vs,k1,k2,k3,k4,k5,k6⟩:=pB (X:=X) ra rr rb rr2 el;have hl:vs.length=ws.length:=by rw [← k1.length,k3]
 have big:=I1.big;refine ip (s:={ s1 with heap:=h' }) (knd:=ao X.prog X.w) (xs:=its.toArray) (ys:=its2.toArray) (kvs:=vs) (I1.ok.hd hc) ?D z1 z2 z3 z4 z5 ?T1 ?T2 (by rw [List.size_toArray];exact k5) (fun i kv z=>?_) (Nat.le_trans (Nat.add_le_add (hl ▸ hz) (hl ▸ hz)) (by decide)) fun h2 tk dd kp=>?_
 case D=>constructor <;> (show ¬ (@Eq Nat _ _)) <;> lia
 case T1=>obtain ⟨o,e,r⟩:=pl;exact ⟨o,kk _ _ e,r⟩
 case T2=>obtain ⟨o,e,r⟩:=pl2;exact ⟨o,kk _ _ e,r⟩
 ·obtain ⟨key,w1,w2,w3⟩:=k6 i kv z;exact ⟨key,by simpa using w1,by simpa using w2,w3⟩
 ·have ndv:(vs.map (·.1)).Nodup:=by
   rw [← k1.keys,k2];have z:(ws.zip ds).map (fun p=>(Sum.inr p.1:Key))=((ws.zip ds).map (·.1)).map Sum.inr:=by rw [List.map_map];rfl
   rw [z,List.map_fst_zip (by lia)];exact List.Pairwise.map _ (fun a b n q=>n (Sum.inr.inj q)) nd
  rw [merged_nil_of_nodup vs ndv] at dd;have keep:∀ b o,s1.heap.get? b=some o→h2.get? b=some o:=fun b o e=>by
   have lb:s1.heap.objs.size > b:=Heap.lt_size e;refine kp b o ?_ ?_ ?_ ?_ (kk b o e) <;> (show ¬ (@Eq Nat _ _)) <;> lia
  have le:s1.heap.objs.size≤h'.objs.size:=by lia
  have hf:=I1.hok.fresh le;have I2:Inv X pins σ (upd H1 h'.objs.size (.dK kvs)) { s1 with heap:=h2,toks:=tk }:=I1.laid (t':=tk) keep le
   (mG (by rw [k3];exact Nat.le_of_lt (ai hz)) (by simp;exact Nat.ne_of_gt (Nat.lt_of_lt_of_le big le)) k1 dd)
  refine ⟨.ref h'.objs.size,_,I2,rfl,q _ _ (ag hf _) hf ⟨kvs,ac,k2,fun z=>⟨(k4 z).1,fun d l=>?_⟩⟩⟩;obtain ⟨v,l1,l2⟩:=(k4 z).2 d l;exact ⟨v,l1,l2.same (ag hf _)⟩
end
section
variable {X:Cx}
theorem ps_tryN {body:List Stmt} {h0:ExceptHandler} {hs:List ExceptHandler} {pos:Pos} {t:TS} (hb:PSs X.nox body t):PS X.nox (.Try body (h0 :: hs) [] [] pos) t:=by
 intro pins s σ H D I h;refine wpAny_Try_except (wpAny_mono (hb pins s σ H D I h) (fun f s1 q=>?_) (fun e s1 q=>q.elim))
 cases f with
 | next=>exact wpAny_execs_nil q
 | ret u=>exact q
 | brk=>exact q
 | cont=>exact q
end
open AutoSeq1 (wpAny_loadPart')
theorem mP:typeLookup (.type "zip") "__len__" = pure none:=by rw [typeLookup_type,builtinLookup_eq_fast];kernel_rfl
theorem lC:typeLookup (.type "zip") "__length_hint__" = pure none:=by rw [typeLookup_type,builtinLookup_eq_fast];kernel_rfl
abbrev lsO (acc:Array Value) (c:Nat):Obj:={ cls:=.type "list",dict:=none,data:=.seq acc c,slots:=#[] }
structure ZOut (lo:Nat) (xs ys acc:Array Value) (h:Heap):Prop where
 pr:∀ (j:Nat) (e:Value),acc[j]?=some e→∃ (T:Addr) (x y:Value),e=.ref T∧lo≤T∧xs[j]?=some x∧ys[j]?=some y∧IsPair h T x y
 ij:∀ (j k:Nat) (e:Value),acc[j]?=some e→acc[k]?=some e→j=k
theorem ZOut.keep {lo:Nat} {xs ys acc:Array Value} {h h':Heap} (Z:ZOut lo xs ys acc h) (k:∀ T x y,lo≤T→IsPair h T x y→IsPair h' T x y):ZOut lo xs ys acc h' :=
 ⟨fun j e hj=>by obtain ⟨T,x,y,a,b,c,d,f⟩:=Z.pr j e hj;exact ⟨T,x,y,a,b,c,d,k T x y b f⟩,Z.ij⟩
structure ZpL (h0:Heap) (z P0 P1 u v l m S:Addr) (xs ys:Array Value) (i:Nat) (acc:Array Value) (h:Heap):Prop where
 zq:ZQ h z P0 P1 u v
 i0:IsPair h P0 (.ref u) (.ref v)
 wu:IsTupIter h u l i
 wv:IsTupIter h v m i
 tl:IsTup h l xs
 tm:IsTup h m ys
 ls:∃ c,h.get? S=some (lsO acc c)
 sz:acc.size=i
 ot:ZOut h0.objs.size xs ys acc h
 kp:∀ c o,c≠z→c≠P1→c≠u→c≠v→c≠S→h0.get? c=some o→h.get? c=some o
 bg:h0.objs.size≤h.objs.size
section
variable {prog:Program} {w:World} {A:Around} {E:Value→Shared→Prop} {s:Shared}
theorem sP {R:Result→Shared→Prop} {h0:Heap} {z P0 P1 u v l m S:Addr} {xs ys:Array Value} {res:Value} (hh:A.handled=none) (hn:xs.size≤sizeLine) (hxy:xs.size=ys.size) (D:ZipApart z P0 P1 u v l m) (O:ZOff S z P0 P1 u v l m)
  (lz:z < h0.objs.size) (lP:P1 < h0.objs.size) (lu:u < h0.objs.size) (lv:v < h0.objs.size) (lS:S < h0.objs.size) :
  ∀ (k i:Nat) (s:Shared) (acc:Array Value),xs.size - i=k→i≤xs.size→ZpL h0 z P0 P1 u v l m S xs ys i acc s.heap →
  (∀ (h':Heap) (tk:Nat) (acc':Array Value),(∃ c,h'.get? S=some (lsO acc' c))→acc'.size=xs.size→ZOut h0.objs.size xs ys acc' h'→(∀ c o,c≠z→c≠P1→c≠u→c≠v→c≠S→h0.get? c=some o→h'.get? c=some o)→R (.ok (.ret res)) { s with heap:=h',toks:=tk }) →
  codeAny (model prog w) A (.builtin "list.extend.loop" ⟨[.ref S,.ref z,res],[]⟩) R s:=by
 intro k
 induction k with
 | zero =>
  intro i s acc hk hi L q;obtain rfl:i=xs.size:=by lia
  refine codeAny_builtin F.entry_extend_loop ?_;rw [Around.under_plainId F.plain_extend_loop _];refine show wpAny _ A.in1 (pyNext (.ref z) >>= _) _ _ s from wpAny_bind (lB (by first | exact hh | simpa using hh) D L.zq L.i0 L.wu L.wv L.tl L.tm (by simp) fun h' sx=>?_);obtain ⟨c,lc⟩:=L.ls;refine wpAny_pure (q h' s.toks acc ⟨c,sx _ _ O.z O.P1 O.u O.v lc⟩ L.sz (L.ot.keep fun T x y lo e=>sx _ _ (Nat.ne_of_gt (Nat.lt_of_lt_of_le lz lo)) (Nat.ne_of_gt (Nat.lt_of_lt_of_le lP lo)) (Nat.ne_of_gt (Nat.lt_of_lt_of_le lu lo)) (Nat.ne_of_gt (Nat.lt_of_lt_of_le lv lo)) e) fun c o n1 n2 n3 n4 n5 ec=>sx _ _ n1 n2 n3 n4 (L.kp c o n1 n2 n3 n4 n5 ec))
 | succ k ih =>
  intro i s acc hk hi L q;have lt:i < xs.size:=by lia
  have lty:i < ys.size:=by lia
  refine codeAny_builtin F.entry_extend_loop ?_;rw [Around.under_plainId F.plain_extend_loop _];refine show wpAny _ A.in1 (pyNext (.ref z) >>= _) _ _ s from wpAny_bind (iZ D L.zq L.i0 L.wu L.wv L.tl L.tm (Array.getElem?_eq_getElem lt) (Array.getElem?_eq_getElem lty) fun h' a1 a2 a3 a4 a5 a6=>?_);obtain ⟨c,lc⟩:=L.ls;have lc':=a6 _ _ O.z O.P1 O.u O.v lc;have S':=Heap.get?_update_self (Obj.mapSeq (·.push (Value.ref s.heap.objs.size))) lc' rfl;have oth:∀ c o,c≠S→h'.get? c=some o→(h'.update S (Obj.mapSeq (·.push (Value.ref s.heap.objs.size)))).get? c=some o:=fun c o n ec=>(Heap.get?_update_other _ _ (Ne.symm n)).trans ec;have zu:(h'.update S (Obj.mapSeq (·.push (Value.ref s.heap.objs.size)))).objs.size=h'.objs.size:=(Heap.SameBut.update ..).1;have bg:=L.bg;refine show wpAny _ A.in1 (updateSeq S (·.push (.ref s.heap.objs.size)) >>= _) _ _ _ from wpAny_bind ?_;refine wpAny_updateSeq lc' rfl (wpAny_pure ⟨plainId_quiet F.plain_extend_loop _,ih (i+1) _ (acc.push (.ref s.heap.objs.size)) (by lia) lt ?_ fun h2 tk2 acc2 r1 r2 r3 r4=>q h2 tk2 acc2 r1 r2 r3 r4⟩) (by rw [L.sz];lia) (by show (acc.push (Value.ref s.heap.objs.size)).size≤sizeLine+1;rw [Array.size_push,L.sz];lia);show ZpL h0 z P0 P1 u v l m S xs ys (i+1) _ (h'.update S (Obj.mapSeq (·.push (Value.ref s.heap.objs.size))))
  generalize h'.update S (Obj.mapSeq (·.push (Value.ref s.heap.objs.size)))=h2 at S' oth zu ⊢
  have up:∀ T x y,h0.objs.size≤T→IsPair s.heap T x y→IsPair h2 T x y:=fun T x y lo e=>oth _ _ (Nat.ne_of_gt (Nat.lt_of_lt_of_le lS lo)) (a6 _ _ (Nat.ne_of_gt (Nat.lt_of_lt_of_le lz lo)) (Nat.ne_of_gt (Nat.lt_of_lt_of_le lP lo)) (Nat.ne_of_gt (Nat.lt_of_lt_of_le lu lo)) (Nat.ne_of_gt (Nat.lt_of_lt_of_le lv lo)) e);have nw:∀ j:Nat,acc[j]?=some (Value.ref s.heap.objs.size)→False:=fun j hj=>by
   obtain ⟨T,x,y,e,_,_,_,f⟩:=L.ot.pr j _ hj;injection e with e
   have:=Heap.lt_size f;rw [← e] at this;exact Nat.lt_irrefl _ this
  refine ⟨?_,?_,?_,?_,?_,?_,⟨_,S'⟩,by rw [Array.size_push,L.sz],⟨fun j e hj=>?_,fun j k e hj hk=>?_⟩,fun c' o n1 n2 n3 n4 n5 ec=>oth _ _ n5 (a6 _ _ n1 n2 n3 n4 (L.kp c' o n1 n2 n3 n4 n5 ec)),by rw [zu,a5];exact Nat.le_succ_of_le bg⟩
  ·obtain ⟨T,f1,oT,gz,gT,n1,n2,n3,n4⟩:=a1;refine .inr ⟨T,f1,oT,oth _ _ O.z.symm gz,oth _ _ (fun c=>?_) gT,n1,n2,n3,n4⟩;have gT':h'.get? S=some oT:=by rw [← c];exact gT
   rw [lc'] at gT';obtain rfl:=Option.some.inj gT';exact absurd (Value.type.inj n4) (by decide)
  ·exact oth _ _ O.P0.symm (a6 _ _ D.TIz D.TITO D.TIi1 D.TIi2 L.i0)
  ·obtain ⟨o,ho,r⟩:=a2;exact ⟨o,oth _ _ O.u.symm ho,r⟩
  ·obtain ⟨o,ho,r⟩:=a3;exact ⟨o,oth _ _ O.v.symm ho,r⟩
  ·obtain ⟨o,ho,r⟩:=L.tl;exact ⟨o,oth _ _ O.l.symm (a6 _ _ D.l1z D.l1TO D.l1i1 D.l1i2 ho),r⟩
  ·obtain ⟨o,ho,r⟩:=L.tm;exact ⟨o,oth _ _ O.m.symm (a6 _ _ D.l2z D.l2TO D.l2i1 D.l2i2 ho),r⟩
  ·rw [Array.getElem?_push] at hj
   split at hj
   ·rename_i ej
    rw [L.sz] at ej
    cases hj
    subst ej;exact ⟨_,xs[j],ys[j],rfl,bg,Array.getElem?_eq_getElem lt,Array.getElem?_eq_getElem lty,oth _ _ (Nat.ne_of_gt (Nat.lt_of_lt_of_le lS bg)) a4⟩
   ·obtain ⟨T,x,y,r1,r2,r3,r4,r5⟩:=L.ot.pr j e hj;exact ⟨T,x,y,r1,r2,r3,r4,up T x y r2 r5⟩
  ·rw [Array.getElem?_push] at hj hk
   split at hj
   ·cases hj
    split at hk
    ·lia
    ·exact (nw k hk).elim
   ·split at hk
    ·cases hk
     exact (nw j hj).elim
    ·exact L.ot.ij j k e hj hk
theorem qV {z P0 P1 u v l m:Addr} {xs ys:Array Value} {a b:Value} {Q:List Value→Shared→Prop} (hh:A.handled=none) (hn:xs.size≤sizeLine) (hxy:xs.size=ys.size) (D:ZipApart z P0 P1 u v l m) (Z:IsZip s.heap z P0 P1 .none) (I0:IsPair s.heap P0 (.ref u) (.ref v)) (I1:IsPair s.heap P1 a b)
  (wu:IsTupIter s.heap u l 0) (wv:IsTupIter s.heap v m 0) (tl:IsTup s.heap l xs) (tm:IsTup s.heap m ys)
  (q:∀ (h':Heap) (tk:Nat) (acc:Array Value),(∀ c o,c≠z→c≠P1→c≠u→c≠v→s.heap.get? c=some o→h'.get? c=some o)→acc.size=xs.size→ZOut s.heap.objs.size xs ys acc h'→Q acc.toList { s with heap:=h',toks:=tk }) :
  wpAny (model prog w) A (collect (.ref z)) Q E s:=by
 have lt:∀ {c:Addr} {o:Obj},s.heap.get? c=some o→c < s.heap.objs.size:=fun e=>Heap.lt_size e;have lz:=lt Z;have lP0:=lt I0;have lP1:=lt I1;have lu:u < s.heap.objs.size:=by obtain ⟨o,e,_⟩:=wu;exact lt e
 have lv:v < s.heap.objs.size:=by obtain ⟨o,e,_⟩:=wv;exact lt e
 have ll:l < s.heap.objs.size:=by obtain ⟨o,e,_⟩:=tl;exact lt e
 have lm:m < s.heap.objs.size:=by obtain ⟨o,e,_⟩:=tm;exact lt e
 unfold collect;refine wpAny_bind (wpAny_runValue (codeAny_builtin F.entry_proto_collect ?_));rw [Around.under_plainId F.plain_proto_collect _];refine show wpAny _ A.in1 (newList [] >>= fun l=>again (.builtin "list.__iadd__" ⟨[l,.ref z],[]⟩)) _ _ s from wpAny_bind (wpAny_newObj_type ?_);refine wpAny_pure ⟨plainId_quiet F.plain_list_iadd _,codeAny_builtin F.entry_list_iadd ?_⟩;rw [Around.under_plainId F.plain_list_iadd _];have hS:(s.heap.push { cls:=.type "list",data:=.seq ([]:List Value).toArray }).get? s.heap.objs.size=some (lsO #[] 0):=Heap.get?_push_size _ rfl;have k0:∀ c o,s.heap.get? c=some o→(s.heap.push { cls:=.type "list",data:=.seq ([]:List Value).toArray }).get? c=some o:=fun c o e=>Heap.get?_push_of_some _ e;have z0:(s.heap.push { cls:=.type "list",data:=.seq ([]:List Value).toArray }).objs.size=s.heap.objs.size+1:=Heap.size_push ..
 generalize s.heap.push { cls:=.type "list",data:=.seq ([]:List Value).toArray }=G at hS k0 z0 ⊢
 have hT1:Shared.TypeIs { s with heap:=G } (.ref z) "zip" :=⟨_,k0 _ _ Z,rfl⟩;refine show wpAny _ A.in1 (Builtin.List.listExtendWith (.ref s.heap.objs.size) (.ref z) (.ref s.heap.objs.size)) _ _ _ from ?_;unfold Builtin.List.listExtendWith;refine wpAny_bind (wpAny_typeOf hT1 ?_);have n1:Builtin.List.listSameRef (.ref s.heap.objs.size) (.ref z)=false:=by simp [Builtin.List.listSameRef];exact Nat.ne_of_gt lz
 simp only [n1,show (Value.type "zip" == Value.type "list")=false by decide,show (Value.type "zip" == Value.type "tuple")=false by decide,Bool.or_false,Bool.false_eq_true,if_false];refine wpAny_bind (wpAny_pyIter_zip (k0 _ _ Z) ?_);refine wpAny_bind (wpAny_holding ?_);unfold Builtin.List.listLengthHint;refine wpAny_bind (wpAny_specialOf hT1 mP ?_);refine show wpAny _ A.in1 (specialOf (Value.ref z) (Str.ofString "__length_hint__") >>= _) _ _ _ from wpAny_bind (wpAny_specialOf hT1 lC (wpAny_pure ?_));refine show wpAny _ A.in1 (rule "list.extend.makes-room" >>= fun _=>Builtin.List.listTouch (.ref s.heap.objs.size) >>= fun _=>again (.builtin "list.extend.loop" ⟨[.ref s.heap.objs.size,.ref z,.ref s.heap.objs.size],[]⟩)) _ _ _ from wpAny_bind (wpAny_rule (wpAny_bind ?_));refine show wpAny _ A.in1 (updateSeq s.heap.objs.size (·.push .none) >>= fun _=>updateSeq s.heap.objs.size (·.pop)) _ _ _ from wpAny_bind (wpAny_updateSeq hS rfl ?_);have S2:=Heap.get?_update_self (Obj.mapSeq (·.push Value.none)) hS rfl;refine wpAny_updateSeq S2 rfl ?_;have S3:=Heap.get?_update_self (Obj.mapSeq (·.pop)) S2 rfl;have o3:∀ c o,s.heap.get? c=some o→((G.update s.heap.objs.size (Obj.mapSeq (·.push Value.none))).update s.heap.objs.size (Obj.mapSeq (·.pop))).get? c=some o:=fun c o ec=>(Heap.get?_update_other _ _ (Ne.symm (Nat.ne_of_lt (lt ec)))).trans ((Heap.get?_update_other _ _ (Ne.symm (Nat.ne_of_lt (lt ec)))).trans (k0 c o ec));have z3:((G.update s.heap.objs.size (Obj.mapSeq (·.push Value.none))).update s.heap.objs.size (Obj.mapSeq (·.pop))).objs.size=s.heap.objs.size+1:=((Heap.SameBut.update ..).1).trans (((Heap.SameBut.update ..).1).trans z0);refine show wpAny _ _ _ _ _ { s with heap:=(G.update s.heap.objs.size (Obj.mapSeq (·.push Value.none))).update s.heap.objs.size (Obj.mapSeq (·.pop)) } from ?_
 generalize (G.update s.heap.objs.size (Obj.mapSeq (·.push Value.none))).update s.heap.objs.size (Obj.mapSeq (·.pop))=G3 at S3 o3 z3 ⊢
 have g1:∀ {c:Addr},c < s.heap.objs.size→c < G3.objs.size:=fun h=>z3 ▸ Nat.lt_succ_of_lt h;have O:ZOff s.heap.objs.size z P0 P1 u v l m:=⟨Nat.ne_of_gt lz,Nat.ne_of_gt lP0,Nat.ne_of_gt lP1,Nat.ne_of_gt lu,Nat.ne_of_gt lv,Nat.ne_of_gt ll,Nat.ne_of_gt lm⟩;refine wpAny_pure ⟨plainId_quiet F.plain_extend_loop _,sP (h0:=G3) hh hn hxy D O (g1 lz) (g1 lP1) (g1 lu) (g1 lv) (z3 ▸ Nat.lt_succ_self _) xs.size 0 _ #[] rfl (Nat.zero_le _) ?_ fun h' tk acc' r1 r2 r3 r4=>?_⟩
 ·refine ⟨.inl ⟨o3 _ _ Z,a,b,o3 _ _ I1⟩,o3 _ _ I0,?_,?_,?_,?_,⟨_,S3⟩,rfl,⟨fun j e hj=>by simp at hj,fun j k e hj=>by simp at hj⟩,fun c o _ _ _ _ _ ec=>ec,Nat.le_refl _⟩
  ·obtain ⟨o,ho,r⟩:=wu;exact ⟨o,o3 _ _ ho,r⟩
  ·obtain ⟨o,ho,r⟩:=wv;exact ⟨o,o3 _ _ ho,r⟩
  ·obtain ⟨o,ho,r⟩:=tl;exact ⟨o,o3 _ _ ho,r⟩
  ·obtain ⟨o,ho,r⟩:=tm;exact ⟨o,o3 _ _ ho,r⟩
 ·obtain ⟨c,ls⟩:=r1;refine show wpAny _ A (load s.heap.objs.size >>= _) _ _ _ from wpAny_bind (wpAny_load ls (wpAny_pure (q h' tk acc' (fun c o n1 n2 n3 n4 ec=>r4 c o n1 n2 n3 n4 (Nat.ne_of_lt (lt ec)) (o3 c o ec)) r2 ⟨fun j e hj=>?_,r3.ij⟩)));obtain ⟨T,x,y,p1,p2,p3,p4,p5⟩:=r3.pr j e hj;exact ⟨T,x,y,p1,by rw [z3] at p2;exact Nat.le_of_succ_le p2,p3,p4,p5⟩
end
structure ZNew (h:Heap) (z P0 P1 u v l m:Addr) (xs ys:Array Value):Prop where
 D:ZipApart z P0 P1 u v l m
 Z:IsZip h z P0 P1 .none
 I0:IsPair h P0 (.ref u) (.ref v)
 I1:∃ a b,IsPair h P1 a b
 wu:IsTupIter h u l 0
 wv:IsTupIter h v m 0
 tl:IsTup h l xs
 tm:IsTup h m ys
theorem jA (z P0 P1 u v l m:Addr) (xs ys:Array Value) (hn:xs.size≤sizeLine) (hxy:xs.size=ys.size) :
  Meets (Builtin.«tuple.__new__» ⟨[.type "tuple",.ref z],[]⟩)
   (fun A R s=>A.handled=none∧ZNew s.heap z P0 P1 u v l m xs ys∧∀ (h':Heap) (tk:Nat) (acc:Array Value),(∀ c o,c≠z→c≠P1→c≠u→c≠v→s.heap.get? c=some o→h'.get? c=some o)→acc.size=xs.size→ZOut s.heap.objs.size xs ys acc h' →
    R (.ok (.ret (.ref h'.objs.size))) { s with heap:=h'.push { cls:=.type "tuple",data:=.seq acc },toks:=tk }) :=
 .of_wp fun prog w A R s h=>by
  obtain ⟨hh,N,h⟩:=h;obtain ⟨D,Z,I0,⟨a,b,I1⟩,wu,wv,tl,tm⟩:=N;have hsub:=sub_tuple_self;have hinit:=init_tuple_lookup;have hmh:=madeHere_tuple;have hT:s.TypeIs (.ref z) "zip" :=⟨_,Z,rfl⟩;have hh1:A.in1.handled=none:=hh
  wp_walk using wpAny_typeOf hT,qV hh1 hn hxy D Z I0 I1 wu wv tl tm
  intro h' tk acc kp sz ot;show wpAny _ _ (Builtin.Tuple.tupleExact acc.toList.toArray >>= fun v=>ret v) _ _ _;unfold Builtin.Tuple.tupleExact;refine wpAny_bind (wpAny_newObj_type ?_ (show acc.toList.toArray.size≤sizeLine by simp only [Array.toArray_toList];rw [sz];exact hn));refine wpAny_pure ⟨_,rfl,?_⟩;have e:acc.toList.toArray=acc:=by simp
  rw [e];exact h h' tk acc kp sz ot
section
variable {prog:Program} {w:World} {A:Around} {E:Value→Shared→Prop} {s:Shared}
theorem lD {z P0 P1 u v l m:Addr} {xs ys:Array Value} {Q:Value→Shared→Prop} (hh:A.handled=none) (hn:xs.size≤sizeLine) (hxy:xs.size=ys.size) (N:ZNew s.heap z P0 P1 u v l m xs ys)
  (h:∀ (h':Heap) (tk:Nat) (acc:Array Value),(∀ c o,c≠z→c≠P1→c≠u→c≠v→s.heap.get? c=some o→h'.get? c=some o)→acc.size=xs.size→ZOut s.heap.objs.size xs ys acc h'→Q (.ref h'.objs.size) { s with heap:=h'.push { cls:=.type "tuple",data:=.seq acc },toks:=tk }) :
  wpAny (model prog w) A (call (.type "tuple") [.ref z]) Q E s :=
 callType_new F.called_tuple (by decide) (F.typeCall_tuple_1 _) (F.newCall_tuple_1 _) (fun obj=>F.args_object_init_2 obj _) F.entry_tuple_new
  (jA z P0 P1 u v l m xs ys hn hxy) ⟨hh,N,fun h' tk acc kp sz ot=>⟨⟨_,Heap.get?_push_size _ rfl,rfl⟩,h h' tk acc kp sz ot⟩⟩
end
abbrev uf (x y:Value):Obj:={ cls:=.type "tuple",data:=.seq #[x,y] }
inductive RwZ (h:Heap) (lo:Nat):List V→List V→List (Addr×HO)→Prop
 | nil:RwZ h lo [] [] []
 | cons {T:Nat} {x y:Value} {v u:V} {vs us:List V} {r:List (Addr×HO)}:lo≤T→RelV v x→RelV u y→h.get? T=some (uf x y)→RwZ h lo vs us r→RwZ h lo (v :: vs) (u :: us) ((T,plO [v,u] [x,y]) :: r)
theorem RwZ.low {h:Heap} {lo:Nat} {vs us:List V} {r:List (Addr×HO)} (R:RwZ h lo vs us r):∀ p∈r,lo≤p.1:=by
 induction R with
 | nil=>exact fun p hp=>nomatch hp
 | cons l _ _ _ _ ih =>
  intro p hp;rcases List.mem_cons.mp hp with rfl | hp
  ·exact l
  ·exact ih p hp
theorem RwZ.length {h:Heap} {lo:Nat} {vs us:List V} {r:List (Addr×HO)} (R:RwZ h lo vs us r):r.length=vs.length:=by
 induction R with
 | nil=>rfl
 | cons _ _ _ _ _ ih=>rw [List.length_cons,List.length_cons,ih]
theorem RwZ.ok {P:Program} {w:World} {h:Heap} {lo:Nat} {H':Hp} {vs us:List V} {r:List (Addr×HO)} (R:RwZ h lo vs us r):∀ p∈r,ObjOk P w H' h p.1 p.2:=by
 induction R with
 | nil=>exact fun p hp=>nomatch hp
 | cons l rv ru e _ ih =>
  intro p hp;rcases List.mem_cons.mp hp with rfl | hp
  ·exact ⟨e,by simp [sizeLine],_,.cons rv (.cons ru .nil),⟨_,e,rfl,_,rfl⟩⟩
  ·exact ih p hp
def zD (ls ms:List Dt):List Dt:=(ls.zip ms).map fun p=>.tup [p.1,p.2]
theorem RwZ.isPs {K:PySem.W.Frag} {h:Heap} {lo:Nat} {H H':Hp} (sm:Same H H') {vs us:List V} {r:List (Addr×HO)} (R:RwZ h lo vs us r):∀ {ls ms:List Dt},IsPs K H ls vs→IsPs K H ms us→(∀ p∈r,H' p.1=some p.2)→IsPs K H' (zD ls ms) (r.map fun p=>V.ref p.1):=by
 induction R with
 | nil =>
  intro ls ms h1 h2 _
  cases h1
  cases h2
  exact .nil
 | cons l rv ru e _ ih =>
  intro ls ms h1 h2 f
  cases h1 with
  | cons d1 h1 =>
  cases h2 with
  | cons d2 h2 =>
  exact .cons (.tup (.inl (.inr ⟨_,f _ List.mem_cons_self⟩)) ⟨_,_,f _ List.mem_cons_self,rfl⟩ (.cons (d1.same sm) (.cons (d2.same sm) .nil))) (ih h1 h2 fun p hp=>f p (List.mem_cons_of_mem _ hp))
theorem RwZ.of {h:Heap} {lo:Nat}:∀ {xs ys:List V} {its its2 us:List Value},Vals xs its→Vals ys its2→us.length=its.length→its.length=its2.length→(∀ (i:Nat) (e:Value),us[i]?=some e→∃ (T:Addr) (x y:Value),e=.ref T∧lo≤T∧its[i]?=some x∧its2[i]?=some y∧h.get? T=some (uf x y))→∃ r,RwZ h lo xs ys r∧us=r.map fun p=>Value.ref p.1:=by
 intro xs
 induction xs with
 | nil =>
  intro ys its its2 us r1 r2 l1 l2 _
  cases r1
  obtain rfl:=List.length_eq_zero_iff.mp l1;obtain rfl:=List.length_eq_zero_iff.mp l2.symm
  cases r2
  exact ⟨[],.nil,rfl⟩
 | cons a xs ih =>
  intro ys its its2 us r1 r2 l1 l2 f
  cases r1 with
  | @cons _ b1 _ _ q1 r1 =>
  cases r2 with
  | nil=>cases l2
  | @cons c b2 _ _ q2 r2 =>
  cases us with
  | nil=>cases l1
  | cons e us =>
  obtain ⟨T,x,y,rfl,lt,e1,e2,e3⟩:=f 0 e rfl;obtain rfl:b1=x:=by simpa using e1
  obtain rfl:b2=y:=by simpa using e2
  obtain ⟨r,h1,h2⟩:=ih r1 r2 (Nat.succ.inj l1) (Nat.succ.inj l2) fun i v hi=>by
   obtain ⟨T,x,y,a,b,c,d,g⟩:=f (i+1) v (by simpa using hi);exact ⟨T,x,y,a,b,by simpa using c,by simpa using d,g⟩
  exact ⟨_,.cons lt q1 q2 e3 h1,by rw [h2];rfl⟩
section
variable {X:Cx}
def wz (K:PySem.W.Frag) (ta:TA):TE:=fun σ H Q=>ta σ H fun vs H1=>∃ (x y:V) (ls ms:List Dt),vs=[x,y]∧IsP K H1 (.tup ls) x∧IsP K H1 (.tup ms) y∧ls.length=ms.length∧ls.length≤1000∧∀ v H',Same H1 H'→IsP K H' (.tup (zD ls ms)) v→Q v H'
theorem sQ {a b:Expr} {ta:TA} {p p' pos pos':Pos} (hc:X.calm=true) (hgd:Gl X "tuple") (hmd:X.mg "tuple" = none) (hgz:Gl X "zip") (hmz:X.mg "zip" = none) (ha:PA X [a,b] ta)
  (hs:starEach [a,b] X.env=[(false,eval a X.env),(false,eval b X.env)]:=by rfl) (hs2:starEach [b] X.env=[(false,eval b X.env)]:=by rfl)
  (ho:starEach [.Call (.Name "zip" p') [a,b] [] pos'] X.env=[(false,eval (.Call (.Name "zip" p') [a,b] [] pos') X.env)]:=by rfl) :
  PE X (.Call (.Name "tuple" p) [.Call (.Name "zip" p') [a,b] [] pos'] [] pos) (wz X.K ta):=by
 intro pins s σ H Q I h;refine wpAny_Call_Name_kw (bG I hgd hmd boot_tuple ?_ (by decide) (by decide));refine PyProof.Rows.callWith_type1 ?_ (by rw [ho];rfl) rfl;rw [ho];refine Calls.spliced_cons ?_;refine wpAny_Call_Name_kw (bG I hgz hmz boot_zip ?_ (by decide) (by decide));refine PyProof.Rows.callWith_type1 (thn (ha pos' pins s σ H _ I h) fun us s1 ⟨vs,H1,I1,r1,q1⟩=>?_) (by rw [hs,hs2]) (by rw [hs2];rfl);obtain ⟨x,y,ls,ms,e,hx,hy,el,hz,q⟩:=q1;subst e;obtain ⟨l1,zs,rfl,hl1,_,ra⟩:=hx.unref;obtain ⟨l2,zs2,rfl,hl2,_,rb⟩:=hy.unref;obtain ⟨u,v,rfl,ru,rv⟩:=r1.two
 cases ru
 cases rv
 obtain ⟨its,rr,pl,_⟩:=I1.tuple hl1;obtain ⟨its2,rr2,pl2,_⟩:=I1.tuple hl2;have lt1:s1.heap.objs.size > l1:=by obtain ⟨o,e,_⟩:=pl;exact Heap.lt_size e
 have lt2:s1.heap.objs.size > l2:=by obtain ⟨o,e,_⟩:=pl2;exact Heap.lt_size e
 refine iW pl pl2 fun h' z1 z2 z3 z4 z5 zs kk=>?_;refine Calls.spliced_nil ?_;have len1:its.length=ls.length:=by rw [← rr.length,ra.length]
 have len2:its2.length=ls.length:=by rw [← rr2.length,el,rb.length]
 have hsz:its.toArray.size≤sizeLine:=by rw [List.size_toArray,len1];exact Nat.le_of_lt (ai hz)
 refine lD (s:={ s1 with heap:=h' }) (xs:=its.toArray) (ys:=its2.toArray) (I1.ok.hd hc) hsz (by rw [List.size_toArray,List.size_toArray,len1,len2]) ⟨?D,z1,z2,⟨_,_,z3⟩,z4,z5,?T1,?T2⟩ fun h2 tk acc kp sz ot=>?_
 case D=>constructor <;> (show ¬ (@Eq Nat _ _)) <;> lia
 case T1=>obtain ⟨o,e,r⟩:=pl;exact ⟨o,kk _ _ e,r⟩
 case T2=>obtain ⟨o,e,r⟩:=pl2;exact ⟨o,kk _ _ e,r⟩
 replace zs:h'.objs.size=s1.heap.objs.size+5:=zs;have sz':acc.toList.length=its.length:=by rw [Array.length_toList,sz,List.size_toArray]
 obtain ⟨r,rz,eus⟩:=RwZ.of (h:=h2) (lo:=h'.objs.size) (us:=acc.toList) rr rr2 sz' (by rw [len1,len2]) fun i e hi=>by
  obtain ⟨T,x,y,a,b,c,d,f⟩:=ot.pr i e (by simpa using hi);exact ⟨T,x,y,a,b,by simpa using c,by simpa using d,f⟩
 have nd:(r.map (·.1)).Nodup:=by
  refine List.pairwise_iff_getElem.mpr fun i j hi hj hij e=>?_;have h1:acc.toList[i]?=some (Value.ref (r.map (·.1))[i]):=by rw [eus,List.getElem?_map,List.getElem?_eq_getElem (by simpa using hi)];simp
  have h2:acc.toList[j]?=some (Value.ref (r.map (·.1))[i]):=by rw [eus,List.getElem?_map,List.getElem?_eq_getElem (by simpa using hj),e];simp
  have:=ot.ij i j _ (by simpa using h1) (by simpa using h2);lia
 have big:∀ p∈r,s1.heap.objs.size≤p.1:=fun p hp=>by have:=rz.low p hp;rw [zs] at this;lia
 have fr:∀ p∈r,H1 p.1=none:=fun p hp=>I1.hok.fresh (big p hp);have sm:Same H1 (lay H1 r):=jx fr nd;have kk2:∀ b o,s1.heap.get? b=some o→h2.get? b=some o:=fun b o e=>by
  have lb:s1.heap.objs.size > b:=Heap.lt_size e;exact kp b o (show ¬ (@Eq Nat _ _) by lia) (show ¬ (@Eq Nat _ _) by lia) (show ¬ (@Eq Nat _ _) by lia) (show ¬ (@Eq Nat _ _) by lia) (kk b o e)
 have I2:Inv X pins σ (lay H1 r) { s1 with heap:=h2,toks:=tk }:=I1.many (t':=tk) kk2 sm fun b o eb=>by
  rcases oi eb with e | e
  ·exact .inl e
  ·exact .inr ⟨big _ e,rz.ok _ e⟩
 have vr:Vals (r.map fun p=>V.ref p.1) acc.toList:=eus ▸ iX r;obtain ⟨I3,hf⟩:=I2.plain (t':=tk) vr (by rw [List.length_map,rz.length,← ra.length];exact Nat.le_of_lt (ai hz));obtain ⟨g,dp⟩:=c6 (X:=X) (us:=acc.toList) hf (rz.isPs sm ra rb (qP fr nd));exact ⟨.ref h2.objs.size,_,by simpa using I3,rfl,q _ _ (sm.trans g) dp⟩
end
end L2
namespace L2
open PySem PySem.Spec PyProof.Rows
open AutoSeq1 (wpAny_loadPart')
section
variable {prog:Program} {w:World} {A:Around} {E:Value→Shared→Prop} {s:Shared}
theorem lE {items:Array Value} {x:Value} {e:Value→Bool} (he:∀ y,y∈items→MeetsSeq.EqGives y x (e y)) {j:Nat} (hj:j < items.size) (hit:e items[j]=true) (hno:∀ m (hm:m < items.size),m < j→e items[m]=false) {Q:Option PySem.Fin×Unit→Shared→Prop}
  (q:Q (some (.done (.ret (.int j s.toks))),()) { s with toks:=s.toks+1 }):∀ (k i:Nat),i≤j→j < i+k →
  wpAny (model prog w) A (forIn (List.range' i k) ((none:Option PySem.Fin),()) fun (i:Nat) __s =>
   match items[i]? with
   | some y=>do
    let __do_lift ← eqBool y x
    if __do_lift=true then do
      let __do_lift ← retInt (i:Int)
      pure (ForInStep.done (some __do_lift,()))
     else pure (ForInStep.yield (none,()))
   | x=>pure (ForInStep.yield (none,()))) Q E s
 | 0,i,h1,h2=>by lia
 | k+1,i,h1,h2=>by
  rw [List.range'_succ,List.forIn_cons];have hi:i < items.size:=by lia
  rw [Array.getElem?_eq_getElem hi];refine wpAny_bind (wpAny_bind (he _ (Array.getElem_mem hi) prog w _ _ _ _ ?_))
  by_cases ei:i=j
  ·subst ei;rw [hit,if_pos rfl];refine wpAny_bind ?_;unfold retInt;refine wpAny_bind (wpAny_mkInt (wpAny_pure (wpAny_pure (wpAny_pure q))))
  ·rw [hno i hi (by lia),if_neg (by decide)];refine wpAny_pure ?_;exact lE he hj hit hno q k (i+1) (by lia) (by lia)
end
theorem jB (l:Addr) (items:Array Value) (x:Value) (e:Value→Bool) (he:∀ y,y∈items→MeetsSeq.EqGives y x (e y)) (j:Nat) (hj:j < items.size) (hit:e items[j]=true) (hno:∀ m (hm:m < items.size),m < j→e items[m]=false) :
  Meets (Builtin.«tuple.index» ⟨[.ref l,x],[]⟩) (fun A R s=>IsTup s.heap l items∧R (.ok (.ret (.int j s.toks))) { s with toks:=s.toks+1 }) :=
 .of_wp fun prog w A R s h=>by
  obtain ⟨tl,h⟩:=h;obtain ⟨ob,ho,hc,n,hd⟩:=id tl;have hT:s.TypeIs (.ref l) "tuple" :=⟨_,ho,hc⟩
  wp_walk using wpAny_typeOf hT,wpAny_loadPart' ho
  rw [hd];refine wpAny_pure (wpAny_pure ?_);refine show wpAny _ _ (pure 0 >>= fun lo=>pure items.size >>= fun hi=>_) _ _ _ from wpAny_bind (wpAny_pure (wpAny_bind (wpAny_pure ?_)));rw [Std.Legacy.Range.forIn_eq_forIn_range'];have e1:List.range' [:min items.size items.size].start [:min items.size items.size].size [:min items.size items.size].step=List.range' 0 items.size:=by
   simp [Std.Legacy.Range.size]
  rw [e1];refine wpAny_bind (lE (s:={ s with toks:=s.toks }) he hj hit hno ?_ items.size 0 (Nat.zero_le _) (by lia));exact wpAny_pure ⟨_,rfl,h⟩
section
variable {X:Cx}
theorem pC:MtM X "tuple.index" (fun x vs H Q=>∃ (l:Addr) (zs:List Str) (z:Str) (j:Nat),x=.ref l∧vs=[.str z]∧SqT X.K H l (zs.map V.str)∧zs[j]?=some z∧(∀ m,m < j→zs[m]?≠some z)∧zs.length≤1000∧Q (.int (j:Nat)) H):=by
 intro pins s σ H x vs v us Q I rx rv h;obtain ⟨l,zs,z,j,rfl,rfl,hH,hj,hno,hz,q⟩:=h
 cases rx
 obtain ⟨u,rfl,t,rfl⟩:=rv.one;obtain ⟨its,r,pl,_⟩:=I.tuple hH;have sa:=oj r;have ln:its.length=zs.length:=by rw [← r.length,List.length_map]
 have hjl:j < its.length:=by have:=(List.getElem?_eq_some_iff.mp hj).1;lia
 obtain ⟨o,e,hc,n,hd⟩:=id pl;refine call_meets F.slot_tuple_index ⟨_,e,hc⟩ F.entry_tuple_index (F.args_tuple_index_2 _ _) (jB l its.toArray (.str z t) (isStrOf z) (fun y hy=>eq_isStrOf z t sa y (by simpa using hy)) j (by simpa using hjl) ?_ ?_) ⟨pl,⟨.int _,H,I.tok _,⟨_,rfl⟩,q⟩⟩
 ·rw [List.getElem_toArray,gL sa j hjl];exact decide_eq_true hj
 ·intro m hm hmj;rw [List.getElem_toArray,gL sa m (by simpa using hm)];exact decide_eq_false (hno m hmj)
end
end L2
namespace L2
open PySem PySem.Spec PyProof.Rows
section
variable {X:Cx} {o e:Expr} {es:List Expr} {to:TE} {t:TA} {name:Str} {apos cpos:Pos} {T id:String} {r:V→List V→Hp→VK→Prop}
def tyW (K:PySem.W.Frag) (T:String) (x:V) (H:Hp):Prop:=T= "tuple" ∧∃ l,IsP K H (.tup l) x
theorem uY {pins:List (Addr×Obj)} {σ:St} {H:Hp} {s:Shared} {T:String} {x:V} {v:Value} (I:Inv X pins σ H s) (r:RelV x v) (ty:tyW X.K T x H) :
  s.TypeIs v T∧∀ a,v=.ref a→∃ ob,s.heap.get? a=some ob∧ob.dict=none:=by
 obtain ⟨rfl,l,h⟩:=ty;obtain ⟨a,xs,rfl,h1,⟨ob,u,h2,h3⟩,_⟩:=h.unref
 cases r
 obtain ⟨its,_,ht,_⟩:=I.tuple h1;obtain ⟨o',e1,e2,_⟩:=ht;refine ⟨⟨o',e1,e2⟩,fun b q=>?_⟩
 cases q
 exact ⟨ob,(I.hok a _ h2).1,h3⟩
def tBW (K:PySem.W.Frag) (T:String) (r:V→List V→Hp→VK→Prop) (to:TE) (t:TA):TE:=fun σ H Q=>to σ H fun x H1=>tyW K T x H1∧t σ H1 fun xs H2=>r x xs H2 Q
theorem wA (pa:PlainAttrs T) (slot:Slot T name id) (hty:typeOf (.builtin id)=pure (.type "method_descriptor")) (hm:MtR X id r) (ho:PE X o to) (ha:PA X (e :: es) t)
  (hbase:attributeBase o name X.env (eval o X.env)=eval o X.env:=by rfl)
  (hfew:((backTo cpos (starEach (e :: es) X.env)).all (fun x=>!x.1) && (backToKw cpos (keywordEach [] X.env)).all (fun x=>x.1.isSome)
   && decide ((e :: es).length+([]:List Keyword).length+(if ([]:List Keyword).isEmpty then 0 else 1) < 30))=true:=by rfl)
  (hline:(apos.endLine == cpos.line)=true:=by rfl) (hs:starEach (e :: es) X.env=(false,eval e X.env) :: starEach es X.env:=by rfl) (hplain:(backTo cpos (starEach es X.env)).any (·.1)=false:=by rfl) :
  PE X (.Call (.Attribute o name apos) (e :: es) [] cpos) (tBW X.K T r to t):=by
 intro pins s σ H Q I h;refine wpAny_Call_method_late hbase hfew hline rfl (thn (ho pins s σ H _ I h) fun v s1 ⟨x,H1,I1,r1,ty,q1⟩=>?_);obtain ⟨h1,h2⟩:=uY I1 r1 ty;refine ⟨T,id,pa,slot,hty,h1,h2,?_⟩;have hA:=ha cpos pins s1 σ H1 _ I1 q1;rw [hs] at hA ⊢;refine Calls.callWith_builtin (by show (false || (backTo cpos (starEach es X.env)).any (·.1))=false;rw [hplain] <;> rfl) (Calls.evalArgs_plain ?_);exact thn hA fun us s2 ⟨vs,H2,I2,r2,q2⟩=>hm pins s2 σ H2 x vs v us Q I2 r1 r2 q2
theorem gO {K:PySem.W.Frag} {H:Hp}:∀ {ws:List Str} {xs:List V},IsPs K H (ws.map Dt.str) xs→xs=ws.map V.str
 | [],_,r=>by cases r;rfl
 | w :: ws,_,r=>by
  cases r with
  | cons h1 h2 =>
   cases h1
   rw [gO h2]
   rfl
def xi (K:PySem.W.Frag):V→List V→Hp→VK→Prop:=fun x xs H Q=>∃ (ws:List Str) (z:Str) (j:Nat),xs=[.str z]∧IsP K H (.tup (ws.map Dt.str)) x∧ws[j]?=some z∧(∀ m:Nat,m < j→ws[m]?≠some z)∧ws.length≤1000∧Q (.int (j:Nat)) H
theorem mQ:MtR X "tuple.index" (xi X.K):=by
 intro pins s σ H x vs v us Q I rx rv h;obtain ⟨ws,z,j,rfl,hp,h1,h2,h3,q⟩:=h;obtain ⟨a,xs,rfl,k1,_,k2⟩:=hp.unref;rw [gO k2] at k1;exact pC pins s σ H _ _ v us Q I rx rv ⟨a,ws,z,j,rfl,rfl,k1,h1,h2,h3,q⟩
end
section
variable {P:Program} {w:World} {A:Around} {E:Value→Shared→Prop} {s:Shared}
def xj (P:Program) (w:World) (h:Heap) (a:Addr) (b:Bool) (es:Array (Int×Value)) (ep:Nat) (t:SetTable):Prop :=
 ∃ o,h.get? a=some o∧o.ExactSet∧o.data=.set es ep t∧ElemsOf (ao P w) es.toList∧es.size < scanBound∧t.fits es.size=true∧t.led=b∧(t.plain=true→es.size=0)
def kO:Value→Key
 | .int i _=>.inl i
 | .str x _=>.inr x
 | _=>.inl 0
def xx (P:Program) (w:World) (h:Heap) (a:Addr) (b:Bool) (l:List Key):Prop:=∃ es ep t,xj P w h a b es ep t∧(es.toList.map fun e=>kO e.2).Perm l
end
section
variable {P:Program} {w:World} {A:Around} {R:Result→Shared→Prop} {it:Addr} {fp wr:List Addr} {G:Array GenState→Array GenState→Prop} {n:Nat} {Pt:Nat→Value→Prop} {St:Nat→Shared→Prop}
end
section
variable {P:Program} {w:World} {A:Around} {E:Value→Shared→Prop} {s:Shared}
end
section
variable {P:Program} {w:World} {A:Around} {E:Value→Shared→Prop} {s:Shared}
def SIt (h:Heap) (I a:Addr) (first:Value) (i n ep:Nat):Prop:=∃ o,h.get? I=some o∧o.cls=.type "set_iterator" ∧o.data=.fields #[first,.int i 0,.ref a,.int n 0,.int ep 0]
end
section
variable {P:Program} {w:World} {A:Around} {E:Value→Shared→Prop} {s:Shared}
end
section
variable {P:Program} {w:World} {A:Around} {E:Value→Shared→Prop} {s:Shared}
end
section
variable {P:Program} {w:World} {A:Around} {E:Value→Shared→Prop} {s:Shared}
end
section
variable {P:Program} {w:World} {A:Around} {E:Value→Shared→Prop} {s:Shared}
end
section
variable {P:Program} {w:World} {A:Around} {E:Value→Shared→Prop} {s:Shared}
end
section
variable {X:Cx}
end
def SqE:Bool→PySem.W.Frag→Hp→Addr→List V→Prop
 | true=>SqT
 | false=>SqL
section
variable {X:Cx} {elts:List Expr} {k:Nat} {tpos:Pos}
end
def xz (K:PySem.W.Frag) (H:Hp) (p:Addr) (ns:List Str) (f:Str→Dt):Prop :=
 ∃ kvs,H p=some (.dK kvs)∧kvs.map (·.1)=ns.map (Sum.inr:Str→Key)∧∀ z∈ns,∃ v,aK kvs (Sum.inr z:Key)=some v∧IsP K H (f z) v
section
variable {X:Cx} {o e f:Expr} {apos cpos:Pos} {td ty tx:TE}
end
section
variable {X:Cx} {e st:Expr} {te tst:TE} {p2 pos:Pos}
end
end L2
namespace PySem
open Sem (wp)
def Heap.Tr (h base:Heap) (e:Addr) (cls:Value) (ws:Array Value) (fl:Value):Prop :=
 ∃ oe vs T oT ts,h.get? e=some oe∧oe.cls=cls∧oe.data=.fields vs∧(∀ i,i≠1→vs[i]?=ws[i]?)∧vs[1]?=some (.ref T)∧base.get? T=none∧T≠e∧h.get? T=some oT∧oT.data=.fields ts∧ts[3]?=some fl
def Heap.Fl (base:Heap) (l:List Env) (e:Addr) (cls:Value) (ws:Array Value) (fl:Value) (h:Heap):Prop :=
 base.StaysIn h∧base.get? e=none∧h.FunFrames base l∧h.Tr base e cls ws fl
section
variable {M:Model} {A:Around} {E:Value→Shared→Prop} {s:Shared}
end
end PySem
namespace PySem
open Sem (wp)
section
variable {prog:Program} {w:World} {A:Around} {E:Value→Shared→Prop} {s:Shared} {env:Env}
variable {nm q:Str} {C N:Addr} {bs bm bmB:List Value} {hdct:Bool} {sn:List Str} {sub:List Value} {ab:Bool} {col:Option Bool} {dd:Option Addr} {k0 k1 k2 k3 k5:Option Value} {B newId initId:String}
end
end PySem
namespace L2
open PySem PySem.Spec PyProof.Rows
section
variable {X:Cx} {pins:List (Addr×Obj)} {σ:St} {H:Hp} {s:Shared}
end
end L2
namespace PySem
open Sem (wp)
section
variable {prog:Program} {w:World} {A:Around} {E:Value→Shared→Prop} {s:Shared} {env:Env}
variable {nm q:Str} {C N:Addr} {bs bm bmB:List Value} {hdct:Bool} {sn:List Str} {sub:List Value} {ab:Bool} {col:Option Bool} {dd:Option Addr} {k0 k1 k2 k3 k5:Option Value} {B newId initId:String}
end
end PySem
namespace L2
open PySem PySem.Spec PyProof.Rows
section
variable {X:Cx} {pins:List (Addr×Obj)} {σ:St} {H:Hp} {s:Shared}
end
end L2
namespace PySem
open Sem (wp)
section
variable {prog:Program} {w:World} {K:Type} [DecidableEq K] {kd:KeyKind prog w K} {k0:K} {A:Around} {E:Value→Shared→Prop} {s:Shared}
def IsBoxKey (kd:KeyKind prog w K) (k0:K) (h:Heap) (k:K) (a:Addr):Prop :=
 ∃ o u b n,h.get? a=some o∧o.cls=.type "tuple" ∧o.data=.seq #[u,.ref b] n∧kd.is k0 u=true∧IsTupleKey kd h [k] b
theorem IsBoxKey.tuple {k:K} {a:Addr} (x:IsBoxKey kd k0 s.heap k a):s.TypeIs (.ref a) "tuple" :=let ⟨o,_,_,_,q,c,_⟩:=x;⟨o,q,c⟩
theorem IsBoxKey.one {h:Heap} {a:Addr} {x y:K} (p:IsBoxKey kd k0 h x a) (q:IsBoxKey kd k0 h y a):x=y:=by
 obtain ⟨o,u,b,n,p1,p2,p3,p4,p5⟩:=p;obtain ⟨o',u',b',n',q1,q2,q3,q4,q5⟩:=q;obtain rfl:o=o':=Option.some.inj (p1.symm.trans q1);rw [p3] at q3;injection q3 with e _
 have e2:u=u'∧b=b':=by simpa using e
 obtain ⟨rfl,rfl⟩:=e2;exact List.cons.inj (p5.inj q5) |>.1
theorem IsBoxKey.stay {h h':Heap} {k:K} {a d:Addr} {o:Obj} {es ep} (x:IsBoxKey kd k0 h k a) (q:h.get? d=some o) (qd:o.data=.dict es ep) (sb:Heap.SameBut d h h'):IsBoxKey kd k0 h' k a:=by
 obtain ⟨o',u,b,n,p1,p2,p3,p4,p5⟩:=x;have ne:a≠d:=by
  rintro rfl;obtain rfl:o'=o:=Option.some.inj (p1.symm.trans q);rw [qd] at p3;exact nomatch p3
 exact ⟨o',u,b,n,(sb.2 a ne).trans p1,p2,p3,p4,p5.keeps q qd sb⟩
def jC (kd:KeyKind prog w K) (k0 k:K):Int:=reduceHash (Builtin.Tuple.tupleHashOf [kd.hash k0,tupleKeyHash kd [k]])
theorem qW {k:K} {a:Addr} {Q:Int→Shared→Prop} (hu:A.units+1 < cLine) (x:IsBoxKey kd k0 s.heap k a) (z:Q (jC kd k0 k) { s with toks:=s.toks+4 }) :
  wpAny (model prog w) A (pyHash (.ref a)) Q E s:=by
 have ty:=x.tuple;obtain ⟨o,u,b,n,p1,_,p3,p4,p5⟩:=x;unfold pyHash
 first | unfold pyHashByItsType | skip
 first | refine wpAny_bind (wpAny_cRoomFor_or (.inr (Nat.lt_trans (Nat.lt_succ_self _) hu)) ?_) | skip
 refine wpAny_bind (wpAny_specialOf ty F.slot_tuple_hash.lookup ?_);show wpAny _ _ (if (some (Value.builtin "tuple.__hash__") == some Value.none)=true then _ else _) Q E s;rw [if_neg (by rw [beq_builtin_none];exact Bool.false_ne_true)];refine wpAny_bind (wpAny_specialOf ty F.slot_tuple_hash.lookup ?_);show wpAny _ _ (callSpecialIfBoundUnlessNone? (.ref a) "__hash__" _ >>= _) Q E s;refine wpAny_bind (wpAny_callSpecialIfBoundUnlessNone?_slot ty F.slot_tuple_hash (wpAny_call_entry F.slot_tuple_hash ty F.entry_tuple_hash ?_ (F.args_tuple_hash_1 _)));show wpAny _ _ (Builtin.Tuple.tupleItemsOf (.ref a) >>= _) _ _ s;refine wpAny_bind (wpAny_tupleItemsOf p1 p3 ?_);refine wpAny_bind ?_;rw [← Array.forIn_toList];show wpAny _ _ (forIn [u,Value.ref b] _ _) _ _ _;rw [List.forIn_cons];refine wpAny_bind (wpAny_bind (kd.pyHash p4 ?_))
 first | refine wpAny_pure ?_ | refine wpAny_bind (wpAny_pure (wpAny_pure ?_))
 show wpAny _ _ (forIn [Value.ref b] _ _) _ _ _;rw [List.forIn_cons];refine wpAny_bind (wpAny_bind (wpAny_pyHash_tuple (knd:=kd) (ks:=[k]) (by exact hu) (by exact p5) ?_))
 first | refine wpAny_pure ?_ | refine wpAny_bind (wpAny_pure (wpAny_pure ?_))
 show wpAny _ _ (forIn ([]:List Value) _ _) _ _ _;rw [List.forIn_nil];refine wpAny_pure ?_;show wpAny _ _ (retInt (Builtin.Tuple.tupleHashOf [kd.hash k0,tupleKeyHash kd [k]])) _ _ _;refine wpAny_ret_mkInt ?_;show wpAny _ _ (if (decide (-(2:Int) ^ 63≤Builtin.Tuple.tupleHashOf [kd.hash k0,tupleKeyHash kd [k]]) && decide (Builtin.Tuple.tupleHashOf [kd.hash k0,tupleKeyHash kd [k]] < 2 ^ 63))=true then _ else _) Q E _;unfold jC reduceHash at z
 split
 ·rename_i q
  rw [if_pos q] at z;exact wpAny_pure z
 ·rename_i q
  rw [if_neg q] at z;exact wpAny_bind (wpAny_rule (wpAny_pure z))
theorem qX {x y:K} {a b:Addr} {P:Fin→Shared→Prop} (hu:A.units+1 < cLine) (p:IsBoxKey kd k0 s.heap x a) (q:IsBoxKey kd k0 s.heap y b) (z:P (.done (.ret (.bool (decide (x=y))))) s) :
  wpAny (model prog w) A (Builtin.«tuple.__eq__» ⟨[.ref a,.ref b],[]⟩) P E s:=by
 have ty:=q.tuple;obtain ⟨oa,ua,ba,na,a1,_,a3,a4,a5⟩:=p;obtain ⟨ob,ub,bb,nb,b1,_,b3,b4,b5⟩:=q;show wpAny _ _ (isInstance (.ref b) (.type "tuple") >>= _) _ _ s;refine wpAny_bind (wpAny_isInstance ty isSubtype_tuple_tuple ?_);simp only [Bool.not_true,Bool.false_eq_true,if_false];refine wpAny_bind (wpAny_tupleItemsOf a1 a3 ?_);refine wpAny_bind (wpAny_tupleItemsOf b1 b3 ?_);refine wpAny_bind ?_;show wpAny _ _ (forIn [(ua,ub),(Value.ref ba,Value.ref bb)] _ _) _ _ _;rw [List.forIn_cons];refine wpAny_bind (wpAny_bind (kd.eqBool (a:=k0) (b:=k0) a4 b4 ?_));rw [decide_eq_true rfl];simp only [Bool.not_true,Bool.false_eq_true,if_false];refine wpAny_pure ?_;show wpAny _ _ (forIn [(Value.ref ba,Value.ref bb)] _ _) _ _ _;rw [List.forIn_cons];refine wpAny_bind (wpAny_bind (wpAny_eqBool_tuple (knd:=kd) (x:=[x]) (y:=[y]) (by lia) a5 b5 ?_))
 by_cases e:x=y
 ·subst e;rw [decide_eq_true rfl];rw [decide_eq_true rfl] at z;simp only [Bool.not_true,Bool.false_eq_true,if_false];refine wpAny_pure ?_;show wpAny _ _ (forIn ([]:List (Value×Value)) _ _) _ _ _;rw [List.forIn_nil];exact wpAny_pure (wpAny_pure z)
 ·have e':¬ [x]=[y]:=fun c=>e (List.cons.inj c).1;rw [decide_eq_false e'];rw [decide_eq_false e] at z;simp only [Bool.not_false,if_true];exact wpAny_bind (wpAny_pure (wpAny_pure (wpAny_pure (wpAny_pure z))))
theorem uZ {x y:K} {a b:Addr} {Q:Bool→Shared→Prop} (hu:A.units+2 < cLine) (p:IsBoxKey kd k0 s.heap x a) (q:IsBoxKey kd k0 s.heap y b) (z:Q (decide (x=y)) s) :
  wpAny (model prog w) A (eqBool (.ref a) (.ref b)) Q E s:=by
 unfold eqBool
 try with_reducible refine wpAny_holding ?_
 show wpAny _ _ (if (Value.ref a == Value.ref b)=true then _ else _) Q E s
 by_cases ab:(Value.ref a == Value.ref b)=true
 ·rw [if_pos ab];have e:a=b:=by have:=eq_of_beq ab;injection this
  subst e;obtain rfl:=p.one q;exact wpAny_bind (wpAny_rule (wpAny_pure (by simpa using z)))
 ·rw [if_neg ab];exact wpAny_bind (wpAny_richCompare_same_room (op:=.Eq) p.tuple q.tuple F.slot_tuple_eq
   (wpAny_call_entry F.slot_tuple_eq p.tuple F.entry_tuple_eq (qX (by exact hu) p q ⟨_,rfl,(fun e=>nomatch e),wpAny_truthy_bool z⟩) (F.args_tuple_eq_2 _ _)) (by lia))
theorem lG (m:Nat) {ks:List K} {a:Addr} {Q:Bool→Shared→Prop} (x:IsTupleKey kd s.heap ks a) (z:Q true s):wpAny (model prog w) A (eqIsQuiet (m+1) (.ref a)) Q E s:=by
 have ty:=x.typeIs;obtain ⟨o,its,n,p1,_,p3,p4⟩:=x;unfold eqIsQuiet;refine wpAny_bind (wpAny_specialOf ty F.slot_tuple_eq.lookup ?_);show wpAny _ _ (isInstance (.ref a) (.type "tuple") >>= _) _ _ s;refine wpAny_bind (wpAny_isInstance ty isSubtype_tuple_tuple ?_);simp only [Bool.not_true,Bool.false_eq_true,if_false];refine wpAny_bind (wpAny_seqItems p1 p3 ?_);refine wpAny_bind ?_;show wpAny _ _ (forIn its _ _) _ _ s;rw [← Array.forIn_toList];refine wpAny_forIn_list _ (fun rest r s'=>r.1=none∧s'=s∧∀ v∈rest,carriedByValue v=true) _ ?_ ?_ _ _ ⟨rfl,rfl,p4.byValue⟩
 ·rintro v rest r s' ⟨hr,rfl,al⟩;rw [eqIsQuiet_byValue _ (al v List.mem_cons_self)];refine wpAny_bind (wpAny_pure ?_);simp only [Bool.not_true,Bool.false_eq_true,if_false];exact wpAny_pure ⟨rfl,rfl,fun u hu'=>al u (List.mem_cons_of_mem _ hu')⟩
 ·rintro ⟨r1,r2⟩ s' ⟨hr,rfl,_⟩;simp only at hr;subst hr;exact wpAny_pure z
theorem pD {k:K} {a:Addr} {Q:Bool→Shared→Prop} (x:IsBoxKey kd k0 s.heap k a) (z:Q true s):wpAny (model prog w) A (eqIsQuiet 8 (.ref a)) Q E s:=by
 have ty:=x.tuple;obtain ⟨o,u,b,n,p1,_,p3,p4,p5⟩:=x;unfold eqIsQuiet;refine wpAny_bind (wpAny_specialOf ty F.slot_tuple_eq.lookup ?_);show wpAny _ _ (isInstance (.ref a) (.type "tuple") >>= _) _ _ s;refine wpAny_bind (wpAny_isInstance ty isSubtype_tuple_tuple ?_);simp only [Bool.not_true,Bool.false_eq_true,if_false];refine wpAny_bind (wpAny_seqItems p1 p3 ?_);refine wpAny_bind ?_;show wpAny _ _ (forIn #[u,Value.ref b] _ _) _ _ s;rw [← Array.forIn_toList];show wpAny _ _ (forIn [u,Value.ref b] _ _) _ _ s;rw [List.forIn_cons,eqIsQuiet_byValue _ (kd.byValue _ _ p4)];refine wpAny_bind (wpAny_bind (wpAny_pure ?_));simp only [Bool.not_true,Bool.false_eq_true,if_false];refine wpAny_pure ?_;show wpAny _ _ (forIn [Value.ref b] _ _) _ _ s;rw [List.forIn_cons];refine wpAny_bind (wpAny_bind (lG _ p5 ?_));simp only [Bool.not_true,Bool.false_eq_true,if_false];refine wpAny_pure ?_;show wpAny _ _ (forIn ([]:List Value) _ _) _ _ s;rw [List.forIn_nil];exact wpAny_pure (wpAny_pure z)
end
def sR {prog:Program} {w:World} {K:Type} [DecidableEq K] (kd:KeyKind prog w K) (k0:K):HeapKind prog w K where
 is:=IsBoxKey kd k0
 hash:=jC kd k0
 draws:=fun _=>4
 room:=fun A=>A.units+2 < cLine
 inj:=fun p q=>p.one q
 keeps:=fun x q qd sb=>x.stay q qd sb
 pyHash:=fun hu x z=>qW (Nat.lt_trans (Nat.lt_succ_self _) hu) x z
 eqBool:=fun hu p q z=>uZ hu p q z
 quiet:=fun x z=>pD x z
section
variable {prog:Program} {w:World} {K:Type} [DecidableEq K] {knd:HeapKind prog w K} {A:Around} {E:Value→Shared→Prop} {s:Shared}
theorem fW {d a:Addr} {xs:List (K×Addr×Value)} {k:K} {v:Value} {Q:Value→Shared→Prop} (hu:knd.room A) (hk:knd.is s.heap k a) (hm:s.heap.DictOfH knd d xs) (hz:xs.length≤sizeLine)
  (h1:∀ p,atKey xs k=some p→Q p.2 { s with toks:=s.toks+knd.draws k })
  (h2:atKey xs k=none→∀ h',h'.DictOfH knd d (xs++[(k,a,v)])→Heap.SameBut d s.heap h'→Q v { s with heap:=h',toks:=s.toks+knd.draws k }) :
  wpAny (model prog w) A (dictSetDefault d (.ref a) v) Q E s:=by
 obtain ⟨o,es,ep,m1,m2,m3,m4,m5,m6⟩:=hm;unfold dictSetDefault
 try with_reducible refine wpAny_holding ?_
 refine wpAny_bind (knd.pyHash hu hk ?_);refine wpAny_bind (wpAny_dictFind_heap (s:={ s with toks:=s.toks+knd.draws k }) hu hk m1 m3 m4 m5 m6 (fun no=>?_) fun j p hj=>?_)
 ·have nk:k∉xs.map (·.1):=not_mem_keys_of_get no;have an:=atKey_none_of_get no;refine wpAny_bind (wpAny_rule (wpAny_bind (wpAny_updateDictKeys (hz:=by have e:=size_of_entries m4;lia) (s:={ s with toks:=s.toks+knd.draws k }) m1 m3 (wpAny_pure (h2 an _ ⟨_,_,ep+1,Heap.get?_update_self _ m1 (Obj.isFreed_of_dict (Obj.data_mapDictKeys m3 _)),m2.mapDictKeys _,Obj.data_mapDictKeys m3 _,?_,fun x hx=>?_,?_⟩ (Heap.SameBut.update ..))))))
  ·simp [m4,entryOfKey]
  ·rcases List.mem_append.mp hx with hx | hx
   ·exact knd.keeps (m5 x hx) m1 m3 (Heap.SameBut.update ..)
   ·obtain rfl:=List.mem_singleton.mp hx;exact knd.keeps hk m1 m3 (Heap.SameBut.update ..)
  ·rw [List.map_append,List.nodup_append];refine ⟨m6,by simp,fun x hx y hy c=>?_⟩;obtain rfl:y=k:=by simpa using hy
   exact nk (c ▸ hx)
 ·refine wpAny_bind (wpAny_dictEntries (s:={ s with toks:=s.toks+knd.draws k }) m1 m3 ?_);rw [entry_at m4 j,hj];exact wpAny_bind (wpAny_rule (wpAny_pure (h1 p (atKey_of_get m6 hj))))
theorem eJ (knd:HeapKind prog w K) (d a:Addr) (hd:(d == sysModules)=false) (v:Value) :
  MeetsIn prog w (Builtin.«dict.setdefault» ⟨[.ref d,.ref a,v],[]⟩) (fun A R s=>knd.room A.in1∧∃ k xs,knd.is s.heap k a∧s.heap.DictOfH knd d xs∧xs.length≤sizeLine ∧
   (∀ p,atKey xs k=some p→R (.ok (.ret p.2)) { s with toks:=s.toks+knd.draws k }) ∧
   (atKey xs k=none→∀ h',h'.DictOfH knd d (xs++[(k,a,v)])→Heap.SameBut d s.heap h'→R (.ok (.ret v)) { s with heap:=h',toks:=s.toks+knd.draws k })) :=
 .of_wp fun A R s ⟨hu,k,xs,hk,hm,hz,h1,h2⟩=>by
  unfold Builtin.«dict.setdefault»;refine wpAny_bind ?_;unfold Builtin.Dict.keyAndDefault;refine wpAny_bind (wpAny_notOrdered_dict hm.typeIs ?_);show wpAny _ _ (pure (d,Value.ref a,some v)) _ _ s;refine wpAny_pure ?_;show wpAny _ _ (if (d == sysModules)=true then _ else (dictSetDefault d (.ref a) v >>= _)) _ _ s;rw [if_neg (by rw [hd];exact Bool.false_ne_true)];exact wpAny_bind (fW hu hk hm hz (fun p hp=>wpAny_pure ⟨p.2,rfl,h1 p hp⟩) fun hn h' m' sb=>wpAny_pure ⟨v,rfl,h2 hn h' m' sb⟩)
theorem qY {d:Addr} {od:Obj} {es:Array DictEntry} {ep:Nat} {Q:Value→Shared→Prop} (hd:(d == sysModules)=false) (e0:s.heap.get? d=some od) (ex:od.ExactDict) (dat:od.data=.dict es ep)
  (z:Q (.ref s.heap.objs.size) { s with heap:=s.heap.push { cls:=.type "dict_keyiterator",data:=.fields #[.ref d,.int 0 0,.int es.size 0,.int ep 0] } }) :
  wpAny (model prog w) A (pyIter (.ref d)) Q E s:=by
 have ty:s.TypeIs (.ref d) "dict" :=⟨od,e0,ex.1⟩;refine wpAny_pyIter_slot ty F.slot_dict_iter (wpAny_call_entry F.slot_dict_iter ty F.entry_dict_iter ?_ (F.args_dict_iter_1 _));unfold Builtin.«dict.__iter__»;refine wpAny_bind ?_;unfold Builtin.Dict.dictSlotNone;refine wpAny_bind (wpAny_notOrdered_dict ty ?_);show wpAny _ _ (pure (Value.ref d)) _ _ s;refine wpAny_pure ?_;show wpAny _ _ (Builtin.Dict.showsAll d >>= _) _ _ s;unfold Builtin.Dict.showsAll;rw [if_neg (by rw [hd];exact Bool.false_ne_true)];refine wpAny_bind (wpAny_pure ?_);refine wpAny_bind (wpAny_dictEntries e0 dat ?_);refine wpAny_bind (wpAny_dictEpoch e0 dat ?_);refine wpAny_bind (wpAny_newObj_type (wpAny_pure ⟨_,rfl,"dict_keyiterator",_,⟨_,Heap.get?_push_size _ rfl,rfl⟩,F.slot_dict_keyiterator_next.lookup,?_⟩))
 simpa [rawInt] using z
theorem qZ {it d:Addr} {i ep:Nat} {od:Obj} {es:Array DictEntry} {e:DictEntry} {Q:Option Value→Shared→Prop} (hi:s.heap.IsKeyIter it d i es.size ep) (e0:s.heap.get? d=some od) (dat:od.data=.dict es ep) (hx:es[i]?=some e)
  (z:∀ h',h'.IsKeyIter it d (i+1) es.size ep→Heap.SameBut it s.heap h'→Q (some e.key) { s with heap:=h' }) :
  wpAny (model prog w) A (pyNext (.ref it)) Q E s:=by
 obtain ⟨o,ho,hc,hd⟩:=id hi;unfold pyNext;refine wpAny_bind (wpAny_attempt (wpAny_callSpecial?_slot (name:=Str.ofString "__next__") hi.typeIs F.slot_dict_keyiterator_next
  (wpAny_call_entry F.slot_dict_keyiterator_next hi.typeIs F.entry_dict_keyiterator_next ?_ (F.args_dict_keyiterator_next_1 _))))
 refine wpAny_bind (wpAny_pure ?_);refine wpAny_bind ?_;refine wpAny_bind ?_
 first | refine wpAny_bind (wpAny_typeNameOfWhole_keyiter hi.typeIs (wpAny_pure ?_)) | refine wpAny_bind (wpAny_typeNameOf_keyiter hi.typeIs (wpAny_pure ?_))
 refine wpAny_bind (wpAny_fieldsOf ho hd ?_);have own:Builtin.Dict_items.ownsTuple "dict_keyiterator" = false:=by decide
 simp only [own,Bool.false_eq_true,if_false];show wpAny _ _ (if (Value.ref d == Value.none)=true then _ else _) _ _ s;rw [if_neg (show ¬ ((Value.ref d == Value.none)=true) from Bool.false_ne_true)];refine wpAny_bind (wpAny_pure ?_);refine wpAny_bind (wpAny_dictEntries e0 dat ?_);rw [if_neg (by simp)];refine wpAny_bind (wpAny_pure ?_);refine wpAny_bind (wpAny_dictEpoch e0 dat ?_);rw [if_neg (by simp)];refine wpAny_pure ?_;obtain ⟨hl,he⟩:=Array.getElem?_eq_some_iff.mp hx;simp only [show ¬ ((i:Int) < 0) from by lia,if_false,Int.toNat_natCast,Array.getElem?_eq_getElem hl];refine wpAny_bind ?_
 first | refine wpAny_bind (wpAny_typeNameOfWhole_keyiter hi.typeIs (wpAny_pure ?_)) | refine wpAny_bind (wpAny_typeNameOf_keyiter hi.typeIs (wpAny_pure ?_))
 refine wpAny_bind (wpAny_isOneOf_keyiter hi.typeIs ?_);show wpAny _ _ (setField (.ref it) 1 (rawInt ((i:Int)+1)) >>= _) _ _ s;refine wpAny_bind (wpAny_setField ho hd (by simp) ?_);have hi':(s.heap.update it (Obj.mapFields (·.setIfInBounds 1 (rawInt ((i:Int)+1))))).IsKeyIter it d (i+1) es.size ep :=
  ⟨_,Heap.get?_update_self _ ho (Obj.isFreed_of_fields (Obj.data_mapFields hd _)),(Obj.cls_mapFields ..).trans hc,by rw [Obj.data_mapFields hd];simp [rawInt]⟩
 refine wpAny_bind (wpAny_holding ?_);refine wpAny_bind (wpAny_isOneOf_keyiter (s:={ s with heap:=s.heap.update it (Obj.mapFields (·.setIfInBounds 1 (rawInt ((i:Int)+1)))) }) hi'.typeIs ?_);show wpAny _ _ (pure es[i].key) _ _ _;rw [he];exact wpAny_pure (wpAny_pure ⟨_,rfl,wpAny_pure (z _ hi' (Heap.SameBut.update ..))⟩)
theorem sS {it d:Addr} {i ep:Nat} {od:Obj} {es:Array DictEntry} {Q:Option Value→Shared→Prop} (hh:A.handled=none) (hi:s.heap.IsKeyIter it d i es.size ep) (e0:s.heap.get? d=some od) (dat:od.data=.dict es ep) (hx:es.size≤i)
  (z:∀ h',Heap.ExtBut it s.heap h'→Q none { s with heap:=h' }):wpAny (model prog w) A (pyNext (.ref it)) Q E s:=by
 obtain ⟨o,ho,hc,hd⟩:=id hi;unfold pyNext;refine wpAny_bind (wpAny_attempt (wpAny_callSpecial?_slot (name:=Str.ofString "__next__") hi.typeIs F.slot_dict_keyiterator_next
  (wpAny_call_entry F.slot_dict_keyiterator_next hi.typeIs F.entry_dict_keyiterator_next ?_ (F.args_dict_keyiterator_next_1 _))))
 refine wpAny_bind (wpAny_pure ?_);refine wpAny_bind ?_;refine wpAny_bind ?_
 first | refine wpAny_bind (wpAny_typeNameOfWhole_keyiter hi.typeIs (wpAny_pure ?_)) | refine wpAny_bind (wpAny_typeNameOf_keyiter hi.typeIs (wpAny_pure ?_))
 refine wpAny_bind (wpAny_fieldsOf ho hd ?_);have own:Builtin.Dict_items.ownsTuple "dict_keyiterator" = false:=by decide
 simp only [own,Bool.false_eq_true,if_false];show wpAny _ _ (if (Value.ref d == Value.none)=true then _ else _) _ _ s;rw [if_neg (show ¬ ((Value.ref d == Value.none)=true) from Bool.false_ne_true)];refine wpAny_bind (wpAny_pure ?_);refine wpAny_bind (wpAny_dictEntries e0 dat ?_);rw [if_neg (by simp)];refine wpAny_bind (wpAny_pure ?_);refine wpAny_bind (wpAny_dictEpoch e0 dat ?_);rw [if_neg (by simp)];refine wpAny_pure ?_;simp only [show ¬ ((i:Int) < 0) from by lia,if_false,Int.toNat_natCast,Array.getElem?_eq_none hx];refine wpAny_bind ?_
 first | refine wpAny_bind (wpAny_typeNameOfWhole_keyiter hi.typeIs (wpAny_pure ?_)) | refine wpAny_bind (wpAny_typeNameOf_keyiter hi.typeIs (wpAny_pure ?_))
 show wpAny _ _ (setField (.ref it) 0 .none >>= _) _ _ s;refine wpAny_bind (wpAny_setField ho hd (by simp) ?_);show wpAny _ _ (newExc (.type "StopIteration") [] >>= _) _ _ _;refine wpAny_bind ?_;simp only [newExc,newTuple];refine wpAny_bind (wpAny_newObj_type ?_ (by size_fits));refine wpAny_bind (m:=firstArgMember _ _) (wpAny_of_eq (a:=Value.none) (by first | rfl | (simp only [firstArgMember];rfl)) ?_);refine wpAny_newObj_type ?_ (by size_fits);simp only [raiseNew];refine wpAny_bind (wpAny_handled ?_);rw [show A.in1.handled=none from hh];refine wpAny_bind (wpAny_pure (wpAny_throw ?_));refine wpAny_bind (wpAny_isInstance (T:= "StopIteration") (b:=true) ⟨_,Heap.get?_push_size _ rfl,rfl⟩ isSubtype_stop ?_);exact wpAny_pure (z _ (((Heap.SameBut.update ..).extBut.push _).push _))
end
end PySem
namespace L2
open PySem PySem.Spec PyProof.Rows
theorem fz {α β:Type} {F:α→β→Prop}:∀ {l:List α} {m:List β},Paired F l m→∀ {i:Nat} {p:α} {q:β},l[i]?=some p→m[i]?=some q→F p q
 | _,_,.nil,i,p,q,h,_=>by simp at h
 | _,_,.cons r t,0,p,q,h,g=>by
  obtain rfl:_=p:=by simpa using h
  obtain rfl:_=q:=by simpa using g
  exact r
 | _,_,.cons r t,i+1,p,q,h,g=>fz t (by simpa using h) (by simpa using g)
theorem q8 {H:Hp} {a p:Addr} {o:Obj} {u:HO} (mu:Mut (H p)) (e:H a=some (.frz o u)):a≠p:=by
 intro c;subst c;rw [e] at mu;exact mu
mutual
theorem dG {K:PySem.W.Frag} {H H':Hp} {p:Addr} (mu:Mut (H p)) (g:But p H H'):∀ {d:Dt} {v:V},IsP K H d v→IsP K H' d v
 | _,_,.non=>.non
 | _,_,.bl=>.bl
 | _,_,.int=>.int
 | _,_,.str=>.str
 | _,_,.tup h pl q=>.tup (g.tup (by obtain ⟨o,u,e,dn⟩:=pl;exact q8 mu e) h) (by
   obtain ⟨o,u,e,dn⟩:=pl;exact ⟨o,u,g _ _ (q8 mu e) e,dn⟩) (lH mu g q)
theorem lH {K:PySem.W.Frag} {H H':Hp} {p:Addr} (mu:Mut (H p)) (g:But p H H'):∀ {l:List Dt} {xs:List V},IsPs K H l xs→IsPs K H' l xs
 | _,_,.nil=>.nil
 | _,_,.cons h q=>.cons (dG mu g h) (lH mu g q)
end
def iq (k:Key):Dt:=.tup [.str "list",.tup [kDt k]]
abbrev cM (P:Program) (w:World):HeapKind P w Key:=sR (ao P w) (Sum.inr ("list" : Str))
def fA (P:Program) (w:World) (p:Addr) (ob:Obj) (xs:List (Key×Addr×Value)) (h:Heap):Prop :=
 h.get? p=some ob∧ob.ExactDict∧∃ es ep,ob.data=.dict es ep∧es.toList=xs.map (entryOfKey (cM P w))∧(xs.map (·.1)).Nodup
def KeyE (m:Bool) (K:PySem.W.Frag) (H:Hp) (k:Key) (x:V):Prop:=match m with
 | false=>x=kV k
 | true=>IsP K H (iq k) x
def DicO (P:Program) (w:World) (K:PySem.W.Frag) (H:Hp) (a:Addr) (ob:Obj) (kvs:List (Key×V)):Prop:=(a == sysModules)=false∧kvs.length≤sizeLine∧∃ xs,H a=some (.ext (fA P w a ob xs)) ∧
 Paired (fun (p:Key×V) (q:Key×Addr×Value)=>p.1=q.1∧IsP K H (iq p.1) (.ref q.2.1)∧RelV p.2 q.2.2) kvs xs
def DicF (P:Program) (w:World) (m:Bool) (K:PySem.W.Frag) (H:Hp) (a:Addr) (ob:Obj) (kvs:List (Key×V)):Prop:=match m with
 | false=>H a=some (.frz ob (.dK kvs))
 | true=>DicO P w K H a ob kvs
def DicE (P:Program) (w:World) (m:Bool) (K:PySem.W.Frag) (H:Hp) (a:Addr) (kvs:List (Key×V)):Prop:=match m with
 | false=>H a=some (.dK kvs)
 | true=>(∃ ob,DicO P w K H a ob kvs)∨(kvs=[]∧H a=some (.dK []))
section
variable {P:Program} {w:World} {K:PySem.W.Frag} {m:Bool} {H H':Hp} {a:Addr} {ob:Obj} {kvs:List (Key×V)}
theorem KeyE.same {k:Key} {x:V} (g:Same H H') (h:KeyE m K H k x):KeyE m K H' k x:=by
 cases m with
 | false=>exact h
 | true=>exact IsP.same g h
theorem DicO.same (g:Same H H') (h:DicO P w K H a ob kvs):DicO P w K H' a ob kvs:=by
 obtain ⟨e0,e1,xs,e,r⟩:=h;exact ⟨e0,e1,xs,g _ _ e,L2.Paired.mapP r fun a b ⟨z1,z2,z3⟩=>⟨z1,z2.same g,z3⟩⟩
theorem DicO.but {r:Addr} {ys:List V} (hr:H r=some (.lst ys)) (g:But r H H') (h:DicO P w K H a ob kvs):DicO P w K H' a ob kvs:=by
 obtain ⟨e0,e1,xs,e,q⟩:=h;exact ⟨e0,e1,xs,g _ _ (gp e hr (by intro z;cases z)) e,L2.Paired.mapP q fun a b ⟨z1,z2,z3⟩=>⟨z1,z2.but hr g,z3⟩⟩
theorem DicF.same (g:Same H H') (h:DicF P w m K H a ob kvs):DicF P w m K H' a ob kvs:=by
 cases m with
 | false=>exact g _ _ h
 | true=>exact DicO.same g h
theorem DicE.same (g:Same H H') (h:DicE P w m K H a kvs):DicE P w m K H' a kvs:=by
 cases m with
 | false=>exact g _ _ h
 | true =>
  rcases h with ⟨ob,h⟩ | ⟨h1,h2⟩
  ·exact .inl ⟨ob,h.same g⟩
  ·exact .inr ⟨h1,g _ _ h2⟩
theorem DicE.but {r:Addr} {ys:List V} (hr:H r=some (.lst ys)) (g:But r H H') (h:DicE P w m K H a kvs):DicE P w m K H' a kvs:=by
 cases m with
 | false=>exact g _ _ (gp h hr (by intro z;cases z)) h
 | true =>
  rcases h with ⟨ob,h⟩ | ⟨h1,h2⟩
  ·exact .inl ⟨ob,h.but hr g⟩
  ·exact .inr ⟨h1,g _ _ (gp h2 hr (by intro z;cases z)) h2⟩
theorem DicE.new (h:H a=some (.dK [])):DicE P w m K H a []:=by
 cases m with
 | false=>exact h
 | true=>exact .inr ⟨rfl,h⟩
theorem DicE.ne {r:Addr} {ys:List V} (h:DicE P w m K H a kvs) (hr:H r=some (.lst ys)):r≠a:=by
 intro c;subst c
 cases m with
 | false=>rw [show H r=some (.dK kvs) from h] at hr;cases hr
 | true =>
  rcases h with ⟨ob,_,_,_,e,_⟩ | ⟨_,e⟩
  ·rw [e] at hr;cases hr
  ·rw [e] at hr;cases hr
end
section
variable {X:Cx} {pins:List (Addr×Obj)} {σ:St} {H:Hp} {s:Shared}
theorem mR (I:Inv X pins σ H s) {k:Key} {a:Addr} (h:IsP X.K H (iq k) (.ref a)):IsBoxKey (ao X.prog X.w) (Sum.inr ("list" : Str)) s.heap k a:=by
 obtain ⟨b,ys,e,ha,_,ra⟩:=IsP.unref h
 cases e
 obtain ⟨its,r,⟨o,h1,h2,n,h3⟩,_⟩:=I.tuple ha
 cases ra with
 | cons d1 ra =>
  cases ra with
  | cons d2 ra =>
   cases ra
   cases d1
   obtain ⟨c,zs,rfl,hc,pc,rc⟩:=IsP.unref d2
   cases r with
   | cons q1 r =>
    cases r with
    | cons q2 r =>
     cases r
     cases q2
     exact ⟨o,_,c,n,h1,h2,h3,gJ (k:=Sum.inr ("list" : Str)) q1,sO I (ks:=[k]) (show IsP X.K H (.tup ([k].map kDt)) (.ref c) from d2)⟩
theorem DicO.dict {a:Addr} {ob:Obj} {kvs:List (Key×V)} (I:Inv X pins σ H s) (h:DicO X.prog X.w X.K H a ob kvs):(a == sysModules)=false∧kvs.length≤sizeLine∧∃ xs,s.heap.DictOfH (cM X.prog X.w) a xs∧fA X.prog X.w a ob xs s.heap∧H a=some (.ext (fA X.prog X.w a ob xs)) ∧
  Paired (fun (p:Key×V) (q:Key×Addr×Value)=>p.1=q.1∧IsP X.K H (iq p.1) (.ref q.2.1)∧RelV p.2 q.2.2) kvs xs:=by
 obtain ⟨e0,e1,xs,e,r⟩:=h;obtain ⟨oo,_⟩:=(show ObjOk X.prog X.w H s.heap a (.ext (fA X.prog X.w a ob xs)) from I.hok a _ e);obtain ⟨h1,h2,es,ep,h3,h4,h5⟩:=id oo;refine ⟨e0,e1,xs,⟨ob,es,ep,h1,h2,h3,h4,fun y hy=>?_,h5⟩,oo,e,r⟩;obtain ⟨i,hi⟩:=List.getElem?_of_mem hy;have hl:i < kvs.length:=by rw [Paired.length r];exact (List.getElem?_eq_some_iff.mp hi).1
 have q:=fz r (List.getElem?_eq_getElem hl) hi;rw [← q.1];exact mR I q.2.1
theorem gh {K:PySem.W.Frag} {k:Key}:∀ {kvs:List (Key×V)} {xs:List (Key×Addr×Value)},Paired (fun (p:Key×V) (q:Key×Addr×Value)=>p.1=q.1∧IsP K H (iq p.1) (.ref q.2.1)∧RelV p.2 q.2.2) kvs xs →
  (aK kvs k=none∧atKey xs k=none)∨∃ v p,aK kvs k=some v∧atKey xs k=some p∧RelV v p.2
 | _,_,.nil=>.inl ⟨rfl,rfl⟩
 | _,_,.cons (a:=p) (b:=q) hq t=>by
  by_cases e:p.1=k
  ·exact .inr ⟨p.2,q.2,eE e,by simp [atKey,← hq.1,e],hq.2.2⟩
  ·have e2:¬ q.1=k:=fun z=>e (hq.1.trans z);have z2:∀ l,atKey (q :: l) k=atKey l k:=fun l=>by simp [atKey,e2]
   rw [eG e,z2];exact gh t
theorem mS {m:Bool} {a:Addr} {kvs:List (Key×V)} (I:Inv X pins σ H s) (g:DicE X.prog X.w m X.K H a kvs):s.TypeIs (.ref a) "dict" ∧(∀ b,Value.ref a=.ref b→∃ ob,s.heap.get? b=some ob∧ob.dict=none)∧(a == sysModules)=false:=by
 have k0:∀ kvs,H a=some (.dK kvs)→s.TypeIs (.ref a) "dict" ∧(∀ b,Value.ref a=.ref b→∃ ob,s.heap.get? b=some ob∧ob.dict=none)∧(a == sysModules)=false:=fun kvs e=>pf I (.inl ⟨kvs,.inl e⟩)
 cases m with
 | false=>exact k0 _ g
 | true =>
  rcases g with ⟨ob,g⟩ | ⟨_,g⟩
  ·obtain ⟨hd,_,xs,dd,⟨h1,h2,_⟩,_⟩:=g.dict I;refine ⟨dd.typeIs,fun b q=>?_,hd⟩
   cases q
   exact ⟨ob,h1,h2.2.1⟩
  ·exact k0 _ g
end
def sT (P:Program) (w:World) (K:PySem.W.Frag) (td ty tx:TE):TE:=fun σ H Q=>td σ H fun x H1=>∃ a m kvs,x=.ref a∧DicE P w m K H1 a kvs∧ty σ H1 fun y H2=>tx σ H2 fun z H3=>∃ k,DicE P w m K H3 a kvs∧KeyE m K H3 k y∧kvs.length < sizeLine ∧
 (∀ v,aK kvs k=some v→Q v H3)∧(aK kvs k=none→∀ H4,But a H3 H4→DicE P w m K H4 a (kvs++[(k,z)])→Q z H4)
def wB (P:Program) (w:World) (K:PySem.W.Frag) (td ty:TE):TE:=fun σ H Q=>td σ H fun x H1=>ty σ H1 fun y H2=>∃ a m ob kvs k v,x=.ref a∧DicF P w m K H2 a ob kvs∧KeyE m K H2 k y∧aK kvs k=some v∧Q v H2
section
variable {X:Cx} {P:Program} {w:World} {K:PySem.W.Frag} {o e f:Expr} {apos cpos pos:Pos} {td ty tx:TE}
theorem pE {pins:List (Addr×Obj)} {σ:St} {H:Hp} {s:Shared} {a:Addr} (I:Inv X pins σ H s) (e:H a=some (.dK [])):(a == sysModules)=false∧s.heap.DictOfH (cM X.prog X.w) a []:=by
 obtain ⟨_,hd,vs,rel,⟨ob,es,ep,h1,h2,h3,h4,h5,h6⟩⟩:=tY I.hok e
 cases rel
 refine ⟨hd,ob,es,ep,h1,h2,h3,?_,fun x hx=>by simp at hx,by simp⟩;have:=h5.length
 simpa using this
theorem pF (hP:X.prog=P) (hw:X.w=w) (hK:X.K=K) (hu:X.A.units+64 < cLine) (ho:PE X o td) (he:PE X e ty) (hf:PE X f tx) (mm:M2 X o "setdefault" apos e f cpos):PE X (.Call (.Attribute o "setdefault" apos) [e,f] [] cpos) (sT P w K td ty tx):=by
 subst hP hw hK;intro pins s σ H Q I h;refine wpAny_Call_method mm.base mm.few mm.line PySem.F.plainAttrs_dict PySem.F.slot_dict_setdefault PySem.F.type_dict_setdefault (thn (ho pins s σ H _ I h) fun u s1 ⟨x,H1,I1,rx,a,m,kvs,ex,d,q1⟩=>?_);subst ex;obtain rfl:u=Value.ref a:=rx;obtain ⟨t1,t2,_⟩:=mS I1 d;refine ⟨t1,t2,?_⟩;rw [mm.trees];refine Calls.callWith_builtin rfl (Calls.evalArgs_plain (Calls.spliced_cons (thn (he pins s1 σ H1 _ I1 q1) fun iv s2 ⟨y,H2,I2,ry,q2⟩ =>
  Calls.spliced_cons (thn (hf pins s2 σ H2 _ I2 q2) fun fv s3 ⟨z,H3,I3,rz,k,ea,ey,hl,q3,q4⟩=>Calls.spliced_nil ?_))))
 cases m with
 | false =>
  obtain rfl:y=kV k:=ey;obtain ⟨hz,hd,vs,rel,dd⟩:=tY I3.hok (show H3 a=some (.dK kvs) from ea);have hz2:vs.length≤sizeLine:=by rw [← rel.length];exact hz
  refine call_meetsIn PySem.F.slot_dict_setdefault dd.typeIs PySem.F.entry_dict_setdefault (PySem.F.args_dict_setdefault_3 _ _ _) (kt_meets_setdefault (ao X.prog X.w) a (gJ ry) hd fv) ⟨vs,dd,hz2,fun v hv=>?_,fun hn h' dd' hs=>?_⟩
  ·have rk:=rel.val k;rw [hv] at rk
   cases hk:aK kvs k with
   | none=>rw [hk] at rk;cases rk
   | some v0 =>
    rw [hk] at rk;exact ⟨v0,H3,I3.tok _,rk,q3 v0 hk⟩
  ·have rk:=rel.val k;rw [hn] at rk
   cases hk:aK kvs k with
   | some v0=>rw [hk] at rk;cases rk
   | none =>
    have he:∃ q,h'.get? a=some q:=let ⟨q,_,_,hq,_⟩:=dd';⟨q,hq⟩;have hl2:(js kvs k z).length≤sizeLine:=by have:=kW kvs k z;lia
    exact ⟨z,_,nY (t':=s3.toks+1) I3 (by rw [show H3 a=some (.dK kvs) from ea];exact True.intro) hs he (mG hl2 hd (rel.put k rz) dd'),rz,q4 hk _ But.put (by
     rw [← qz z hk];exact ac)⟩
 | true =>
  obtain ⟨b,_,eb,_⟩:=IsP.unref (show IsP X.K H3 (iq k) y from ey);subst eb;obtain rfl:iv=Value.ref b:=ry;obtain ⟨hd,mu,xs,dd,rel⟩:(a == sysModules)=false∧Mut (H3 a)∧∃ xs,s3.heap.DictOfH (cM X.prog X.w) a xs∧Paired (fun (p:Key×V) (q:Key×Addr×Value)=>p.1=q.1∧IsP X.K H3 (iq p.1) (.ref q.2.1)∧RelV p.2 q.2.2) kvs xs:=by
   rcases ea with ⟨ob,g⟩ | ⟨rfl,g⟩
   ·obtain ⟨hd,_,xs,dd,_,e1,r⟩:=g.dict I3;exact ⟨hd,by rw [e1];exact True.intro,xs,dd,r⟩
   ·obtain ⟨hd,dd⟩:=pE I3 g;exact ⟨hd,by rw [g];exact True.intro,[],dd,.nil⟩
  have lx:=Paired.length rel;have key:=mR I3 (show IsP X.K H3 (iq k) (.ref b) from ey);refine call_meetsIn PySem.F.slot_dict_setdefault dd.typeIs PySem.F.entry_dict_setdefault (PySem.F.args_dict_setdefault_3 _ _ _) (eJ (cM X.prog X.w) a b hd fv) ⟨(show X.A.units+1+2 < cLine by lia),k,xs,key,dd,by lia,fun p hp=>?_,fun hn h' dd' hs=>?_⟩
  ·rcases gh (k:=k) rel with ⟨_,e2⟩ | ⟨v,p',e1,e2,rv⟩
   ·rw [e2] at hp;cases hp
   ·rw [e2] at hp;obtain rfl:=Option.some.inj hp;exact ⟨v,H3,I3.tok _,rv,q3 v e1⟩
  ·rcases gh (k:=k) rel with ⟨e1,_⟩ | ⟨v,p',_,e2,_⟩
   ·obtain ⟨ob,es,ep,m1,m2,m3,m4,m5,m6⟩:=dd';have notT:∀ {d:Dt} {v:V},IsP X.K H3 d v→IsP X.K (upd H3 a (.ext (fA X.prog X.w a ob (xs++[(k,b,fv)])))) d v:=fun h=>dG mu But.put h;exact ⟨z,_,nY (t':=s3.toks+4) (ob:=.ext (fA X.prog X.w a ob (xs++[(k,b,fv)]))) I3 mu hs ⟨ob,m1⟩ ⟨⟨m1,m2,es,ep,m3,m4,m6⟩,⟨ob,m1⟩,fun x1 x2 ⟨g1,g⟩ kk=>⟨kk ob g1,g⟩⟩,rz,q4 e1 _ But.put (.inl ⟨ob,hd,by rw [List.length_append];exact hl,xs++[(k,b,fv)],ac,
     Paired.snoc (L2.Paired.mapP rel fun p q ⟨z1,z2,z3⟩=>⟨z1,notT z2,z3⟩) ⟨rfl,notT ey,rz⟩⟩)⟩
   ·rw [e2] at hn;cases hn
theorem ol (hP:X.prog=P) (hw:X.w=w) (hK:X.K=K) (hu:X.A.units+64 < cLine) (ho:PE X o td) (hi:PE X e ty) (hs:uR e):PE X (.Subscript o e pos) (wB P w K td ty):=by
 subst hP hw hK;intro pins s σ H Q I h;refine nZ PySem.F.slot_dict_getitem.lookup hs (thn (ho pins s σ H _ I h) fun u s1 ⟨x,H1,I1,rx,q1⟩=>thn (hi pins s1 σ H1 _ I1 q1) fun iv s2 ⟨y,H2,I2,ry,a,m,ob,kvs,k,v,ex,g,hk,hv,q2⟩=>?_);subst ex;obtain rfl:u=Value.ref a:=rx
 cases m with
 | false =>
  have g2:DGet H2 a y (some v):=.inl ⟨kvs,k,.inr ⟨ob,g⟩,hk,hv.symm⟩;exact ⟨fO I2 g2,iT (by lia) I2 g2 ry fun w' s3 I3 rw'=>⟨v,H2,I3,rw',q2⟩⟩
 | true =>
  obtain ⟨b,_,eb,_⟩:=IsP.unref (show IsP X.K H2 (iq k) y from hk);subst eb;obtain rfl:iv=Value.ref b:=ry;obtain ⟨hd,_,xs,dd,_,_,rel⟩:=DicO.dict I2 g;rcases gh (k:=k) rel with ⟨e1,_⟩ | ⟨v',p,e1,e2,rv⟩
  ·rw [hv] at e1;cases e1
  ·rw [hv] at e1;obtain rfl:=Option.some.inj e1;exact ⟨dd.typeIs,wpAny_getItem_heap (knd:=cM X.prog X.w) (show X.A.units+1+2 < cLine by lia) (mR I2 hk) dd e2 ⟨v,H2,I2.tok _,rv,q2⟩⟩
end
def ItE (P:Program) (w:World) (K:PySem.W.Frag) (m:Bool) (a:Addr) (ob:Obj) (kvs:List (Key×V)):It where
 go i H:=DicF P w m K H a ob kvs∧i < kvs.length
 yld i H x H':=H'=H∧∀ p,kvs[i]?=some p→KeyE m K H p.1 x
 stop i H:=DicF P w m K H a ob kvs∧kvs.length≤i
theorem mT {P:Program} {w:World} {K:PySem.W.Frag} {tg:Expr} (a it:Addr) (ob:Obj) (kvs:List (Key×V)) (es:Array DictEntry) (ep:Nat) (hep:ob.data=.dict es ep) :
  Turn P w K tg (ItE P w K true a ob kvs) [it] it (fun i h=>h.IsKeyIter it a i kvs.length ep) where
 mem:=by simp
 obj:=fun i h st b hb=>by
  have e:b=it:=by simpa using hb
  subst e;obtain ⟨o,e,c,d⟩:=st;exact ⟨o,e,fun v z=>by rw [d] at z;cases z⟩
 keep:=fun i h h' st k=>st.at fun o e=>k it (by simp) o e
 item:=by
  intro X hP hw hK hc i pins s σ H E I hf st hg;subst hP hw hK;obtain ⟨ha,hi⟩:=hg;obtain ⟨_,_,xs,_,⟨h1,_,es',ep',h3,h4,_⟩,_,rel⟩:=DicO.dict I ha;rw [hep] at h3;injection h3 with z1 z2
  subst z1 z2;have lx:=Paired.length rel;have le:es.size=kvs.length:=by rw [size_of_entries h4,lx]
  have hi':i < xs.length:=by lia
  have hx:xs[i]?=some xs[i]:=List.getElem?_eq_getElem hi';have hk:kvs[i]?=some kvs[i]:=List.getElem?_eq_getElem hi;have pr:=fz rel hk hx;obtain ⟨f0,f1,f2,f3,f4,f5⟩:=hf it (by simp);have st0:=st;simp only [← le] at st0;refine qZ st0 h1 hep (show es[i]?=some (entryOfKey (cM X.prog X.w) xs[i]) by rw [entry_at h4,hx];rfl) fun h' st' sb=>?_;have I1:Inv X pins σ H { s with heap:=h' }:=I.turned (t':=s.toks) (fun b o hb e=>(sb.2 b hb).trans e) f0 f1 f3 f4 f5;rw [le] at st';obtain ⟨o,e,c,d⟩:=id st';refine ⟨.ref xs[i].2.1,rfl,gv (s:={ s with heap:=h' }) e c d (by decide) ⟨.ref xs[i].2.1,H,I1,rfl,⟨rfl,fun p hp=>?_⟩,st',fun b hb=>(hf b hb).1⟩⟩;rw [hk] at hp;obtain rfl:=Option.some.inj hp;exact pr.2.1
 done:=by
  intro X hP hw hK hc i pins s σ H E I hf st hg;subst hP hw hK;obtain ⟨ha,hi⟩:=hg;obtain ⟨_,_,xs,_,⟨h1,_,es',ep',h3,h4,_⟩,_,rel⟩:=DicO.dict I ha;rw [hep] at h3;injection h3 with z1 z2
  subst z1 z2;have lx:=Paired.length rel;have le:es.size=kvs.length:=by rw [size_of_entries h4,lx]
  obtain ⟨f0,f1,f2,f3,f4,f5⟩:=hf it (by simp);have st0:=st;simp only [← le] at st0;exact sS (I.ok.hd hc) st0 h1 hep (by lia) fun h' eb=>⟨rfl,I.turned (t':=s.toks) (fun b o hb e=>eb b o hb e) f0 f1 f3 f4 f5⟩
 self:=fun _ _ _ _ _ st h=>wpAny_pyIter_keyiter st h
def vd (P:Program) (w:World) (K:PySem.W.Frag) (te:TE):TI:=fun σ H R=>te σ H fun x H1=>∃ a m kvs,x=.ref a∧DicE P w m K H1 a kvs∧kvs≠[]∧∀ ob H2,But a H1 H2→DicF P w m K H2 a ob kvs→R (ItE P w K m a ob kvs) H2
section
variable {X:Cx} {tg:Expr} {P:Program} {w:World} {K:PySem.W.Frag}
theorem q9 {l:Expr} {tl:TE} (hP:X.prog=P) (hw:X.w=w) (hK:X.K=K) (hl:PE X l tl):PI X tg l (vd P w K tl):=by
 subst hP hw hK;intro pins s σ H R I h;refine thn (hl pins s σ H _ I h) fun v s1 ⟨x,H1,I1,r1,q1⟩=>?_;obtain ⟨a,m,kvs,e,ha,hne,q⟩:=q1;subst e
 cases r1
 cases m with
 | false =>
  obtain ⟨_,hs,vs,r,o,es,ep,h1,h2,h3,h4⟩:=(show ObjOk X.prog X.w H1 s1.heap a (.dK kvs) from I1.hok a _ ha);have I2:=I1.freeze ha h1;have at0:s1.heap.DictAt (ao X.prog X.w) a vs ep:=⟨o,es,h1,h2,h3,h4⟩;refine wpAny_pyIter_dict hs at0 ?_;refine ⟨s1.heap.objs.size,[s1.heap.objs.size],_,ItE X.prog X.w X.K false a o kvs,_,rfl,I2.kept (t':=s1.toks) fun b o e=>Heap.get?_push_of_some _ e,(show Turn X.prog X.w X.K tg (Itd a o kvs) _ _ _ from pz a _ o kvs es ep h3),?_,fun b hb=>?_,q o _ But.put ac⟩
  ·rw [r.length];exact ⟨_,Heap.get?_push_size _ rfl,rfl,rfl⟩
  ·have e:b=s1.heap.objs.size:=by simpa using hb
   subst e;exact I2.fpOk (Nat.le_refl _) (I2.hok.fresh (Nat.le_refl _))
 | true =>
  rcases ha with ⟨ob,ha⟩ | ⟨e,_⟩
  ·obtain ⟨hd,_,xs,_,⟨h1,h2,es,ep,h3,h4,_⟩,_,rel⟩:=DicO.dict I1 ha;have lx:=Paired.length rel;have le:es.size=kvs.length:=by rw [size_of_entries h4,lx]
   refine qY hd h1 h2 h3 ?_;refine ⟨s1.heap.objs.size,[s1.heap.objs.size],_,ItE X.prog X.w X.K true a ob kvs,H1,rfl,I1.kept (t':=s1.toks) fun b o e=>Heap.get?_push_of_some _ e,mT a _ ob kvs es ep h3,?_,fun b hb=>?_,q ob _ (But.refl _ _) ha⟩
   ·rw [← le];exact ⟨_,Heap.get?_push_size _ rfl,rfl,rfl⟩
   ·have e:b=s1.heap.objs.size:=by simpa using hb
    subst e;exact I1.fpOk (Nat.le_refl _) (I1.hok.fresh (Nat.le_refl _))
  ·exact absurd e hne
end
theorem rd {P:Program} {w:World} {K:PySem.W.Frag} {m:Bool} {a:Addr} {ob:Obj} {kvs:List (Key×V)} {g:TG} {tb:TS} {D:Ends} {σ:St} {H:Hp} (Pv:Nat→St→Hp→Prop) (h0:Pv 0 σ H) (hl:∀ i σ H,Pv i σ H→DicF P w m K H a ob kvs)
  (hs:∀ i p x σ H,kvs[i]?=some p→KeyE m K H p.1 x→Pv i σ H→g x σ H fun σ2 H2=>tb { D with nx:=Pv (i+1),ct:=Pv (i+1),bk:=D.nx } σ2 H2) (hd:∀ σ H,Pv kvs.length σ H→D.nx σ H) :
  ∃ W:Nat→Nat→St→Hp→Prop,(∃ m,W 0 m σ H)∧∀ i n σ H,W i n σ H →
   ((ItE P w K m a ob kvs).stop i H∧D.nx σ H)∨((ItE P w K m a ob kvs).go i H∧∃ N:St→Hp→Prop,(∀ σ' H',N σ' H'→∃ m',m' < n∧W (i+1) m' σ' H')∧∀ x H',(ItE P w K m a ob kvs).yld i H x H'→g x σ H' fun σ2 H2=>tb { D with nx:=N,ct:=N,bk:=D.nx } σ2 H2):=by
 refine ⟨fun i n σ H=>n=kvs.length - i∧i≤kvs.length∧Pv i σ H,⟨_,rfl,Nat.zero_le _,h0⟩,?_⟩;rintro i n σ H ⟨rfl,hi,p⟩
 by_cases hlt:i < kvs.length
 ·refine .inr ⟨⟨hl i σ H p,hlt⟩,Pv (i+1),fun σ' H' p'=>⟨kvs.length - (i+1),by lia,rfl,by lia,p'⟩,fun x H' q=>?_⟩;obtain ⟨rfl,qk⟩:=q;have hk:kvs[i]?=some kvs[i]:=List.getElem?_eq_getElem hlt;exact hs i _ x σ H' hk (qk _ hk) p
 ·have e:i=kvs.length:=by lia
  subst e;exact .inl ⟨⟨hl _ σ H p,Nat.le_refl _⟩,hd σ H p⟩
section
variable {prog:Program} {w:World} {A:Around} {E:Value→Shared→Prop} {s:Shared}
theorem sU {l:Addr} {items:Array Value} {k:Nat} {x:Int} {u:Tok} {Q:Value→Shared→Prop} (ho:s.heap.get? l=some { cls:=.type "list",dict:=none,data:=.seq items k,slots:=#[] }) (h1:0≤x) (h2:x≤1000) (hz:items.size=1)
  (h:Q (.ref s.heap.objs.size) { s with heap:=s.heap.push { cls:=.type "list",data:=.seq ((List.replicate x.toNat items).foldl (·++·) #[]) } }):wpAny (model prog w) A (binaryOp .Mult (.ref l) (.int x u)) Q E s:=by
 have hT:s.TypeIs (.ref l) "list" :=⟨_,ho,rfl⟩;refine wpAny_binaryOp_repeat_ref (T:= "list") (U:= "int") (by decide) hT (fun s'=>typeIs_int s' x u) noFill_list_mul F.fills_int_mul F.slot_int_rmul repeat_list F.slot_int_index.lookup ?_;refine call_meets F.slot_int_rmul (typeIs_int s x u) F.entry_int_rmul (F.args_int_rmul_2 _ _) (int___rmul___int_list x u l items k) ⟨ho,rfl,hT,?_⟩;have ne:items.isEmpty=false:=by
  simp;intro c;rw [c] at hz;simp at hz
 refine call_meets F.slot_list_mul hT F.entry_list_mul (F.args_list_mul_2 _ _) (AutoListH.list___mul___list_int_3 l items k x u (by simp [Builtin.List.listFitsIndex];lia) (by rw [hz];lia) (by rw [hz];simp [Builtin.List.listTooLong,sizeLine];lia)) ⟨ho,?_⟩;rw [ne];exact h
end
section
variable {X:Cx} {K:PySem.W.Frag}
theorem re:OpR X (binaryOp .Mult) (fun x y H Q=>∃ a z n,x=.ref a∧H a=some (.lst [z])∧y=.int n∧0≤n∧n≤1000∧∀ p,H p=none→Q (.ref p) (upd H p (.lst (List.replicate n.toNat z)))):=by
 intro pins s σ H x y v u Q I rx ry h;obtain ⟨a,z,n,rfl,ha,rfl,h1,h2,q⟩:=h
 cases rx
 obtain ⟨t,rfl⟩:=ry;obtain ⟨_,its,k,r,e0⟩:=(show ObjOk X.prog X.w H s.heap a (.lst [z]) from I.hok a _ ha);obtain ⟨u,rfl,ru⟩:=ce r;refine sU e0 h1 h2 rfl ?_;have e:(List.replicate n.toNat [u].toArray).foldl (·++·) #[]=(List.replicate n.toNat u).toArray:=by
  rw [show [u].toArray=#[u] from rfl,ph];simp
 rw [e];refine ⟨.ref _,_,I.laid (t':=s.toks) (o:=.lst (List.replicate n.toNat z)) (fun b ob q=>Heap.get?_push_of_some _ q) (Nat.le_refl _) ?_,rfl,q _ (I.hok.fresh (Nat.le_refl _))⟩;exact ⟨by rw [List.length_replicate];exact Nat.le_trans (show n.toNat≤1000 by lia) (by decide),_,0,t6 ru n.toNat,Heap.get?_push_size _ rfl⟩
def rf (ta:TA):TE:=fun σ H Q=>ta σ H fun vs H1=>∃ i j:Int,vs=[.int i,.int j]∧-1000≤i∧i≤j∧j≤1000∧∀ p,H1 p=none→Q (.ref p) (upd H1 p (.lst ((List.range (j - i).toNat).map fun (k:Nat)=>V.int (i+k))))
theorem om {f:Nat→Int}:∀ (n m:Nat) {acc:List Value},acc.length=n→(∀ (j:Nat) (v:Value),acc[j]?=some v→∃ t,v=.int (f (m+j)) t)→Vals ((List.range' m n).map fun k=>V.int (f k)) acc
 | 0,m,[],_,_=>.nil
 | n+1,m,v :: acc,hl,h=>.cons (h 0 v rfl) (om n (m+1) (by simpa using hl) fun j u hu=>by
   have:=h (j+1) u (by simpa using hu);rw [show m+1+j=m+(j+1) by lia];exact this)
theorem mU {a b:Expr} {ta:TA} {p1 p2 pos1 pos2:Pos} (hc:X.calm=true) (hg1:Gl X "list") (hm1:X.mg "list" = none) (hg2:Gl X "range") (hm2:X.mg "range" = none) (ha:PA X [a,b] ta) (hs:starEach [a,b] X.env=[(false,eval a X.env),(false,eval b X.env)]:=by rfl) (hs2:starEach [b] X.env=[(false,eval b X.env)]:=by rfl) :
  PE X (.Call (.Name "list" p1) [.Call (.Name "range" p2) [a,b] [] pos2] [] pos1) (rf ta):=by
 intro pins s σ H Q I h;refine wpAny_Call_Name_kw (bG I hg1 hm1 (u:=.type "list") rfl ?_);refine PyProof.Rows.callWith_type1 ?_ rfl rfl;refine show wpAny _ _ (spliced ((false,eval (.Call (.Name "range" p2) [a,b] [] pos2) X.env) :: backTo pos1 (starEach [] X.env))) _ _ s from Calls.spliced_cons ?_;refine Call_ (bG I hg2 hm2 boot_range (PyProof.Rows.callWith_type1 (thn (ha pos2 pins s σ H _ I h) fun us s1 ⟨vs,H1,I1,r1,q1⟩=>?_) (by rw [hs,hs2]) (by rw [hs2];rfl)));obtain ⟨i,j,e,k1,k2,k3,q⟩:=q1;subst e;obtain ⟨u1,u2,rfl,⟨t,rfl⟩,⟨t',rfl⟩⟩:=nU r1;refine call_range_2 (Calls.spliced_nil ?_);refine call_list_range (n:=(j - i).toNat) (I1.ok.hd hc) (IsRange.new ..) (small_one (by lia) (by lia) (by lia) (by lia)) (by rw [rangeSize_one];split <;> lia) (by lia) fun h' tk acc c kk ls out=>?_;have low:s1.heap.objs.size≤(s1.heap.push { cls:=.type "range",data:=.fields #[.int i t,.int j t',.int 1 s1.toks] }).objs.size:=by rw [Heap.size_push];exact Nat.le_succ _
 refine ⟨.ref _,_,I1.laid (t':=tk) (o:=.lst ((List.range (j - i).toNat).map fun (k:Nat)=>V.int (i+k))) (fun b ob q=>kk b ob (Heap.get?_push_of_some _ q)) low ?_,rfl,q _ (I1.hok.fresh low)⟩;obtain ⟨o1,o2⟩:=out;refine ⟨by rw [List.length_map,List.length_range];exact Nat.le_trans (show (j - i).toNat≤2000 by lia) (by decide),acc.toList,c,?_,by rw [Array.toArray_toList];exact ls⟩;rw [List.range_eq_range'];exact om (f:=fun k=>i+k) _ 0 (by rw [Array.length_toList,o1]) fun j v hv=>by
  obtain ⟨t,e⟩:=o2 j v (by simpa using hv);exact ⟨t,by rw [e,Nat.zero_add,Int.mul_one]⟩
end
end L2
namespace K21
open PySem L2 PyProof.Rows
abbrev fH:Stmt:=top 15
abbrev eg:Stmt:=top 16
abbrev bj:Stmt:=top 17
abbrev dj:Stmt:=top 18
abbrev bd:Stmt:=top 19
abbrev dk:Stmt:=top 20
abbrev cN:Stmt:=top 21
abbrev dm:Stmt:=top 22
abbrev aZ:Stmt:=top 23
abbrev bV:Stmt:=top 24
abbrev bW:Stmt:=top 25
abbrev cO:Stmt:=top 26
abbrev dr:Stmt:=top 27
abbrev bX:Stmt:=top 28
abbrev cm:Stmt:=top 29
abbrev bD:Stmt:=top 31
abbrev cP:Stmt:=top 38
abbrev du:Stmt:=top 39
abbrev fI:Stmt:=top 40
abbrev dv:Stmt:=top 41
abbrev cr:Stmt:=top 42
abbrev bP:Stmt:=top 43
abbrev bz:Stmt:=top 44
abbrev bY:Stmt:=top 45
abbrev aA:Stmt:=top 46
abbrev bZ:Stmt:=top 47
abbrev cQ:Stmt:=top 48
abbrev cn:Stmt:=top 49
abbrev ib:Stmt:=top 50
abbrev bF:Stmt:=top 51
abbrev cu:Stmt:=top 52
abbrev fJ:Stmt:=top 53
abbrev dA:Stmt:=top 55
abbrev cR:Stmt:=top 56
abbrev dB:Stmt:=top 57
abbrev cv:Stmt:=top 67
abbrev be:Stmt:=top 68
abbrev bn:Stmt:=top 69
abbrev cS:Stmt:=top 70
abbrev bB:Stmt:=top 71
abbrev cF:Stmt:=top 72
abbrev cT:Stmt:=top 73
abbrev jd:Stmt:=top 74
theorem nJ:FnScope ["text"] ["text"] (af fH):=by constructor <;> first | rfl | decide +kernel
theorem mh:FnScope ["thing"] ["thing"] (af eg):=by constructor <;> first | rfl | decide +kernel
theorem em:FnScope ["thing","low","high"] ["thing","low","high"] (af bj):=by constructor <;> first | rfl | decide +kernel
theorem kt:FnScope ["kind"] ["kind"] (af dj):=by constructor <;> first | rfl | decide +kernel
theorem sc_is_formed:FnScope ["thing","room","word"] ["thing","room"] (af bd):=by constructor <;> first | rfl | decide +kernel
theorem ku:FnScope ["thing"] ["thing"] (af dk):=by constructor <;> first | rfl | decide +kernel
theorem iF:FnScope ["low","high"] ["low","high"] (af cN):=by constructor <;> first | rfl | decide +kernel
theorem kw:FnScope ["words"] ["words"] (af dm):=by constructor <;> first | rfl | decide +kernel
theorem dS:FnScope ["fields","room","names"] ["fields","room"] (af aZ):=by constructor <;> first | rfl | decide +kernel
theorem mi:FnScope ["field","room"] ["field","room"] (af bV):=by constructor <;> first | rfl | decide +kernel
theorem sc_are_rows:FnScope ["key","items","room","key_kind"] ["key","items","room"] (af bW):=by constructor <;> first | rfl | decide +kernel
theorem cw:FnScope ["kind","name","own","inner"] ["kind","name"] (af cO):=by constructor <;> first | rfl | decide +kernel
theorem kx:FnScope ["kind"] ["kind"] (af dr):=by constructor <;> first | rfl | decide +kernel
theorem cX:FnScope ["kind","inner"] ["kind"] (af bX):=by constructor <;> first | rfl | decide +kernel
theorem ky:FnScope ["kind"] ["kind"] (af cm):=by constructor <;> first | rfl | decide +kernel
theorem dC:FnScope ["kind","word"] ["kind"] (af bD):=by constructor <;> first | rfl | decide +kernel
theorem iG:FnScope ["number"] ["number"] (af cP):=by constructor <;> first | rfl | decide +kernel
theorem eW:FnScope ["text","figures"] ["text"] (af du):=by constructor <;> first | rfl | decide +kernel
theorem nK:FnScope ["number","low","high"] ["number","low","high"] (af fI):=by constructor <;> first | rfl | decide +kernel
theorem kz:FnScope ["thing"] ["thing"] (af dv):=by constructor <;> first | rfl | decide +kernel
theorem ic:FnScope ["turn","kind"] ["turn","kind"] (af cr):=by constructor <;> first | rfl | decide +kernel
theorem dU:FnScope ["turn","kind","word"] ["turn","kind"] (af bP):=by constructor <;> first | rfl | decide +kernel
theorem eX:FnScope ["thing"] ["thing"] (af bz):=by constructor <;> first | rfl | decide +kernel
theorem ge:FnScope ["low","high"] ["low","high"] (af bY):=by constructor <;> first | rfl | decide +kernel
theorem sc_are_led_words:FnScope ["forth","back","elder","behind","there","again"] ["forth","back","elder"] (af aA):=by constructor <;> first | rfl | decide +kernel
theorem gf:FnScope ["back"] ["back"] (af bZ):=by constructor <;> first | rfl | decide +kernel
theorem fQ:FnScope ["turn","kind","word"] ["turn","kind"] (af cQ):=by constructor <;> first | rfl | decide +kernel
theorem eY:FnScope ["turn","kind","word"] ["turn","kind"] (af cn):=by constructor <;> first | rfl | decide +kernel
theorem pU:FnScope ["turn","kind","value"] ["turn","kind","value"] (af ib):=by constructor <;> first | rfl | decide +kernel
theorem eZ:FnScope ["turn","kind","value","word"] ["turn","kind","value"] (af bF):=by constructor <;> first | rfl | decide +kernel
theorem dD:FnScope ["text","kind","number"] ["text","kind"] (af cu):=by constructor <;> first | rfl | decide +kernel
theorem ie:FnScope ["turn","kind","value","behind"] ["turn","kind","value"] (af fJ):=by constructor <;> first | rfl | decide +kernel
theorem fc:FnScope ["cell","k","stir"] ["cell","k"] (af dA):=by constructor <;> first | rfl | decide +kernel
theorem aO:FnScope ["script","k","cell","j","found"] ["script","k"] (af cR):=by constructor <;> first | rfl | decide +kernel
theorem fe:FnScope ["row","many","digit"] ["row","many"] (af dB):=by constructor <;> first | rfl | decide +kernel
theorem ig:FnScope ["number"] ["number"] (af cv):=by constructor <;> first | rfl | decide +kernel
theorem aL:FnScope ["row","words","behind","forth","back","word","elder","one"] ["row","words"] (af be):=by constructor <;> first | rfl | decide +kernel
theorem aF:FnScope ["row","low","high","way","most","k","least"] ["row","low","high"] (af bn):=by constructor <;> first | rfl | decide +kernel
theorem fR:FnScope ["row","kind","way"] ["row","kind"] (af cS):=by constructor <;> first | rfl | decide +kernel
theorem bo:FnScope ["row","way","low"] ["row"] (af bB):=by constructor <;> first | rfl | decide +kernel
theorem ca:FnScope ["kind","found","k","text"] ["kind"] (af cF):=by constructor <;> first | rfl | decide +kernel
theorem cx:FnScope ["turn","kind","behind"] ["turn","kind"] (af cT):=by constructor <;> first | rfl | decide +kernel
theorem cy:FnScope ["script","k","row","kind","turn","heaps","value","there","twins","same"] ["script"] (af jd):=by constructor <;> first | rfl | decide +kernel
theorem pi1 {K:PySem.W.Frag} {X:Cx} {a:Expr} {ta:TE} {i j pos pos'} (hK:X.K=K) (ha:PE X a ta):PE X (.Subscript a (.Constant (.int i) j pos) pos') (tOp (wk K) ta (tC (.int i))):=bf (cC hK) ha pe_int fun _ _=>rfl
theorem isS {K : PySem.W.Frag} {H : Hp} {z : Str} {Q : V → Prop} (h : Q (.str z)) : ∀ v, IsP K H (.str z) v → Q v := fun v hv => by cases hv; exact h
theorem isI {K : PySem.W.Frag} {H : Hp} {z : Int} {Q : V → Prop} (h : Q (.int z)) : ∀ v, IsP K H (.int z) v → Q v := fun v hv => by cases hv; exact h
theorem sz2 : 2 ≤ sizeLine := by decide
theorem sz3 : 3 ≤ sizeLine := by decide
theorem pcl {X:Cx} {x:Str} {st:Stmt} {ps:List Str} {f:Addr} {fd:FuncData} {k:Nat} {sp:Sp} {e:Expr} {es:List Expr} {t:TA} {p pos:Pos} (D:Gn X.K X.mg x st ps f fd) (F:FnOk X.prog X.w X.K X.mg X.base CX0 k f fd ps sp) (hr:Room k X.A) (hg:Gl X x) (ha:PA X (e :: es) t) (hdb:(x == ("__debug__" : Str))=false:=by decide) (he:starEach (e :: es) X.env=(false,eval e X.env) :: starEach es X.env:=by rfl) (hpl:(backTo pos (starEach es X.env)).any (·.1)=false:=by rfl):PE X (.Call (.Name x p) (e :: es) [] pos) (tU sp [] E0 t):=pe_call F hr hg D.m D.F.kp D.b .nil vV ha hdb he hpl
theorem pa1 {X:Cx} {e:Expr} {te:TE} (ha:PE X e te) (hs:starEach [e] X.env=(false,eval e X.env) :: starEach [] X.env):PA X [e] (gy te r8):=bC ha cY hs
theorem pa2 {X:Cx} {e f:Expr} {te tf:TE} (ha:PE X e te) (hb:PE X f tf) (hs:starEach [e,f] X.env=(false,eval e X.env) :: starEach [f] X.env) (ht:starEach [f] X.env=(false,eval f X.env) :: starEach [] X.env):PA X [e,f] (gy te (gy tf r8)):=bC ha (bC hb cY ht) hs
theorem pa3 {X:Cx} {e f g:Expr} {te tf tg:TE} (ha:PE X e te) (hb:PE X f tf) (hc:PE X g tg) (hs:starEach [e,f,g] X.env=(false,eval e X.env) :: starEach [f,g] X.env) (ht:starEach [f,g] X.env=(false,eval f X.env) :: starEach [g] X.env) (hu:starEach [g] X.env=(false,eval g X.env) :: starEach [] X.env):PA X [e,f,g] (gy te (gy tf (gy tg r8))):=bC ha (bC hb (bC hc cY hu) ht) hs
theorem sz1:1≤sizeLine:=by decide
structure Ads where
 HandError:Addr
 BadKind:Addr
 BadTurn:Addr
structure Tx (K:PySem.W.Frag) (mg:Str→Option Value) (ad:Ads):Prop where
 is_name:∃ f fd,Gn K mg "is_name" fH ["text"] f fd
 is_whole:∃ f fd,Gn K mg "is_whole" eg ["thing"] f fd
 is_whole_within:∃ f fd,Gn K mg "is_whole_within" bj ["thing","low","high"] f fd
 made_kind:∃ f fd,Gn K mg "made_kind" dj ["kind"] f fd
 is_formed:∃ f fd,Gn K mg "is_formed" bd ["thing","room"] f fd
 has_parts:∃ f fd,Gn K mg "has_parts" dk ["thing"] f fd
 are_bounds:∃ f fd,Gn K mg "are_bounds" cN ["low","high"] f fd
 are_words:∃ f fd,Gn K mg "are_words" dm ["words"] f fd
 are_fields:∃ f fd,Gn K mg "are_fields" aZ ["fields","room"] f fd
 is_field:∃ f fd,Gn K mg "is_field" bV ["field","room"] f fd
 are_rows:∃ f fd,Gn K mg "are_rows" bW ["key","items","room"] f fd
 field_kind:∃ f fd,Gn K mg "field_kind" cO ["kind","name"] f fd
 item_kind:∃ f fd,Gn K mg "item_kind" dr ["kind"] f fd
 kinds_within:∃ f fd,Gn K mg "kinds_within" bX ["kind"] f fd
 kind_many:∃ f fd,Gn K mg "kind_many" cm ["kind"] f fd
 least_value:∃ f fd,Gn K mg "least_value" bD ["kind"] f fd
 figures_of:∃ f fd,Gn K mg "figures_of" cP ["number"] f fd
 number_of:∃ f fd,Gn K mg "number_of" du ["text"] f fd
 nearest:∃ f fd,Gn K mg "nearest" fI ["number","low","high"] f fd
 is_factor:∃ f fd,Gn K mg "is_factor" dv ["thing"] f fd
 kind_behind:∃ f fd,Gn K mg "kind_behind" cr ["turn","kind"] f fd
 is_turn_of:∃ f fd,Gn K mg "is_turn_of" bP ["turn","kind"] f fd
 has_turn_parts:∃ f fd,Gn K mg "has_turn_parts" bz ["thing"] f fd
 most_figures:∃ f fd,Gn K mg "most_figures" bY ["low","high"] f fd
 are_led_words:∃ f fd,Gn K mg "are_led_words" aA ["forth","back","elder"] f fd
 words_behind:∃ f fd,Gn K mg "words_behind" bZ ["back"] f fd
 led_kind:∃ f fd,Gn K mg "led_kind" cQ ["turn","kind"] f fd
 led_about:∃ f fd,Gn K mg "led_about" cn ["turn","kind"] f fd
 turned:∃ f fd,Gn K mg "turned" ib ["turn","kind","value"] f fd
 led_value:∃ f fd,Gn K mg "led_value" bF ["turn","kind","value"] f fd
 read_number:∃ f fd,Gn K mg "read_number" cu ["text","kind"] f fd
 twin_of:∃ f fd,Gn K mg "twin_of" fJ ["turn","kind","value"] f fd
 law_mixed:∃ f fd,Gn K mg "_law_mixed" dA ["cell","k"] f fd
 law_stream:∃ f fd,Gn K mg "_law_stream" cR ["script","k"] f fd
 law_digit:∃ f fd,Gn K mg "_law_digit" dB ["row","many"] f fd
 law_figures:∃ f fd,Gn K mg "_law_figures" cv ["number"] f fd
 law_words:∃ f fd,Gn K mg "_law_words" be ["row","words"] f fd
 law_number_turn:∃ f fd,Gn K mg "_law_number_turn" bn ["row","low","high"] f fd
 law_turn:∃ f fd,Gn K mg "_law_turn" cS ["row","kind"] f fd
 law_small_kind:∃ f fd,Gn K mg "_law_small_kind" bB ["row"] f fd
 law_all:∃ f fd,Gn K mg "_law_all" cF ["kind"] f fd
 law_behind:∃ f fd,Gn K mg "_law_behind" cT ["turn","kind"] f fd
 law:∃ f fd,Gn K mg "law" jd ["script"] f fd
 x_HandError:ExC K mg "HandError" ad.HandError
 x_BadKind:ExC K mg "BadKind" ad.BadKind
 x_BadTurn:ExC K mg "BadTurn" ad.BadTurn
 LETTERS:∃ t,mg "LETTERS" = some (.str "abcdefghijklmnopqrstuvwxyz" t)
 LONGEST_NAME:∃ t,mg "LONGEST_NAME" = some (.int 8 t)
 EACH:∃ t,mg "EACH" = some (.str "each" t)
 MOST_SIGNS:∃ t,mg "MOST_SIGNS" = some (.int 60 t)
 MOST_WORDS:∃ t,mg "MOST_WORDS" = some (.int 8 t)
 MOST_FIELDS:∃ t,mg "MOST_FIELDS" = some (.int 8 t)
 MOST_ITEMS:∃ t,mg "MOST_ITEMS" = some (.int 8 t)
 MOST_KINDS:∃ t,mg "MOST_KINDS" = some (.int 40 t)
 DEEPEST:∃ t,mg "DEEPEST" = some (.int 5 t)
 PART_COUNTS:∃ a,mg "PART_COUNTS" = some (.ref a)∧kT K a [("number",3),("text",2),("choice",2),("list",3),("record",2),("rows",4)]
 FIGURES:∃ t,mg "FIGURES" = some (.str "0123456789" t)
 LEAST_FACTOR:∃ t,mg "LEAST_FACTOR" = some (.int 2 t)
 GREATEST_FACTOR:∃ t,mg "GREATEST_FACTOR" = some (.int 1000 t)
 TURN_COUNTS:∃ a,mg "TURN_COUNTS" = some (.ref a)∧kT K a [("bounds",3),("scale",2),("shrink",2),("figures",2),("number",3),("words",3),("cut",2),("first",2),("one",2),("out",1),("items",2)]
 TURN_SORTS:mg "TURN_SORTS" = some (.ref 154)∧mM K 154 [("bounds",155),("scale",156),("shrink",157),("figures",158),("number",159),("words",160),("cut",161),("first",162),("out",163),("items",164)]∧ue K [(155,["number"]),(156,["number"]),(157,["number"]),(158,["number"]),(159,["text"]),(160,["choice"]),(161,["text"]),(162,["list","rows"]),(163,["list"]),(164,["list"])]
 z_abs:mg "abs" = none
 z_all:mg "all" = none
 z_bool:mg "bool" = none
 z_dict:mg "dict" = none
 z_int:mg "int" = none
 z_isinstance:mg "isinstance" = none
 z_len:mg "len" = none
 z_list:mg "list" = none
 z_max:mg "max" = none
 z_min:mg "min" = none
 z_range:mg "range" = none
 z_set:mg "set" = none
 z_sorted:mg "sorted" = none
 z_str:mg "str" = none
 z_sum:mg "sum" = none
 z_tuple:mg "tuple" = none
 z_zip:mg "zip" = none
abbrev depth:Nat:=60
abbrev letters:Str:= "abcdefghijklmnopqrstuvwxyz"
def inB (c:Nat):Bool:=!(Builtin.Str.occurrences letters ⟨#[c]⟩ 0 letters.length 1).isEmpty
def bh (z:Str):Bool:=decide (1≤z.length) && decide (z.length≤8) && !decide (z= "each") && z.cps.toList.all inB
def ltS (a b:Str):Prop:=a.cps.toList < b.cps.toList
instance (a b:Str):Decidable (ltS a b):=inferInstanceAs (Decidable (a.cps.toList < b.cps.toList))
def aT (ws:List Str):Bool:=decide (1≤ws.length) && decide (ws.length≤8) && ws.all bh && decide ws.Nodup
abbrev G4:=Str×Dt×Nat×Nat
abbrev nk (g:G4):Str×Dt:=(g.1,g.2.1)
abbrev prG (g:G4):Dt:=.tup [.str g.1,g.2.1]
def sumN:List Nat→Nat
 | []=>0
 | n :: r=>n+sumN r
def ir:List Nat→Nat
 | []=>0
 | n :: r=>max n (ir r)
def xl (l:List Dt) (z:Str):Prop:=∃ w r,Dt.tup [.str z,.tup (.str w :: r)]∈l∧(w= "number" ∨w= "text")
inductive FK:Nat→Nat→Dt→Prop
 | text (i:Int):0≤i→i≤60→FK 1 1 (.tup [.str "text",.int i])
 | choice (ws:List Str):aT ws=true→FK 1 1 (.tup [.str "choice",.tup (ws.map Dt.str)])
 | number (i j:Int):-1000000000000000000000000000000≤i→i≤j→j≤1000000000000000000000000000000→FK 1 1 (.tup [.str "number",.int i,.int j])
 | list {a c:Nat} {k:Dt} {i:Int}:FK a c k→0≤i→i≤8→FK (a+1) (c+1) (.tup [.str "list",k,.int i])
 | rows {a c:Nat} {z:Str} {l:List Dt} {i:Int}:FK a c (.tup [.str "record",.tup l])→xl l z→0≤i→i≤8→FK (a+1) (c+1) (.tup [.str "rows",.str z,.tup [.str "record",.tup l],.int i])
 | rcd {gs:List G4}:(∀ g∈gs,FK g.2.2.1 g.2.2.2 g.2.1)→(gs.map (·.1)).Pairwise ltS→(∀ g∈gs,bh g.1=true)→gs.length≤8→FK (ir (gs.map (·.2.2.1))+1) (sumN (gs.map (·.2.2.2))+1) (.tup [.str "record",.tup (gs.map prG)])
theorem FK.pos {a c:Nat} {d:Dt} (h:FK a c d):1≤a:=by cases h <;> lia
theorem jD {n:Nat}:∀ {l:List Nat},n∈l→n≤ir l
 | m :: l,h=>by
  show n≤max m (ir l);rcases List.mem_cons.mp h with rfl | h
  ·exact Nat.le_max_left _ _
  ·exact Nat.le_trans (jD h) (Nat.le_max_right _ _)
theorem max_le {b:Nat}:∀ {l:List Nat},(∀ n∈l,n≤b)→ir l≤b
 | [],_=>Nat.zero_le _
 | m :: l,h=>by
  show max m (ir l)≤b;exact Nat.max_le.mpr ⟨h m List.mem_cons_self,max_le fun n hn=>h n (List.mem_cons_of_mem _ hn)⟩
def wC (d:Dt):Option Dt:=match d with
 | .tup [.str w,k,_]=>if w= "list" then some k else none
 | .tup [.str w,_,k,_]=>if w= "rows" then some k else none
 | _=>none
def wD (K:PySem.W.Frag) (H:Hp) (r:Option Dt) (Q:VK):Prop:=match r with
 | none=>Q .non H
 | some e=>∀ v,IsP K H e v→Q v H
mutual
def okD:Dt→Bool
 | .int _=>true
 | .str z=>decide (z.length≤1000)
 | .tup l=>jE l
 | _=>false
def jE:List Dt→Bool
 | []=>true
 | d :: l=>okD d && jE l
end
theorem aV:∀ {l:List Dt},jE l=true→∀ d∈l,okD d=true
 | e :: l,h,d,hd=>by
  rw [jE,Bool.and_eq_true] at h;rcases List.mem_cons.mp hd with rfl | hd
  ·exact h.1
  ·exact aV h.2 d hd
theorem dZ:∀ {l:List Dt},(∀ d∈l,okD d=true)→jE l=true
 | [],_=>rfl
 | e :: l,h=>by rw [jE,h e List.mem_cons_self,dZ fun d hd=>h d (List.mem_cons_of_mem _ hd)];rfl
def a9:Dt→Bool
 | .str z=>bh z
 | _=>false
def rg:Dt→Bool
 | .int _=>true
 | _=>false
def bi (d:Dt) (j k:Int):Bool:=match d with
 | .int i=>decide (j≤i) && decide (i≤k)
 | _=>false
def gj (d e:Dt):Bool:=match d,e with
 | .int i,.int j=>decide (-1000000000000000000000000000000≤i) && decide (i≤j) && decide (j≤1000000000000000000000000000000)
 | _,_=>false
abbrev on:List (Str×Int):=[("number",3),("text",2),("choice",2),("list",3),("record",2),("rows",4)]
def bR:Dt→Bool
 | .tup (.str u :: l)=>decide (bq u on=.int ((l.length+1:Nat):Int))
 | _=>false
def pG:Dt→Str
 | .str z=>z
 | _=> ""
def lI (ws:List Str):Nat:=(L2.fu (ws.map (Sum.inr:Str→Key)) (ws.map (Sum.inr:Str→Key)).length).length
def mV:Dt→Bool
 | .tup ws=>decide (1≤ws.length) && decide (ws.length≤8) && ws.all a9 && decide (lI (ws.map pG)=ws.length)
 | _=>false
def aN (f:Dt→Bool):Dt→Bool
 | .tup [a,b]=>a9 a && f b
 | _=>false
def nmD:Dt→Str
 | .tup [.str z,_]=>z
 | _=> ""
def pH (ns:List Str):Bool:=(ns.zip (ns.drop 1)).all fun p=>decide (ltS p.1 p.2)
def jF (f:Dt→Bool):Dt→Bool
 | .tup fs=>decide (fs.length≤8) && fs.all (aN f) && pH (fs.map nmD)
 | _=>false
def lJ (key:Dt):Dt→Bool
 | .tup [o,_]=>eqD o key
 | _=>false
def cU (fs:List Dt) (key:Dt):Option Dt:=match fs.find? (lJ key) with
 | some (.tup [_,k])=>some k
 | _=>none
def oq:Option Dt→Bool
 | some (.tup (.str u :: _))=>decide (u= "number") || decide (u= "text")
 | _=>false
def dN (f:Dt→Bool) (key items:Dt):Bool:=f items && (match items with
 | .tup [.str u,.tup fs]=>decide (u= "record") && oq (cU fs key)
 | _=>false)
def au:Nat→Dt→Bool
 | 0,_=>false
 | n+1,.tup [.str u,a]=>if u= "text" then bi a 0 60 else if u= "choice" then mV a else if u= "record" then jF (au n) a else false
 | n+1,.tup [.str u,a,b]=>if u= "number" then gj a b else if u= "list" then au n a && bi b 0 8 else false
 | n+1,.tup [.str u,a,b,c]=>if u= "rows" then dN (au n) a b && bi c 0 8 else false
 | _,_=>false
def mW (K:PySem.W.Frag) (_:Ads):Sp:=fun vs H Q _=>∃ (d:Dt) (x:V),vs=[x]∧IsP K H d x∧okD d=true∧∀ H',Same H H'→Q (.bl (a9 d)) H'
def lK (K:PySem.W.Frag) (_:Ads):Sp:=fun vs H Q _=>∃ (d:Dt) (x:V),vs=[x]∧IsP K H d x∧okD d=true∧Q (.bl (rg d)) H
def d4 (K:PySem.W.Frag) (_:Ads):Sp:=fun vs H Q _=>∃ (d:Dt) (x:V) (j k:Int),vs=[x,.int j,.int k]∧IsP K H d x∧okD d=true∧Q (.bl (bi d j k)) H
def iu (K:PySem.W.Frag) (_:Ads):Sp:=fun vs H Q _=>∃ (d e:Dt) (x y:V),vs=[x,y]∧IsP K H d x∧IsP K H e y∧okD d=true∧okD e=true∧Q (.bl (gj d e)) H
def jG (K:PySem.W.Frag) (_:Ads):Sp:=fun vs H Q _=>∃ (d:Dt) (x:V),vs=[x]∧IsP K H d x∧okD d=true∧Q (.bl (bR d)) H
def jH (K:PySem.W.Frag) (_:Ads):Sp:=fun vs H Q _=>∃ (d:Dt) (x:V),vs=[x]∧IsP K H d x∧okD d=true∧∀ H',Same H H'→Q (.bl (mV d)) H'
def jI (K:PySem.W.Frag) (_:Ads):Sp:=fun vs H Q _=>∃ (a c:Nat) (d:Dt) (x:V),vs=[x]∧IsP K H d x∧FK a c d∧wD K H (wC d) Q
def jJ (_:PySem.W.Frag) (_:Ads):Sp:=fun vs H Q _=>∃ i k:Int,vs=[.int i,.int k]∧∀ c,Q (.int c) H
def jK (_:PySem.W.Frag) (_:Ads):Sp:=fun vs H Q _=>∃ (r:Addr) (n m:Int),vs=[.ref r,.int m]∧H r=some (.lst [.int n])∧0 < m∧m < 10000000000000000000000000000000000000000000000000000000000000∧Q (.int (n % m)) (upd H r (.lst [.int (n / m)]))
def wE (K:PySem.W.Frag):Sp:=fun vs H Q _=>∃ (a:Addr) (ns:List Int),vs=[.ref a]∧SqL K H a (ns.map V.int)∧ns.length≤63∧∀ H',Q (.bl true) H'
abbrev ve (K:PySem.W.Frag) (_:Ads):Sp:=wE K
theorem small {n:Nat} (h:n≤1000):n≤sizeLine:=Nat.le_of_lt (ai h)
theorem bw {α β:Type} {xs:List α} {i:Nat} {x:α} (f:α→β) (h:xs[i]?=some x):(xs.take i).map f++[f x]=(xs.take (i+1)).map f:=by
 rw [List.take_add_one,h,List.map_append];rfl
theorem rh {l:List Str} (h:l.Pairwise ltS):l.Nodup:=List.Pairwise.imp (fun {a b} hab e=>by
 subst e;exact absurd hab (List.lt_irrefl _)) h
section
variable {P:Program} {w:World} {K:PySem.W.Frag} {mg:Str→Option Value} {base:Heap} {ad:Ads}
theorem vf {K:PySem.W.Frag} {H:Hp} {l:Addr} {z:Str} {Q:VK} {nm:L2.St} (hl:H l=none) (hz:z.length≤sizeLine) (q:∀ H',Same H H'→Q (.bl (z.cps.toList.all inB)) H')
  (hn:nm=[none]):∃ W:Nat→Nat→List V→L2.St→Hp→Prop,(∃ m,W 0 m [] nm (upd H l (.lst [])))∧∀ i m ys σ' H',W i m ys σ' H'→((Its z).stop i H'∧(fun (v:V) (H':Hp)=>∃ p ys,[v]=[V.ref p]∧true=true∧SqL K H' p (bls ys)∧Q (.bl (ys.all id)) H') (.ref l) H') ∨
   ((Its z).go i H'∧∀ x H'',(Its z).yld i H' x H''→gu 0 x σ' H'' fun σ2 H2=>cEl (tOp (fun x y H Q=>∃ i j,x=.str i∧y=.str j∧Q (.bl (!(Builtin.Str.occurrences j i 0 j.length 1).isEmpty)) H) (oS 0) (tC (.str letters))) ys l σ2 H2 fun ys' σ3 H3=>∃ m',m' < m∧W (i+1) m' ys' σ3 H3):=by
 subst hn;refine gE (Q:=fun (v:V) (H':Hp)=>∃ p ys,[v]=[V.ref p]∧true=true∧SqL K H' p (bls ys)∧Q (.bl (ys.all id)) H') (fun i ys σ H'=>ys=bls ((z.cps.toList.take i).map inB)∧H'=upd H l (.lst ys)∧σ.length=1) ⟨rfl,rfl,rfl⟩ ?_ ?_
 ·rintro i c ys σ H1 N hc ⟨rfl,rfl,hσ⟩ next;have hc':z.cps.toList[i]?=some c:=by rw [Array.getElem?_toList];exact hc
  have hi:i < z.cps.toList.length:=(List.getElem?_eq_some_iff.mp hc').1;have hlen:(bls ((z.cps.toList.take i).map inB)).length < sizeLine:=by
   have:z.length=z.cps.toList.length:=by simp [Str.length]
   simp only [bls,List.length_map,List.length_take];lia
  match σ,hσ with
  | [_],_ =>
   refine ⟨.str ⟨#[c]⟩,rfl,_,_,rfl,rfl,ac,hlen,next _ _ _ ⟨?_,nL,rfl⟩⟩;show bls ((z.cps.toList.take i).map inB)++[V.bl (inB c)]=bls ((z.cps.toList.take (i+1)).map inB);unfold bls;rw [List.map_map,List.map_map];exact bw (V.bl ∘ inB) hc'
 ·rintro ys σ H1 ⟨rfl,rfl,hσ⟩;refine ⟨l,(z.cps.toList).map inB,rfl,rfl,SqL.of ?_,?_⟩
  ·rw [ac];have:z.cps.toList.take z.cps.size=z.cps.toList:=List.take_of_length_le (by simp);rw [this]
  ·rw [List.all_map];exact q _ (ag hl _)
theorem gP (T:Tx K mg ad) {f:Addr} {fd:FuncData} (F:Gn K mg "is_name" fH ["text"] f fd):FnOk P w K mg base CX0 1 f fd ["text"] (mW K ad):=by
 obtain ⟨t_LONGEST_NAME,c_LONGEST_NAME⟩:=T.LONGEST_NAME;obtain ⟨t_EACH,c_EACH⟩:=T.EACH;obtain ⟨t_LETTERS,c_LETTERS⟩:=T.LETTERS;refine F.F.ok nJ (fun vs H Q E h=>?_) (fun cdv A outer s H vs Q E hr h=>?_)
 ·obtain ⟨d,x,rfl,_⟩:=h
  rfl
 obtain ⟨d,x,rfl,hd,ok,q⟩:=h;refine ⟨_,(@pss_cons _ _ _ _ _ (@ps_if _ _ _ _ _ _ _ _ (PW.pt (@pw_or _ _ _ _ _ _ _ (@pt_not _ _ _ _ (@pt_val _ _ _ (pe_callB (aD (K:=K) rfl) rfl T.z_isinstance boot_isinstance (@pa2 _ _ _ _ _ (pv 0) (bu rfl T.z_str boot_str) (by rfl) (by rfl))) (by intro _;rfl))) (@pw_or1 _ _ _ _ (@pt_not _ _ _ _ (pt_chain op_le op_le pe_int (pe_callB call_len_str rfl T.z_len PySem.boot_len (@pa1 _ _ _ (pv 0) (by rfl))) (pe_gint rfl c_LONGEST_NAME)))))) (@pss_one _ _ _ (@ps_ret _ _ _ _ pe_bl)) pss_nil) (@pss_one _ _ _ (@ps_ret _ _ _ _ (pe_and (pe_cmpR op_ne (pv 0) (pe_gstr rfl c_EACH) (nomark _)) (pe_one (pe_callB (call_allN (K:=K) rfl rfl) rfl T.z_all boot_all (@pa1 _ _ _ (aI rfl (cs0 (NL:=["letter"]) rfl (by decide +kernel) (by decide +kernel)) (mE (pv 0)) (fun _ _ _ _=>(aj (i:=0) (show List.Nodup (α:=Str) ["letter"] by decide +kernel) rfl (Or.inl rfl))) (fun _ _ _ _=>(pe_cmpR iI (pv 0) (pe_gstr rfl c_LETTERS) rfl))) (by rfl)))))))),?_⟩
 cases hd with
 | non=>cases ok
 | bl=>cases ok
 | int=>exact ⟨_,rfl,_,_,_,rfl,.int_str,_,rfl,ay (ay (q H (Same.refl H)))⟩
 | tup ht _ _=>exact ⟨_,rfl,_,_,_,rfl,.tup_str ht,_,rfl,ay (ay (q H (Same.refl H)))⟩
 | @str z =>
  have hz:z.length≤sizeLine:=small (of_decide_eq_true ok);replace q:∀ H',Same H H'→Q (.bl (bh z)) H':=q;refine ⟨_,rfl,_,_,_,rfl,.str_str,_,rfl,aQ ?_⟩;refine ⟨_,rfl,z,rfl,hz,_,_,rfl,rfl,_,rfl,?_⟩;refine ar (fun c1=>?_) (fun c1=>?_)
  ·refine ⟨_,_,rfl,rfl,_,rfl,?_⟩;refine ar (fun c2=>?_) (fun c2=>?_)
   ·have e:bh z=false:=by
     have c2':¬ ((z.length:Int)≤8):=by simpa using c2
     have:¬ z.length≤8:=by lia
     simp [bh,this]
    rw [← e];exact q H (Same.refl H)
   ·have l1:1≤z.length:=by
     have:(1:Int)≤z.length:=of_decide_eq_true c1;lia
    have l2:z.length≤8:=by
     have:((z.length:Int)≤8):=by simpa using c2
     lia
    refine ⟨_,rfl,rfl,_,rfl,?_⟩;refine ar (fun c3=>?_) (fun c3=>?_)
    ·refine ⟨_,rfl,z,rfl,fun l hl=>vf (K:=K) hl hz (fun H' g=>?_) rfl⟩;have n3:¬ (z= "each"):=by simpa using c3
     have e:bh z=z.cps.toList.all inB:=by simp [bh,l1,l2,n3]
     rw [← e];exact q H' g
    ·have n3:z= "each" :=by simpa using c3
     have e:bh z=false:=by simp [bh,n3]
     rw [← e];exact q H (Same.refl H)
  ·refine ⟨_,rfl,ay ?_⟩;have e:bh z=false:=by
    have:¬ (1:Int)≤z.length:=by simpa using c1
    have:¬ 1≤z.length:=by lia
    simp [bh,this]
   rw [← e];exact q H (Same.refl H)
theorem am {K:PySem.W.Frag} {H:Hp} {w:Str} {v:V} (h:IsP K H (.str w) v):v=.str w:=by cases h;rfl
theorem aH {A B:Prop} {x:V} (h:A):if decide (x=x)=true then A else B:=by rw [if_pos (decide_eq_true rfl)];exact h
theorem iteN {A B:Prop} {x y:V} (n:x≠y) (h:B):if decide (x=y)=true then A else B:=by rw [if_neg (fun c=>n (of_decide_eq_true c))];exact h
theorem or {A B:Prop} {x y:V} (n:x≠y) (h:A):if (!decide (x=y))=true then A else B:=by rw [if_pos (by rw [decide_eq_false n];rfl)];exact h
theorem i3 {A B:Prop} {x:V} (h:B):if (!decide (x=x))=true then A else B:=by rw [if_neg (by rw [decide_eq_true rfl];decide)];exact h
theorem ae {a b:Str} (h:a≠b):V.str a≠V.str b:=fun e=>h (V.str.inj e)
theorem jL (T:Tx K mg ad) {f:Addr} {fd:FuncData} (F:Gn K mg "item_kind" dr ["kind"] f fd):FnOk P w K mg base CX0 1 f fd ["kind"] (jI K ad):=by
 refine F.F.ok kx (fun vs H Q E h=>?_) (fun cdv A outer s H vs Q E hr h=>?_)
 ·obtain ⟨a,c,d,x,rfl,_⟩:=h
  rfl
 obtain ⟨a,c,d,x,rfl,hd,gk,q⟩:=h;refine ⟨_,(@pss_cons _ _ _ _ _ (@ps_if _ _ _ _ _ _ _ _ (pt_cmpR op_eq (@pi1 K _ _ _ _ _ _ _ rfl (pv 0)) pe_str (nomark _)) (@pss_one _ _ _ (@ps_ret _ _ _ _ (@pi1 K _ _ _ _ _ _ _ rfl (pv 0)))) pss_nil) (@pss_cons _ _ _ _ _ (@ps_if _ _ _ _ _ _ _ _ (pt_cmpR op_eq (@pi1 K _ _ _ _ _ _ _ rfl (pv 0)) pe_str (nomark _)) (@pss_one _ _ _ (@ps_ret _ _ _ _ (@pi1 K _ _ _ _ _ _ _ rfl (pv 0)))) pss_nil) (@pss_one _ _ _ (@ps_ret _ _ _ _ pe_non)))),?_⟩
 cases gk with
 | list g =>
  refine ⟨_,rfl,_,_,_,hd,rfl,rfl,isS ?_⟩;refine ⟨rfl,_,rfl,aH ⟨_,rfl,_,_,_,hd,rfl,rfl,fun v hv=>?_⟩⟩;exact q v hv
 | rows g =>
  refine ⟨_,rfl,_,_,_,hd,rfl,rfl,isS ?_⟩;refine ⟨rfl,_,rfl,iteN (ae (by decide)) ⟨_,rfl,_,_,_,hd,rfl,rfl,fun v hv=>?_⟩⟩;obtain rfl:=am hv;refine ⟨rfl,_,rfl,aH ⟨_,rfl,_,_,_,hd,rfl,rfl,fun v hv=>?_⟩⟩;exact q v hv
 | _ =>
  refine ⟨_,rfl,_,_,_,hd,rfl,rfl,isS ?_⟩;refine ⟨rfl,_,rfl,iteN (ae (by decide)) ⟨_,rfl,_,_,_,hd,rfl,rfl,fun v hv=>?_⟩⟩;obtain rfl:=am hv;exact ⟨rfl,_,rfl,iteN (ae (by decide)) q⟩
theorem de (T:Tx K mg ad) {f:Addr} {fd:FuncData} (F:Gn K mg "is_whole" eg ["thing"] f fd):FnOk P w K mg base CX0 1 f fd ["thing"] (lK K ad):=by
 refine F.F.ok mh (fun vs H Q E h=>?_) (fun cdv A outer s H vs Q E hr h=>?_)
 ·obtain ⟨d,x,rfl,_⟩:=h
  rfl
 obtain ⟨d,x,rfl,hd,ok,q⟩:=h;refine ⟨_,(@pss_one _ _ _ (@ps_ret _ _ _ _ (pe_and (pe_callB (aD (K:=K) rfl) rfl T.z_isinstance boot_isinstance (@pa2 _ _ _ _ _ (pv 0) (bu rfl T.z_int boot_int) (by rfl) (by rfl))) (pe_one (ur (pe_callB (aD (K:=K) rfl) rfl T.z_isinstance boot_isinstance (@pa2 _ _ _ _ _ (pv 0) (bu rfl T.z_bool boot_bool) (by rfl) (by rfl)))))))),?_⟩
 cases hd with
 | non=>cases ok
 | bl=>cases ok
 | int=>exact ⟨_,rfl,_,_,_,rfl,.int_int,_,rfl,ay ⟨_,rfl,_,_,_,rfl,.int_bool,_,rfl,q⟩⟩
 | str=>exact ⟨_,rfl,_,_,_,rfl,.str_int,_,rfl,aQ q⟩
 | tup ht _ _=>exact ⟨_,rfl,_,_,_,rfl,.tup_int ht,_,rfl,aQ q⟩
theorem bS (T:Tx K mg ad) {f:Addr} {fd:FuncData} (F:Gn K mg "is_whole_within" bj ["thing","low","high"] f fd):FnOk P w K mg base CX0 2 f fd ["thing","low","high"] (d4 K ad):=by
 obtain ⟨_,_,xF⟩:=T.is_whole;have xM:=de (P:=P) (w:=w) (base:=base) T xF;refine F.F.ok em (fun vs H Q E h=>?_) (fun cdv A outer s H vs Q E hr h=>?_)
 ·obtain ⟨d,x,j,k,rfl,_⟩:=h
  rfl
 obtain ⟨d,x,j,k,rfl,hd,ok,q⟩:=h;refine ⟨_,(@pss_one _ _ _ (@ps_ret _ _ _ _ (pe_and (pcl xF xM (hr.mono (by lia)) rfl (@pa1 _ _ _ (pv 0) (by rfl))) (pe_one (qg op_le op_le (pv 1) (pv 0) (pv 2)))))),?_⟩;refine ⟨_,rfl,d,x,rfl,hd,ok,?_⟩
 cases hd with
 | non=>cases ok
 | bl=>cases ok
 | str=>exact ⟨_,rfl,aQ q⟩
 | tup ht _ _=>exact ⟨_,rfl,aQ q⟩
 | @int i =>
  replace q:Q (.bl (decide (j≤i) && decide (i≤k))) H:=q;refine ⟨_,rfl,ay ?_⟩;refine ⟨_,rfl,_,rfl,_,_,rfl,rfl,_,rfl,?_⟩;refine ar (fun c=>⟨_,rfl,_,_,rfl,rfl,?_⟩) (fun c=>?_)
  ·show Q (.bl (decide (i≤k))) H;rw [c,Bool.true_and] at q;exact q
  ·rw [Bool.eq_false_iff.mpr c,Bool.false_and] at q;exact q
theorem at0 {α:Type} (c:α) (r:List α):atI (c :: r) 0=some c:=by
 have e:atI (c :: r) ((0:Nat):Int)=some c:=cJ (by rfl);exact e
theorem ug:(10:Int) ^ (30:Int).toNat=1000000000000000000000000000000:=by decide +kernel
theorem dO (T:Tx K mg ad) {f:Addr} {fd:FuncData} (F:Gn K mg "are_bounds" cN ["low","high"] f fd):FnOk P w K mg base CX0 2 f fd ["low","high"] (iu K ad):=by
 obtain ⟨_,_,xF⟩:=T.is_whole;have xM:=de (P:=P) (w:=w) (base:=base) T xF;refine F.F.ok iF (fun vs H Q E h=>?_) (fun cdv A outer s H vs Q E hr h=>?_)
 ·obtain ⟨d,e,x,y,rfl,_⟩:=h
  rfl
 obtain ⟨d,e,x,y,rfl,hd,he,ok,ok',q⟩:=h;refine ⟨_,(@pss_cons _ _ _ _ _ (@ps_if _ _ _ _ _ _ _ _ (PW.pt (@pw_or _ _ _ _ _ _ _ (@pt_not _ _ _ _ (@pt_val _ _ _ (pcl xF xM (hr.mono (by lia)) rfl (@pa1 _ _ _ (pv 0) (by rfl))) (by intro _;rfl))) (@pw_or1 _ _ _ _ (@pt_not _ _ _ _ (@pt_val _ _ _ (pcl xF xM (hr.mono (by lia)) rfl (@pa1 _ _ _ (pv 1) (by rfl))) (by intro _;rfl)))))) (@pss_one _ _ _ (@ps_ret _ _ _ _ pe_bl)) pss_nil) (@pss_one _ _ _ (@ps_ret _ _ _ _ (pe_chain3 op_le op_le op_le (@pe_un _ _ _ _ _ _ un_neg (@pe_op _ _ _ _ _ _ _ _ op_pow pe_int pe_int)) (pv 0) (pv 1) (@pe_op _ _ _ _ _ _ _ _ op_pow pe_int pe_int))))),?_⟩;refine ⟨_,rfl,d,x,rfl,hd,ok,_,rfl,?_⟩
 cases hd with
 | non=>cases ok
 | bl=>cases ok
 | str=>exact ay (ay q)
 | tup ht _ _=>exact ay (ay q)
 | @int i =>
  refine aQ ⟨_,rfl,e,y,rfl,he,ok',_,rfl,?_⟩
  cases he with
  | non=>cases ok'
  | bl=>cases ok'
  | str=>exact ay q
  | tup ht _ _=>exact ay q
  | @int j =>
   replace q:Q (.bl (decide (-1000000000000000000000000000000≤i) && decide (i≤j) && decide (j≤1000000000000000000000000000000))) H:=q;refine aQ ?_;refine ⟨_,_,rfl,rfl,⟨by decide,by decide,by decide⟩,_,rfl,_,rfl,_,_,rfl,rfl,_,rfl,?_⟩;rw [ug];refine ar (fun c=>⟨_,rfl,_,_,rfl,rfl,_,rfl,?_⟩) (fun c=>?_)
   ·replace c:decide (-1000000000000000000000000000000≤i)=true:=c;rw [c,Bool.true_and] at q;refine ar (fun c=>?_) (fun c=>?_)
    ·refine ⟨_,_,rfl,rfl,⟨by decide,by decide,by decide⟩,_,_,rfl,rfl,?_⟩;rw [ug];replace c:decide (i≤j)=true:=c;rw [c,Bool.true_and] at q;exact q
    ·replace c:¬ decide (i≤j)=true:=c;rw [Bool.eq_false_iff.mpr c,Bool.false_and] at q;exact q
   ·replace c:¬ decide (-1000000000000000000000000000000≤i)=true:=c;rw [Bool.eq_false_iff.mpr c,Bool.false_and,Bool.false_and] at q;exact q
theorem fB (u:Str) (n:Int):∀ l:List (Str×Int),uC (bq u l) (.int n)=true
 | []=>rfl
 | (x,i) :: D=>by
  unfold bq
  split
  ·rfl
  ·exact fB u n D
theorem jM (T:Tx K mg ad) {f:Addr} {fd:FuncData} (F:Gn K mg "has_parts" dk ["thing"] f fd):FnOk P w K mg base CX0 1 f fd ["thing"] (jG K ad):=by
 obtain ⟨t_PART_COUNTS,c_PART_COUNTS,d_PART_COUNTS⟩:=T.PART_COUNTS;refine F.F.ok ku (fun vs H Q E h=>?_) (fun cdv A outer s H vs Q E hr h=>?_)
 ·obtain ⟨d,x,rfl,_⟩:=h
  rfl
 obtain ⟨d,x,rfl,hd,ok,q⟩:=h;refine ⟨_,(@pss_cons _ _ _ _ _ (@ps_if _ _ _ _ _ _ _ _ (PW.pt (@pw_or _ _ _ _ _ _ _ (@pt_not _ _ _ _ (@pt_val _ _ _ (pe_callB (aD (K:=K) rfl) rfl T.z_isinstance boot_isinstance (@pa2 _ _ _ _ _ (pv 0) (bu rfl T.z_tuple boot_tuple) (by rfl) (by rfl))) (by intro _;rfl))) (@pw_or _ _ _ _ _ _ _ (pt_cmpR op_eq (pe_callB (call_lenDN (K:=K) rfl) rfl T.z_len PySem.boot_len (@pa1 _ _ _ (pv 0) (by rfl))) pe_int (nomark _)) (@pw_or1 _ _ _ _ (@pt_not _ _ _ _ (@pt_val _ _ _ (pe_callB (aD (K:=K) rfl) rfl T.z_isinstance boot_isinstance (@pa2 _ _ _ _ _ (@pi1 K _ _ _ _ _ _ _ rfl (pv 0)) (bu rfl T.z_str boot_str) (by rfl) (by rfl))) (by intro _;rfl))))))) (@pss_one _ _ _ (@ps_ret _ _ _ _ pe_bl)) pss_nil) (@pss_one _ _ _ (@ps_ret _ _ _ _ (pe_cmpR op_eq (pe_kget d_PART_COUNTS rfl c_PART_COUNTS (@pa1 _ _ _ (@pi1 K _ _ _ _ _ _ _ rfl (pv 0)) (by rfl))) (pe_callB (call_lenDN (K:=K) rfl) rfl T.z_len PySem.boot_len (@pa1 _ _ _ (pv 0) (by rfl))) (nomark _))))),?_⟩
 cases d with
 | non=>cases ok
 | bl=>cases ok
 | int i =>
  cases hd
  exact ⟨_,rfl,_,_,_,rfl,.int_tuple,_,rfl,ay (ay q)⟩
 | str z =>
  cases hd
  exact ⟨_,rfl,_,_,_,rfl,.str_tuple,_,rfl,ay (ay q)⟩
 | tup l =>
  obtain ⟨a,xs,rfl,ha,pa,ra⟩:=id hd.unref;refine ⟨_,rfl,_,_,_,rfl,.tup_tuple ha,_,rfl,aQ ?_⟩;refine ⟨_,rfl,_,_,rfl,hd.d,rfl,_,rfl,?_⟩
  cases l with
  | nil=>exact aH (ay q)
  | cons e l =>
   refine iteN (fun z=>?_) ?_
   ·injection z with z
    rw [List.length_cons] at z;lia
   have oke:=aV ok e List.mem_cons_self;refine ⟨_,rfl,_,_,_,hd,rfl,at0 _ _,fun v hv=>?_⟩
   cases e with
   | non=>cases oke
   | bl=>cases oke
   | int i =>
    cases hv
    exact ⟨_,_,_,rfl,.int_str,_,rfl,ay q⟩
   | tup l =>
    obtain ⟨a1,xs1,rfl,ha1,_,_⟩:=id hv.unref;exact ⟨_,_,_,rfl,.tup_str ha1,_,rfl,ay q⟩
   | str u =>
    obtain rfl:=am hv;refine ⟨_,_,_,rfl,.str_str,_,rfl,aQ ?_⟩;refine ⟨_,rfl,_,_,_,hd,rfl,at0 _ _,isS ?_⟩;refine ⟨_,rfl,_,rfl,_,_,rfl,hd.d,fB u _ _,q⟩
theorem gQ:∀ {l:List Dt},l.all a9=true→l=(l.map pG).map Dt.str
 | [],_=>rfl
 | d :: l,h=>by
  rw [List.all_cons,Bool.and_eq_true] at h;rw [List.map_cons,List.map_cons,← gQ h.2]
  cases d with
  | str z=>rfl
  | _=>exact absurd h.1 Bool.false_ne_true
theorem aX {K:PySem.W.Frag} {H:Hp}:∀ {ws:List Str} {xs:List V},IsPs K H (ws.map Dt.str) xs→xs=ws.map V.str
 | [],xs,h=>by cases h;rfl
 | w :: ws,xs,h=>by
  cases h with
  | cons h1 h2=>rw [am h1,aX h2];rfl
theorem sV (m n:Nat):decide (V.int (m:Int)=V.int (n:Int))=decide (m=n):=by
 rw [Bool.eq_iff_iff];simp;lia
theorem eK (T:Tx K mg ad) {f:Addr} {fd:FuncData} (F:Gn K mg "are_words" dm ["words"] f fd):FnOk P w K mg base CX0 2 f fd ["words"] (jH K ad):=by
 obtain ⟨_,_,x8⟩:=T.is_name;have yq:=gP (P:=P) (w:=w) (base:=base) T x8;obtain ⟨t_MOST_WORDS,c_MOST_WORDS⟩:=T.MOST_WORDS;refine F.F.ok kw (fun vs H Q E h=>?_) (fun cdv A outer s H vs Q E hr h=>?_)
 ·obtain ⟨d,x,rfl,_⟩:=h
  rfl
 obtain ⟨d,x,rfl,hd,ok,q⟩:=h;refine ⟨_,(@pss_cons _ _ _ _ _ (@ps_if _ _ _ _ _ _ _ _ (PW.pt (@pw_or _ _ _ _ _ _ _ (@pt_not _ _ _ _ (@pt_val _ _ _ (pe_callB (aD (K:=K) rfl) rfl T.z_isinstance boot_isinstance (@pa2 _ _ _ _ _ (pv 0) (bu rfl T.z_tuple boot_tuple) (by rfl) (by rfl))) (by intro _;rfl))) (@pw_or1 _ _ _ _ (@pt_not _ _ _ _ (pt_chain op_le op_le pe_int (pe_callB (call_lenDN (K:=K) rfl) rfl T.z_len PySem.boot_len (@pa1 _ _ _ (pv 0) (by rfl))) (pe_gint rfl c_MOST_WORDS)))))) (@pss_one _ _ _ (@ps_ret _ _ _ _ pe_bl)) pss_nil) (@pss_one _ _ _ (@ps_ret _ _ _ _ (pe_and (pe_callB (call_allN (K:=K) rfl rfl) rfl T.z_all boot_all (@pa1 _ _ _ (aI rfl (cs0 (NL:=["word"]) rfl (by decide +kernel) (by decide +kernel)) (aP (K:=K) rfl (pv 0)) (fun _ _ _ _=>(aj (i:=0) (show List.Nodup (α:=Str) ["word"] by decide +kernel) rfl (Or.inl rfl))) (fun _ _ _ _=>(pcl x8 yq (hr.mono (by lia)) rfl (@pa1 _ _ _ (pv 0) (by rfl))))) (by rfl))) (pe_one (pe_cmpR op_eq (pe_callB pp rfl T.z_len PySem.boot_len (@pa1 _ _ _ (pe_callTy (pj rfl) rfl T.z_set boot_set (@pa1 _ _ _ (pv 0) (by rfl))) (by rfl))) (pe_callB (call_lenDN (K:=K) rfl) rfl T.z_len PySem.boot_len (@pa1 _ _ _ (pv 0) (by rfl))) (nomark _))))))),?_⟩
 cases d with
 | non=>cases ok
 | bl=>cases ok
 | int i =>
  cases hd
  exact ⟨_,rfl,_,_,_,rfl,.int_tuple,_,rfl,ay (ay (q H (Same.refl H)))⟩
 | str z =>
  cases hd
  exact ⟨_,rfl,_,_,_,rfl,.str_tuple,_,rfl,ay (ay (q H (Same.refl H)))⟩
 | tup ds =>
  obtain ⟨a,xs,rfl,hT,pa,ra⟩:=id hd.unref;have el:=ra.length;replace q:∀ H',Same H H'→Q (.bl (decide (1≤ds.length) && decide (ds.length≤8) && ds.all a9 && decide (lI (ds.map pG)=ds.length))) H':=q;refine ⟨_,rfl,_,_,_,rfl,.tup_tuple hT,_,rfl,aQ ?_⟩;refine ⟨_,rfl,_,_,rfl,hd.d,_,_,rfl,rfl,_,rfl,ar (fun c1=>?_) (fun c1=>?_)⟩
  ·have l1:1≤ds.length:=by
    have:(1:Int)≤ds.length:=of_decide_eq_true c1;lia
   refine ⟨_,_,rfl,rfl,_,rfl,ar (fun c2=>?_) (fun c2=>?_)⟩
   ·have l2:¬ ds.length≤8:=by
     have c2':¬ ((ds.length:Int)≤8):=by simpa using c2
     lia
    rw [decide_eq_false l2,Bool.and_false,Bool.false_and,Bool.false_and] at q;exact q H (Same.refl H)
   ·have l2:ds.length≤8:=by
     have:((ds.length:Int)≤8):=by simpa using c2
     lia
    rw [decide_eq_true l1,decide_eq_true l2,Bool.true_and,Bool.true_and] at q;refine ⟨_,rfl,a,rfl,⟨_,hT⟩,fun l hln=>?_⟩;refine aG (K:=K) (xs:=xs) (fun i ys σ H'=>ys=bls ((ds.take i).map a9)∧Same H H'∧H' l=some (.lst ys)∧σ.length=1) ⟨rfl,ag hln _,ac,rfl⟩ (fun i ys σ H' _ r=>r.2.1.tup hT) ?_ ?_
    ·rintro i y ys σ H1 N hy ⟨rfl,g,e1,hσ⟩ next;obtain ⟨d,hdi,hp⟩:=ra.get' hy;have nx:bls ((ds.take i).map a9)++[V.bl (a9 d)]=bls ((ds.take (i+1)).map a9):=by
      show List.map V.bl _++[V.bl (a9 d)]=List.map V.bl _;rw [List.map_map,List.map_map];exact bw (V.bl ∘ a9) hdi
     have hlen:(bls ((ds.take i).map a9)).length < sizeLine:=by
      simp only [bls,List.length_map,List.length_take];exact ai (by lia)
     match σ,hσ with
     | [_],_=>exact ⟨_,rfl,d,y,rfl,hp.same g,aV ok d (List.mem_of_getElem? hdi),fun H2 g2=>⟨g2 _ _ e1,hlen,next _ _ _ ⟨nx,az hln (g.trans g2),ac,rfl⟩⟩⟩
    ·rintro ys σ H1 ⟨rfl,g,e1,_⟩;rw [← el,List.take_length] at e1;refine ⟨l,ds.map a9,rfl,rfl,SqL.of e1,_,rfl,?_⟩;have ea:(ds.map a9).all id=ds.all a9:=by rw [List.all_map];rfl
     rw [ea]
     cases hb:ds.all a9 with
     | false =>
      rw [hb,Bool.false_and] at q;exact aQ (q H1 g)
     | true =>
      rw [hb,Bool.true_and] at q;have es:=gQ hb;rw [es] at ra;have ex:=aX ra;subst ex;refine ay ?_;refine ⟨_,rfl,a,(ds.map pG).map Sum.inr,rfl,by rw [List.map_map];exact g.tup hT,by rw [List.length_map,List.length_map];lia,fun p hp=>?_⟩;refine ⟨p,_,rfl,ac,?_⟩;refine ⟨_,rfl,_,_,rfl,((hd.same g).same (ag hp _)).d,rfl,?_⟩;rw [sV];exact q _ (g.trans (ag hp _))
  ·have l1:¬ 1≤ds.length:=by
    have:¬ (1:Int)≤ds.length:=by simpa using c1
    lia
   refine ⟨_,rfl,ay ?_⟩;rw [decide_eq_false l1,Bool.false_and,Bool.false_and,Bool.false_and] at q;exact q H (Same.refl H)
def lL (K:PySem.W.Frag) (n:Nat):Sp:=fun vs H Q _=>∃ (r:Nat) (d:Dt) (x:V),r < n∧vs=[x,.int r]∧IsP K H d x∧okD d=true∧∀ H',Same H H'→Q (.bl (au r d)) H'
def rj (K:PySem.W.Frag) (n:Nat):Sp:=fun vs H Q _=>∃ (r:Nat) (d:Dt) (x:V),r < n∧vs=[x,.int r]∧IsP K H d x∧okD d=true∧∀ H',Same H H'→Q (.bl (aN (au r) d)) H'
def ou (K:PySem.W.Frag) (n:Nat):Sp:=fun vs H Q _=>∃ (r:Nat) (d:Dt) (x:V),r < n∧vs=[x,.int r]∧IsP K H d x∧okD d=true∧∀ H',Same H H'→Q (.bl (jF (au r) d)) H'
def rl (K:PySem.W.Frag) (n:Nat):Sp:=fun vs H Q _=>∃ (r:Nat) (d e:Dt) (x y:V),r < n∧vs=[x,y,.int r]∧IsP K H d x∧IsP K H e y∧okD d=true∧okD e=true∧∀ H',Same H H'→Q (.bl (dN (au r) d e)) H'
theorem lM (T:Tx K mg ad) {f ff:Addr} {fd fdf:FuncData} (n:Nat) (F:Gn K mg "is_field" bV ["field","room"] f fd) (xG:Gn K mg "is_formed" bd ["thing","room"] ff fdf)
  (xJ:FnOk P w K mg base CX0 (3*n+3) ff fdf ["thing","room"] (lL K n)):FnOk P w K mg base CX0 (3*n+3+1) f fd ["field","room"] (rj K n):=by
 obtain ⟨_,_,x8⟩:=T.is_name;have yq:=gP (P:=P) (w:=w) (base:=base) T x8;refine F.F.ok mi (fun vs H Q E h=>?_) (fun cdv A outer s H vs Q E hr h=>?_)
 ·obtain ⟨r,d,x,_,rfl,_⟩:=h
  rfl
 obtain ⟨r,d,x,hrn,rfl,hd,ok,q⟩:=h;refine ⟨_,(@pss_cons _ _ _ _ _ (@ps_if _ _ _ _ _ _ _ _ (PW.pt (@pw_or _ _ _ _ _ _ _ (@pt_not _ _ _ _ (@pt_val _ _ _ (pe_callB (aD (K:=K) rfl) rfl T.z_isinstance boot_isinstance (@pa2 _ _ _ _ _ (pv 0) (bu rfl T.z_tuple boot_tuple) (by rfl) (by rfl))) (by intro _;rfl))) (@pw_or1 _ _ _ _ (pt_cmpR op_ne (pe_callB (call_lenDN (K:=K) rfl) rfl T.z_len PySem.boot_len (@pa1 _ _ _ (pv 0) (by rfl))) pe_int (nomark _))))) (@pss_one _ _ _ (@ps_ret _ _ _ _ pe_bl)) pss_nil) (@pss_one _ _ _ (@ps_ret _ _ _ _ (pe_and (pcl x8 yq (hr.mono (by lia)) rfl (@pa1 _ _ _ (@pi1 K _ _ _ _ _ _ _ rfl (pv 0)) (by rfl))) (pe_one (pcl xG xJ (hr.mono (by lia)) rfl (@pa2 _ _ _ _ _ (@pi1 K _ _ _ _ _ _ _ rfl (pv 0)) (pv 1) (by rfl) (by rfl)))))))),?_⟩
 cases d with
 | non=>cases ok
 | bl=>cases ok
 | int i =>
  cases hd
  exact ⟨_,rfl,_,_,_,rfl,.int_tuple,_,rfl,ay (ay (q H (Same.refl H)))⟩
 | str z =>
  cases hd
  exact ⟨_,rfl,_,_,_,rfl,.str_tuple,_,rfl,ay (ay (q H (Same.refl H)))⟩
 | tup l =>
  obtain ⟨a,xs,rfl,ha,pa,ra⟩:=id hd.unref;refine ⟨_,rfl,_,_,_,rfl,.tup_tuple ha,_,rfl,aQ ?_⟩;refine ⟨_,rfl,_,_,rfl,hd.d,rfl,_,rfl,?_⟩
  by_cases h2:l.length=2
  ·match l,h2 with
   | [e,e'],_ =>
    refine i3 ?_;refine ⟨_,rfl,_,_,_,hd,rfl,rfl,fun v hv=>?_⟩;refine ⟨e,v,rfl,hv,aV ok e List.mem_cons_self,fun H1 g1=>?_⟩;replace q:∀ H',Same H H'→Q (.bl (a9 e && au r e')) H':=q;refine ⟨_,rfl,?_⟩
    cases hb:a9 e with
    | false =>
     rw [hb,Bool.false_and] at q;exact aQ (q H1 g1)
    | true =>
     rw [hb,Bool.true_and] at q;refine ay ?_;refine ⟨_,rfl,_,_,_,hd.same g1,rfl,rfl,fun v hv=>?_⟩;exact ⟨_,rfl,r,e',v,hrn,rfl,hv,aV ok e' (List.mem_cons_of_mem _ List.mem_cons_self),fun H2 g2=>q H2 (g1.trans g2)⟩
  ·have e0:aN (au r) (.tup l)=false:=by
    unfold aN
    split
    ·rename_i h;injection h with h;subst h;exact absurd rfl h2
    ·rfl
   rw [e0] at q;refine or (fun z=>?_) (q H (Same.refl H));injection z with z
   lia
theorem i4 {K:PySem.W.Frag} {H:Hp} {a b:Dt} {v:V} (h:IsP K H (.tup [a,b]) v):∃ c x y,v=.ref c∧SqT K H c [x,y]∧IsP K H a x∧IsP K H b y:=by
 obtain ⟨c,xs,rfl,hc,pc,rc⟩:=h.unref
 cases rc with
 | cons r1 rc =>
  cases rc with
  | cons r2 rc =>
   cases rc
   exact ⟨c,_,_,rfl,hc,r1,r2⟩
theorem d5 {f:Dt→Bool} {d:Dt} (h:aN f d=true):∃ z k,d=.tup [.str z,k]∧bh z=true∧f k=true:=by
 unfold aN at h
 split at h
 ·rw [Bool.and_eq_true] at h
  rename_i a b
  cases a with
  | str z=>exact ⟨z,b,rfl,h.1,h.2⟩
  | _=>exact absurd h.1 Bool.false_ne_true
 ·cases h
theorem pI (xs:List V):fS xs (some 1) none=xs.drop 1:=by
 unfold fS
 cases xs with
 | nil=>rfl
 | cons x r =>
  have e1:HT.sIx (x :: r).length 0 (some 1)=1:=by
   have:=HT.sIx_nat (x :: r).length 0 1;rw [List.length_cons] at this ⊢;rw [show (1:Int)=((1:Nat):Int) from rfl,this];lia
  have e2:HT.sIx (x :: r).length (x :: r).length none=(x :: r).length:=rfl;rw [e1,e2];apply List.take_of_length_le;rw [List.length_drop];exact Nat.le_refl _
theorem iw (T:Tx K mg ad) {f ff:Addr} {fd fdf:FuncData} (n:Nat) (F:Gn K mg "are_fields" aZ ["fields","room"] f fd) (yY:Gn K mg "is_field" bV ["field","room"] ff fdf)
  (yX:FnOk P w K mg base CX0 (3*n+4) ff fdf ["field","room"] (rj K n)):FnOk P w K mg base CX0 (3*n+4+1) f fd ["fields","room"] (ou K n):=by
 obtain ⟨t_MOST_FIELDS,c_MOST_FIELDS⟩:=T.MOST_FIELDS;refine F.F.ok dS (fun vs H Q E h=>?_) (fun cdv A outer s H vs Q E hr h=>?_)
 ·obtain ⟨r,d,x,_,rfl,_⟩:=h
  rfl
 obtain ⟨r,d,x,hrn,rfl,hd,ok,q⟩:=h;refine ⟨_,(@pss_cons _ _ _ _ _ (@ps_if _ _ _ _ _ _ _ _ (PW.pt (@pw_or _ _ _ _ _ _ _ (@pt_not _ _ _ _ (@pt_val _ _ _ (pe_callB (aD (K:=K) rfl) rfl T.z_isinstance boot_isinstance (@pa2 _ _ _ _ _ (pv 0) (bu rfl T.z_tuple boot_tuple) (by rfl) (by rfl))) (by intro _;rfl))) (@pw_or1 _ _ _ _ (pt_cmpR op_gt (pe_callB (call_lenDN (K:=K) rfl) rfl T.z_len PySem.boot_len (@pa1 _ _ _ (pv 0) (by rfl))) (pe_gint rfl c_MOST_FIELDS) (nomark _))))) (@pss_one _ _ _ (@ps_ret _ _ _ _ pe_bl)) pss_nil) (@pss_cons _ _ _ _ _ (@ps_if _ _ _ _ _ _ _ _ (@pt_not _ _ _ _ (@pt_val _ _ _ (pe_callB (call_allN (K:=K) rfl rfl) rfl T.z_all boot_all (@pa1 _ _ _ (aI rfl (csR (sc:=af aZ) (NL:=["field"]) (N:=["fields","room","names"]) (ρ:=[1]) (N':=["field","room"]) rfl rfl rfl (by decide +kernel) (by decide +kernel) (by decide +kernel) rfl (by decide +kernel)) (aP (K:=K) rfl (pv 0)) (fun _ _ _ _=>(aj (i:=0) (show List.Nodup (α:=Str) ["field","room"] by decide +kernel) rfl (Or.inl rfl))) (fun _ _ _ _=>(pcl yY yX (hr.mono (by lia)) rfl (@pa2 _ _ _ _ _ (pv 0) (pv 1) (by rfl) (by rfl))))) (by rfl))) (by intro _;rfl))) (@pss_one _ _ _ (@ps_ret _ _ _ _ pe_bl)) pss_nil) (@pss_cons _ _ _ _ _ (ps_setC (j:=2) dS.nd rfl (Or.inl rfl) rfl (cs0 (NL:=["name","kind"]) rfl (by decide +kernel) (by decide +kernel)) (aP (K:=K) rfl (pv 0)) (fun _ _ _ _=>(ci (K:=K) (n:=2) rfl rfl (aC (aj (i:=0) (show List.Nodup (α:=Str) ["name","kind"] by decide +kernel) rfl (Or.inl rfl)) (aC (aj (i:=1) (show List.Nodup (α:=Str) ["name","kind"] by decide +kernel) rfl (Or.inl rfl)) bL)))) (fun _ _ _ _=>(pv 0))) (@pss_one _ _ _ (@ps_ret _ _ _ _ (pe_callB (call_allN (K:=K) rfl rfl) rfl T.z_all boot_all (@pa1 _ _ _ (aI rfl (cs0 (NL:=["ahead","behind"]) rfl (by decide +kernel) (by decide +kernel)) (uU rfl T.z_zip (@pa2 _ _ _ _ _ (pv 2) (bE (lg (K:=K) rfl) (pv 2) (bM pe_int) cI) (by rfl) (by rfl))) (fun _ _ _ _=>(ci (K:=K) (n:=2) rfl rfl (aC (aj (i:=0) (show List.Nodup (α:=Str) ["ahead","behind"] by decide +kernel) rfl (Or.inl rfl)) (aC (aj (i:=1) (show List.Nodup (α:=Str) ["ahead","behind"] by decide +kernel) rfl (Or.inl rfl)) bL)))) (fun _ _ _ _=>(pe_cmpR oW (pv 0) (pv 1) (nomark _)))) (by rfl)))))))),?_⟩
 cases d with
 | non=>cases ok
 | bl=>cases ok
 | int i =>
  cases hd
  exact ⟨_,rfl,_,_,_,rfl,.int_tuple,_,rfl,ay (ay (q H (Same.refl H)))⟩
 | str z =>
  cases hd
  exact ⟨_,rfl,_,_,_,rfl,.str_tuple,_,rfl,ay (ay (q H (Same.refl H)))⟩
 | tup ds =>
  obtain ⟨a,xs,rfl,ha,pa,ra⟩:=id hd.unref;have el:=ra.length;replace q:∀ H',Same H H'→Q (.bl (decide (ds.length≤8) && ds.all (aN (au r)) && pH (ds.map nmD))) H':=q;refine ⟨_,rfl,_,_,_,rfl,.tup_tuple ha,_,rfl,aQ ?_⟩;refine ⟨_,rfl,_,_,rfl,hd.d,_,_,rfl,rfl,_,rfl,ar (fun c1=>?_) (fun c1=>?_)⟩
  ·have l2:¬ ds.length≤8:=by
    have:(8:Int) < ds.length:=of_decide_eq_true c1;lia
   rw [decide_eq_false l2,Bool.false_and,Bool.false_and] at q;exact q H (Same.refl H)
  have l2:ds.length≤8:=by
   have:¬ ((8:Int) < ds.length):=by simpa using c1
   lia
  rw [decide_eq_true l2,Bool.true_and] at q;refine ⟨_,rfl,a,rfl,⟨_,ha⟩,fun l hln=>?_⟩;refine aG (K:=K) (xs:=xs) (fun i ys σ H'=>ys=bls ((ds.take i).map (aN (au r)))∧Same H H'∧H' l=some (.lst ys)∧∃ v,σ=[v,some (.int r)]) ⟨rfl,ag hln _,ac,none,rfl⟩ (fun i ys σ H' _ r=>r.2.1.tup ha) ?_ ?_
  ·rintro i y ys σ H1 N hy ⟨rfl,g,e1,v,rfl⟩ next;obtain ⟨d,hdi,hp⟩:=ra.get' hy;have nx:bls ((ds.take i).map (aN (au r)))++[V.bl (aN (au r) d)]=bls ((ds.take (i+1)).map (aN (au r))):=by
    show List.map V.bl _++[V.bl _]=List.map V.bl _;rw [List.map_map,List.map_map];exact bw (V.bl ∘ aN (au r)) hdi
   have hlen:(bls ((ds.take i).map (aN (au r)))).length < sizeLine:=by
    simp only [bls,List.length_map,List.length_take];exact ai (by lia)
   exact ⟨_,rfl,_,rfl,r,d,y,hrn,rfl,hp.same g,aV ok d (List.mem_of_getElem? hdi),fun H2 g2=>⟨g2 _ _ e1,hlen,next _ _ _ ⟨nx,az hln (g.trans g2),ac,_,rfl⟩⟩⟩
  ·rintro ys σ H1 ⟨rfl,g,e1,v,rfl⟩;rw [← el,List.take_length] at e1;refine ⟨l,ds.map (aN (au r)),rfl,rfl,SqL.of e1,_,rfl,?_⟩;have ea:(ds.map (aN (au r))).all id=ds.all (aN (au r)):=by rw [List.all_map];rfl
   rw [ea]
   cases hb:ds.all (aN (au r)) with
   | false =>
    rw [hb,Bool.false_and] at q;exact ay (q H1 g)
   | true =>
    rw [hb,Bool.true_and] at q;refine aQ ?_;refine ⟨_,rfl,a,rfl,⟨_,g.tup ha⟩,fun l2 hl2=>?_⟩;refine aG (K:=K) (xs:=xs) (fun i ys σ H'=>ys=(ds.take i).map (fun d=>V.str (nmD d))∧Same H1 H'∧H' l2=some (.lst ys)∧σ.length=2) ⟨rfl,ag hl2 _,ac,rfl⟩ (fun i ys σ H' _ r=>(g.trans r.2.1).tup ha) ?_ ?_
    ·rintro i y ys σ H2 N hy ⟨rfl,g2,e2,hσ⟩ next;obtain ⟨d,hdi,hp⟩:=ra.get' hy;obtain ⟨z,k,rfl,_,_⟩:=d5 (List.all_eq_true.mp hb d (List.mem_of_getElem? hdi));obtain ⟨b,x1,y2,rfl,hb',hp1,hp2⟩:=i4 ((hp.same g).same g2);obtain rfl:=am hp1
     match σ,hσ with
     | [_,_],_ =>
      refine ⟨b,_,rfl,hb',rfl,_,_,rfl,_,_,rfl,rfl,?_⟩;refine ⟨_,rfl,e2,?_,next _ _ _ ⟨bw (fun d=>V.str (nmD d)) hdi,az hl2 g2,ac,rfl⟩⟩;rw [List.length_map,List.length_take];exact ai (by lia)
    ·rintro ys σ H2 ⟨rfl,g2,e2,hσ⟩;rw [← el,List.take_length] at e2;have en:ds.map (fun d=>V.str (nmD d))=(ds.map nmD).map V.str:=by rw [List.map_map];rfl
     rw [en] at e2;have lns:(ds.map nmD).length=ds.length:=List.length_map ..
     generalize ds.map nmD=ns at *
     refine ⟨_,rfl,_,rfl,_,rfl,l2,_,rfl,SqL.of e2,fun l3 hl3=>?_⟩;have n23:l2≠l3:=ak e2 hl3;have ec:fS (ns.map V.str) (some 1) none=(ns.drop 1).map V.str:=by rw [pI,List.map_drop]
     rw [ec];have e2':(upd H2 l3 (.lst ((ns.drop 1).map V.str))) l2=some (.lst (ns.map V.str)):=by rw [ah n23];exact e2
     refine ⟨l2,l3,rfl,⟨_,SqL.of e2'⟩,⟨_,SqL.of ac⟩,fun l4 hl4=>?_⟩;have g4:=(ag hl3 (.lst ((ns.drop 1).map V.str)));refine pq (K:=K) (xs:=ns.map V.str) (ys:=(ns.drop 1).map V.str) (fun i ys σ H'=>ys=bls (((ns.zip (ns.drop 1)).take i).map fun p=>decide (ltS p.1 p.2))∧Same (upd H2 l3 (.lst ((ns.drop 1).map V.str))) H'∧H' l4=some (.lst ys)∧σ.length=2) ⟨rfl,ag hl4 _,ac,rfl⟩ (fun i us σ H' r=>⟨SqL.of (r.2.1 _ _ e2'),SqL.of (r.2.1 _ _ ac)⟩) ?_ ?_
     ·rintro i x y T us σ H5 N hx hy hT ⟨rfl,g5,e5,hσ⟩ next;rw [List.getElem?_map] at hx hy;obtain ⟨a1,ha1,rfl⟩:=Option.map_eq_some_iff.mp hx;obtain ⟨b1,hb1,rfl⟩:=Option.map_eq_some_iff.mp hy;have n4:l4≠T:=ak e5 hT;have hz:(ns.zip (ns.drop 1))[i]?=some (a1,b1):=List.getElem?_zip_eq_some.mpr ⟨ha1,hb1⟩;have li:=(List.getElem?_eq_some_iff.mp hz).1;rw [List.length_zip] at li
      match σ,hσ with
      | [_,_],_ =>
       refine ⟨T,_,rfl,.inl (.inl ac),rfl,_,_,rfl,_,_,rfl,rfl,?_⟩;refine ⟨_,rfl,_,rfl,_,_,rfl,rfl,by rw [ah n4];exact e5,?_,next _ _ _ ⟨?_,?_,ac,rfl⟩⟩
       ·simp only [bls,List.length_map,List.length_take];exact ai (by lia)
       ·show List.map V.bl _++[V.bl (decide (ltS a1 b1))]=List.map V.bl _;rw [List.map_map,List.map_map];exact bw (V.bl ∘ fun p:Str×Str=>decide (ltS p.1 p.2)) hz
       ·exact az hl4 (g5.trans (ag hT _))
     ·rintro us σ H5 ⟨rfl,g5,e5,hσ⟩;rw [List.length_map,List.length_map,← List.length_zip,List.take_length] at e5;refine ⟨l4,_,rfl,rfl,SqL.of e5,?_⟩;rw [List.all_map];exact q H5 (((g.trans g2).trans g4).trans g5)
def ix (K:PySem.W.Frag) (_:Ads):Sp:=fun vs H Q _=>∃ (fs:List Dt) (key:Dt) (x y:V),vs=[x,y]∧IsP K H (.tup [.str "record",.tup fs]) x∧IsP K H key y∧(∀ d∈fs,∃ z k,d=.tup [.str z,k])∧wD K H (cU fs key) Q
theorem mX {fs:List Dt} {key:Dt} (h:∀ d∈fs,lJ key d=false):cU fs key=none:=by
 unfold cU;rw [List.find?_eq_none.mpr (fun d hd=>by rw [h d hd];exact Bool.false_ne_true)]
theorem lN {fs:List Dt} {key o k:Dt} {i:Nat} (h:fs[i]?=some (.tup [o,k])) (hk:eqD o key=true) (pre:∀ j d,j < i→fs[j]?=some d→lJ key d=false):cU fs key=some k:=by
 have e:fs.find? (lJ key)=some (.tup [o,k]):=by
  obtain ⟨li,ei⟩:=List.getElem?_eq_some_iff.mp h;rw [List.find?_eq_some_iff_getElem];refine ⟨hk,i,li,ei,fun j hj=>?_⟩;have:=pre j _ hj (List.getElem?_eq_getElem (Nat.lt_trans hj li));rw [this]
  rfl
 unfold cU;rw [e]
theorem iy (T:Tx K mg ad) {f:Addr} {fd:FuncData} (F:Gn K mg "field_kind" cO ["kind","name"] f fd):FnOk P w K mg base CX0 1 f fd ["kind","name"] (ix K ad):=by
 refine F.F.ok cw (fun vs H Q E h=>?_) (fun cdv A outer s H vs Q E hr h=>?_)
 ·obtain ⟨fs,key,x,y,rfl,_⟩:=h
  rfl
 obtain ⟨fs,key,x,y,rfl,hd,hk,prs,q'⟩:=h;refine ⟨_,(@pss_cons _ _ _ _ _ (@ps_if _ _ _ _ _ _ _ _ (pt_cmpR op_ne (@pi1 K _ _ _ _ _ _ _ rfl (pv 0)) pe_str (nomark _)) (@pss_one _ _ _ (@ps_ret _ _ _ _ pe_non)) pss_nil) (@pss_cons _ _ _ _ _ (cH PassesOwn.never rfl (aP (K:=K) rfl (@pi1 K _ _ _ _ _ _ _ rfl (pv 0))) (pX rfl (aC (aj (i:=2) cw.nd rfl (Or.inl rfl)) (aC (aj (i:=3) cw.nd rfl (Or.inl rfl)) bL)))
    (@pss_one _ _ _ (@ps_if _ _ _ _ _ _ _ _ (pt_cmpR (oh (K:=K) rfl hr.units) (pv 2) (pv 1) (nomark _)) (@pss_one _ _ _ (@ps_ret _ _ _ _ (pv 3))) pss_nil))) (@pss_one _ _ _ (@ps_ret _ _ _ _ pe_non)))),?_⟩
 refine ⟨_,rfl,_,_,_,hd,rfl,rfl,isS ?_⟩;refine ⟨rfl,_,rfl,i3 ⟨_,rfl,_,_,_,hd,rfl,rfl,fun v hv=>?_⟩⟩;obtain ⟨a,xs,rfl,ha,pa,ra⟩:=hv.unref;have el:=ra.length;refine ⟨a,rfl,⟨xs,ha⟩,nN (xs:=xs) (fun i σ H'=>H'=H∧(∀ j d,j < i→fs[j]?=some d→lJ key d=false)∧∃ v1 v2,σ=[some x,some y,v1,v2]) ⟨rfl,fun j f hj=>absurd hj (Nat.not_lt_zero _),_,_,rfl⟩ (fun i σ H' _ p=>p.1 ▸ ha) ?_ ?_⟩
 ·rintro i u σ H' hu ⟨rfl,pre,v1,v2,rfl⟩;obtain ⟨e,he,hp⟩:=ra.get' hu;obtain ⟨z,k,rfl⟩:=prs e (List.mem_of_getElem? he);obtain ⟨b,x1,y2,rfl,hb,hp1,hp2⟩:=i4 hp;refine ⟨b,_,rfl,hb,rfl,_,_,rfl,_,_,rfl,rfl,?_⟩;refine ⟨_,rfl,_,rfl,.str z,key,hp1.d,hk.d,(by show 0≤60;decide),_,rfl,ar (fun c=>?_) (fun c=>?_)⟩
  ·rw [lN he c pre] at q';exact ⟨_,rfl,q' _ hp2⟩
  ·refine ⟨rfl,fun j f hj hjf=>?_,_,_,rfl⟩;rcases Nat.lt_succ_iff_lt_or_eq.mp hj with h1 | h1
   ·exact pre j f h1 hjf
   ·subst h1;rw [he] at hjf;obtain rfl:=Option.some.inj hjf;exact Bool.eq_false_iff.mpr c
 ·rintro σ H' ⟨rfl,pre,v1,v2,rfl⟩;rw [mX (fun d hd=>by
   obtain ⟨j,hj,e⟩:=List.mem_iff_getElem.mp hd;exact pre j d (by lia) (by rw [List.getElem?_eq_getElem hj,e]))] at q'
  exact q'
theorem vg (w:Str):inV (.str w) [.str "number",.str "text"]=(decide (w= "number") || decide (w= "text")):=by
 have e:∀ a:Str,eqV (.str a) (.str w)=decide (w=a):=fun a=>by
  show (a == w)=decide (w=a);rw [Bool.eq_iff_iff,decide_eq_true_iff,beq_iff_eq];exact ⟨Eq.symm,Eq.symm⟩
 show (eqV (.str "number") (.str w) || (eqV (.str "text") (.str w) || false))=_;rw [e,e,Bool.or_false]
theorem bc (d:Dt):au 0 d=false:=by simp [au]
theorem gR {r:Nat} {d:Dt} (h:au r d=true):∃ u l,d=.tup (.str u :: l):=by
 unfold au at h
 split at h <;> first | exact ⟨_,_,rfl⟩ | cases h
theorem rm {r:Nat} {l:List Dt} (h:au r (.tup (.str "record" :: l))=true):∃ r' fs,r=r' + 1∧l=[.tup fs]∧fs.all (aN (au r'))=true:=by
 cases r with
 | zero=>rw [bc] at h;cases h
 | succ r =>
  match l with
  | []=>cases h
  | [a] =>
   have h':jF (au r) a=true:=h
   cases a with
   | tup fs =>
    have h2:(decide (fs.length≤8) && fs.all (aN (au r)) && pH (fs.map nmD))=true:=h';rw [Bool.and_eq_true,Bool.and_eq_true] at h2;exact ⟨r,fs,rfl,rfl,h2.1.2⟩
   | _=>cases h'
  | [a,b]=>cases h
  | [a,b,c]=>cases h
  | a :: b :: c :: e :: l=>cases h
theorem sW {f:Dt→Bool} {key:Dt} {u:Str} {l:List Dt} (h:u≠ "record"):dN f key (.tup (.str u :: l))=false:=by
 unfold dN
 split
 ·rename_i e
  injection e with e
  injection e with e _
  injection e with e
  subst e;rw [decide_eq_false h,Bool.false_and,Bool.and_false]
 ·exact Bool.and_false _
theorem rn {fs:List Dt} {key k:Dt} (h:cU fs key=some k):∃ o,.tup [o,k]∈fs:=by
 unfold cU at h
 split at h
 ·rename_i o k' e
  obtain rfl:=Option.some.inj h;exact ⟨o,List.mem_of_find?_eq_some e⟩
 ·cases h
theorem lO (T:Tx K mg ad) {f ff:Addr} {fd fdf:FuncData} (n:Nat) (F:Gn K mg "are_rows" bW ["key","items","room"] f fd) (xG:Gn K mg "is_formed" bd ["thing","room"] ff fdf)
  (xJ:FnOk P w K mg base CX0 (3*n+3) ff fdf ["thing","room"] (lL K n)):FnOk P w K mg base CX0 (3*n+3+1) f fd ["key","items","room"] (rl K n):=by
 obtain ⟨_,_,yt⟩:=T.field_kind;have yL:=iy (P:=P) (w:=w) (base:=base) T yt;refine F.F.ok sc_are_rows (fun vs H Q E h=>?_) (fun cdv A outer s H vs Q E hr h=>?_)
 ·obtain ⟨r,key,items,x,y,_,rfl,_⟩:=h
  rfl
 obtain ⟨r,key,items,x,y,hrn,rfl,hx,hy,okk,oki,q⟩:=h;refine ⟨_,(@pss_cons _ _ _ _ _ (@ps_if _ _ _ _ _ _ _ _ (PW.pt (@pw_or _ _ _ _ _ _ _ (@pt_not _ _ _ _ (@pt_val _ _ _ (pcl xG xJ (hr.mono (by lia)) rfl (@pa2 _ _ _ _ _ (pv 1) (pv 2) (by rfl) (by rfl))) (by intro _;rfl))) (@pw_or1 _ _ _ _ (pt_cmpR op_ne (@pi1 K _ _ _ _ _ _ _ rfl (pv 1)) pe_str (nomark _))))) (@pss_one _ _ _ (@ps_ret _ _ _ _ pe_bl)) pss_nil) (@pss_cons _ _ _ _ _ (@ps_set _ _ 3 _ _ _ _ sc_are_rows.nd rfl (Or.inl rfl) (pcl yt yL (hr.mono (by lia)) rfl (@pa2 _ _ _ _ _ (pv 1) (pv 0) (by rfl) (by rfl))) (by rfl) (by first | exact .inl rfl | exact .inr rfl | assumption)) (@pss_one _ _ _ (@ps_ret _ _ _ _ (pe_and (pe_cmpR op_notN (pv 3) pe_non (nomark _)) (pe_one (pe_cmpR (op_in_seqK (K:=K) rfl) (@pi1 K _ _ _ _ _ _ _ rfl (pv 3)) (@pe_tupPK _ K _ _ _ _ rfl (@pa2 _ _ _ _ _ pe_str pe_str (by rfl) (by rfl))) rfl))))))),?_⟩;refine ⟨_,rfl,_,rfl,r,items,y,hrn,rfl,hy,oki,fun H1 g1=>⟨_,rfl,?_⟩⟩
 cases hb:au r items with
 | false =>
  have e:dN (au r) key items=false:=by unfold dN;rw [hb,Bool.false_and]
  rw [e] at q;exact ay (ay (q H1 g1))
 | true =>
  obtain ⟨u,l,rfl⟩:=gR hb;refine aQ ?_;refine ⟨_,rfl,_,_,_,hy.same g1,rfl,at0 _ _,fun v hv=>?_⟩;obtain rfl:=am hv;refine ⟨rfl,_,rfl,?_⟩
  by_cases hu:u= "record"
  ·subst hu;obtain ⟨r',fs,rfl,rfl,hall⟩:=rm hb;have e:dN (au (r' + 1)) key (.tup [.str "record",.tup fs])=oq (cU fs key):=by
    unfold dN;rw [hb]
    rfl
   rw [e] at q;refine i3 ?_;refine ⟨_,rfl,_,rfl,fs,key,y,x,rfl,hy.same g1,hx.same g1,fun d hd=>?_,?_⟩
   ·obtain ⟨z,k,rfl,_⟩:=d5 (List.all_eq_true.mp hall d hd);exact ⟨z,k,rfl⟩
   cases hl:cU fs key with
   | none =>
    rw [hl] at q;exact ⟨_,rfl,rfl,_,rfl,aQ (q H1 g1)⟩
   | some k =>
    rw [hl] at q;obtain ⟨o,hm⟩:=rn hl;obtain ⟨z,k',e2,_,fk⟩:=d5 (List.all_eq_true.mp hall _ hm);injection e2 with e2
    injection e2 with e2 e3
    injection e3 with e3 _
    subst e3;obtain ⟨w1,l1,rfl⟩:=gR fk;intro v hv;obtain ⟨av,xv,rfl,_⟩:=id hv.unref;refine ⟨_,rfl,rfl,_,rfl,?_⟩;rw [decide_eq_false (show ¬ (V.ref av=V.non) by intro z;cases z)];refine ay ?_;refine ⟨_,rfl,_,_,_,hv,rfl,at0 _ _,isS ?_⟩;refine ⟨[.str "number",.str "text"],.cons .str (.cons .str .nil),sz2,fun v3 H3 g3 hv3=>?_⟩;obtain ⟨a3,x3,rfl,hT3,_,r3⟩:=id hv3.unref;obtain rfl:=aX (ws:=["number","text"]) r3;refine ⟨a3,_,rfl,.inr hT3,rfl,rfl,?_⟩;show Q (.bl (inV (.str w1) [.str "number",.str "text"])) H3;rw [vg];exact q H3 (g1.trans g3)
  ·rw [sW hu] at q;exact or (ae hu) (q H1 g1)
theorem lQ {d:Dt} (h:bR d=true):(∃ a b,d=.tup [.str "number",a,b])∨(∃ a,d=.tup [.str "text",a])∨(∃ a,d=.tup [.str "choice",a])∨(∃ a b,d=.tup [.str "list",a,b])∨(∃ a,d=.tup [.str "record",a])∨(∃ a b c,d=.tup [.str "rows",a,b,c]):=by
 unfold bR at h
 split at h
 ·rename_i u l
  have h:=of_decide_eq_true h;have l1:∀ {l:List Dt},(2:Int)=((l.length+1:Nat):Int)→∃ a,l=[a]:=fun {l} e=>by
   match l with
   | []=>exact absurd e (by decide)
   | [a]=>exact ⟨a,rfl⟩
   | a :: b :: l=>exact absurd e (by simp only [List.length_cons];lia)
  have l2:∀ {l:List Dt},(3:Int)=((l.length+1:Nat):Int)→∃ a b,l=[a,b]:=fun {l} e=>by
   match l with
   | []=>exact absurd e (by decide)
   | [a]=>exact absurd e (by simp only [List.length_cons,List.length_nil];lia)
   | [a,b]=>exact ⟨a,b,rfl⟩
   | a :: b :: c :: l=>exact absurd e (by simp only [List.length_cons];lia)
  have l3:∀ {l:List Dt},(4:Int)=((l.length+1:Nat):Int)→∃ a b c,l=[a,b,c]:=fun {l} e=>by
   match l with
   | []=>exact absurd e (by decide)
   | [a]=>exact absurd e (by simp only [List.length_cons,List.length_nil];lia)
   | [a,b]=>exact absurd e (by simp only [List.length_cons,List.length_nil];lia)
   | [a,b,c]=>exact ⟨a,b,c,rfl⟩
   | a :: b :: c :: d :: l=>exact absurd e (by simp only [List.length_cons];lia)
  by_cases e1:u= "number"
  ·subst e1;obtain ⟨a,b,rfl⟩:=l2 (V.int.inj h);exact .inl ⟨a,b,rfl⟩
  by_cases e2:u= "text"
  ·subst e2;obtain ⟨a,rfl⟩:=l1 (V.int.inj h);exact .inr (.inl ⟨a,rfl⟩)
  by_cases e3:u= "choice"
  ·subst e3;obtain ⟨a,rfl⟩:=l1 (V.int.inj h);exact .inr (.inr (.inl ⟨a,rfl⟩))
  by_cases e4:u= "list"
  ·subst e4;obtain ⟨a,b,rfl⟩:=l2 (V.int.inj h);exact .inr (.inr (.inr (.inl ⟨a,b,rfl⟩)))
  by_cases e5:u= "record"
  ·subst e5;obtain ⟨a,rfl⟩:=l1 (V.int.inj h);exact .inr (.inr (.inr (.inr (.inl ⟨a,rfl⟩))))
  by_cases e6:u= "rows"
  ·subst e6;obtain ⟨a,b,c,rfl⟩:=l3 (V.int.inj h);exact .inr (.inr (.inr (.inr (.inr ⟨a,b,c,rfl⟩))))
  exfalso
  simp only [on,bq,e1,e2,e3,e4,e5,e6,if_false] at h
  cases h
 ·cases h
theorem vh:bq "number" [("number",3),("text",2),("choice",2),("list",3),("record",2),("rows",4)]=.int 3:=by decide +kernel
theorem vi:bq "text" [("number",3),("text",2),("choice",2),("list",3),("record",2),("rows",4)]=.int 2:=by decide +kernel
theorem vj:bq "choice" [("number",3),("text",2),("choice",2),("list",3),("record",2),("rows",4)]=.int 2:=by decide +kernel
theorem vk:bq "list" [("number",3),("text",2),("choice",2),("list",3),("record",2),("rows",4)]=.int 3:=by decide +kernel
theorem vm:bq "record" [("number",3),("text",2),("choice",2),("list",3),("record",2),("rows",4)]=.int 2:=by decide +kernel
theorem vn:bq "rows" [("number",3),("text",2),("choice",2),("list",3),("record",2),("rows",4)]=.int 4:=by decide +kernel
theorem mY {r:Nat} {d:Dt} (h:bR d=false):au r d=false:=by
 cases hb:au r d with
 | false=>rfl
 | true =>
  exfalso
  unfold au at hb
  split at hb
  ·cases hb
  ·rename_i u a
   split at hb
   ·subst_vars
    rw [show bR (.tup [.str "text",a])=true from decide_eq_true vi] at h
    cases h
   ·split at hb
    ·subst_vars
     rw [show bR (.tup [.str "choice",a])=true from decide_eq_true vj] at h
     cases h
    ·split at hb
     ·subst_vars
      rw [show bR (.tup [.str "record",a])=true from decide_eq_true vm] at h
      cases h
     ·cases hb
  ·rename_i u a b
   split at hb
   ·subst_vars
    rw [show bR (.tup [.str "number",a,b])=true from decide_eq_true vh] at h
    cases h
   ·split at hb
    ·subst_vars
     rw [show bR (.tup [.str "list",a,b])=true from decide_eq_true vk] at h
     cases h
    ·cases hb
  ·rename_i u a b c
   split at hb
   ·subst_vars
    rw [show bR (.tup [.str "rows",a,b,c])=true from decide_eq_true vn] at h
    cases h
   ·cases hb
  ·cases hb
theorem jN (T:Tx K mg ad) {f ff fr:Addr} {fd fdf fdr:FuncData} (n:Nat) (xG:Gn K mg "is_formed" bd ["thing","room"] f fd) (yN:Gn K mg "are_fields" aZ ["fields","room"] ff fdf) (y0:Gn K mg "are_rows" bW ["key","items","room"] fr fdr)
  (xJ:FnOk P w K mg base CX0 (3*n+3) f fd ["thing","room"] (lL K n)) (yO:FnOk P w K mg base CX0 (3*n+5) ff fdf ["fields","room"] (ou K n)) (yZ:FnOk P w K mg base CX0 (3*n+4) fr fdr ["key","items","room"] (rl K n)) :
  FnOk P w K mg base CX0 (3*n+5+1) f fd ["thing","room"] (lL K (n+1)):=by
 obtain ⟨_,_,yw⟩:=T.has_parts;have yT:=jM (P:=P) (w:=w) (base:=base) T yw;obtain ⟨_,_,xQ⟩:=T.are_bounds;have ye:=dO (P:=P) (w:=w) (base:=base) T xQ;obtain ⟨_,_,xC⟩:=T.is_whole_within;have xI:=bS (P:=P) (w:=w) (base:=base) T xC;obtain ⟨_,_,xU⟩:=T.are_words;have yg:=eK (P:=P) (w:=w) (base:=base) T xU;obtain ⟨t_MOST_SIGNS,c_MOST_SIGNS⟩:=T.MOST_SIGNS;obtain ⟨t_MOST_ITEMS,c_MOST_ITEMS⟩:=T.MOST_ITEMS;refine xG.F.ok sc_is_formed (fun vs H Q E h=>?_) (fun cdv A outer s H vs Q E hr h=>?_)
 ·obtain ⟨r,d,x,_,rfl,_⟩:=h
  rfl
 obtain ⟨r,d,x,hrn,rfl,hd,ok,q⟩:=h;refine ⟨_,(@pss_cons _ _ _ _ _ (@ps_if _ _ _ _ _ _ _ _ (PW.pt (@pw_or _ _ _ _ _ _ _ (pt_cmpR op_eq (pv 1) pe_int (nomark _)) (@pw_or1 _ _ _ _ (@pt_not _ _ _ _ (@pt_val _ _ _ (pcl yw yT (hr.mono (by lia)) rfl (@pa1 _ _ _ (pv 0) (by rfl))) (by intro _;rfl)))))) (@pss_one _ _ _ (@ps_ret _ _ _ _ pe_bl)) pss_nil) (@pss_cons _ _ _ _ _ (@ps_set _ _ 2 _ _ _ _ sc_is_formed.nd rfl (Or.inl rfl) (@pi1 K _ _ _ _ _ _ _ rfl (pv 0)) (by rfl) (by first | exact .inl rfl | exact .inr rfl | assumption)) (@pss_cons _ _ _ _ _ (@ps_if _ _ _ _ _ _ _ _ (pt_cmpR op_eq (pv 2) pe_str (nomark _)) (@pss_one _ _ _ (@ps_ret _ _ _ _ (pcl xQ ye (hr.mono (by lia)) rfl (@pa2 _ _ _ _ _ (@pi1 K _ _ _ _ _ _ _ rfl (pv 0)) (@pi1 K _ _ _ _ _ _ _ rfl (pv 0)) (by rfl) (by rfl))))) pss_nil) (@pss_cons _ _ _ _ _ (@ps_if _ _ _ _ _ _ _ _ (pt_cmpR op_eq (pv 2) pe_str (nomark _)) (@pss_one _ _ _ (@ps_ret _ _ _ _ (pcl xC xI (hr.mono (by lia)) rfl (@pa3 _ _ _ _ _ _ _ (@pi1 K _ _ _ _ _ _ _ rfl (pv 0)) pe_int (pe_gint rfl c_MOST_SIGNS) (by rfl) (by rfl) (by rfl))))) pss_nil) (@pss_cons _ _ _ _ _ (@ps_if _ _ _ _ _ _ _ _ (pt_cmpR op_eq (pv 2) pe_str (nomark _)) (@pss_one _ _ _ (@ps_ret _ _ _ _ (pcl xU yg (hr.mono (by lia)) rfl (@pa1 _ _ _ (@pi1 K _ _ _ _ _ _ _ rfl (pv 0)) (by rfl))))) pss_nil) (@pss_cons _ _ _ _ _ (@ps_if _ _ _ _ _ _ _ _ (pt_cmpR op_eq (pv 2) pe_str (nomark _)) (@pss_one _ _ _ (@ps_ret _ _ _ _ (pe_and (pcl xG xJ (hr.mono (by lia)) rfl (@pa2 _ _ _ _ _ (@pi1 K _ _ _ _ _ _ _ rfl (pv 0)) (@pe_op _ _ _ _ _ _ _ _ op_sub (pv 1) pe_int) (by rfl) (by rfl))) (pe_one (pcl xC xI (hr.mono (by lia)) rfl (@pa3 _ _ _ _ _ _ _ (@pi1 K _ _ _ _ _ _ _ rfl (pv 0)) pe_int (pe_gint rfl c_MOST_ITEMS) (by rfl) (by rfl) (by rfl))))))) pss_nil) (@pss_cons _ _ _ _ _ (@ps_if _ _ _ _ _ _ _ _ (pt_cmpR op_eq (pv 2) pe_str (nomark _)) (@pss_one _ _ _ (@ps_ret _ _ _ _ (pcl yN yO (hr.mono (by lia)) rfl (@pa2 _ _ _ _ _ (@pi1 K _ _ _ _ _ _ _ rfl (pv 0)) (@pe_op _ _ _ _ _ _ _ _ op_sub (pv 1) pe_int) (by rfl) (by rfl))))) pss_nil) (@pss_one _ _ _ (@ps_ret _ _ _ _ (pe_and (pcl y0 yZ (hr.mono (by lia)) rfl (@pa3 _ _ _ _ _ _ _ (@pi1 K _ _ _ _ _ _ _ rfl (pv 0)) (@pi1 K _ _ _ _ _ _ _ rfl (pv 0)) (@pe_op _ _ _ _ _ _ _ _ op_sub (pv 1) pe_int) (by rfl) (by rfl) (by rfl))) (pe_one (pcl xC xI (hr.mono (by lia)) rfl (@pa3 _ _ _ _ _ _ _ (@pi1 K _ _ _ _ _ _ _ rfl (pv 0)) pe_int (pe_gint rfl c_MOST_ITEMS) (by rfl) (by rfl) (by rfl)))))))))))))),?_⟩;refine ⟨_,rfl,rfl,_,rfl,?_⟩
 cases r with
 | zero =>
  rw [bc] at q;exact aH (ay (q H (Same.refl H)))
 | succ r =>
  refine iteN (fun z=>by have:=V.int.inj z;lia) ?_;have e1:(((r+1:Nat):Int)) - 1=(r:Int):=by lia
  refine ⟨_,rfl,d,x,rfl,hd,ok,_,rfl,?_⟩
  cases hb:bR d with
  | false =>
   rw [mY hb] at q;exact ay (q H (Same.refl H))
  | true =>
   refine aQ ?_;rcases lQ hb with ⟨a,b,rfl⟩ | ⟨a,rfl⟩ | ⟨a,rfl⟩ | ⟨a,b,rfl⟩ | ⟨a,rfl⟩ | ⟨a,b,c,rfl⟩
   ·refine ⟨_,rfl,_,_,_,hd,rfl,rfl,isS ?_⟩;refine ⟨_,rfl,rfl,_,rfl,aH ?_⟩;refine ⟨_,rfl,_,_,_,hd,rfl,rfl,fun va hva=>?_⟩;refine ⟨_,rfl,_,_,_,hd,rfl,rfl,fun vb hvb=>?_⟩;exact ⟨a,b,va,vb,rfl,hva,hvb,aV ok a (by simp),aV ok b (by simp),q H (Same.refl H)⟩
   ·refine ⟨_,rfl,_,_,_,hd,rfl,rfl,isS ?_⟩;refine ⟨_,rfl,rfl,_,rfl,iteN (ae (by decide)) ?_⟩;refine ⟨_,rfl,rfl,_,rfl,aH ?_⟩;refine ⟨_,rfl,_,_,_,hd,rfl,rfl,fun va hva=>?_⟩;exact ⟨a,va,0,60,rfl,hva,aV ok a (by simp),q H (Same.refl H)⟩
   ·refine ⟨_,rfl,_,_,_,hd,rfl,rfl,isS ?_⟩;refine ⟨_,rfl,rfl,_,rfl,iteN (ae (by decide)) ?_⟩;refine ⟨_,rfl,rfl,_,rfl,iteN (ae (by decide)) ?_⟩;refine ⟨_,rfl,rfl,_,rfl,aH ?_⟩;refine ⟨_,rfl,_,_,_,hd,rfl,rfl,fun va hva=>?_⟩;exact ⟨a,va,rfl,hva,aV ok a (by simp),q⟩
   ·replace q:∀ H',Same H H'→Q (.bl (au r a && bi b 0 8)) H':=q;refine ⟨_,rfl,_,_,_,hd,rfl,rfl,isS ?_⟩;refine ⟨_,rfl,rfl,_,rfl,iteN (ae (by decide)) ?_⟩;refine ⟨_,rfl,rfl,_,rfl,iteN (ae (by decide)) ?_⟩;refine ⟨_,rfl,rfl,_,rfl,iteN (ae (by decide)) ?_⟩;refine ⟨_,rfl,rfl,_,rfl,aH ?_⟩;refine ⟨_,rfl,_,_,_,hd,rfl,rfl,fun va hva=>?_⟩;refine ⟨_,rfl,_,_,rfl,rfl,r,a,va,by lia,(by show [va,V.int (((r+1:Nat):Int) - 1)]=_;rw [e1]),hva,aV ok a (by simp),fun H1 g1=>⟨_,rfl,?_⟩⟩
    cases hf:au r a with
    | false =>
     rw [hf,Bool.false_and] at q;exact aQ (q H1 g1)
    | true =>
     rw [hf,Bool.true_and] at q;refine ay ?_;refine ⟨_,rfl,_,_,_,hd.same g1,rfl,rfl,fun vb hvb=>?_⟩;exact ⟨b,vb,0,8,rfl,hvb,aV ok b (by simp),q H1 g1⟩
   ·refine ⟨_,rfl,_,_,_,hd,rfl,rfl,isS ?_⟩;refine ⟨_,rfl,rfl,_,rfl,iteN (ae (by decide)) ?_⟩;refine ⟨_,rfl,rfl,_,rfl,iteN (ae (by decide)) ?_⟩;refine ⟨_,rfl,rfl,_,rfl,iteN (ae (by decide)) ?_⟩;refine ⟨_,rfl,rfl,_,rfl,iteN (ae (by decide)) ?_⟩;refine ⟨_,rfl,rfl,_,rfl,aH ?_⟩;refine ⟨_,rfl,_,_,_,hd,rfl,rfl,fun va hva=>?_⟩;exact ⟨_,rfl,_,_,rfl,rfl,r,a,va,by lia,(by show [va,V.int (((r+1:Nat):Int) - 1)]=_;rw [e1]),hva,aV ok a (by simp),q⟩
   ·replace q:∀ H',Same H H'→Q (.bl (dN (au r) a b && bi c 0 8)) H':=q;refine ⟨_,rfl,_,_,_,hd,rfl,rfl,isS ?_⟩;refine ⟨_,rfl,rfl,_,rfl,iteN (ae (by decide)) ?_⟩;refine ⟨_,rfl,rfl,_,rfl,iteN (ae (by decide)) ?_⟩;refine ⟨_,rfl,rfl,_,rfl,iteN (ae (by decide)) ?_⟩;refine ⟨_,rfl,rfl,_,rfl,iteN (ae (by decide)) ?_⟩;refine ⟨_,rfl,rfl,_,rfl,iteN (ae (by decide)) ?_⟩;refine ⟨_,rfl,_,_,_,hd,rfl,rfl,fun va hva=>?_⟩;refine ⟨_,rfl,_,_,_,hd,rfl,rfl,fun vb hvb=>?_⟩;refine ⟨_,rfl,_,_,rfl,rfl,r,a,b,va,vb,by lia,(by show [va,vb,V.int (((r+1:Nat):Int) - 1)]=_;rw [e1]),hva,hvb,aV ok a (by simp),aV ok b (by simp),fun H1 g1=>⟨_,rfl,?_⟩⟩
    cases hf:dN (au r) a b with
    | false =>
     rw [hf,Bool.false_and] at q;exact aQ (q H1 g1)
    | true =>
     rw [hf,Bool.true_and] at q;refine ay ?_;refine ⟨_,rfl,_,_,_,hd.same g1,rfl,rfl,fun vc hvc=>?_⟩;exact ⟨c,vc,0,8,rfl,hvc,aV ok c (by simp),q H1 g1⟩
theorem gS (T:Tx K mg ad) {f ff fr fi:Addr} {fd fdf fdr fdi:FuncData} (A:Gn K mg "is_formed" bd ["thing","room"] f fd) (B:Gn K mg "are_fields" aZ ["fields","room"] ff fdf) (C:Gn K mg "are_rows" bW ["key","items","room"] fr fdr) (D:Gn K mg "is_field" bV ["field","room"] fi fdi) :
  ∀ n,FnOk P w K mg base CX0 (3*n+3) f fd ["thing","room"] (lL K n)
 | 0=>cg fun vs H Q E z=>by obtain ⟨_,_,_,e,_⟩:=z;lia
 | n+1=>by
  have a:=gS T A B C D n;exact jN T n A B C a (iw T n B D (lM T n D A a)) (lO T n C A a)
theorem sX {a c:Nat} {d:Dt} (h:FK a c d):∃ w l,d=.tup (.str w :: l):=by
 cases h <;> exact ⟨_,_,rfl⟩
theorem rp {K:PySem.W.Frag} {H:Hp} {z:Str} {d:Dt} {v:V} (h:IsP K H (prD (z,d)) v):∃ b y,v=.ref b∧SqT K H b [.str z,y]∧IsP K H d y:=by
 obtain ⟨b,ys,rfl,hb,pb,rb⟩:=h.unref
 cases rb with
 | cons r1 rb =>
  cases rb with
  | @cons _ _ y2 _ r2 rb =>
   cases rb
   obtain rfl:=am r1;exact ⟨b,_,rfl,hb,r2⟩
theorem eL {z:Str} (h:bh z=true):okD (.str z)=true:=by
 simp only [bh,Bool.and_eq_true,decide_eq_true_eq] at h;exact decide_eq_true (by lia)
theorem aq {ws:List Str} (h:aT ws=true):1≤ws.length∧ws.length≤8∧ws.all bh=true∧ws.Nodup:=by
 simp only [aT,Bool.and_eq_true,decide_eq_true_eq] at h;exact ⟨h.1.1.1,h.1.1.2,h.1.2,h.2⟩
theorem mZ {ws:List Str} (h:ws.Nodup):lI ws=ws.length:=by
 unfold lI L2.fu;rw [List.take_length,og,List.length_reverse,List.length_map];exact List.pairwise_reverse.mpr (List.Pairwise.map _ (fun a b n e=>n (Sum.inr.inj e).symm) h)
theorem gU {a b:Dt} (ha:okD a=true) (hb:okD b=true):okD (.tup [a,b])=true:=by
 show (okD a && (okD b && true))=true;rw [ha,hb]
 rfl
theorem wF {a c:Nat} {d:Dt} (h:FK a c d):okD d=true:=by
 induction h with
 | text i=>rfl
 | choice ws hw =>
  obtain ⟨_,_,hn,_⟩:=aq hw;refine gU (by decide +kernel) (dZ fun d hd=>?_);obtain ⟨z,hz,rfl⟩:=List.mem_map.mp hd;exact eL (List.all_eq_true.mp hn z hz)
 | number i j=>rfl
 | list g _ _ ih =>
  show (okD (.str "list") && (okD _ && (true && true)))=true;rw [ih]
  decide +kernel
 | @rows a c z l i g hz _ _ ih =>
  have hl:jE l=true:=by
   have:(okD (.str "record") && (jE l && true))=true:=ih;rw [Bool.and_eq_true,Bool.and_true] at this;exact this.2
  obtain ⟨w1,l1,hm,_⟩:=hz;have h2:(okD (.str z) && jE [.tup (.str w1 :: l1)])=true:=aV hl _ hm;rw [Bool.and_eq_true] at h2;show (okD (.str "rows") && (okD (.str z) && (okD (.tup [.str "record",.tup l]) && (true && true))))=true;rw [h2.1,ih]
  decide +kernel
 | @rcd gs g hs hn hl ih =>
  refine gU (by decide +kernel) (dZ fun d hd=>?_);obtain ⟨u,hu,rfl⟩:=List.mem_map.mp hd;exact gU (eL (hn u hu)) (ih u hu)
theorem vo {a c:Nat} {l:List Dt} (h:FK a c (.tup [.str "record",.tup l])):∃ gs:List G4,l=gs.map prG∧a=ir (gs.map (·.2.2.1))+1∧c=sumN (gs.map (·.2.2.2))+1∧(∀ g∈gs,FK g.2.2.1 g.2.2.2 g.2.1)∧(gs.map (·.1)).Pairwise ltS∧(∀ g∈gs,bh g.1=true)∧gs.length≤8:=by
 cases h with
 | rcd h1 h2 h3 h4=>exact ⟨_,rfl,rfl,rfl,h1,h2,(fun g hg=>(h3 g hg)),h4⟩
theorem wG {gs:List G4} (nd:(gs.map (·.1)).Pairwise ltS) {g:G4} (h:g∈gs):cU (gs.map prG) (.str g.1)=some g.2.1:=by
 obtain ⟨i,hi,e⟩:=List.mem_iff_getElem.mp h;have e1:gs[i]?=some g:=by rw [List.getElem?_eq_getElem hi,e]
 refine lN (i:=i) (o:=.str g.1) (by rw [List.getElem?_map,e1];rfl) (gH _) fun j d hj hf=>?_;rw [List.getElem?_map] at hf;obtain ⟨g',hg',rfl⟩:=Option.map_eq_some_iff.mp hf;have hjl:=(List.getElem?_eq_some_iff.mp hg').1;have nd':=rh nd;show (g'.1 == g.1)=false;rw [beq_eq_false_iff_ne];intro c;have f1:(gs.map (·.1))[j]'(by simpa using hjl)=g.1:=by
  rw [List.getElem_map,(List.getElem?_eq_some_iff.mp hg').2];exact c
 have f2:(gs.map (·.1))[i]'(by simpa using hi)=g.1:=by
  rw [List.getElem_map,(List.getElem?_eq_some_iff.mp e1).2]
 exact List.pairwise_iff_getElem.mp nd' j i (by simpa using hjl) (by simpa using hi) hj (f1.trans f2.symm)
theorem rq:∀ {ns:List Str},ns.Pairwise ltS→pH ns=true
 | [],_=>rfl
 | [_],_=>rfl
 | a :: b :: l,h=>by
  have h':=List.pairwise_cons.mp h;have:=rq h'.2;unfold pH at this ⊢;rw [List.drop_one,List.tail_cons,List.zip_cons_cons,List.all_cons,Bool.and_eq_true];exact ⟨decide_eq_true (h'.1 b List.mem_cons_self),this⟩
theorem ow {a c:Nat} {d:Dt} (h:FK a c d):∀ n,au n d=decide (a≤n):=by
 induction h with
 | text i h1 h2 =>
  intro n
  cases n with
  | zero=>rw [bc];rfl
  | succ n =>
   show bi (.int i) 0 60=_;simp [bi,h1,h2]
 | choice ws hw =>
  obtain ⟨h1,h2,hn,nd⟩:=aq hw;intro n
  cases n with
  | zero=>rw [bc];rfl
  | succ n =>
   show (decide (1≤(ws.map Dt.str).length) && decide ((ws.map Dt.str).length≤8) && (ws.map Dt.str).all a9 && decide (lI ((ws.map Dt.str).map pG)=(ws.map Dt.str).length))=_;have e1:(ws.map Dt.str).map pG=ws:=by rw [List.map_map];exact List.map_id _
   have e2:(ws.map Dt.str).all a9=true:=by rw [List.all_map];exact hn
   rw [e1,e2,List.length_map,mZ nd];simp [h1,h2]
 | number i j h1 h12 h2 =>
  intro n
  cases n with
  | zero=>rw [bc];rfl
  | succ n =>
   show (decide (-1000000000000000000000000000000≤i) && decide (i≤j) && decide (j≤1000000000000000000000000000000))=_;simp [h1,h12,h2]
 | @list a c k i g h1 h2 ih =>
  intro n
  cases n with
  | zero=>rw [bc];simp
  | succ n =>
   show (au n k && (decide ((0:Int)≤i) && decide (i≤8)))=_;rw [ih n];simp [h1,h2]
 | @rows a c z l i g hz h1 h2 ih =>
  intro n
  cases n with
  | zero=>rw [bc];simp
  | succ n =>
   show ((au n (.tup [.str "record",.tup l]) && (decide (Str.ofString "record" = "record") && oq (cU l (.str z)))) && (decide ((0:Int)≤i) && decide (i≤8)))=_;obtain ⟨gs,rfl,_,_,_,nd,_,_⟩:=vo g;obtain ⟨w1,l1,hm,hw⟩:=hz;obtain ⟨u,hu,eu⟩:=List.mem_map.mp hm;have e1:u.1=z:=by injection eu with e;injection e with e _;injection e
   have e2:u.2.1=.tup (.str w1 :: l1):=by injection eu with e;injection e with _ e;injection e
   have e3:=wG nd hu;rw [e1,e2] at e3;rw [ih n,e3,show oq (some (.tup (.str w1 :: l1)))=true by show (decide (w1= "number") || decide (w1= "text"))=true;simpa using hw];simp [h1,h2]
 | @rcd gs g hs hn hl ih =>
  intro n
  cases n with
  | zero=>rw [bc];simp
  | succ n =>
   show (decide ((gs.map prG).length≤8) && (gs.map prG).all (aN (au n)) && pH ((gs.map prG).map nmD))=_;have e1:(gs.map prG).map nmD=gs.map (·.1):=by rw [List.map_map];rfl
   have e2:(gs.map prG).all (aN (au n))=decide (ir (gs.map (·.2.2.1))≤n):=by
    rw [List.all_map,Bool.eq_iff_iff,List.all_eq_true,decide_eq_true_iff]
    constructor
    ·intro h;refine max_le fun m hm=>?_;obtain ⟨u,hu,rfl⟩:=List.mem_map.mp hm;have:=h u hu;have h':(bh u.1 && au n u.2.1)=true:=this;rw [Bool.and_eq_true,ih u hu n] at h';exact of_decide_eq_true h'.2
    ·intro h u hu;show (bh u.1 && au n u.2.1)=true;rw [(hn u hu),ih u hu n,Bool.true_and];exact decide_eq_true (Nat.le_trans (jD (List.mem_map.mpr ⟨u,hu,rfl⟩)) h)
   rw [e1,rq hs,e2,List.length_map,decide_eq_true hl];simp
structure Wi (a c:Nat) (ks:List (Dt×Nat×Nat)):Prop where
 deep:a=ir (ks.map (·.2.1))+1
 many:c=sumN (ks.map (·.2.2))+1
 each:∀ k∈ks,FK k.2.1 k.2.2 k.1
 few:ks.length≤8
def sY (K:PySem.W.Frag):Sp:=fun vs H Q _=>∃ (a c:Nat) (d:Dt) (x:V),vs=[x]∧IsP K H d x∧FK a c d∧∀ p ys ks H',Same H H'→H p=none→H' p=some (.lst ys)→IsPs K H' (ks.map (·.1)) ys→Wi a c ks→Q (.ref p) H'
abbrev fX (K:PySem.W.Frag) (_:Ads):Sp:=sY K
theorem rs {a c:Nat} {k:Dt} (g:FK a c k):Wi (a+1) (c+1) [(k,a,c)]:=⟨by show a+1=max a 0+1;lia,rfl,fun k' hk=>by rw [List.mem_singleton.mp hk];exact g,by show 1≤8;decide⟩
theorem jO:Wi 1 1 []:=⟨rfl,rfl,(fun k hk=>by cases hk),by decide⟩
theorem vp {gs:List G4} (g:∀ g∈gs,FK g.2.2.1 g.2.2.2 g.2.1) (hl:gs.length≤8):Wi (ir (gs.map (·.2.2.1))+1) (sumN (gs.map (·.2.2.2))+1) (gs.map (·.2)):=by
 refine ⟨by rw [List.map_map];rfl,by rw [List.map_map];rfl,fun k hk=>?_,by rw [List.length_map];exact hl⟩;obtain ⟨g0,h0,rfl⟩:=List.mem_map.mp hk;exact g g0 h0
theorem fY (T:Tx K mg ad) {f:Addr} {fd:FuncData} (F:Gn K mg "kinds_within" bX ["kind"] f fd):FnOk P w K mg base CX0 2 f fd ["kind"] (fX K ad):=by
 obtain ⟨_,_,yA⟩:=T.item_kind;have yS:=jL (P:=P) (w:=w) (base:=base) T yA;refine F.F.ok cX (fun vs H Q E h=>?_) (fun cdv A outer s H vs Q E hr h=>?_)
 ·obtain ⟨a0,c0,d,x,rfl,_⟩:=h
  rfl
 obtain ⟨a0,c0,d,x,rfl,hd,pk,q⟩:=h;refine ⟨_,(@pss_cons _ _ _ _ _ (@ps_if _ _ _ _ _ _ _ _ (pt_cmpR op_eq (@pi1 K _ _ _ _ _ _ _ rfl (pv 0)) pe_str (nomark _)) (@pss_one _ _ _ (@ps_ret _ _ _ _ (aI rfl (cs0 (NL:=["name","inner"]) rfl (by decide +kernel) (by decide +kernel)) (aP (K:=K) rfl (@pi1 K _ _ _ _ _ _ _ rfl (pv 0))) (fun _ _ _ _=>(ci (K:=K) (n:=2) rfl rfl (aC (aj (i:=0) (show List.Nodup (α:=Str) ["name","inner"] by decide +kernel) rfl (Or.inl rfl)) (aC (aj (i:=1) (show List.Nodup (α:=Str) ["name","inner"] by decide +kernel) rfl (Or.inl rfl)) bL)))) (fun _ _ _ _=>(pv 1))))) pss_nil) (@pss_cons _ _ _ _ _ (@ps_set _ _ 1 _ _ _ _ cX.nd rfl (Or.inl rfl) (pcl yA yS (hr.mono (by lia)) rfl (@pa1 _ _ _ (pv 0) (by rfl))) (by rfl) (by first | exact .inl rfl | exact .inr rfl | assumption)) (@pss_one _ _ _ (@ps_ret _ _ _ _ (gq (pt_cmpR qc (pv 1) pe_non (nomark _)) (@bt _ _ _ _ cY) (@bt _ _ _ _ (@pa1 _ _ _ (pv 1) (by rfl)))))))),?_⟩
 cases pk
 case rcd gs g hs hnm hl =>
  refine ⟨_,rfl,_,_,_,hd,rfl,rfl,isS ?_⟩;refine ⟨rfl,_,rfl,aH ?_⟩;refine ⟨_,rfl,_,_,_,hd,rfl,rfl,fun v hv=>?_⟩;obtain ⟨a,xs,rfl,ha,pa,ra⟩:=id hv.unref;have el:=ra.length;rw [List.length_map] at el;refine ⟨a,rfl,⟨_,ha⟩,fun l hln=>?_⟩;refine aG (K:=K) (xs:=xs) (fun i ys σ H'=>Same H H'∧H' l=some (.lst ys)∧IsPs K H' ((gs.take i).map (·.2.1)) ys∧σ.length=2) ⟨ag hln _,ac,.nil,rfl⟩ (fun i ys σ H' _ r=>r.1.tup ha) ?_ ?_
  ·rintro i y ys σ H1 N hy ⟨g1,e1,hp1,hσ⟩ next;obtain ⟨d1,hdi,hp⟩:=ra.get' hy;rw [List.getElem?_map] at hdi;obtain ⟨⟨z,k,u1,u2⟩,hfi,rfl⟩:=Option.map_eq_some_iff.mp hdi;obtain ⟨b,y2,rfl,hb,hp2⟩:=rp (hp.same g1);have ly:=hp1.length;rw [List.length_map,List.length_take] at ly
   match σ,hσ with
   | [_,_],_ =>
    refine ⟨b,_,rfl,hb,rfl,_,_,rfl,_,_,rfl,rfl,?_⟩;refine ⟨_,rfl,e1,ai (by lia),next _ _ _ ⟨az hln g1,ac,?_,rfl⟩⟩;have e:(gs.take (i+1)).map (·.2.1)=(gs.take i).map (·.2.1)++[k]:=by rw [List.take_add_one,hfi,List.map_append];rfl
    rw [e];have bb:But l H1 (upd H1 l (.lst (ys++[y2]))):=But.put;exact (hp1.append (.cons hp2 .nil)).but e1 bb
  ·rintro ys σ H1 ⟨g1,e1,hp1,_⟩;rw [← el,List.take_length] at hp1;refine q l ys (gs.map (·.2)) H1 g1 hln e1 (by rw [List.map_map];exact hp1) (vp g hl)
 case list a1 c1 k i g h1 h2 =>
  refine ⟨_,rfl,_,_,_,hd,rfl,rfl,isS ?_⟩;refine ⟨rfl,_,rfl,iteN (ae (by decide)) ?_⟩;refine ⟨_,rfl,_,_,_,x,rfl,hd,.list g h1 h2,fun v hv=>?_⟩;refine ⟨_,rfl,rfl,_,rfl,iteN (by obtain ⟨w0,l,rfl⟩:=sX g;obtain ⟨a,_,rfl,_⟩:=hv.unref;intro e;cases e) ?_⟩;exact ⟨_,rfl,sz1,fun p hp=>q p _ [(k,a1,c1)] _ (ag hp _) hp ac (.cons (hv.same (ag hp _)) .nil) (rs g)⟩
 case rows a1 c1 z l i g hz h1 h2 =>
  refine ⟨_,rfl,_,_,_,hd,rfl,rfl,isS ?_⟩;refine ⟨rfl,_,rfl,iteN (ae (by decide)) ?_⟩;refine ⟨_,rfl,_,_,_,x,rfl,hd,.rows g hz h1 h2,fun v hv=>?_⟩;refine ⟨_,rfl,rfl,_,rfl,iteN (by obtain ⟨a,_,rfl,_⟩:=hv.unref;intro e;cases e) ?_⟩;exact ⟨_,rfl,sz1,fun p hp=>q p _ [(_,a1,c1)] _ (ag hp _) hp ac (.cons (hv.same (ag hp _)) .nil) (rs g)⟩
 case text i h1 h2 =>
  refine ⟨_,rfl,_,_,_,hd,rfl,rfl,isS ?_⟩;refine ⟨rfl,_,rfl,iteN (ae (by decide)) ?_⟩;refine ⟨_,rfl,_,_,_,x,rfl,hd,.text i h1 h2,?_⟩;exact ⟨_,rfl,rfl,_,rfl,aH ⟨(by show 0≤sizeLine;decide),fun p hp=>q p _ [] _ (ag hp _) hp ac .nil jO⟩⟩
 case choice ws h1 =>
  refine ⟨_,rfl,_,_,_,hd,rfl,rfl,isS ?_⟩;refine ⟨rfl,_,rfl,iteN (ae (by decide)) ?_⟩;refine ⟨_,rfl,_,_,_,x,rfl,hd,.choice ws h1,?_⟩;exact ⟨_,rfl,rfl,_,rfl,aH ⟨(by show 0≤sizeLine;decide),fun p hp=>q p _ [] _ (ag hp _) hp ac .nil jO⟩⟩
 case number i j h1 h12 h2 =>
  refine ⟨_,rfl,_,_,_,hd,rfl,rfl,isS ?_⟩;refine ⟨rfl,_,rfl,iteN (ae (by decide)) ?_⟩;refine ⟨_,rfl,_,_,_,x,rfl,hd,.number i j h1 h12 h2,?_⟩;exact ⟨_,rfl,rfl,_,rfl,aH ⟨(by show 0≤sizeLine;decide),fun p hp=>q p _ [] _ (ag hp _) hp ac .nil jO⟩⟩
def rA (K:PySem.W.Frag) (n:Nat):Sp:=fun vs H Q _=>∃ (a c:Nat) (d:Dt) (x:V),a≤n∧vs=[x]∧IsP K H d x∧FK a c d∧∀ H',Same H H'→Q (.int c) H'
theorem ox:∀ l:List Nat,(l.map fun n:Nat=>(n:Int)).sum=((sumN l:Nat):Int)
 | []=>rfl
 | n :: l=>by
  rw [List.map_cons,List.sum_cons,ox l];show _=((n+sumN l:Nat):Int);lia
theorem jP (T:Tx K mg ad) {f:Addr} {fd:FuncData} (n:Nat) (xT:Gn K mg "kind_many" cm ["kind"] f fd) (yf:FnOk P w K mg base CX0 (n+3) f fd ["kind"] (rA K n)):FnOk P w K mg base CX0 (n+3+1) f fd ["kind"] (rA K (n+1)):=by
 obtain ⟨_,_,yj⟩:=T.kinds_within;have yG:=fY (P:=P) (w:=w) (base:=base) T yj;refine xT.F.ok ky (fun vs H Q E h=>?_) (fun cdv A outer s H vs Q E hr h=>?_)
 ·obtain ⟨a0,c0,d,x,_,rfl,_⟩:=h
  rfl
 obtain ⟨a0,c0,d,x,hle,rfl,hd,pk,q⟩:=h;refine ⟨_,(@pss_one _ _ _ (@ps_ret _ _ _ _ (@pe_op _ _ _ _ _ _ _ _ a7 pe_int (pe_callB qr rfl T.z_sum boot_sum (@pa1 _ _ _ (aI rfl (cs0 (NL:=["inner"]) rfl (by decide +kernel) (by decide +kernel)) (da (K:=K) rfl (pcl yj yG (hr.mono (by lia)) rfl (@pa1 _ _ _ (pv 0) (by rfl)))) (fun _ _ _ _=>(aj (i:=0) (show List.Nodup (α:=Str) ["inner"] by decide +kernel) rfl (Or.inl rfl))) (fun _ _ _ _=>(pcl xT yf (hr.mono (by lia)) rfl (@pa1 _ _ _ (pv 0) (by rfl))))) (by rfl)))))),?_⟩;refine ⟨_,rfl,a0,c0,d,x,rfl,hd,pk,fun p ys ks H1 g1 hpn e1 hks wi=>?_⟩;have ly:=hks.length;rw [List.length_map] at ly;have few:=wi.few;refine ⟨p,rfl,⟨_,SqL.of e1⟩,fun l hln=>?_⟩;refine dX (K:=K) (xs:=ys) (fun i us σ H'=>us=((ks.take i).map fun k=>V.int (k.2.2:Nat))∧Same H1 H'∧H' l=some (.lst us)∧σ.length=1) ⟨rfl,ag hln _,ac,rfl⟩ (fun i us σ H' _ r=>SqL.of (r.2.1 _ _ e1)) ?_ ?_
 ·rintro i y us σ H2 N hy ⟨rfl,g2,e2,hσ⟩ next;obtain ⟨k0,hk0,hp⟩:=hks.get' hy;rw [List.getElem?_map] at hk0;obtain ⟨k,hk,rfl⟩:=Option.map_eq_some_iff.mp hk0;have mem:=List.mem_of_getElem? hk;have dl:=jD (List.mem_map.mpr ⟨k,mem,rfl⟩:k.2.1∈ks.map (·.2.1));have dd:=wi.deep
  match σ,hσ with
  | [_],_ =>
   refine ⟨_,rfl,k.2.1,k.2.2,k.1,y,by lia,rfl,hp.same g2,wi.each k mem,fun H3 g3=>⟨g3 _ _ e2,?_,next _ _ _ ⟨bw (fun k:Dt×Nat×Nat=>V.int (k.2.2:Nat)) hk,az hln (g2.trans g3),ac,rfl⟩⟩⟩;rw [List.length_map,List.length_take];exact ai (by lia)
 ·rintro us σ H2 ⟨rfl,g2,e2,_⟩;rw [← ly,List.take_length] at e2;have e2':H2 l=some (.lst (((ks.map (·.2.2)).map fun n:Nat=>(n:Int)).map V.int)):=by rw [e2,List.map_map,List.map_map];rfl
  refine ⟨l,_,rfl,rfl,SqL.of e2',_,_,rfl,rfl,?_⟩;rw [ox];show Q (.int ((1:Int)+((sumN (ks.map (·.2.2)):Nat):Int))) H2;have e:(1:Int)+((sumN (ks.map (·.2.2)):Nat):Int)=((c0:Nat):Int):=by rw [wi.many];lia
  rw [e];exact q H2 (g1.trans g2)
theorem lR (T:Tx K mg ad) {f:Addr} {fd:FuncData} (A:Gn K mg "kind_many" cm ["kind"] f fd):∀ n,FnOk P w K mg base CX0 (n+3) f fd ["kind"] (rA K n)
 | 0=>cg fun vs H Q E z=>by obtain ⟨_,_,_,_,h,_,_,pk,_⟩:=z;have:=pk.pos;lia
 | n+1=>jP T n A (lR T A n)
def jQ (K:PySem.W.Frag) (ad:Ads):Sp:=fun vs H Q E=>∃ (d:Dt) (x:V),vs=[x]∧IsP K H d x∧okD d=true ∧
 ((au 5 d=false∧∀ H',Same H H'→E (.ref ad.BadKind) none H')∨(∃ a c,FK a c d∧a≤5∧(c≤40→∀ H',Same H H'→Q x H')∧(40 < c→∀ H',Same H H'→E (.ref ad.BadKind) none H')))
theorem jR (T:Tx K mg ad) {f:Addr} {fd:FuncData} (F:Gn K mg "made_kind" dj ["kind"] f fd):FnOk P w K mg base (CXE P w) 22 f fd ["kind"] (jQ K ad):=by
 obtain ⟨_,_,xG⟩:=T.is_formed;obtain ⟨f1,d1,D1⟩:=T.are_fields;obtain ⟨f2,d2,D2⟩:=T.are_rows;obtain ⟨f3,d3,D3⟩:=T.is_field;have xJ:=gS (P:=P) (w:=w) (base:=base) T xG D1 D2 D3 6;obtain ⟨_,_,xT⟩:=T.kind_many;have yf:=lR (P:=P) (w:=w) (base:=base) T xT 5;obtain ⟨t_DEEPEST,c_DEEPEST⟩:=T.DEEPEST;obtain ⟨t_MOST_KINDS,c_MOST_KINDS⟩:=T.MOST_KINDS;refine F.F.okE kt (fun vs H Q E h=>?_) (fun cdv A outer s H vs Q E hr h=>?_)
 ·obtain ⟨d,x,rfl,_⟩:=h
  rfl
 obtain ⟨d,x,rfl,hd,ok,q⟩:=h;refine ⟨_,(@pss_cons _ _ _ _ _ (@ps_if _ _ _ _ _ _ _ _ (@pt_not _ _ _ _ (@pt_val _ _ _ (pcl xG xJ (hr.mono (by lia)) rfl (@pa2 _ _ _ _ _ (pv 0) (pe_gint rfl c_DEEPEST) (by rfl) (by rfl))) (by intro _;rfl))) (@pss_one _ _ _ (ps_raise xeOf rfl rfl rfl rfl T.x_BadKind rfl (@pa1 _ _ _ pe_str (by rfl)))) pss_nil) (@pss_cons _ _ _ _ _ (@ps_if _ _ _ _ _ _ _ _ (pt_cmpR op_gt (pcl xT yf (hr.mono (by lia)) rfl (@pa1 _ _ _ (pv 0) (by rfl))) (pe_gint rfl c_MOST_KINDS) (nomark _)) (@pss_one _ _ _ (ps_raise xeOf rfl rfl rfl rfl T.x_BadKind rfl (@pa1 _ _ _ pe_str (by rfl)))) pss_nil) (@pss_one _ _ _ (@ps_ret _ _ _ _ (pv 0))))),?_⟩;refine ⟨_,rfl,5,d,x,by decide,rfl,hd,ok,fun H1 g1=>⟨_,rfl,?_⟩⟩;rcases q with ⟨bad,q⟩ | ⟨a,c,fk,ha,q1,q2⟩
 ·rw [bad];exact ay ⟨sz1,q H1 g1⟩
 ·rw [ow fk,decide_eq_true ha];refine aQ ?_;refine ⟨_,rfl,a,c,d,x,ha,rfl,hd.same g1,fk,fun H2 g2=>⟨_,_,rfl,rfl,_,rfl,ar (fun c1=>?_) (fun c1=>?_)⟩⟩
  ·have c':((c:Nat):Int) > 40:=of_decide_eq_true c1;exact ⟨sz1,q2 (by lia) H2 (g1.trans g2)⟩
  ·have c':¬ ((c:Nat):Int) > 40:=fun z=>c1 (decide_eq_true z);exact ⟨_,rfl,q1 (by lia) H2 (g1.trans g2)⟩
def iz (K:PySem.W.Frag) (_:Ads):Sp:=fun vs H Q _=>∃ (a:Addr) (ns:List Int) (k:Int),vs=[.ref a,.int k]∧SqL K H a (ns.map V.int)∧ns.length≤64∧0≤k∧k < 1000 ∧
 ∀ r n H',H r=none→Same H H'→H' r=some (.lst [.int n])→Q (.ref r) H'
theorem jS (T:Tx K mg ad) {f:Addr} {fd:FuncData} (F:Gn K mg "_law_mixed" dA ["cell","k"] f fd):FnOk P w K mg base CX0 1 f fd ["cell","k"] (jJ K ad):=by
 refine F.F.ok fc (fun vs H Q E h=>?_) (fun cdv A outer s H vs Q E hr h=>?_)
 ·obtain ⟨i,k,rfl,_⟩:=h
  rfl
 obtain ⟨i,k,rfl,q⟩:=h;refine ⟨_,(@pss_cons _ _ _ _ _ (@ps_set _ _ 2 _ _ _ _ fc.nd rfl (Or.inl rfl) (@pe_op _ _ _ _ _ _ _ _ cq (@pe_op _ _ _ _ _ _ _ _ cp (@pe_op _ _ _ _ _ _ _ _ a7 (@pe_op _ _ _ _ _ _ _ _ a7 (@pe_op _ _ _ _ _ _ _ _ cq (pv 0) pe_int) (@pe_op _ _ _ _ _ _ _ _ cp pe_int (pv 1))) pe_int) pe_int) pe_int) (by rfl) (by first | exact .inl rfl | exact .inr rfl | assumption)) (@pss_one _ _ _ (@ps_ret _ _ _ _ (@pe_op _ _ _ _ _ _ _ _ cq (@pe_op _ _ _ _ _ _ _ _ cp (@pe_op _ _ _ _ _ _ _ _ cq (@pe_op _ _ _ _ _ _ _ _ cp (pv 2) (pv 2)) pe_int) pe_int) pe_int)))),?_⟩;refine ⟨_,rfl,_,_,rfl,rfl,(by show (0:Int) < 1000000007;decide),_,rfl,_,_,rfl,rfl,.inl ⟨by decide,by decide⟩,_,_,rfl,rfl,_,_,rfl,rfl,_,_,rfl,rfl,.inr ⟨by decide,by decide⟩,_,_,rfl,rfl,(by show (0:Int) < 2147483647;decide),?_⟩;have b0:(0:Int)≤(i % 1000000007+7919*k+1)*48271 % 2147483647:=Int.emod_nonneg _ (by decide);have b1:(i % 1000000007+7919*k+1)*48271 % 2147483647 < 2147483647:=Int.emod_lt_of_pos _ (by decide);exact ⟨_,rfl,_,rfl,_,_,rfl,rfl,.inl ⟨by lia,by lia⟩,_,_,rfl,rfl,(by show (0:Int) < 2147483629;decide),_,_,rfl,rfl,.inr ⟨by decide,by decide⟩,_,_,rfl,rfl,(by show (0:Int) < 2147483647;decide),q _⟩
theorem bN (T:Tx K mg ad) {f:Addr} {fd:FuncData} (F:Gn K mg "_law_digit" dB ["row","many"] f fd):FnOk P w K mg base CX0 1 f fd ["row","many"] (jK K ad):=by
 refine F.F.ok fe (fun vs H Q E h=>?_) (fun cdv A outer s H vs Q E hr h=>?_)
 ·obtain ⟨r,n,m,rfl,_⟩:=h
  rfl
 obtain ⟨r,n,m,rfl,hr0,h0,h1,q⟩:=h;refine ⟨_,(@pss_cons _ _ _ _ _ (@ps_set _ _ 2 _ _ _ _ fe.nd rfl (Or.inl rfl) (@pe_op _ _ _ _ _ _ _ _ cq (@bf _ _ _ _ _ _ _ (aS (K:=K) rfl) (pv 0) pe_int (fun _ _=>rfl)) (pv 1)) (by rfl) (by first | exact .inl rfl | exact .inr rfl | assumption)) (@pss_cons _ _ _ _ _ (uy (@pe_op _ _ _ _ _ _ _ _ c7 (@bf _ _ _ _ _ _ _ (aS (K:=K) rfl) (pv 0) pe_int (fun _ _=>rfl)) (pv 1)) (ux (pv 0) pe_int qi)) (@pss_one _ _ _ (@ps_ret _ _ _ _ (pv 2))))),?_⟩;have e0:atI [V.int n] 0=some (.int n):=rfl;exact ⟨_,rfl,r,_,_,_,rfl,rfl,SqL.of hr0,e0,_,rfl,_,_,rfl,rfl,h0,_,rfl,r,_,_,_,rfl,rfl,SqL.of hr0,e0,_,rfl,_,_,rfl,rfl,⟨h0,h1⟩,_,rfl,r,_,_,_,rfl,rfl,hr0,rfl,_,rfl,q⟩
theorem wH {α:Type} {xs:List α} {d:Int} (h0:0≤d) (h1:d < (xs.length:Int)):∃ v,v∈xs∧atI xs d=some v:=by
 have hk:d.toNat < xs.length:=by lia
 have ek:((d.toNat:Nat):Int)=d:=by lia
 have e:atI xs ((d.toNat:Nat):Int)=some xs[d.toNat]:=cJ (by simp [hk]);rw [ek] at e;exact ⟨xs[d.toNat],List.getElem_mem hk,e⟩
theorem mod_lt (n:Int) {m:Int} (h:0 < m):0≤n % m∧n % m < m:=⟨Int.emod_nonneg _ (by lia),Int.emod_lt_of_pos _ h⟩
theorem vq (x:Int):Builtin.Int.intBits (x % 10 ^ (60:Int).toNat)≤200:=by
 have h0:(0:Int) < 10 ^ (60:Int).toNat:=by decide +kernel
 refine sI (Int.emod_nonneg _ (Int.ne_of_gt h0)) (Int.lt_trans (Int.emod_lt_of_pos _ h0) ?_)
 decide +kernel
theorem oy:Builtin.Int.intBits ((10:Int) ^ (60:Int).toNat)≤200:=by decide +kernel
theorem m7 {lo c:Int} {n:Nat} {g:TG} {tb:TS} {D:Ends} {σ:L2.St} {H:Hp} (Pv:Nat→L2.St→Hp→Prop) (h0:Pv 0 σ H)
  (hs:∀ i σ H,i < n→Pv i σ H→g (.int (lo+i*c)) σ H fun σ2 H2=>tb { D with nx:=Pv (i+1),ct:=Pv (i+1),bk:=D.nx } σ2 H2) (hd:∀ σ H,Pv n σ H→D.nx σ H) :
  ∃ W:Nat→Nat→L2.St→Hp→Prop,(∃ m,W 0 m σ H)∧∀ i m σ H,W i m σ H →
   ((qF lo c n).stop i H∧D.nx σ H)∨((qF lo c n).go i H∧∃ N:L2.St→Hp→Prop,(∀ σ' H',N σ' H'→∃ m',m' < m∧W (i+1) m' σ' H')∧∀ x H',(qF lo c n).yld i H x H'→g x σ H' fun σ2 H2=>tb { D with nx:=N,ct:=N,bk:=D.nx } σ2 H2):=by
 refine ⟨fun i m σ H=>m=n - i∧i≤n∧Pv i σ H,⟨n,by simp,Nat.zero_le _,h0⟩,?_⟩;rintro i m σ H ⟨rfl,hi,p⟩
 by_cases hlt:i < n
 ·refine .inr ⟨hlt,Pv (i+1),fun σ' H' p'=>⟨n - (i+1),by lia,rfl,hlt,p'⟩,fun x H' y=>?_⟩;obtain ⟨e,y⟩:=y;subst e y;exact hs i σ _ hlt p
 ·have e:i=n:=by lia
  subst e;exact .inl ⟨Nat.le_refl _,hd σ H p⟩
theorem iA (T:Tx K mg ad) {f:Addr} {fd:FuncData} (F:Gn K mg "_law_stream" cR ["script","k"] f fd):FnOk P w K mg base CX0 2 f fd ["script","k"] (iz K ad):=by
 obtain ⟨_,_,yv⟩:=T.law_mixed;have yW:=jS (P:=P) (w:=w) (base:=base) T yv;refine F.F.ok aO (fun vs H Q E h=>?_) (fun cdv A outer s H vs Q E hr h=>?_)
 ·obtain ⟨a,ns,k,rfl,_⟩:=h
  rfl
 obtain ⟨a,ns,k,rfl,hS,h63,h0,h1,q⟩:=h;refine ⟨_,(@pss_cons _ _ _ _ _ (@ps_set _ _ 2 _ _ _ _ aO.nd rfl (Or.inl rfl) pe_int (by rfl) (by first | exact .inl rfl | exact .inr rfl | assumption)) (@pss_cons _ _ _ _ _ (cH PassesOwn.never rfl (pi rfl T.z_range (@pa3 _ _ _ _ _ _ _ (pv 1) (pe_callB (aM (K:=K) rfl) rfl T.z_len PySem.boot_len (@pa1 _ _ _ (pv 0) (by rfl))) pe_int (by rfl) (by rfl) (by rfl))) (aj (i:=3) aO.nd rfl (Or.inl rfl))
    (@pss_one _ _ _ (@ps_set _ _ 2 _ _ _ _ aO.nd rfl (Or.inl rfl) (@pe_op _ _ _ _ _ _ _ _ a7 (@pe_op _ _ _ _ _ _ _ _ sG (pv 2) (@pe_op _ _ _ _ _ _ _ _ op_pow pe_int pe_int)) (@pe_op _ _ _ _ _ _ _ _ cq (@bf _ _ _ _ _ _ _ (aS (K:=K) rfl) (pv 0) (pv 3) (fun _ _=>rfl)) (@pe_op _ _ _ _ _ _ _ _ op_pow pe_int pe_int))) (by rfl) (by first | exact .inl rfl | exact .inr rfl | assumption)))) (@pss_cons _ _ _ _ _ (@ps_if _ _ _ _ _ _ _ _ (pt_cmpR qb (pv 2) (@pe_op _ _ _ _ _ _ _ _ op_pow pe_int pe_int) (nomark _)) (@pss_one _ _ _ (@ps_ret _ _ _ _ (@bt _ _ _ _ (@pa1 _ _ _ (pv 2) (by rfl))))) pss_nil) (@pss_cons _ _ _ _ _ (@ps_set _ _ 4 _ _ _ _ aO.nd rfl (Or.inl rfl) pe_int (by rfl) (by first | exact .inl rfl | exact .inr rfl | assumption)) (@pss_cons _ _ _ _ _ (cH PassesOwn.never rfl (bQ rfl T.z_range (@pa1 _ _ _ pe_int (by rfl))) (aj (i:=3) aO.nd rfl (Or.inl rfl))
    (@pss_one _ _ _ (@ps_set _ _ 4 _ _ _ _ aO.nd rfl (Or.inl rfl) (@pe_op _ _ _ _ _ _ _ _ a7 (@pe_op _ _ _ _ _ _ _ _ cp (pv 4) pe_int) (pcl yv yW (hr.mono (by lia)) rfl (@pa2 _ _ _ _ _ (@pe_op _ _ _ _ _ _ _ _ a7 (@pe_op _ _ _ _ _ _ _ _ a7 (pv 2) (@pe_op _ _ _ _ _ _ _ _ cp pe_int (pv 1))) (pe_callB (aM (K:=K) rfl) rfl T.z_len PySem.boot_len (@pa1 _ _ _ (pv 0) (by rfl)))) (pv 3) (by rfl) (by rfl)))) (by rfl) (by first | exact .inl rfl | exact .inr rfl | assumption)))) (@pss_one _ _ _ (@ps_ret _ _ _ _ (@bt _ _ _ _ (@pa1 _ _ _ (@pe_op _ _ _ _ _ _ _ _ c7 (pv 4) pe_int) (by rfl)))))))))),?_⟩
 have hlen:(ns.map V.int).length=ns.length:=List.length_map _;have hn:rngN k ns.length 9≤64:=by
  have:=n6 (a:=k) (b:=ns.length) (c:=9) (by decide)
  split at this <;> lia
 refine ⟨_,rfl,_,rfl,a,_,rfl,.inl hS,_,_,_,rfl,⟨h0,by lia,by lia,by rw [hlen];lia,by decide,by decide⟩,?_⟩;rw [hlen];refine m7 (lo:=k) (c:=9) (n:=rngN k ns.length 9) (fun i σ H'=>H'=H∧∃ x v,Builtin.Int.intBits x≤1+402*i∧σ=[some (.ref a),some (.int k),some (.int x),v,none]) ⟨rfl,0,none,by decide,rfl⟩ ?_ ?_
 ·rintro i σ H' hi ⟨rfl,x,v,hx,rfl⟩;have hlt:=sH (a:=k) (b:=ns.length) (c:=9) (by decide) hi;have hk:(k+i*9).toNat < ns.length:=by lia
  have ek:(((k+i*9).toNat:Nat):Int)=k+i*9:=by lia
  have e:atI (ns.map V.int) (((k+i*9).toNat:Nat):Int)=some (.int ns[(k+i*9).toNat]):=cJ (by simp [hk]);rw [ek] at e;refine ⟨_,rfl,_,_,rfl,rfl,⟨by decide,by decide,by decide⟩,_,_,rfl,rfl,mulOk_of_bits (m:=1+402*i) (n:=200) hx oy (by lia),?_⟩;refine ⟨_,rfl,_,rfl,a,_,_,_,rfl,rfl,hS,e,_,_,rfl,rfl,⟨by decide,by decide,by decide⟩,_,_,rfl,rfl,(by show (0:Int) < 10 ^ (60:Int).toNat;decide +kernel),_,_,rfl,rfl,?_⟩;refine ⟨rfl,_,_,?_,rfl⟩;refine Nat.le_trans (intBits_add_le (intBits_mul_le hx oy) (vq _)) ?_;lia
 ·rintro σ H' ⟨rfl,x,v,hx,rfl⟩;refine ⟨_,rfl,_,_,rfl,rfl,⟨by decide,by decide,by decide⟩,_,_,rfl,rfl,_,rfl,?_⟩;refine ar (fun c1=>?_) (fun c1=>?_)
  ·exact ⟨_,rfl,sz1,fun r hr'=>q r x _ hr' (ag hr' _) ac⟩
  refine ⟨9,rfl,by decide,by decide,fg (lo:=0) (n:=(9:Int).toNat) (fun i σ H1=>H1=H'∧∃ y v,σ=[some (.ref a),some (.int k),some (.int x),v,some (.int y)]) ⟨rfl,0,_,rfl⟩ ?_ ?_⟩
  ·rintro i σ H1 hi ⟨rfl,y,v,rfl⟩;refine ⟨_,rfl,_,_,rfl,rfl,.inr ⟨by decide,by decide⟩,?_⟩;refine ⟨_,rfl,_,rfl,_,_,rfl,rfl,.inl ⟨by decide,by decide⟩,_,_,rfl,rfl,_,rfl,a,_,rfl,.inl hS,_,_,rfl,rfl,_,rfl,_,_,rfl,fun m=>?_⟩;exact ⟨_,_,rfl,rfl,rfl,_,_,rfl⟩
  ·rintro σ H1 ⟨rfl,y,v,rfl⟩;exact ⟨_,rfl,_,_,rfl,rfl,⟨by decide,by decide⟩,sz1,fun r hr'=>q r _ _ hr' (ag hr' _) ac⟩
def cb:Nat→Nat
 | 0=>1
 | n+1=>2*cb n+1
theorem m8:∀ n,1≤cb n
 | 0=>Nat.le_refl 1
 | n+1=>by show 1≤2*cb n+1;lia
def GK (n:Nat) (d:Dt):Prop:=∃ a c,FK a c d∧a≤n+1∧c≤cb n
theorem GK.text (n:Nat) (i:Int) (h1:0≤i) (h2:i≤60):GK n (.tup [.str "text",.int i]):=⟨1,1,.text i h1 h2,by lia,m8 n⟩
theorem GK.choice (n:Nat) (ws:List Str) (h:aT ws=true):GK n (.tup [.str "choice",.tup (ws.map Dt.str)]):=⟨1,1,.choice ws h,by lia,m8 n⟩
theorem GK.number (n:Nat) (i j:Int) (h1:-1000000000000000000000000000000≤i) (h2:i≤j) (h3:j≤1000000000000000000000000000000):GK n (.tup [.str "number",.int i,.int j]):=⟨1,1,.number i j h1 h2 h3,by lia,m8 n⟩
theorem GK.list {n:Nat} {k:Dt} {i:Int} (g:GK n k) (h1:0≤i) (h2:i≤8):GK (n+1) (.tup [.str "list",k,.int i]):=by
 obtain ⟨a,c,fk,ha,hc⟩:=g;exact ⟨a+1,c+1,.list fk h1 h2,by lia,(by show c+1≤2*cb n+1;lia)⟩
theorem rB {ns:List Int} {d:Int} (h0:0≤d) (h1:d < (ns.length:Int)):∃ i:Int,i∈ns∧atI (ns.map V.int) d=some (.int i):=by
 obtain ⟨v,hv,e⟩:=wH (xs:=ns.map V.int) h0 (by rw [List.length_map];exact h1);obtain ⟨i,hi,rfl⟩:=List.mem_map.mp hv;exact ⟨i,hi,e⟩
theorem wI:(10:Int) ^ (30:Int).toNat=1000000000000000000000000000000:=by decide +kernel
theorem vt:∀ k:Fin 3,∃ ws:List Str,aT ws=true∧eD [.str "b",.str "a",.str "no",.str "yes"] (some (k.val:Int)) none=ws.map Dt.str
 | 0=>⟨["b","a","no","yes"],by decide +kernel,by rfl⟩
 | 1=>⟨["a","no","yes"],by decide +kernel,by rfl⟩
 | 2=>⟨["no","yes"],by decide +kernel,by rfl⟩
theorem sZ (c:Int):∃ ws:List Str,aT ws=true∧eD [.str "b",.str "a",.str "no",.str "yes"] (some (c % 3)) none=ws.map Dt.str:=by
 obtain ⟨h0,h1⟩:=mod_lt c (m:=3) (by decide);obtain ⟨ws,a,e⟩:=vt ⟨(c % 3).toNat,by lia⟩;refine ⟨ws,a,?_⟩;rw [← e];show eD _ (some (c % 3)) none=eD _ (some (((c % 3).toNat:Nat):Int)) none;rw [show (((c % 3).toNat:Nat):Int)=c % 3 by lia]
def s0:List (Str×Int):=[("bounds",3),("scale",2),("shrink",2),("figures",2),("number",3),("words",3),("cut",2),("first",2),("one",2),("out",1),("items",2)]
def oz:Dt→Bool
 | .tup (.str u :: l)=>decide (bq u s0=.int ((l.length+1:Nat):Int))
 | _=>false
def figN (n:Int):Nat:=(strI n).length
theorem cj (n:Int):(Str.ofString (toString n)).length=figN n:=by
 unfold figN;rw [← str_int]
 rfl
def aB (n:Int):Prop:=-1000000000000000000000000000000≤n∧n≤1000000000000000000000000000000
theorem jT {n:Int} (h:aB n):figN n≤32:=by
 obtain ⟨h1,h2⟩:=h;have:(dg n.natAbs).length≤30+1:=mI 30 n.natAbs (by
  have:n.natAbs≤1000000000000000000000000000000:=by lia
  exact Nat.lt_of_le_of_lt this (by decide))
 unfold figN strI
 split
 ·rw [List.length_cons];lia
 ·lia
theorem rC {n:Int} (h:aB n):n.natAbs.log2 < 1920:=by
 obtain ⟨h1,h2⟩:=h
 by_cases z:n.natAbs=0
 ·rw [z];decide
 ·rw [Nat.log2_lt z];have:n.natAbs≤1000000000000000000000000000000:=by lia
  exact Nat.lt_of_le_of_lt this (by decide +kernel)
def ck (i j:Int):Int:=if ((figN j:Nat):Int) > ((figN i:Nat):Int) then ((figN j:Nat):Int) else ((figN i:Nat):Int)
def prT (p:Dt×Dt):Dt:=.tup [p.1,p.2]
def iB (_:PySem.W.Frag) (_:Ads):Sp:=fun vs H Q _=>∃ i:Int,vs=[.int i]∧aB i∧Q (.str (Str.ofString (toString i))) H
def gW (_:PySem.W.Frag) (_:Ads):Sp:=fun vs H Q _=>∃ i:Int,vs=[.int i]∧aB i∧Q (.str (Str.ofString (toString i))) H
def fZ (_:PySem.W.Frag) (_:Ads):Sp:=fun vs H Q _=>∃ i j:Int,vs=[.int i,.int j]∧aB i∧aB j∧Q (.int (ck i j)) H
def jU (K:PySem.W.Frag) (_:Ads):Sp:=fun vs H Q _=>∃ (d:Dt) (x:V),vs=[x]∧IsP K H d x∧okD d=true∧Q (.bl (bi d 2 1000)) H
def eM (K:PySem.W.Frag) (_:Ads):Sp:=fun vs H Q _=>∃ (d:Dt) (x:V),vs=[x]∧IsP K H d x∧okD d=true∧Q (.bl (oz d)) H
def f6 (K:PySem.W.Frag) (_:Ads):Sp:=fun vs H Q _=>∃ (ps:List (Dt×Dt)) (x:V),vs=[x]∧IsP K H (.tup (ps.map prT)) x∧ps.length≤999∧∀ v H',Same H H'→IsP K H' (.tup (ps.map (·.1))) v→Q v H'
theorem pJ {H:Hp} {p:Dt×Dt} {v:V} (h:IsP K H (prT p) v):∃ b y z,v=.ref b∧SqT K H b [y,z]∧IsP K H p.1 y∧IsP K H p.2 z:=by
 obtain ⟨b,ys,rfl,hb,pb,rb⟩:=h.unref
 cases rb with
 | cons r1 rb =>
  cases rb with
  | @cons _ _ y2 _ r2 rb =>
   cases rb
   exact ⟨b,_,_,rfl,hb,r1,r2⟩
theorem dP (T:Tx K mg ad) {f:Addr} {fd:FuncData} (F:Gn K mg "figures_of" cP ["number"] f fd):FnOk P w K mg base CX0 1 f fd ["number"] (iB K ad):=by
 refine F.F.ok iG (fun vs H Q E h=>?_) (fun cdv A outer s H vs Q E hr h=>?_)
 ·obtain ⟨i,rfl,_⟩:=h
  rfl
 obtain ⟨i,rfl,hi,q⟩:=h;refine ⟨_,(@pss_one _ _ _ (@ps_ret _ _ _ _ (pe_callTy et rfl T.z_str boot_str (@pa1 _ _ _ (pv 0) (by rfl))))),?_⟩;exact ⟨_,rfl,i,rfl,rC hi,q⟩
theorem gX (T:Tx K mg ad) {f:Addr} {fd:FuncData} (F:Gn K mg "_law_figures" cv ["number"] f fd):FnOk P w K mg base CX0 1 f fd ["number"] (gW K ad):=by
 refine F.F.ok ig (fun vs H Q E h=>?_) (fun cdv A outer s H vs Q E hr h=>?_)
 ·obtain ⟨i,rfl,_⟩:=h
  rfl
 obtain ⟨i,rfl,hi,q⟩:=h;refine ⟨_,(@pss_one _ _ _ (@ps_ret _ _ _ _ (pe_callTy et rfl T.z_str boot_str (@pa1 _ _ _ (pv 0) (by rfl))))),?_⟩;exact ⟨_,rfl,i,rfl,rC hi,q⟩
theorem gc (T:Tx K mg ad) {f:Addr} {fd:FuncData} (F:Gn K mg "most_figures" bY ["low","high"] f fd):FnOk P w K mg base CX0 2 f fd ["low","high"] (fZ K ad):=by
 obtain ⟨_,_,xK⟩:=T.figures_of;have xW:=dP (P:=P) (w:=w) (base:=base) T xK;refine F.F.ok ge (fun vs H Q E h=>?_) (fun cdv A outer s H vs Q E hr h=>?_)
 ·obtain ⟨i,j,rfl,_⟩:=h
  rfl
 obtain ⟨i,j,rfl,hi,hj,q⟩:=h;refine ⟨_,(@pss_one _ _ _ (@ps_ret _ _ _ _ (pe_callB (cz rfl) rfl T.z_max boot_max (@pa2 _ _ _ _ _ (pe_callB call_len_str rfl T.z_len PySem.boot_len (@pa1 _ _ _ (pcl xK xW (hr.mono (by lia)) rfl (@pa1 _ _ _ (pv 0) (by rfl))) (by rfl))) (pe_callB call_len_str rfl T.z_len PySem.boot_len (@pa1 _ _ _ (pcl xK xW (hr.mono (by lia)) rfl (@pa1 _ _ _ (pv 1) (by rfl))) (by rfl))) (by rfl) (by rfl))))),?_⟩;have li:=jT hi;have lj:=jT hj;refine ⟨_,rfl,i,rfl,hi,_,rfl,(by rw [cj];exact Nat.le_of_lt (ai (by lia))),?_⟩;refine ⟨_,rfl,j,rfl,hj,_,rfl,(by rw [cj];exact Nat.le_of_lt (ai (by lia))),?_⟩;refine ⟨_,_,rfl,?_⟩;rw [cj,cj];exact q
theorem jV (T:Tx K mg ad) {f:Addr} {fd:FuncData} (F:Gn K mg "is_factor" dv ["thing"] f fd):FnOk P w K mg base CX0 3 f fd ["thing"] (jU K ad):=by
 obtain ⟨_,_,xC⟩:=T.is_whole_within;have xI:=bS (P:=P) (w:=w) (base:=base) T xC;obtain ⟨t_LEAST_FACTOR,c_LEAST_FACTOR⟩:=T.LEAST_FACTOR;obtain ⟨t_GREATEST_FACTOR,c_GREATEST_FACTOR⟩:=T.GREATEST_FACTOR;refine F.F.ok kz (fun vs H Q E h=>?_) (fun cdv A outer s H vs Q E hr h=>?_)
 ·obtain ⟨d,x,rfl,_⟩:=h
  rfl
 obtain ⟨d,x,rfl,hd,ok,q⟩:=h;refine ⟨_,(@pss_one _ _ _ (@ps_ret _ _ _ _ (pcl xC xI (hr.mono (by lia)) rfl (@pa3 _ _ _ _ _ _ _ (pv 0) (pe_gint rfl c_LEAST_FACTOR) (pe_gint rfl c_GREATEST_FACTOR) (by rfl) (by rfl) (by rfl))))),?_⟩;exact ⟨_,rfl,d,x,2,1000,rfl,hd,ok,q⟩
theorem eO (T:Tx K mg ad) {f:Addr} {fd:FuncData} (F:Gn K mg "has_turn_parts" bz ["thing"] f fd):FnOk P w K mg base CX0 1 f fd ["thing"] (eM K ad):=by
 obtain ⟨t_TURN_COUNTS,c_TURN_COUNTS,d_TURN_COUNTS⟩:=T.TURN_COUNTS;refine F.F.ok eX (fun vs H Q E h=>?_) (fun cdv A outer s H vs Q E hr h=>?_)
 ·obtain ⟨d,x,rfl,_⟩:=h
  rfl
 obtain ⟨d,x,rfl,hd,ok,q⟩:=h;refine ⟨_,(@pss_cons _ _ _ _ _ (@ps_if _ _ _ _ _ _ _ _ (PW.pt (@pw_or _ _ _ _ _ _ _ (@pt_not _ _ _ _ (@pt_val _ _ _ (pe_callB (aD (K:=K) rfl) rfl T.z_isinstance boot_isinstance (@pa2 _ _ _ _ _ (pv 0) (bu rfl T.z_tuple boot_tuple) (by rfl) (by rfl))) (by intro _;rfl))) (@pw_or _ _ _ _ _ _ _ (pt_cmpR op_eq (pe_callB (call_lenDN (K:=K) rfl) rfl T.z_len PySem.boot_len (@pa1 _ _ _ (pv 0) (by rfl))) pe_int (nomark _)) (@pw_or1 _ _ _ _ (@pt_not _ _ _ _ (@pt_val _ _ _ (pe_callB (aD (K:=K) rfl) rfl T.z_isinstance boot_isinstance (@pa2 _ _ _ _ _ (@pi1 K _ _ _ _ _ _ _ rfl (pv 0)) (bu rfl T.z_str boot_str) (by rfl) (by rfl))) (by intro _;rfl))))))) (@pss_one _ _ _ (@ps_ret _ _ _ _ pe_bl)) pss_nil) (@pss_one _ _ _ (@ps_ret _ _ _ _ (pe_cmpR op_eq (pe_kget d_TURN_COUNTS rfl c_TURN_COUNTS (@pa1 _ _ _ (@pi1 K _ _ _ _ _ _ _ rfl (pv 0)) (by rfl))) (pe_callB (call_lenDN (K:=K) rfl) rfl T.z_len PySem.boot_len (@pa1 _ _ _ (pv 0) (by rfl))) (nomark _))))),?_⟩
 cases d with
 | non=>cases ok
 | bl=>cases ok
 | int i =>
  cases hd
  exact ⟨_,rfl,_,_,_,rfl,.int_tuple,_,rfl,ay (ay q)⟩
 | str z =>
  cases hd
  exact ⟨_,rfl,_,_,_,rfl,.str_tuple,_,rfl,ay (ay q)⟩
 | tup l =>
  obtain ⟨a,xs,rfl,ha,pa,ra⟩:=id hd.unref;refine ⟨_,rfl,_,_,_,rfl,.tup_tuple ha,_,rfl,aQ ?_⟩;refine ⟨_,rfl,_,_,rfl,hd.d,rfl,_,rfl,?_⟩
  cases l with
  | nil=>exact aH (ay q)
  | cons e l =>
   refine iteN (fun z=>?_) ?_
   ·injection z with z
    rw [List.length_cons] at z;lia
   have oke:=aV ok e List.mem_cons_self;refine ⟨_,rfl,_,_,_,hd,rfl,at0 _ _,fun v hv=>?_⟩
   cases e with
   | non=>cases oke
   | bl=>cases oke
   | int i =>
    cases hv
    exact ⟨_,_,_,rfl,.int_str,_,rfl,ay q⟩
   | tup l =>
    obtain ⟨a1,xs1,rfl,ha1,_,_⟩:=id hv.unref;exact ⟨_,_,_,rfl,.tup_str ha1,_,rfl,ay q⟩
   | str u =>
    obtain rfl:=am hv;refine ⟨_,_,_,rfl,.str_str,_,rfl,aQ ?_⟩;refine ⟨_,rfl,_,_,_,hd,rfl,at0 _ _,isS ?_⟩;refine ⟨_,rfl,_,rfl,_,_,rfl,hd.d,fB u _ _,q⟩
theorem cV (T:Tx K mg ad) {f:Addr} {fd:FuncData} (F:Gn K mg "words_behind" bZ ["back"] f fd):FnOk P w K mg base CX0 1 f fd ["back"] (f6 K ad):=by
 refine F.F.ok gf (fun vs H Q E h=>?_) (fun cdv A outer s H vs Q E hr h=>?_)
 ·obtain ⟨ps,x,rfl,_⟩:=h
  rfl
 obtain ⟨ps,x,rfl,hd,hl,q⟩:=h;refine ⟨_,(@pss_one _ _ _ (@ps_ret _ _ _ _ (pe_callTy (aY (K:=K) rfl) rfl T.z_tuple boot_tuple (@pa1 _ _ _ (aI rfl (cs0 (NL:=["first","word"]) rfl (by decide +kernel) (by decide +kernel)) (aP (K:=K) rfl (pv 0)) (fun _ _ _ _=>(ci (K:=K) (n:=2) rfl rfl (aC (aj (i:=0) (show List.Nodup (α:=Str) ["first","word"] by decide +kernel) rfl (Or.inl rfl)) (aC (aj (i:=1) (show List.Nodup (α:=Str) ["first","word"] by decide +kernel) rfl (Or.inl rfl)) bL)))) (fun _ _ _ _=>(pv 0))) (by rfl))))),?_⟩;obtain ⟨a,xs,rfl,ha,pa,ra⟩:=id hd.unref;have el:=ra.length;rw [List.length_map] at el;refine ⟨_,rfl,a,rfl,⟨_,ha⟩,fun l hln=>?_⟩;refine aG (K:=K) (xs:=xs) (fun i ys σ H'=>Same H H'∧H' l=some (.lst ys)∧IsPs K H' ((ps.take i).map (·.1)) ys∧σ.length=2) ⟨ag hln _,ac,.nil,rfl⟩ (fun i ys σ H' _ r=>r.1.tup ha) ?_ ?_
 ·rintro i y ys σ H1 N hy ⟨g1,e1,hp1,hσ⟩ next;obtain ⟨d1,hdi,hp⟩:=ra.get' hy;rw [List.getElem?_map] at hdi;obtain ⟨p,hfi,rfl⟩:=Option.map_eq_some_iff.mp hdi;obtain ⟨b,y1,y2,rfl,hb,hp1',hp2⟩:=pJ (hp.same g1);have ly:=hp1.length;rw [List.length_map,List.length_take] at ly
  match σ,hσ with
  | [_,_],_ =>
   refine ⟨b,_,rfl,hb,rfl,_,_,rfl,_,_,rfl,rfl,?_⟩;refine ⟨_,rfl,e1,ai (by lia),next _ _ _ ⟨az hln g1,ac,?_,rfl⟩⟩;have e:(ps.take (i+1)).map (·.1)=(ps.take i).map (·.1)++[p.1]:=by rw [List.take_add_one,hfi,List.map_append];rfl
   rw [e];have bb:But l H1 (upd H1 l (.lst (ys++[y1]))):=But.put;exact (hp1.append (.cons hp1' .nil)).but e1 bb
 ·rintro ys σ H1 ⟨g1,e1,hp1,_⟩;rw [← el,List.take_length] at hp1;exact ⟨l,ys,_,rfl,SqL.of e1,hp1,fun v H2 g2 hv=>q v H2 (g1.trans g2) hv⟩
theorem d6 {K:PySem.W.Frag} {H:Hp} {i:Int} {v:V} (h:IsP K H (.int i) v):v=.int i:=by cases h;rfl
def prS (p:Str×Str):Dt:=.tup [.str p.1,.str p.2]
structure LedW (fs:List Str) (bs:List (Str×Str)) (ws:List Str):Prop where
 words:aT (bs.map (·.1))=true
 len:fs.length=ws.length
 fwd:∀ f∈fs,∃ w,(f,w)∈bs∧(w,f)∈ws.zip fs
 bwd:∀ b∈bs,∃ u,(b.2,u)∈ws.zip fs∧(u,b.2)∈bs
abbrev bH (i j:Int):Dt:=.tup [.str "number",.int i,.int j]
inductive GT:Dt→Dt→Dt→Prop
 | bounds (i j k l:Int):aB k→k≤l→aB l→GT (.tup [.str "bounds",.int k,.int l]) (bH i j) (bH k l)
 | scale (i j k:Int):2≤k→k≤1000→aB (i*k)→aB (j*k)→GT (.tup [.str "scale",.int k]) (bH i j) (bH (i*k) (j*k))
 | shrink (i j k:Int):2≤k→k≤1000→i % k=0→j % k=0→GT (.tup [.str "shrink",.int k]) (bH i j) (bH (i / k) (j / k))
 | figures (i j m:Int):aB i→aB j→ck i j≤m→0≤m→m≤60→GT (.tup [.str "figures",.int m]) (bH i j) (.tup [.str "text",.int m])
 | number (i j m:Int):aB i→i≤j→aB j→ck i j≤m→GT (.tup [.str "number",.int i,.int j]) (.tup [.str "text",.int m]) (bH i j)
 | words (fs:List Str) (bs:List (Str×Str)) (ws:List Str):LedW fs bs ws→GT (.tup [.str "words",.tup (fs.map Dt.str),.tup (bs.map prS)]) (.tup [.str "choice",.tup (ws.map Dt.str)]) (.tup [.str "choice",.tup ((bs.map (·.1)).map Dt.str)])
 | cut (m i:Int):0≤i→i≤60→GT (.tup [.str "cut",.int i]) (.tup [.str "text",.int m]) (.tup [.str "text",.int i])
 | firstL (k:Dt) (m i:Int):0≤i→i≤8→GT (.tup [.str "first",.int i]) (.tup [.str "list",k,.int m]) (.tup [.str "list",k,.int i])
 | firstR (z:Str) (k:Dt) (m i:Int):0≤i→i≤8→GT (.tup [.str "first",.int i]) (.tup [.str "rows",.str z,k,.int m]) (.tup [.str "rows",.str z,k,.int i])
 | one (d:Dt) (i:Int):1≤i→i≤8→GT (.tup [.str "one",.int i]) d (.tup [.str "list",d,.int i])
 | out (k:Dt) (m:Int):1≤m→GT (.tup [.str "out"]) (.tup [.str "list",k,.int m]) k
 | items {t k e:Dt} (m:Int):GT t k e→GT (.tup [.str "items",t]) (.tup [.str "list",k,.int m]) (.tup [.str "list",e,.int m])
theorem rD {i k:Int} (hk:2≤k) (h:aB i) (h0:i % k=0):aB (i / k):=by
 have e:=Int.mul_ediv_add_emod i k;rw [h0,Int.add_zero] at e;obtain ⟨h1,h2⟩:=h
 generalize i / k=q at e
 rcases Int.le_total q 0 with hq | hq
 ·have:=Int.mul_le_mul_of_nonpos_right (show (1:Int)≤k by lia) hq;rw [e] at this;exact ⟨by lia,by lia⟩
 ·have:=Int.mul_le_mul_of_nonneg_right (show (1:Int)≤k by lia) hq;rw [e] at this;exact ⟨by lia,by lia⟩
theorem GT.fk {t d e:Dt} (h:GT t d e):∀ {a c:Nat},FK a c d→∃ a' c',FK a' c' e∧a'≤a+1∧c'≤c+1:=by
 induction h with
 | bounds i j k l h1 h2 h3=>exact fun _=>⟨1,1,.number k l h1.1 h2 h3.2,by lia,by lia⟩
 | scale i j k h1 h2 h3 h4 =>
  intro a c f
  cases f with
  | number _ _ f1 f2 f3=>exact ⟨1,1,.number _ _ h3.1 (Int.mul_le_mul_of_nonneg_right f2 (by lia)) h4.2,by lia,by lia⟩
 | shrink i j k h1 h2 h3 h4 =>
  intro a c f
  cases f with
  | number _ _ f1 f2 f3=>exact ⟨1,1,.number _ _ (rD h1 ⟨f1,by lia⟩ h3).1 (Int.ediv_le_ediv (by lia) f2) (rD h1 ⟨by lia,f3⟩ h4).2,by lia,by lia⟩
 | figures i j m h1 h2 h3 h4 h5=>exact fun _=>⟨1,1,.text m h4 h5,by lia,by lia⟩
 | number i j m h1 h2 h3 h4=>exact fun _=>⟨1,1,.number i j h1.1 h2 h3.2,by lia,by lia⟩
 | words fs bs ws h=>exact fun _=>⟨1,1,.choice _ h.words,by lia,by lia⟩
 | cut m i h1 h2=>exact fun _=>⟨1,1,.text i h1 h2,by lia,by lia⟩
 | firstL k m i h1 h2 =>
  intro a c f
  cases f with
  | list g _ _=>exact ⟨_,_,.list g h1 h2,by lia,by lia⟩
 | firstR z k m i h1 h2 =>
  intro a c f
  cases f with
  | rows g hk _ _=>exact ⟨_,_,.rows g hk h1 h2,by lia,by lia⟩
 | one d i h1 h2=>exact fun f=>⟨_,_,.list f (by lia) h2,by lia,by lia⟩
 | out k m h1 =>
  intro a c f
  cases f with
  | list g _ _=>exact ⟨_,_,g,by lia,by lia⟩
 | items m h ih =>
  intro a c f
  cases f with
  | list g f1 f2 =>
   obtain ⟨a',c',g',l1,l2⟩:=ih g;exact ⟨_,_,.list g' f1 f2,by lia,by lia⟩
def jW (K:PySem.W.Frag) (n:Nat):Sp:=fun vs H Q _=>∃ (a c:Nat) (t d e:Dt) (x y:V),a≤n∧vs=[x,y]∧IsP K H t x∧IsP K H d y∧FK a c d∧GT t d e∧∀ v H',Same H H'→IsP K H' e v→Q v H'
theorem ax {K:PySem.W.Frag} {H:Hp} {a b:Str} {zs:List V} (r:IsPs K H [.str a,.str b] zs):zs=[.str a,.str b]:=by
 cases r with
 | cons r1 r =>
  cases r with
  | cons r2 r =>
   cases r
   rw [am r1,am r2]
theorem lT (T:Tx K mg ad) {f:Addr} {fd:FuncData} (n:Nat) (xV:Gn K mg "led_kind" cQ ["turn","kind"] f fd) (ym:FnOk P w K mg base CX0 (n+3) f fd ["turn","kind"] (jW K n)):FnOk P w K mg base CX0 (n+3+1) f fd ["turn","kind"] (jW K (n+1)):=by
 obtain ⟨_,_,xL⟩:=T.words_behind;have xZ:=cV (P:=P) (w:=w) (base:=base) T xL;refine xV.F.ok fQ (fun vs H Q E h=>?_) (fun cdv A outer s H vs Q E hr h=>?_)
 ·obtain ⟨a,c,t,d,e,x,y,_,rfl,_⟩:=h
  rfl
 obtain ⟨a,c,t,d,e,x,y,hle,rfl,ht,hd,fk,g,q⟩:=h;refine ⟨_,(@pss_cons _ _ _ _ _ (@ps_set _ _ 2 _ _ _ _ fQ.nd rfl (Or.inl rfl) (@pi1 K _ _ _ _ _ _ _ rfl (pv 0)) (by rfl) (by first | exact .inl rfl | exact .inr rfl | assumption)) (@pss_cons _ _ _ _ _ (@ps_if _ _ _ _ _ _ _ _ (pt_cmpR (op_in_seqK (K:=K) rfl) (pv 2) (@pe_tupPK _ K _ _ _ _ rfl (@pa2 _ _ _ _ _ pe_str pe_str (by rfl) (by rfl))) rfl) (@pss_one _ _ _ (@ps_ret _ _ _ _ (@pe_tupPK _ K _ _ _ _ rfl (@pa3 _ _ _ _ _ _ _ pe_str (@pi1 K _ _ _ _ _ _ _ rfl (pv 0)) (@pi1 K _ _ _ _ _ _ _ rfl (pv 0)) (by rfl) (by rfl) (by rfl))))) pss_nil) (@pss_cons _ _ _ _ _ (@ps_if _ _ _ _ _ _ _ _ (pt_cmpR op_eq (pv 2) pe_str (nomark _)) (@pss_one _ _ _ (@ps_ret _ _ _ _ (@pe_tupPK _ K _ _ _ _ rfl (@pa3 _ _ _ _ _ _ _ pe_str (@pe_op _ _ _ _ _ _ _ _ cp (@pi1 K _ _ _ _ _ _ _ rfl (pv 1)) (@pi1 K _ _ _ _ _ _ _ rfl (pv 0))) (@pe_op _ _ _ _ _ _ _ _ cp (@pi1 K _ _ _ _ _ _ _ rfl (pv 1)) (@pi1 K _ _ _ _ _ _ _ rfl (pv 0))) (by rfl) (by rfl) (by rfl))))) pss_nil) (@pss_cons _ _ _ _ _ (@ps_if _ _ _ _ _ _ _ _ (pt_cmpR op_eq (pv 2) pe_str (nomark _)) (@pss_one _ _ _ (@ps_ret _ _ _ _ (@pe_tupPK _ K _ _ _ _ rfl (@pa3 _ _ _ _ _ _ _ pe_str (@pe_op _ _ _ _ _ _ _ _ c7 (@pi1 K _ _ _ _ _ _ _ rfl (pv 1)) (@pi1 K _ _ _ _ _ _ _ rfl (pv 0))) (@pe_op _ _ _ _ _ _ _ _ c7 (@pi1 K _ _ _ _ _ _ _ rfl (pv 1)) (@pi1 K _ _ _ _ _ _ _ rfl (pv 0))) (by rfl) (by rfl) (by rfl))))) pss_nil) (@pss_cons _ _ _ _ _ (@ps_if _ _ _ _ _ _ _ _ (pt_cmpR (op_in_seqK (K:=K) rfl) (pv 2) (@pe_tupPK _ K _ _ _ _ rfl (@pa2 _ _ _ _ _ pe_str pe_str (by rfl) (by rfl))) rfl) (@pss_one _ _ _ (@ps_ret _ _ _ _ (@pe_tupPK _ K _ _ _ _ rfl (@pa2 _ _ _ _ _ pe_str (@pi1 K _ _ _ _ _ _ _ rfl (pv 0)) (by rfl) (by rfl))))) pss_nil) (@pss_cons _ _ _ _ _ (@ps_if _ _ _ _ _ _ _ _ (pt_cmpR op_eq (pv 2) pe_str (nomark _)) (@pss_one _ _ _ (@ps_ret _ _ _ _ (@pe_tupPK _ K _ _ _ _ rfl (@pa2 _ _ _ _ _ pe_str (pcl xL xZ (hr.mono (by lia)) rfl (@pa1 _ _ _ (@pi1 K _ _ _ _ _ _ _ rfl (pv 0)) (by rfl))) (by rfl) (by rfl))))) pss_nil) (@pss_cons _ _ _ _ _ (@ps_if _ _ _ _ _ _ _ _ (pt_cmpR op_eq (pv 2) pe_str (nomark _)) (@pss_one _ _ _ (@ps_ret _ _ _ _ (@pe_op _ _ _ _ _ _ _ _ (qN (K:=K) rfl) (bE (eI (K:=K) rfl) (pv 1) cI (bM (@pe_un _ _ _ _ _ _ un_neg pe_int))) (@pe_tupPK _ K _ _ _ _ rfl (@pa1 _ _ _ (@pi1 K _ _ _ _ _ _ _ rfl (pv 0)) (by rfl)))))) pss_nil) (@pss_cons _ _ _ _ _ (@ps_if _ _ _ _ _ _ _ _ (pt_cmpR op_eq (pv 2) pe_str (nomark _)) (@pss_one _ _ _ (@ps_ret _ _ _ _ (@pe_tupPK _ K _ _ _ _ rfl (@pa3 _ _ _ _ _ _ _ pe_str (pv 1) (@pi1 K _ _ _ _ _ _ _ rfl (pv 0)) (by rfl) (by rfl) (by rfl))))) pss_nil) (@pss_cons _ _ _ _ _ (@ps_if _ _ _ _ _ _ _ _ (pt_cmpR op_eq (pv 2) pe_str (nomark _)) (@pss_one _ _ _ (@ps_ret _ _ _ _ (@pi1 K _ _ _ _ _ _ _ rfl (pv 1)))) pss_nil) (@pss_one _ _ _ (@ps_ret _ _ _ _ (@pe_tupPK _ K _ _ _ _ rfl (@pa3 _ _ _ _ _ _ _ pe_str (pcl xV ym (hr.mono (by lia)) rfl (@pa2 _ _ _ _ _ (@pi1 K _ _ _ _ _ _ _ rfl (pv 0)) (@pi1 K _ _ _ _ _ _ _ rfl (pv 1)) (by rfl) (by rfl))) (@pi1 K _ _ _ _ _ _ _ rfl (pv 1)) (by rfl) (by rfl) (by rfl)))))))))))))),?_⟩
 cases g with
 | bounds i j k l h1 h2 h3 =>
  refine ⟨_,rfl,_,_,_,ht,rfl,rfl,fun v hv=>?_⟩;obtain rfl:=am hv;refine ⟨_,rfl,[.str "bounds",.str "number"],.cons .str (.cons .str .nil),sz2,fun u1 H1 j1 hu1=>?_⟩;obtain ⟨p1,zs1,rfl,hz1,_,rz1⟩:=id hu1.unref;obtain rfl:=ax rz1;replace ht:=ht.same j1;replace hd:=hd.same j1;replace q:=fun v H' g hv=>q v H' (j1.trans g) hv;refine ⟨p1,_,rfl,.inr hz1,rfl,rfl,_,rfl,ar (fun _=>?_) (fun c=>absurd (by decide +kernel) c)⟩;refine ⟨_,rfl,_,_,_,ht,rfl,rfl,isI ?_⟩;refine ⟨_,rfl,_,_,_,ht,rfl,rfl,isI ?_⟩;exact ⟨[.str "number",.int k,.int l],.cons .str (.cons .int (.cons .int .nil)),sz3,fun v H' g hv=>q v H' g hv⟩
 | number i j m h1 h2 h3 h4 =>
  refine ⟨_,rfl,_,_,_,ht,rfl,rfl,fun v hv=>?_⟩;obtain rfl:=am hv;refine ⟨_,rfl,[.str "bounds",.str "number"],.cons .str (.cons .str .nil),sz2,fun u2 H2 j2 hu2=>?_⟩;obtain ⟨p2,zs2,rfl,hz2,_,rz2⟩:=id hu2.unref;obtain rfl:=ax rz2;replace ht:=ht.same j2;replace hd:=hd.same j2;replace q:=fun v H' g hv=>q v H' (j2.trans g) hv;refine ⟨p2,_,rfl,.inr hz2,rfl,rfl,_,rfl,ar (fun _=>?_) (fun c=>absurd (by decide +kernel) c)⟩;refine ⟨_,rfl,_,_,_,ht,rfl,rfl,isI ?_⟩;refine ⟨_,rfl,_,_,_,ht,rfl,rfl,isI ?_⟩;exact ⟨[.str "number",.int i,.int j],.cons .str (.cons .int (.cons .int .nil)),sz3,fun v H' g hv=>q v H' g hv⟩
 | scale i j k h1 h2 h3 h4 =>
  refine ⟨_,rfl,_,_,_,ht,rfl,rfl,fun v hv=>?_⟩;obtain rfl:=am hv;refine ⟨_,rfl,[.str "bounds",.str "number"],.cons .str (.cons .str .nil),sz2,fun u3 H3 j3 hu3=>?_⟩;obtain ⟨p3,zs3,rfl,hz3,_,rz3⟩:=id hu3.unref;obtain rfl:=ax rz3;replace ht:=ht.same j3;replace hd:=hd.same j3;replace q:=fun v H' g hv=>q v H' (j3.trans g) hv;refine ⟨p3,_,rfl,.inr hz3,rfl,rfl,_,rfl,ar (fun c=>absurd c (by decide +kernel)) (fun _=>?_)⟩;refine ⟨_,rfl,rfl,_,rfl,aH ?_⟩;refine ⟨_,rfl,_,_,_,hd,rfl,rfl,isI ?_⟩;refine ⟨_,rfl,_,_,_,ht,rfl,rfl,isI ?_⟩;refine ⟨_,_,rfl,rfl,.inr ⟨by lia,by lia⟩,?_⟩;refine ⟨_,rfl,_,_,_,hd,rfl,rfl,isI ?_⟩;refine ⟨_,rfl,_,_,_,ht,rfl,rfl,isI ?_⟩;refine ⟨_,_,rfl,rfl,.inr ⟨by lia,by lia⟩,?_⟩;exact ⟨[.str "number",.int (i*k),.int (j*k)],.cons .str (.cons .int (.cons .int .nil)),sz3,fun v H' g hv=>q v H' g hv⟩
 | shrink i j k h1 h2 h3 h4 =>
  refine ⟨_,rfl,_,_,_,ht,rfl,rfl,fun v hv=>?_⟩;obtain rfl:=am hv;refine ⟨_,rfl,[.str "bounds",.str "number"],.cons .str (.cons .str .nil),sz2,fun u4 H4 j4 hu4=>?_⟩;obtain ⟨p4,zs4,rfl,hz4,_,rz4⟩:=id hu4.unref;obtain rfl:=ax rz4;replace ht:=ht.same j4;replace hd:=hd.same j4;replace q:=fun v H' g hv=>q v H' (j4.trans g) hv;refine ⟨p4,_,rfl,.inr hz4,rfl,rfl,_,rfl,ar (fun c=>absurd c (by decide +kernel)) (fun _=>?_)⟩;refine ⟨_,rfl,rfl,_,rfl,iteN (ae (by decide)) ?_⟩;refine ⟨_,rfl,rfl,_,rfl,aH ?_⟩;refine ⟨_,rfl,_,_,_,hd,rfl,rfl,isI ?_⟩;refine ⟨_,rfl,_,_,_,ht,rfl,rfl,isI ?_⟩;refine ⟨_,_,rfl,rfl,⟨by lia,by lia⟩,?_⟩;refine ⟨_,rfl,_,_,_,hd,rfl,rfl,isI ?_⟩;refine ⟨_,rfl,_,_,_,ht,rfl,rfl,isI ?_⟩;refine ⟨_,_,rfl,rfl,⟨by lia,by lia⟩,?_⟩;exact ⟨[.str "number",.int (i / k),.int (j / k)],.cons .str (.cons .int (.cons .int .nil)),sz3,fun v H' g hv=>q v H' g hv⟩
 | cut m i h1 h2 =>
  refine ⟨_,rfl,_,_,_,ht,rfl,rfl,fun v hv=>?_⟩;obtain rfl:=am hv;refine ⟨_,rfl,[.str "bounds",.str "number"],.cons .str (.cons .str .nil),sz2,fun u5 H5 j5 hu5=>?_⟩;obtain ⟨p5,zs5,rfl,hz5,_,rz5⟩:=id hu5.unref;obtain rfl:=ax rz5;replace ht:=ht.same j5;replace hd:=hd.same j5;replace q:=fun v H' g hv=>q v H' (j5.trans g) hv;refine ⟨p5,_,rfl,.inr hz5,rfl,rfl,_,rfl,ar (fun c=>absurd c (by decide +kernel)) (fun _=>?_)⟩;refine ⟨_,rfl,rfl,_,rfl,iteN (ae (by decide)) ?_⟩;refine ⟨_,rfl,rfl,_,rfl,iteN (ae (by decide)) ?_⟩;refine ⟨_,rfl,[.str "figures",.str "cut"],.cons .str (.cons .str .nil),sz2,fun u6 H6 j6 hu6=>?_⟩;obtain ⟨p6,zs6,rfl,hz6,_,rz6⟩:=id hu6.unref;obtain rfl:=ax rz6;replace ht:=ht.same j6;replace hd:=hd.same j6;replace q:=fun v H' g hv=>q v H' (j6.trans g) hv;refine ⟨p6,_,rfl,.inr hz6,rfl,rfl,_,rfl,ar (fun _=>?_) (fun c=>absurd (by decide +kernel) c)⟩;refine ⟨_,rfl,_,_,_,ht,rfl,rfl,isI ?_⟩;exact ⟨[.str "text",.int i],.cons .str (.cons .int .nil),sz2,fun v H' g hv=>q v H' g hv⟩
 | figures i j m h1 h2 h3 h4 h5 =>
  refine ⟨_,rfl,_,_,_,ht,rfl,rfl,fun v hv=>?_⟩;obtain rfl:=am hv;refine ⟨_,rfl,[.str "bounds",.str "number"],.cons .str (.cons .str .nil),sz2,fun u7 H7 j7 hu7=>?_⟩;obtain ⟨p7,zs7,rfl,hz7,_,rz7⟩:=id hu7.unref;obtain rfl:=ax rz7;replace ht:=ht.same j7;replace hd:=hd.same j7;replace q:=fun v H' g hv=>q v H' (j7.trans g) hv;refine ⟨p7,_,rfl,.inr hz7,rfl,rfl,_,rfl,ar (fun c=>absurd c (by decide +kernel)) (fun _=>?_)⟩;refine ⟨_,rfl,rfl,_,rfl,iteN (ae (by decide)) ?_⟩;refine ⟨_,rfl,rfl,_,rfl,iteN (ae (by decide)) ?_⟩;refine ⟨_,rfl,[.str "figures",.str "cut"],.cons .str (.cons .str .nil),sz2,fun u8 H8 j8 hu8=>?_⟩;obtain ⟨p8,zs8,rfl,hz8,_,rz8⟩:=id hu8.unref;obtain rfl:=ax rz8;replace ht:=ht.same j8;replace hd:=hd.same j8;replace q:=fun v H' g hv=>q v H' (j8.trans g) hv;refine ⟨p8,_,rfl,.inr hz8,rfl,rfl,_,rfl,ar (fun _=>?_) (fun c=>absurd (by decide +kernel) c)⟩;refine ⟨_,rfl,_,_,_,ht,rfl,rfl,isI ?_⟩;exact ⟨[.str "text",.int m],.cons .str (.cons .int .nil),sz2,fun v H' g hv=>q v H' g hv⟩
 | words fs bs ws h =>
  refine ⟨_,rfl,_,_,_,ht,rfl,rfl,fun v hv=>?_⟩;obtain rfl:=am hv;refine ⟨_,rfl,[.str "bounds",.str "number"],.cons .str (.cons .str .nil),sz2,fun u9 H9 j9 hu9=>?_⟩;obtain ⟨p9,zs9,rfl,hz9,_,rz9⟩:=id hu9.unref;obtain rfl:=ax rz9;replace ht:=ht.same j9;replace hd:=hd.same j9;replace q:=fun v H' g hv=>q v H' (j9.trans g) hv;refine ⟨p9,_,rfl,.inr hz9,rfl,rfl,_,rfl,ar (fun c=>absurd c (by decide +kernel)) (fun _=>?_)⟩;refine ⟨_,rfl,rfl,_,rfl,iteN (ae (by decide)) ?_⟩;refine ⟨_,rfl,rfl,_,rfl,iteN (ae (by decide)) ?_⟩;refine ⟨_,rfl,[.str "figures",.str "cut"],.cons .str (.cons .str .nil),sz2,fun u10 H10 j10 hu10=>?_⟩;obtain ⟨p10,zs10,rfl,hz10,_,rz10⟩:=id hu10.unref;obtain rfl:=ax rz10;replace ht:=ht.same j10;replace hd:=hd.same j10;replace q:=fun v H' g hv=>q v H' (j10.trans g) hv;refine ⟨p10,_,rfl,.inr hz10,rfl,rfl,_,rfl,ar (fun c=>absurd c (by decide +kernel)) (fun _=>?_)⟩;refine ⟨_,rfl,rfl,_,rfl,aH ?_⟩;have l8:=(aq h.words).2.1;rw [List.length_map] at l8;refine ⟨_,rfl,_,_,_,ht,rfl,rfl,fun v2 hv2=>?_⟩;have e1:bs.map prS=(bs.map fun p:Str×Str=>(Dt.str p.1,Dt.str p.2)).map prT:=by rw [List.map_map];rfl
  have e2:(bs.map fun p:Str×Str=>(Dt.str p.1,Dt.str p.2)).map (·.1)=(bs.map (·.1)).map Dt.str:=by rw [List.map_map,List.map_map];rfl
  refine ⟨_,v2,rfl,(by rw [← e1];exact hv2),(by rw [List.length_map];lia),fun v3 H3 g3 hv3=>?_⟩;rw [e2] at hv3;exact ⟨[.str "choice",_],.cons .str (.cons hv3 .nil),sz2,fun v H' g hv=>q v H' (g3.trans g) hv⟩
 | firstL k m i h1 h2 =>
  refine ⟨_,rfl,_,_,_,ht,rfl,rfl,fun v hv=>?_⟩;obtain rfl:=am hv;refine ⟨_,rfl,[.str "bounds",.str "number"],.cons .str (.cons .str .nil),sz2,fun u11 H11 j11 hu11=>?_⟩;obtain ⟨p11,zs11,rfl,hz11,_,rz11⟩:=id hu11.unref;obtain rfl:=ax rz11;replace ht:=ht.same j11;replace hd:=hd.same j11;replace q:=fun v H' g hv=>q v H' (j11.trans g) hv;refine ⟨p11,_,rfl,.inr hz11,rfl,rfl,_,rfl,ar (fun c=>absurd c (by decide +kernel)) (fun _=>?_)⟩;refine ⟨_,rfl,rfl,_,rfl,iteN (ae (by decide)) ?_⟩;refine ⟨_,rfl,rfl,_,rfl,iteN (ae (by decide)) ?_⟩;refine ⟨_,rfl,[.str "figures",.str "cut"],.cons .str (.cons .str .nil),sz2,fun u12 H12 j12 hu12=>?_⟩;obtain ⟨p12,zs12,rfl,hz12,_,rz12⟩:=id hu12.unref;obtain rfl:=ax rz12;replace ht:=ht.same j12;replace hd:=hd.same j12;replace q:=fun v H' g hv=>q v H' (j12.trans g) hv;refine ⟨p12,_,rfl,.inr hz12,rfl,rfl,_,rfl,ar (fun c=>absurd c (by decide +kernel)) (fun _=>?_)⟩;refine ⟨_,rfl,rfl,_,rfl,iteN (ae (by decide)) ?_⟩;refine ⟨_,rfl,rfl,_,rfl,aH ?_⟩;refine ⟨_,rfl,_,rfl,_,rfl,?_⟩;refine ⟨_,hd,fun v3 H3 g3 hv3=>?_⟩;refine ⟨_,rfl,_,_,_,ht.same g3,rfl,rfl,isI ?_⟩;refine ⟨[.int i],.cons .int .nil,sz1,fun v5 H5 g5 hv5=>?_⟩;refine ⟨_,_,hv3.same g5,hv5,sz3,fun v6 H6 g6 hv6=>?_⟩;exact q v6 H6 ((g3.trans g5).trans g6) hv6
 | firstR z k m i h1 h2 =>
  refine ⟨_,rfl,_,_,_,ht,rfl,rfl,fun v hv=>?_⟩;obtain rfl:=am hv;refine ⟨_,rfl,[.str "bounds",.str "number"],.cons .str (.cons .str .nil),sz2,fun u13 H13 j13 hu13=>?_⟩;obtain ⟨p13,zs13,rfl,hz13,_,rz13⟩:=id hu13.unref;obtain rfl:=ax rz13;replace ht:=ht.same j13;replace hd:=hd.same j13;replace q:=fun v H' g hv=>q v H' (j13.trans g) hv;refine ⟨p13,_,rfl,.inr hz13,rfl,rfl,_,rfl,ar (fun c=>absurd c (by decide +kernel)) (fun _=>?_)⟩;refine ⟨_,rfl,rfl,_,rfl,iteN (ae (by decide)) ?_⟩;refine ⟨_,rfl,rfl,_,rfl,iteN (ae (by decide)) ?_⟩;refine ⟨_,rfl,[.str "figures",.str "cut"],.cons .str (.cons .str .nil),sz2,fun u14 H14 j14 hu14=>?_⟩;obtain ⟨p14,zs14,rfl,hz14,_,rz14⟩:=id hu14.unref;obtain rfl:=ax rz14;replace ht:=ht.same j14;replace hd:=hd.same j14;replace q:=fun v H' g hv=>q v H' (j14.trans g) hv;refine ⟨p14,_,rfl,.inr hz14,rfl,rfl,_,rfl,ar (fun c=>absurd c (by decide +kernel)) (fun _=>?_)⟩;refine ⟨_,rfl,rfl,_,rfl,iteN (ae (by decide)) ?_⟩;refine ⟨_,rfl,rfl,_,rfl,aH ?_⟩;refine ⟨_,rfl,_,rfl,_,rfl,?_⟩;refine ⟨_,hd,fun v3 H3 g3 hv3=>?_⟩;refine ⟨_,rfl,_,_,_,ht.same g3,rfl,rfl,isI ?_⟩;refine ⟨[.int i],.cons .int .nil,sz1,fun v5 H5 g5 hv5=>?_⟩;refine ⟨_,_,hv3.same g5,hv5,(by show 4≤sizeLine;decide),fun v6 H6 g6 hv6=>?_⟩;exact q v6 H6 ((g3.trans g5).trans g6) hv6
 | one _ i h1 h2 =>
  refine ⟨_,rfl,_,_,_,ht,rfl,rfl,fun v hv=>?_⟩;obtain rfl:=am hv;refine ⟨_,rfl,[.str "bounds",.str "number"],.cons .str (.cons .str .nil),sz2,fun u15 H15 j15 hu15=>?_⟩;obtain ⟨p15,zs15,rfl,hz15,_,rz15⟩:=id hu15.unref;obtain rfl:=ax rz15;replace ht:=ht.same j15;replace hd:=hd.same j15;replace q:=fun v H' g hv=>q v H' (j15.trans g) hv;refine ⟨p15,_,rfl,.inr hz15,rfl,rfl,_,rfl,ar (fun c=>absurd c (by decide +kernel)) (fun _=>?_)⟩;refine ⟨_,rfl,rfl,_,rfl,iteN (ae (by decide)) ?_⟩;refine ⟨_,rfl,rfl,_,rfl,iteN (ae (by decide)) ?_⟩;refine ⟨_,rfl,[.str "figures",.str "cut"],.cons .str (.cons .str .nil),sz2,fun u16 H16 j16 hu16=>?_⟩;obtain ⟨p16,zs16,rfl,hz16,_,rz16⟩:=id hu16.unref;obtain rfl:=ax rz16;replace ht:=ht.same j16;replace hd:=hd.same j16;replace q:=fun v H' g hv=>q v H' (j16.trans g) hv;refine ⟨p16,_,rfl,.inr hz16,rfl,rfl,_,rfl,ar (fun c=>absurd c (by decide +kernel)) (fun _=>?_)⟩;refine ⟨_,rfl,rfl,_,rfl,iteN (ae (by decide)) ?_⟩;refine ⟨_,rfl,rfl,_,rfl,iteN (ae (by decide)) ?_⟩;refine ⟨_,rfl,rfl,_,rfl,aH ?_⟩;refine ⟨_,rfl,_,rfl,_,_,_,ht,rfl,rfl,isI ?_⟩;exact ⟨[.str "list",d,.int i],.cons .str (.cons hd (.cons .int .nil)),sz3,fun v H' g hv=>q v H' g hv⟩
 | out _ m h1 =>
  refine ⟨_,rfl,_,_,_,ht,rfl,rfl,fun v hv=>?_⟩;obtain rfl:=am hv;refine ⟨_,rfl,[.str "bounds",.str "number"],.cons .str (.cons .str .nil),sz2,fun u17 H17 j17 hu17=>?_⟩;obtain ⟨p17,zs17,rfl,hz17,_,rz17⟩:=id hu17.unref;obtain rfl:=ax rz17;replace ht:=ht.same j17;replace hd:=hd.same j17;replace q:=fun v H' g hv=>q v H' (j17.trans g) hv;refine ⟨p17,_,rfl,.inr hz17,rfl,rfl,_,rfl,ar (fun c=>absurd c (by decide +kernel)) (fun _=>?_)⟩;refine ⟨_,rfl,rfl,_,rfl,iteN (ae (by decide)) ?_⟩;refine ⟨_,rfl,rfl,_,rfl,iteN (ae (by decide)) ?_⟩;refine ⟨_,rfl,[.str "figures",.str "cut"],.cons .str (.cons .str .nil),sz2,fun u18 H18 j18 hu18=>?_⟩;obtain ⟨p18,zs18,rfl,hz18,_,rz18⟩:=id hu18.unref;obtain rfl:=ax rz18;replace ht:=ht.same j18;replace hd:=hd.same j18;replace q:=fun v H' g hv=>q v H' (j18.trans g) hv;refine ⟨p18,_,rfl,.inr hz18,rfl,rfl,_,rfl,ar (fun c=>absurd c (by decide +kernel)) (fun _=>?_)⟩;refine ⟨_,rfl,rfl,_,rfl,iteN (ae (by decide)) ?_⟩;refine ⟨_,rfl,rfl,_,rfl,iteN (ae (by decide)) ?_⟩;refine ⟨_,rfl,rfl,_,rfl,iteN (ae (by decide)) ?_⟩;refine ⟨_,rfl,rfl,_,rfl,aH ?_⟩;exact ⟨_,rfl,_,_,_,hd,rfl,rfl,fun v2 hv2=>q v2 _ (fun _ _ h=>h) hv2⟩
 | @items t k e m gi =>
  refine ⟨_,rfl,_,_,_,ht,rfl,rfl,fun v hv=>?_⟩;obtain rfl:=am hv;refine ⟨_,rfl,[.str "bounds",.str "number"],.cons .str (.cons .str .nil),sz2,fun u19 H19 j19 hu19=>?_⟩;obtain ⟨p19,zs19,rfl,hz19,_,rz19⟩:=id hu19.unref;obtain rfl:=ax rz19;replace ht:=ht.same j19;replace hd:=hd.same j19;replace q:=fun v H' g hv=>q v H' (j19.trans g) hv;refine ⟨p19,_,rfl,.inr hz19,rfl,rfl,_,rfl,ar (fun c=>absurd c (by decide +kernel)) (fun _=>?_)⟩;refine ⟨_,rfl,rfl,_,rfl,iteN (ae (by decide)) ?_⟩;refine ⟨_,rfl,rfl,_,rfl,iteN (ae (by decide)) ?_⟩;refine ⟨_,rfl,[.str "figures",.str "cut"],.cons .str (.cons .str .nil),sz2,fun u20 H20 j20 hu20=>?_⟩;obtain ⟨p20,zs20,rfl,hz20,_,rz20⟩:=id hu20.unref;obtain rfl:=ax rz20;replace ht:=ht.same j20;replace hd:=hd.same j20;replace q:=fun v H' g hv=>q v H' (j20.trans g) hv;refine ⟨p20,_,rfl,.inr hz20,rfl,rfl,_,rfl,ar (fun c=>absurd c (by decide +kernel)) (fun _=>?_)⟩;refine ⟨_,rfl,rfl,_,rfl,iteN (ae (by decide)) ?_⟩;refine ⟨_,rfl,rfl,_,rfl,iteN (ae (by decide)) ?_⟩;refine ⟨_,rfl,rfl,_,rfl,iteN (ae (by decide)) ?_⟩;refine ⟨_,rfl,rfl,_,rfl,iteN (ae (by decide)) ?_⟩
  cases fk with
  | list fk f1 f2 =>
   refine ⟨_,rfl,_,_,_,ht,rfl,rfl,fun v2 hv2=>?_⟩;refine ⟨_,rfl,_,_,_,hd,rfl,rfl,fun v3 hv3=>?_⟩;refine ⟨_,_,t,k,e,v2,v3,by lia,rfl,hv2,hv3,fk,gi,fun v4 H4 g4 hv4=>?_⟩;refine ⟨_,rfl,_,_,_,hd.same g4,rfl,rfl,isI ?_⟩;exact ⟨[.str "list",e,.int m],.cons .str (.cons hv4 (.cons .int .nil)),sz3,fun v H' g hv=>q v H' (g4.trans g) hv⟩
theorem oA (T:Tx K mg ad) {f:Addr} {fd:FuncData} (A:Gn K mg "led_kind" cQ ["turn","kind"] f fd):∀ n,FnOk P w K mg base CX0 (n+3) f fd ["turn","kind"] (jW K n)
 | 0=>cg fun vs H Q E z=>by obtain ⟨_,_,_,_,_,_,_,h,_,_,_,pk,_⟩:=z;have:=pk.pos;lia
 | n+1=>lT T n A (oA T A n)
theorem rE (u:Str):inV (.str u) [.str u]=true:=by simp [inV,eqV]
theorem s8 {K:PySem.W.Frag} {H:Hp} {a:Str} {zs:List V} (r:IsPs K H [.str a] zs):zs=[.str a]:=by
 cases r with
 | cons r1 r =>
  cases r
  rw [am r1]
theorem gl {a c:Nat} {d:Dt} (h:FK a c d):∃ u l,d=.tup (.str u :: l):=by cases h <;> exact ⟨_,_,rfl⟩
theorem GT.parts {t d e:Dt} (h:GT t d e):oz t=true:=by cases h <;> rfl
theorem gY {a c:Nat} {ws:List Str} (h:FK a c (.tup [.str "choice",.tup (ws.map Dt.str)])):aT ws=true:=by
 generalize e:Dt.tup [.str "choice",.tup (ws.map Dt.str)]=d at h
 cases h with
 | choice ws' hw =>
  injection e with e
  injection e with _ e
  injection e with e _
  injection e with e
  rw [List.map_inj_right (fun _ _ h=>by injection h)] at e;rw [e];exact hw
 | rcd=>exact absurd e (by simp;exact fun c=>absurd c (by decide))
 | _=>exact absurd e (by simp)
def cD (K:PySem.W.Frag) (_:Ads):Sp:=fun vs H Q _=>∃ (fs:List Str) (bs:List (Str×Str)) (ws:List Str) (x y z:V),vs=[x,y,z]∧IsP K H (.tup (fs.map Dt.str)) x∧IsP K H (.tup (bs.map prS)) y∧IsP K H (.tup (ws.map Dt.str)) z∧aT ws=true∧LedW fs bs ws∧∀ H',Same H H'→Q (.bl true) H'
def rF (K:PySem.W.Frag) (n:Nat):Sp:=fun vs H Q _=>∃ (a c:Nat) (t d e:Dt) (x y:V),a≤n∧vs=[x,y]∧IsP K H t x∧IsP K H d y∧okD t=true∧FK a c d∧GT t d e∧∀ H',Same H H'→Q (.bl true) H'
theorem iC (T:Tx K mg ad) {f fl:Addr} {fd fdl:FuncData} (n:Nat) (xR:Gn K mg "is_turn_of" bP ["turn","kind"] f fd) (yc:FnOk P w K mg base CX0 (n+3) f fd ["turn","kind"] (rF K n))
  (yF:Gn K mg "are_led_words" aA ["forth","back","elder"] fl fdl) (yE:FnOk P w K mg base CX0 3 fl fdl ["forth","back","elder"] (cD K ad)):FnOk P w K mg base CX0 (n+3+1) f fd ["turn","kind"] (rF K (n+1)):=by
 obtain ⟨_,_,yd⟩:=T.has_turn_parts;have yC:=eO (P:=P) (w:=w) (base:=base) T yd;obtain ⟨_,_,yi⟩:=T.is_factor;have yx:=jV (P:=P) (w:=w) (base:=base) T yi;obtain ⟨_,_,xF⟩:=T.is_whole;have xM:=de (P:=P) (w:=w) (base:=base) T xF;obtain ⟨_,_,xY⟩:=T.most_figures;have yk:=gc (P:=P) (w:=w) (base:=base) T xY;obtain ⟨_,_,xQ⟩:=T.are_bounds;have ye:=dO (P:=P) (w:=w) (base:=base) T xQ;obtain ⟨c_TURN_SORTS,d_TURN_SORTS,s_TURN_SORTS⟩:=T.TURN_SORTS;refine xR.F.ok dU (fun vs H Q E h=>?_) (fun cdv A outer s H vs Q E hr h=>?_)
 ·obtain ⟨a,c,t,d,e,x,y,_,rfl,_⟩:=h
  rfl
 obtain ⟨a,c,t,d,e,x,y,hle,rfl,ht,hd,okt,fk,g,q⟩:=h;refine ⟨_,(@pss_cons _ _ _ _ _ (@ps_if _ _ _ _ _ _ _ _ (PW.pt (@pw_or _ _ _ _ _ _ _ (@pt_not _ _ _ _ (@pt_val _ _ _ (pcl yd yC (hr.mono (by lia)) rfl (@pa1 _ _ _ (pv 0) (by rfl))) (by intro _;rfl))) (@pw_or1 _ _ _ _ (pt_cmpR op_notIn_seq (@pi1 K _ _ _ _ _ _ _ rfl (pv 1)) (pe_kgetA d_TURN_SORTS rfl c_TURN_SORTS (@pi1 K _ _ _ _ _ _ _ rfl (pv 0)) (@pe_tupPK _ K _ _ _ _ rfl (@pa1 _ _ _ (@pi1 K _ _ _ _ _ _ _ rfl (pv 1)) (by rfl))) ⟨rfl,rfl,rfl,rfl⟩) rfl)))) (@pss_one _ _ _ (@ps_ret _ _ _ _ pe_bl)) pss_nil) (@pss_cons _ _ _ _ _ (@ps_set _ _ 2 _ _ _ _ dU.nd rfl (Or.inl rfl) (@pi1 K _ _ _ _ _ _ _ rfl (pv 0)) (by rfl) (by first | exact .inl rfl | exact .inr rfl | assumption)) (@pss_cons _ _ _ _ _ (@ps_if _ _ _ _ _ _ _ _ (pt_cmpR op_eq (pv 2) pe_str (nomark _)) (@pss_one _ _ _ (@ps_ret _ _ _ _ (pcl yi yx (hr.mono (by lia)) rfl (@pa1 _ _ _ (@pi1 K _ _ _ _ _ _ _ rfl (pv 0)) (by rfl))))) pss_nil) (@pss_cons _ _ _ _ _ (@ps_if _ _ _ _ _ _ _ _ (pt_cmpR op_eq (pv 2) pe_str (nomark _)) (@pss_one _ _ _ (@ps_ret _ _ _ _ (pe_and (pcl yi yx (hr.mono (by lia)) rfl (@pa1 _ _ _ (@pi1 K _ _ _ _ _ _ _ rfl (pv 0)) (by rfl))) (pe_and (pe_cmpR op_eq (@pe_op _ _ _ _ _ _ _ _ cq (@pi1 K _ _ _ _ _ _ _ rfl (pv 1)) (@pi1 K _ _ _ _ _ _ _ rfl (pv 0))) pe_int (nomark _)) (pe_one (pe_cmpR op_eq (@pe_op _ _ _ _ _ _ _ _ cq (@pi1 K _ _ _ _ _ _ _ rfl (pv 1)) (@pi1 K _ _ _ _ _ _ _ rfl (pv 0))) pe_int (nomark _))))))) pss_nil) (@pss_cons _ _ _ _ _ (@ps_if _ _ _ _ _ _ _ _ (pt_cmpR op_eq (pv 2) pe_str (nomark _)) (@pss_one _ _ _ (@ps_ret _ _ _ _ (pe_and (pcl xF xM (hr.mono (by lia)) rfl (@pa1 _ _ _ (@pi1 K _ _ _ _ _ _ _ rfl (pv 0)) (by rfl))) (pe_one (pe_cmpR op_le (pcl xY yk (hr.mono (by lia)) rfl (@pa2 _ _ _ _ _ (@pi1 K _ _ _ _ _ _ _ rfl (pv 1)) (@pi1 K _ _ _ _ _ _ _ rfl (pv 1)) (by rfl) (by rfl))) (@pi1 K _ _ _ _ _ _ _ rfl (pv 0)) (nomark _)))))) pss_nil) (@pss_cons _ _ _ _ _ (@ps_if _ _ _ _ _ _ _ _ (pt_cmpR op_eq (pv 2) pe_str (nomark _)) (@pss_one _ _ _ (@ps_ret _ _ _ _ (pe_and (pcl xQ ye (hr.mono (by lia)) rfl (@pa2 _ _ _ _ _ (@pi1 K _ _ _ _ _ _ _ rfl (pv 0)) (@pi1 K _ _ _ _ _ _ _ rfl (pv 0)) (by rfl) (by rfl))) (pe_one (pe_cmpR op_le (pcl xY yk (hr.mono (by lia)) rfl (@pa2 _ _ _ _ _ (@pi1 K _ _ _ _ _ _ _ rfl (pv 0)) (@pi1 K _ _ _ _ _ _ _ rfl (pv 0)) (by rfl) (by rfl))) (@pi1 K _ _ _ _ _ _ _ rfl (pv 1)) (nomark _)))))) pss_nil) (@pss_cons _ _ _ _ _ (@ps_if _ _ _ _ _ _ _ _ (pt_cmpR op_eq (pv 2) pe_str (nomark _)) (@pss_one _ _ _ (@ps_ret _ _ _ _ (pcl yF yE (hr.mono (by lia)) rfl (@pa3 _ _ _ _ _ _ _ (@pi1 K _ _ _ _ _ _ _ rfl (pv 0)) (@pi1 K _ _ _ _ _ _ _ rfl (pv 0)) (@pi1 K _ _ _ _ _ _ _ rfl (pv 1)) (by rfl) (by rfl) (by rfl))))) pss_nil) (@pss_cons _ _ _ _ _ (@ps_if _ _ _ _ _ _ _ _ (pt_cmpR op_eq (pv 2) pe_str (nomark _)) (@pss_one _ _ _ (@ps_ret _ _ _ _ (pe_and (pcl xF xM (hr.mono (by lia)) rfl (@pa1 _ _ _ (@pi1 K _ _ _ _ _ _ _ rfl (pv 0)) (by rfl))) (pe_one (pe_cmpR qb (@pi1 K _ _ _ _ _ _ _ rfl (pv 0)) pe_int (nomark _)))))) pss_nil) (@pss_cons _ _ _ _ _ (@ps_if _ _ _ _ _ _ _ _ (pt_cmpR op_eq (pv 2) pe_str (nomark _)) (@pss_one _ _ _ (@ps_ret _ _ _ _ (pe_cmpR qb (@pi1 K _ _ _ _ _ _ _ rfl (pv 1)) pe_int (nomark _)))) pss_nil) (@pss_cons _ _ _ _ _ (@ps_if _ _ _ _ _ _ _ _ (pt_cmpR op_eq (pv 2) pe_str (nomark _)) (@pss_one _ _ _ (@ps_ret _ _ _ _ (pcl xR yc (hr.mono (by lia)) rfl (@pa2 _ _ _ _ _ (@pi1 K _ _ _ _ _ _ _ rfl (pv 0)) (@pi1 K _ _ _ _ _ _ _ rfl (pv 1)) (by rfl) (by rfl))))) pss_nil) (@pss_one _ _ _ (@ps_ret _ _ _ _ pe_bl)))))))))))),?_⟩;refine ⟨_,rfl,t,x,rfl,ht,okt,?_⟩;rw [g.parts];refine ⟨_,rfl,aQ ?_⟩;obtain ⟨u,l,ed⟩:=gl fk;refine ⟨_,rfl,_,_,_,(by rw [← ed];exact hd),rfl,at0 _ _,isS ?_⟩
 cases g with
 | bounds i j k l h1 h2 h3 =>
  cases ed
  refine ⟨_,rfl,_,_,_,ht,rfl,rfl,isS ?_⟩;refine ⟨_,rfl,_,_,_,hd,rfl,at0 _ _,isS ?_⟩;refine ⟨[.str _],.cons .str .nil,sz1,fun v4 H4 g4 hv4=>?_⟩;replace ht:=ht.same g4;replace hd:=hd.same g4;replace q:=fun H' g=>q H' (g4.trans g);refine ⟨_,rfl,155,_,rfl,.inr (s_TURN_SORTS (155,["number"]) (by simp) _),rfl,rfl,_,rfl,ar (fun c=>absurd c (by decide +kernel)) (fun _=>?_)⟩;refine ⟨_,rfl,_,_,_,ht,rfl,rfl,isS ?_⟩;refine ⟨_,rfl,rfl,_,rfl,iteN (ae (by decide)) ?_⟩;refine ⟨_,rfl,rfl,_,rfl,iteN (ae (by decide)) ?_⟩;refine ⟨_,rfl,rfl,_,rfl,iteN (ae (by decide)) ?_⟩;refine ⟨_,rfl,rfl,_,rfl,iteN (ae (by decide)) ?_⟩;refine ⟨_,rfl,rfl,_,rfl,iteN (ae (by decide)) ?_⟩;refine ⟨_,rfl,rfl,_,rfl,iteN (ae (by decide)) ?_⟩;refine ⟨_,rfl,rfl,_,rfl,iteN (ae (by decide)) ?_⟩;refine ⟨_,rfl,rfl,_,rfl,iteN (ae (by decide)) ?_⟩;exact q _ (fun _ _ h=>h)
 | scale i j k h1 h2 h3 h4 =>
  cases ed
  refine ⟨_,rfl,_,_,_,ht,rfl,rfl,isS ?_⟩;refine ⟨_,rfl,_,_,_,hd,rfl,at0 _ _,isS ?_⟩;refine ⟨[.str _],.cons .str .nil,sz1,fun v4 H4 g4 hv4=>?_⟩;replace ht:=ht.same g4;replace hd:=hd.same g4;replace q:=fun H' g=>q H' (g4.trans g);refine ⟨_,rfl,156,_,rfl,.inr (s_TURN_SORTS (156,["number"]) (by simp) _),rfl,rfl,_,rfl,ar (fun c=>absurd c (by decide +kernel)) (fun _=>?_)⟩;refine ⟨_,rfl,_,_,_,ht,rfl,rfl,isS ?_⟩;refine ⟨_,rfl,rfl,_,rfl,aH ?_⟩;refine ⟨_,rfl,_,_,_,ht,rfl,rfl,fun v6 hv6=>?_⟩;have hw:bi (.int k) 2 1000=true:=by show (decide (2≤k) && decide (k≤1000))=true;rw [decide_eq_true h1,decide_eq_true h2];rfl
  refine ⟨_,v6,rfl,hv6,rfl,?_⟩;rw [hw];exact q _ (fun _ _ h=>h)
 | shrink i j k h1 h2 h3 h4 =>
  cases ed
  refine ⟨_,rfl,_,_,_,ht,rfl,rfl,isS ?_⟩;refine ⟨_,rfl,_,_,_,hd,rfl,at0 _ _,isS ?_⟩;refine ⟨[.str _],.cons .str .nil,sz1,fun v4 H4 g4 hv4=>?_⟩;replace ht:=ht.same g4;replace hd:=hd.same g4;replace q:=fun H' g=>q H' (g4.trans g);refine ⟨_,rfl,157,_,rfl,.inr (s_TURN_SORTS (157,["number"]) (by simp) _),rfl,rfl,_,rfl,ar (fun c=>absurd c (by decide +kernel)) (fun _=>?_)⟩;refine ⟨_,rfl,_,_,_,ht,rfl,rfl,isS ?_⟩;refine ⟨_,rfl,rfl,_,rfl,iteN (ae (by decide)) ?_⟩;refine ⟨_,rfl,rfl,_,rfl,aH ?_⟩;refine ⟨_,rfl,_,_,_,ht,rfl,rfl,fun v6 hv6=>?_⟩;have hw:bi (.int k) 2 1000=true:=by show (decide (2≤k) && decide (k≤1000))=true;rw [decide_eq_true h1,decide_eq_true h2];rfl
  refine ⟨_,v6,rfl,hv6,rfl,?_⟩;rw [hw];refine ⟨_,rfl,ay ?_⟩;refine ⟨_,rfl,_,_,_,hd,rfl,rfl,isI ?_⟩;refine ⟨_,rfl,_,_,_,ht,rfl,rfl,isI ?_⟩;refine ⟨_,_,rfl,rfl,(by show (0:Int) < k;lia),?_⟩;rw [h3];refine ⟨rfl,_,rfl,aH ?_⟩;refine ⟨_,rfl,_,_,_,hd,rfl,rfl,isI ?_⟩;refine ⟨_,rfl,_,_,_,ht,rfl,rfl,isI ?_⟩;refine ⟨_,_,rfl,rfl,(by show (0:Int) < k;lia),?_⟩;rw [h4];exact ⟨rfl,q _ (fun _ _ h=>h)⟩
 | figures i j m h1 h2 h3 h4 h5 =>
  cases ed
  refine ⟨_,rfl,_,_,_,ht,rfl,rfl,isS ?_⟩;refine ⟨_,rfl,_,_,_,hd,rfl,at0 _ _,isS ?_⟩;refine ⟨[.str _],.cons .str .nil,sz1,fun v4 H4 g4 hv4=>?_⟩;replace ht:=ht.same g4;replace hd:=hd.same g4;replace q:=fun H' g=>q H' (g4.trans g);refine ⟨_,rfl,158,_,rfl,.inr (s_TURN_SORTS (158,["number"]) (by simp) _),rfl,rfl,_,rfl,ar (fun c=>absurd c (by decide +kernel)) (fun _=>?_)⟩;refine ⟨_,rfl,_,_,_,ht,rfl,rfl,isS ?_⟩;refine ⟨_,rfl,rfl,_,rfl,iteN (ae (by decide)) ?_⟩;refine ⟨_,rfl,rfl,_,rfl,iteN (ae (by decide)) ?_⟩;refine ⟨_,rfl,rfl,_,rfl,aH ?_⟩;refine ⟨_,rfl,_,_,_,ht,rfl,rfl,fun v6 hv6=>?_⟩;refine ⟨_,v6,rfl,hv6,rfl,?_⟩;refine ⟨_,rfl,ay ?_⟩;refine ⟨_,rfl,_,_,_,hd,rfl,rfl,isI ?_⟩;refine ⟨_,rfl,_,_,_,hd,rfl,rfl,isI ?_⟩;refine ⟨i,j,rfl,h1,h2,?_⟩;refine ⟨_,rfl,_,_,_,ht,rfl,rfl,isI ?_⟩;refine ⟨_,_,rfl,rfl,?_⟩;rw [decide_eq_true h3];exact q _ (fun _ _ h=>h)
 | number i j m h1 h2 h3 h4 =>
  cases ed
  refine ⟨_,rfl,_,_,_,ht,rfl,rfl,isS ?_⟩;refine ⟨_,rfl,_,_,_,hd,rfl,at0 _ _,isS ?_⟩;refine ⟨[.str _],.cons .str .nil,sz1,fun v4 H4 g4 hv4=>?_⟩;replace ht:=ht.same g4;replace hd:=hd.same g4;replace q:=fun H' g=>q H' (g4.trans g);refine ⟨_,rfl,159,_,rfl,.inr (s_TURN_SORTS (159,["text"]) (by simp) _),rfl,rfl,_,rfl,ar (fun c=>absurd c (by decide +kernel)) (fun _=>?_)⟩;refine ⟨_,rfl,_,_,_,ht,rfl,rfl,isS ?_⟩;refine ⟨_,rfl,rfl,_,rfl,iteN (ae (by decide)) ?_⟩;refine ⟨_,rfl,rfl,_,rfl,iteN (ae (by decide)) ?_⟩;refine ⟨_,rfl,rfl,_,rfl,iteN (ae (by decide)) ?_⟩;refine ⟨_,rfl,rfl,_,rfl,aH ?_⟩;refine ⟨_,rfl,_,_,_,ht,rfl,rfl,fun v6 hv6=>?_⟩;refine ⟨_,rfl,_,_,_,ht,rfl,rfl,fun v7 hv7=>?_⟩;have hb:gj (.int i) (.int j)=true:=by
   show _=true;simp only [gj,rg,Bool.and_eq_true,decide_eq_true_eq];exact ⟨⟨h1.1,h2⟩,h3.2⟩
  refine ⟨_,_,v6,v7,rfl,hv6,hv7,rfl,rfl,?_⟩;rw [hb];refine ⟨_,rfl,ay ?_⟩;refine ⟨_,rfl,_,_,_,ht,rfl,rfl,isI ?_⟩;refine ⟨_,rfl,_,_,_,ht,rfl,rfl,isI ?_⟩;refine ⟨i,j,rfl,h1,h3,?_⟩;refine ⟨_,rfl,_,_,_,hd,rfl,rfl,isI ?_⟩;refine ⟨_,_,rfl,rfl,?_⟩;rw [decide_eq_true h4];exact q _ (fun _ _ h=>h)
 | words fs bs ws h =>
  cases ed
  refine ⟨_,rfl,_,_,_,ht,rfl,rfl,isS ?_⟩;refine ⟨_,rfl,_,_,_,hd,rfl,at0 _ _,isS ?_⟩;refine ⟨[.str _],.cons .str .nil,sz1,fun v4 H4 g4 hv4=>?_⟩;replace ht:=ht.same g4;replace hd:=hd.same g4;replace q:=fun H' g=>q H' (g4.trans g);refine ⟨_,rfl,160,_,rfl,.inr (s_TURN_SORTS (160,["choice"]) (by simp) _),rfl,rfl,_,rfl,ar (fun c=>absurd c (by decide +kernel)) (fun _=>?_)⟩;refine ⟨_,rfl,_,_,_,ht,rfl,rfl,isS ?_⟩;refine ⟨_,rfl,rfl,_,rfl,iteN (ae (by decide)) ?_⟩;refine ⟨_,rfl,rfl,_,rfl,iteN (ae (by decide)) ?_⟩;refine ⟨_,rfl,rfl,_,rfl,iteN (ae (by decide)) ?_⟩;refine ⟨_,rfl,rfl,_,rfl,iteN (ae (by decide)) ?_⟩;refine ⟨_,rfl,rfl,_,rfl,aH ?_⟩;have hw:=gY fk;refine ⟨_,rfl,_,_,_,ht,rfl,rfl,fun v6 hv6=>?_⟩;refine ⟨_,rfl,_,_,_,ht,rfl,rfl,fun v7 hv7=>?_⟩;refine ⟨_,rfl,_,_,_,hd,rfl,rfl,fun v8 hv8=>?_⟩;exact ⟨fs,bs,ws,v6,v7,v8,rfl,hv6,hv7,hv8,hw,h,q⟩
 | cut m i h1 h2 =>
  cases ed
  refine ⟨_,rfl,_,_,_,ht,rfl,rfl,isS ?_⟩;refine ⟨_,rfl,_,_,_,hd,rfl,at0 _ _,isS ?_⟩;refine ⟨[.str _],.cons .str .nil,sz1,fun v4 H4 g4 hv4=>?_⟩;replace ht:=ht.same g4;replace hd:=hd.same g4;replace q:=fun H' g=>q H' (g4.trans g);refine ⟨_,rfl,161,_,rfl,.inr (s_TURN_SORTS (161,["text"]) (by simp) _),rfl,rfl,_,rfl,ar (fun c=>absurd c (by decide +kernel)) (fun _=>?_)⟩;refine ⟨_,rfl,_,_,_,ht,rfl,rfl,isS ?_⟩;refine ⟨_,rfl,rfl,_,rfl,iteN (ae (by decide)) ?_⟩;refine ⟨_,rfl,rfl,_,rfl,iteN (ae (by decide)) ?_⟩;refine ⟨_,rfl,rfl,_,rfl,iteN (ae (by decide)) ?_⟩;refine ⟨_,rfl,rfl,_,rfl,iteN (ae (by decide)) ?_⟩;refine ⟨_,rfl,rfl,_,rfl,iteN (ae (by decide)) ?_⟩;refine ⟨_,rfl,rfl,_,rfl,iteN (ae (by decide)) ?_⟩;refine ⟨_,rfl,rfl,_,rfl,iteN (ae (by decide)) ?_⟩;refine ⟨_,rfl,rfl,_,rfl,iteN (ae (by decide)) ?_⟩;exact q _ (fun _ _ h=>h)
 | firstL k m i h1 h2 =>
  cases ed
  refine ⟨_,rfl,_,_,_,ht,rfl,rfl,isS ?_⟩;refine ⟨_,rfl,_,_,_,hd,rfl,at0 _ _,isS ?_⟩;refine ⟨[.str _],.cons .str .nil,sz1,fun v4 H4 g4 hv4=>?_⟩;replace ht:=ht.same g4;replace hd:=hd.same g4;replace q:=fun H' g=>q H' (g4.trans g);refine ⟨_,rfl,162,_,rfl,.inr (s_TURN_SORTS (162,["list","rows"]) (by simp) _),rfl,rfl,_,rfl,ar (fun c=>absurd c (by decide +kernel)) (fun _=>?_)⟩;refine ⟨_,rfl,_,_,_,ht,rfl,rfl,isS ?_⟩;refine ⟨_,rfl,rfl,_,rfl,iteN (ae (by decide)) ?_⟩;refine ⟨_,rfl,rfl,_,rfl,iteN (ae (by decide)) ?_⟩;refine ⟨_,rfl,rfl,_,rfl,iteN (ae (by decide)) ?_⟩;refine ⟨_,rfl,rfl,_,rfl,iteN (ae (by decide)) ?_⟩;refine ⟨_,rfl,rfl,_,rfl,iteN (ae (by decide)) ?_⟩;refine ⟨_,rfl,rfl,_,rfl,iteN (ae (by decide)) ?_⟩;refine ⟨_,rfl,rfl,_,rfl,iteN (ae (by decide)) ?_⟩;refine ⟨_,rfl,rfl,_,rfl,iteN (ae (by decide)) ?_⟩;exact q _ (fun _ _ h=>h)
 | firstR z k m i h1 h2 =>
  cases ed
  refine ⟨_,rfl,_,_,_,ht,rfl,rfl,isS ?_⟩;refine ⟨_,rfl,_,_,_,hd,rfl,at0 _ _,isS ?_⟩;refine ⟨[.str _],.cons .str .nil,sz1,fun v4 H4 g4 hv4=>?_⟩;replace ht:=ht.same g4;replace hd:=hd.same g4;replace q:=fun H' g=>q H' (g4.trans g);refine ⟨_,rfl,162,_,rfl,.inr (s_TURN_SORTS (162,["list","rows"]) (by simp) _),rfl,rfl,_,rfl,ar (fun c=>absurd c (by decide +kernel)) (fun _=>?_)⟩;refine ⟨_,rfl,_,_,_,ht,rfl,rfl,isS ?_⟩;refine ⟨_,rfl,rfl,_,rfl,iteN (ae (by decide)) ?_⟩;refine ⟨_,rfl,rfl,_,rfl,iteN (ae (by decide)) ?_⟩;refine ⟨_,rfl,rfl,_,rfl,iteN (ae (by decide)) ?_⟩;refine ⟨_,rfl,rfl,_,rfl,iteN (ae (by decide)) ?_⟩;refine ⟨_,rfl,rfl,_,rfl,iteN (ae (by decide)) ?_⟩;refine ⟨_,rfl,rfl,_,rfl,iteN (ae (by decide)) ?_⟩;refine ⟨_,rfl,rfl,_,rfl,iteN (ae (by decide)) ?_⟩;refine ⟨_,rfl,rfl,_,rfl,iteN (ae (by decide)) ?_⟩;exact q _ (fun _ _ h=>h)
 | one _ i h1 h2 =>
  refine ⟨_,rfl,_,_,_,ht,rfl,rfl,isS ?_⟩;refine ⟨_,rfl,_,_,_,(by rw [← ed];exact hd),rfl,at0 _ _,isS ?_⟩;refine ⟨[.str _],.cons .str .nil,sz1,fun v4 H4 g4 hv4=>?_⟩;replace ht:=ht.same g4;replace hd:=hd.same g4;replace q:=fun H' g=>q H' (g4.trans g);obtain ⟨p4,zs,rfl,hz,_,rz⟩:=id hv4.unref;obtain rfl:=s8 rz;refine ⟨_,rfl,p4,_,rfl,.inr hz,rfl,rfl,_,rfl,ar (fun c=>absurd c (by simp [rE])) (fun _=>?_)⟩;refine ⟨_,rfl,_,_,_,ht,rfl,rfl,isS ?_⟩;refine ⟨_,rfl,rfl,_,rfl,iteN (ae (by decide)) ?_⟩;refine ⟨_,rfl,rfl,_,rfl,iteN (ae (by decide)) ?_⟩;refine ⟨_,rfl,rfl,_,rfl,iteN (ae (by decide)) ?_⟩;refine ⟨_,rfl,rfl,_,rfl,iteN (ae (by decide)) ?_⟩;refine ⟨_,rfl,rfl,_,rfl,iteN (ae (by decide)) ?_⟩;refine ⟨_,rfl,rfl,_,rfl,aH ?_⟩;refine ⟨_,rfl,_,_,_,ht,rfl,rfl,fun v6 hv6=>?_⟩;refine ⟨_,v6,rfl,hv6,rfl,?_⟩;refine ⟨_,rfl,ay ?_⟩;refine ⟨_,rfl,_,_,_,ht,rfl,rfl,isI ?_⟩;refine ⟨_,_,rfl,rfl,?_⟩;rw [decide_eq_true (show i≥1 from h1)];exact q _ (fun _ _ h=>h)
 | out _ m h1 =>
  cases ed
  refine ⟨_,rfl,_,_,_,ht,rfl,rfl,isS ?_⟩;refine ⟨_,rfl,_,_,_,hd,rfl,at0 _ _,isS ?_⟩;refine ⟨[.str _],.cons .str .nil,sz1,fun v4 H4 g4 hv4=>?_⟩;replace ht:=ht.same g4;replace hd:=hd.same g4;replace q:=fun H' g=>q H' (g4.trans g);refine ⟨_,rfl,163,_,rfl,.inr (s_TURN_SORTS (163,["list"]) (by simp) _),rfl,rfl,_,rfl,ar (fun c=>absurd c (by decide +kernel)) (fun _=>?_)⟩;refine ⟨_,rfl,_,_,_,ht,rfl,rfl,isS ?_⟩;refine ⟨_,rfl,rfl,_,rfl,iteN (ae (by decide)) ?_⟩;refine ⟨_,rfl,rfl,_,rfl,iteN (ae (by decide)) ?_⟩;refine ⟨_,rfl,rfl,_,rfl,iteN (ae (by decide)) ?_⟩;refine ⟨_,rfl,rfl,_,rfl,iteN (ae (by decide)) ?_⟩;refine ⟨_,rfl,rfl,_,rfl,iteN (ae (by decide)) ?_⟩;refine ⟨_,rfl,rfl,_,rfl,iteN (ae (by decide)) ?_⟩;refine ⟨_,rfl,rfl,_,rfl,aH ?_⟩;refine ⟨_,rfl,_,_,_,hd,rfl,rfl,isI ?_⟩;refine ⟨_,_,rfl,rfl,?_⟩;rw [decide_eq_true (show m≥1 from h1)];exact q _ (fun _ _ h=>h)
 | @items t k e m gi =>
  cases ed
  refine ⟨_,rfl,_,_,_,ht,rfl,rfl,isS ?_⟩;refine ⟨_,rfl,_,_,_,hd,rfl,at0 _ _,isS ?_⟩;refine ⟨[.str _],.cons .str .nil,sz1,fun v4 H4 g4 hv4=>?_⟩;replace ht:=ht.same g4;replace hd:=hd.same g4;replace q:=fun H' g=>q H' (g4.trans g);refine ⟨_,rfl,164,_,rfl,.inr (s_TURN_SORTS (164,["list"]) (by simp) _),rfl,rfl,_,rfl,ar (fun c=>absurd c (by decide +kernel)) (fun _=>?_)⟩;refine ⟨_,rfl,_,_,_,ht,rfl,rfl,isS ?_⟩;refine ⟨_,rfl,rfl,_,rfl,iteN (ae (by decide)) ?_⟩;refine ⟨_,rfl,rfl,_,rfl,iteN (ae (by decide)) ?_⟩;refine ⟨_,rfl,rfl,_,rfl,iteN (ae (by decide)) ?_⟩;refine ⟨_,rfl,rfl,_,rfl,iteN (ae (by decide)) ?_⟩;refine ⟨_,rfl,rfl,_,rfl,iteN (ae (by decide)) ?_⟩;refine ⟨_,rfl,rfl,_,rfl,iteN (ae (by decide)) ?_⟩;refine ⟨_,rfl,rfl,_,rfl,iteN (ae (by decide)) ?_⟩;refine ⟨_,rfl,rfl,_,rfl,aH ?_⟩
  cases fk with
  | list fk f1 f2 =>
   refine ⟨_,rfl,_,_,_,ht,rfl,rfl,fun v6 hv6=>?_⟩;refine ⟨_,rfl,_,_,_,hd,rfl,rfl,fun v7 hv7=>?_⟩;exact ⟨_,_,t,k,e,v6,v7,by lia,rfl,hv6,hv7,aV (l:=[.str "items",t]) okt t (by simp),fk,gi,q⟩
theorem df (i:Nat):bls (List.replicate i true)++[V.bl true]=bls (List.replicate (i+1) true):=by simp [bls,List.replicate_succ']
theorem eP {i:Nat} (h:i≤999):(bls (List.replicate i true)).length < sizeLine:=by
 simp only [bls,List.length_map,List.length_replicate];exact ai (by lia)
theorem eQ (i:Nat):(List.replicate i true).all id=true:=by simp
theorem rG {u:Str} {ws:List Str} (h:u∈ws):inV (.str u) (ws.map V.str)=true:=by
 unfold inV;rw [List.any_map,List.any_eq_true];exact ⟨u,h,by simp [eqV]⟩
theorem inG {u:Str} {ws:List Str} (h:u∈ws):(if false=true then !inV (.str u) (ws.map V.str) else inV (.str u) (ws.map V.str))=true:=by
 rw [if_neg (by decide),rG h]
theorem eqG (x:V):decide (x=x)=true:=decide_eq_true rfl
theorem i5 (ws:List Str):(ws.map V.str).all dM=true:=by simp [dM]
theorem fC:∀ {l:List (Str×Dt)} {z:Str} {d:Dt},(l.map (·.1)).Nodup→(z,d)∈l→aR l z=some d
 | (y,e) :: l,z,d,nd,h=>by
  have nd':=List.nodup_cons.mp nd;rcases List.mem_cons.mp h with h | h
  ·injection h with h1 h2
   subst h1;subst h2;simp [aR]
  ·have:y≠z:=fun c=>nd'.1 (List.mem_map.mpr ⟨(z,d),h,c.symm⟩);have e:aR ((y,e) :: l) z=aR l z:=by simp [aR,this]
   rw [e];exact fC nd'.2 h
theorem dH {K:PySem.W.Frag} {H:Hp} {p:Str×Str} {v:V} (h:IsP K H (prS p) v):∃ b,v=.ref b∧SqT K H b [.str p.1,.str p.2]:=by
 obtain ⟨b,ys,rfl,hb,pb,rb⟩:=h.unref
 cases rb with
 | cons r1 rb =>
  cases rb with
  | @cons _ _ y2 _ r2 rb =>
   cases rb
   obtain rfl:=am r1;obtain rfl:=am r2;exact ⟨b,rfl,hb⟩
theorem DicP.same {K:PySem.W.Frag} {H H':Hp} {p:Addr} {fs:List (Str×Dt)} (h:DicP K H p fs) (g:Same H H'):DicP K H' p fs:=by
 obtain ⟨kvs,e,k⟩:=h;refine ⟨kvs,g _ _ e,fun z=>⟨(k z).1,fun d l=>?_⟩⟩;obtain ⟨v,l1,l2⟩:=(k z).2 d l;exact ⟨v,l1,l2.same g⟩
theorem rH {ws:List Str} (hw:aT ws=true):okD (.tup (ws.map Dt.str))=true:=by
 obtain ⟨_,_,hn,_⟩:=aq hw;refine dZ fun d hd=>?_;obtain ⟨z,hz,rfl⟩:=List.mem_map.mp hd;exact eL (List.all_eq_true.mp hn z hz)
theorem s9 {ws:List Str} (hw:aT ws=true):mV (.tup (ws.map Dt.str))=true:=by
 have:=ow (FK.choice ws hw) 1;exact this
theorem tj (ws fs:List Str):ws.zip (fs.map Dt.str)=(ws.zip fs).map fun p=>(p.1,Dt.str p.2):=by
 rw [List.zip_map_right]
 rfl
theorem lU:∀ {ws fs:List Str},fs.length=ws.length→(ws.zip (fs.map Dt.str)).map (·.1)=ws
 | [],_,_=>by simp
 | w :: ws,[],h=>by simp at h
 | w :: ws,f :: fs,h=>by
  have:=lU (ws:=ws) (fs:=fs) (by simpa using h);simp only [List.map_cons,List.zip_cons_cons,this]
theorem lV {ws fs:List Str} {w f:Str} (nd:ws.Nodup) (hl:fs.length=ws.length) (h:(w,f)∈ws.zip fs):aR (ws.zip (fs.map Dt.str)) w=some (.str f):=by
 refine fC (by rw [lU hl];exact nd) ?_;rw [tj];exact List.mem_map.mpr ⟨(w,f),h,rfl⟩
theorem oB {bs:List (Str×Str)} {w f:Str} (nd:(bs.map (·.1)).Nodup) (h:(w,f)∈bs):aR (bs.map fun p=>(p.1,Dt.str p.2)) w=some (.str f):=by
 refine fC (by rw [List.map_map];exact nd) (List.mem_map.mpr ⟨(w,f),h,rfl⟩)
theorem DicP.at {K:PySem.W.Frag} {H:Hp} {p:Addr} {fs:List (Str×Dt)} {z u:Str} (h:DicP K H p fs) (l:aR fs z=some (.str u)):DGet H p (.str z) (some (.str u)):=by
 obtain ⟨v,hv,r⟩:=h.get l;obtain rfl:=am r;exact hv
theorem fD (T:Tx K mg ad) {f:Addr} {fd:FuncData} (F:Gn K mg "are_led_words" aA ["forth","back","elder"] f fd):FnOk P w K mg base CX0 3 f fd ["forth","back","elder"] (cD K ad):=by
 obtain ⟨_,_,xL⟩:=T.words_behind;have xZ:=cV (P:=P) (w:=w) (base:=base) T xL;obtain ⟨_,_,xU⟩:=T.are_words;have yg:=eK (P:=P) (w:=w) (base:=base) T xU;refine F.F.ok sc_are_led_words (fun vs H Q E h=>?_) (fun cdv A outer s H vs Q E hr h=>?_)
 ·obtain ⟨fs,bs,ws,x,y,z,rfl,_⟩:=h
  rfl
 obtain ⟨fs,bs,ws,x,y,z,rfl,hf,hb,hw,ww,lw,q⟩:=h;refine ⟨_,(@pss_cons _ _ _ _ _ (@ps_if _ _ _ _ _ _ _ _ (PW.pt (@pw_or _ _ _ _ _ _ _ (@pt_not _ _ _ _ (@pt_val _ _ _ (pe_callB (aD (K:=K) rfl) rfl T.z_isinstance boot_isinstance (@pa2 _ _ _ _ _ (pv 0) (bu rfl T.z_tuple boot_tuple) (by rfl) (by rfl))) (by intro _;rfl))) (@pw_or1 _ _ _ _ (pt_cmpR op_ne (pe_callB (call_lenDN (K:=K) rfl) rfl T.z_len PySem.boot_len (@pa1 _ _ _ (pv 0) (by rfl))) (pe_callB (call_lenDN (K:=K) rfl) rfl T.z_len PySem.boot_len (@pa1 _ _ _ (pv 2) (by rfl))) (nomark _))))) (@pss_one _ _ _ (@ps_ret _ _ _ _ pe_bl)) pss_nil) (@pss_cons _ _ _ _ _ (@ps_if _ _ _ _ _ _ _ _ (PW.pt (@pw_or _ _ _ _ _ _ _ (@pt_not _ _ _ _ (@pt_val _ _ _ (pe_callB (aD (K:=K) rfl) rfl T.z_isinstance boot_isinstance (@pa2 _ _ _ _ _ (pv 1) (bu rfl T.z_tuple boot_tuple) (by rfl) (by rfl))) (by intro _;rfl))) (@pw_or1 _ _ _ _ (@pt_not _ _ _ _ (@pt_val _ _ _ (pe_callB (call_allN (K:=K) rfl rfl) rfl T.z_all boot_all (@pa1 _ _ _ (aI rfl (cs0 (NL:=["pair"]) rfl (by decide +kernel) (by decide +kernel)) (aP (K:=K) rfl (pv 1)) (fun _ _ _ _=>(aj (i:=0) (show List.Nodup (α:=Str) ["pair"] by decide +kernel) rfl (Or.inl rfl))) (fun _ _ _ _=>(pe_and (pe_callB (aD (K:=K) rfl) rfl T.z_isinstance boot_isinstance (@pa2 _ _ _ _ _ (pv 0) (bu rfl T.z_tuple boot_tuple) (by rfl) (by rfl))) (pe_one (pe_cmpR op_eq (pe_callB (call_lenDN (K:=K) rfl) rfl T.z_len PySem.boot_len (@pa1 _ _ _ (pv 0) (by rfl))) pe_int (nomark _)))))) (by rfl))) (by intro _;rfl)))))) (@pss_one _ _ _ (@ps_ret _ _ _ _ pe_bl)) pss_nil) (@pss_cons _ _ _ _ _ (@ps_set _ _ 3 _ _ _ _ sc_are_led_words.nd rfl (Or.inr rfl) (pcl xL xZ (hr.mono (by lia)) rfl (@pa1 _ _ _ (pv 1) (by rfl))) (by rfl) (by first | exact .inl rfl | exact .inr rfl | assumption)) (@pss_cons _ _ _ _ _ (@ps_if _ _ _ _ _ _ _ _ (PW.pt (@pw_or _ _ _ _ _ _ _ (@pt_not _ _ _ _ (@pt_val _ _ _ (pcl xU yg (hr.mono (by lia)) rfl (@pa1 _ _ _ (pv 3) (by rfl))) (by intro _;rfl))) (@pw_or1 _ _ _ _ (@pt_not _ _ _ _ (@pt_val _ _ _ (pe_callB (call_allN (K:=K) rfl rfl) rfl T.z_all boot_all (@pa1 _ _ _ (aI rfl (csR (sc:=af aA) (NL:=["word"]) (N:=["forth","back","elder","behind","there","again"]) (ρ:=[3]) (N':=["word","behind"]) rfl rfl rfl (by decide +kernel) (by decide +kernel) (by decide +kernel) rfl (by decide +kernel)) (aP (K:=K) rfl (pv 0)) (fun _ _ _ _=>(aj (i:=0) (show List.Nodup (α:=Str) ["word","behind"] by decide +kernel) rfl (Or.inl rfl))) (fun _ _ _ _=>(pe_cmpR (op_in_seqK (K:=K) rfl) (pv 0) (pv 1) rfl))) (by rfl))) (by intro _;rfl)))))) (@pss_one _ _ _ (@ps_ret _ _ _ _ pe_bl)) pss_nil) (@pss_cons _ _ _ _ _ (@ps_if _ _ _ _ _ _ _ _ (@pt_not _ _ _ _ (@pt_val _ _ _ (pe_callB (call_allN (K:=K) rfl rfl) rfl T.z_all boot_all (@pa1 _ _ _ (aI rfl (csR (sc:=af aA) (NL:=["first","word"]) (N:=["forth","back","elder","behind","there","again"]) (ρ:=[2]) (N':=["first","word","elder"]) rfl rfl rfl (by decide +kernel) (by decide +kernel) (by decide +kernel) rfl (by decide +kernel)) (aP (K:=K) rfl (pv 1)) (fun _ _ _ _=>(ci (K:=K) (n:=2) rfl rfl (aC (aj (i:=0) (show List.Nodup (α:=Str) ["first","word","elder"] by decide +kernel) rfl (Or.inl rfl)) (aC (aj (i:=1) (show List.Nodup (α:=Str) ["first","word","elder"] by decide +kernel) rfl (Or.inl rfl)) bL)))) (fun _ _ _ _=>(pe_cmpR (op_in_seqK (K:=K) rfl) (pv 1) (pv 2) rfl))) (by rfl))) (by intro _;rfl))) (@pss_one _ _ _ (@ps_ret _ _ _ _ pe_bl)) pss_nil) (@pss_cons _ _ _ _ _ (@ps_set _ _ 4 _ _ _ _ sc_are_led_words.nd rfl (Or.inr rfl) (pe_dictZ rfl rfl T.z_dict rfl T.z_zip (@pa2 _ _ _ _ _ (pv 2) (pv 0) (by rfl) (by rfl))) (by rfl) (by first | exact .inl rfl | exact .inr rfl | assumption)) (@pss_cons _ _ _ _ _ (@ps_set _ _ 5 _ _ _ _ sc_are_led_words.nd rfl (Or.inr rfl) (pe_callTy (call_dictPN (K:=K) rfl rfl) rfl T.z_dict boot_dict (@pa1 _ _ _ (pv 1) (by rfl))) (by rfl) (by first | exact .inl rfl | exact .inr rfl | assumption)) (@pss_cons _ _ _ _ _ (@ps_if _ _ _ _ _ _ _ _ (@pt_not _ _ _ _ (@pt_val _ _ _ (pe_callB (call_allN (K:=K) rfl rfl) rfl T.z_all boot_all (@pa1 _ _ _ (aI rfl (csR (sc:=af aA) (NL:=["word"]) (N:=["forth","back","elder","behind","there","again"]) (ρ:=[4,5]) (N':=["word","there","again"]) rfl rfl rfl (by decide +kernel) (by decide +kernel) (by decide +kernel) rfl (by decide +kernel)) (aP (K:=K) rfl (pv 0)) (fun _ _ _ _=>(aj (i:=0) (show List.Nodup (α:=Str) ["word","there","again"] by decide +kernel) rfl (Or.inl rfl))) (fun _ _ _ _=>(pe_cmpR op_eq (gg (u1 hr.units) (pv 1) (gg (u1 hr.units) (pv 2) (pv 0) (fun _ _=>rfl)) (fun _ _=>rfl)) (pv 0) (nomark _)))) (by rfl))) (by intro _;rfl))) (@pss_one _ _ _ (@ps_ret _ _ _ _ pe_bl)) pss_nil) (@pss_one _ _ _ (@ps_ret _ _ _ _ (pe_callB (call_allN (K:=K) rfl rfl) rfl T.z_all boot_all (@pa1 _ _ _ (aI rfl (csR (sc:=af aA) (NL:=["first","word"]) (N:=["forth","back","elder","behind","there","again"]) (ρ:=[4,5]) (N':=["first","word","there","again"]) rfl rfl rfl (by decide +kernel) (by decide +kernel) (by decide +kernel) rfl (by decide +kernel)) (aP (K:=K) rfl (pv 1)) (fun _ _ _ _=>(ci (K:=K) (n:=2) rfl rfl (aC (aj (i:=0) (show List.Nodup (α:=Str) ["first","word","there","again"] by decide +kernel) rfl (Or.inl rfl)) (aC (aj (i:=1) (show List.Nodup (α:=Str) ["first","word","there","again"] by decide +kernel) rfl (Or.inl rfl)) bL)))) (fun _ _ _ _=>(pe_cmpR op_eq (gg (u1 hr.units) (pv 3) (gg (u1 hr.units) (pv 2) (pv 1) (fun _ _=>rfl)) (fun _ _=>rfl)) (pv 1) (nomark _)))) (by rfl))))))))))))),?_⟩;obtain ⟨_,lw8,_,ndw⟩:=aq ww;obtain ⟨_,lb8,_,ndb⟩:=aq lw.words;rw [List.length_map] at lb8;have lf:=lw.len;obtain ⟨a1,xs1,rfl,hT1,pa1,ra1⟩:=id hf.unref;obtain ⟨a2,xs2,rfl,hT2,pa2,ra2⟩:=id hb.unref;obtain ⟨a3,xs3,rfl,hT3,pa3,ra3⟩:=id hw.unref;have e1:=aX ra1;have e3:=aX ra3;subst e1;subst e3;have l2:=ra2.length;rw [List.length_map] at l2;refine ⟨_,rfl,_,_,_,rfl,.tup_tuple hT1,_,rfl,aQ ?_⟩;refine ⟨_,rfl,_,_,rfl,hf.d,_,rfl,_,_,rfl,hw.d,?_⟩;rw [List.length_map,List.length_map,lf];refine ⟨rfl,_,rfl,i3 ?_⟩;refine ⟨_,rfl,_,_,_,rfl,.tup_tuple hT2,_,rfl,aQ ?_⟩;refine ⟨_,rfl,a2,rfl,⟨_,hT2⟩,fun l hln=>?_⟩;refine aG (K:=K) (xs:=xs2) (fun i ys σ H'=>ys=bls (List.replicate i true)∧Same H H'∧H' l=some (.lst ys)∧σ.length=1) ⟨rfl,ag hln _,ac,rfl⟩ (fun i ys σ H' _ r=>r.2.1.tup hT2) ?_ ?_
 ·rintro i y ys σ H1 N hy ⟨rfl,g,e1,hσ⟩ next;obtain ⟨d,hdi,hp⟩:=ra2.get' hy;rw [List.getElem?_map] at hdi;obtain ⟨p,hfi,rfl⟩:=Option.map_eq_some_iff.mp hdi;have hil:=(List.getElem?_eq_some_iff.mp hfi).1;replace hp:=hp.same g;obtain ⟨b,rfl,hb2⟩:=dH hp
  match σ,hσ with
  | [_],_ =>
   refine ⟨_,rfl,_,_,_,rfl,.tup_tuple hb2,_,rfl,ay ?_⟩;refine ⟨_,rfl,_,_,rfl,hp.d,rfl,?_⟩;have e2:decide ((V.int ((2:Nat):Int))=.int 2)=true:=rfl;exact ⟨e1,eP (by lia),next _ _ _ ⟨df i,az hln g,ac,rfl⟩⟩
 rintro ys σ H1 ⟨rfl,g1,e1,_⟩;refine ⟨l,_,rfl,rfl,SqL.of e1,_,rfl,?_⟩;rw [eQ];refine aQ ?_
 clear e1 hln l
 have hb1:=hb.same g1;have eb:bs.map prS=(bs.map fun p=>(Dt.str p.1,Dt.str p.2)).map prT:=by rw [List.map_map];rfl
 refine ⟨_,rfl,_,_,rfl,(by rw [← eb];exact hb1),(by rw [List.length_map];lia),fun v3 H2 g2 hv3=>?_⟩;have ev:(bs.map fun p=>(Dt.str p.1,Dt.str p.2)).map (·.1)=(bs.map (·.1)).map Dt.str:=by rw [List.map_map,List.map_map];rfl
 rw [ev] at hv3;refine ⟨_,rfl,_,_,rfl,hv3,rH lw.words,fun H3 g3=>?_⟩;rw [s9 lw.words];refine ⟨_,rfl,aQ ?_⟩;replace hv3:=hv3.same g3;replace g3:=(g1.trans g2).trans g3
 clear hb1
 obtain ⟨a4,xs4,rfl,hT4,pa4,ra4⟩:=id hv3.unref;have e4:=aX ra4;subst e4;have hT1':=g3.tup hT1;refine ⟨_,rfl,a1,rfl,⟨_,hT1'⟩,fun l hln=>?_⟩;refine aG (K:=K) (xs:=fs.map V.str) (fun i ys σ H'=>ys=bls (List.replicate i true)∧Same H3 H'∧H' l=some (.lst ys)∧∃ w,σ=[w,some (.ref a4)]) ⟨rfl,ag hln _,ac,_,rfl⟩ (fun i ys σ H' _ r=>r.2.1.tup hT1') ?_ ?_
 ·rintro i y ys σ H1 N hy ⟨rfl,g,e1,w1,rfl⟩ next;rw [List.getElem?_map] at hy;obtain ⟨f1,hfi,rfl⟩:=Option.map_eq_some_iff.mp hy;have hil:=(List.getElem?_eq_some_iff.mp hfi).1;have hm:=List.mem_of_getElem? hfi;obtain ⟨u,hu,_⟩:=lw.fwd f1 hm;refine ⟨_,rfl,_,rfl,a4,_,rfl,.inr (g.tup hT4),rfl,i5 _,?_⟩;rw [inG (List.mem_map.mpr ⟨(f1,u),hu,rfl⟩:f1∈bs.map (·.1))];exact ⟨e1,eP (by lia),next _ _ _ ⟨df i,az hln g,ac,_,rfl⟩⟩
 rintro ys σ H4 ⟨rfl,g4,e1,_⟩;refine ⟨l,_,rfl,rfl,SqL.of e1,_,rfl,?_⟩;rw [eQ];refine aQ ?_
 clear e1 hln l
 replace g4:=g3.trans g4
 clear g3 hT1'
 have hT2':=g4.tup hT2;have hT3':=g4.tup hT3;refine ⟨_,rfl,a2,rfl,⟨_,hT2'⟩,fun l hln=>?_⟩;refine aG (K:=K) (xs:=xs2) (fun i ys σ H'=>ys=bls (List.replicate i true)∧Same H4 H'∧H' l=some (.lst ys)∧∃ w w2,σ=[w,w2,some (.ref a3)]) ⟨rfl,ag hln _,ac,_,_,rfl⟩ (fun i ys σ H' _ r=>r.2.1.tup hT2') ?_ ?_
 ·rintro i y ys σ H1 N hy ⟨rfl,g,e1,w1,w2,rfl⟩ next;obtain ⟨d,hdi,hp⟩:=ra2.get' hy;rw [List.getElem?_map] at hdi;obtain ⟨p,hfi,rfl⟩:=Option.map_eq_some_iff.mp hdi;have hil:=(List.getElem?_eq_some_iff.mp hfi).1;have hm:=List.mem_of_getElem? hfi;obtain ⟨u,hu,_⟩:=lw.bwd p hm;replace hp:=hp.same (g4.trans g);obtain ⟨b,rfl,hb2⟩:=dH hp;refine ⟨b,_,rfl,hb2,rfl,_,_,rfl,_,_,rfl,rfl,?_⟩;refine ⟨_,rfl,_,rfl,a3,_,rfl,.inr (g.tup hT3'),rfl,i5 _,?_⟩;rw [inG (List.of_mem_zip hu).1];exact ⟨e1,eP (by lia),next _ _ _ ⟨df i,az hln g,ac,_,_,rfl⟩⟩
 rintro ys σ H5 ⟨rfl,g5,e1,_⟩;refine ⟨l,_,rfl,rfl,SqL.of e1,_,rfl,?_⟩;rw [eQ];refine aQ ?_
 clear e1 hln l
 replace g5:=g4.trans g5
 clear g4 hT2' hT3'
 refine ⟨_,rfl,_,rfl,_,_,ws,fs.map Dt.str,rfl,hw.same g5,hf.same g5,(by rw [List.length_map];exact lf),ndw,(by lia),fun p6 H6 g6 _ dq=>?_⟩;replace g6:=g5.trans g6;have eb2:bs.map prS=(bs.map fun p=>(p.1,Dt.str p.2)).map prD:=by rw [List.map_map];rfl
 refine ⟨_,rfl,_,_,rfl,(by rw [← eb2];exact hb.same g6),(by rw [List.map_map];exact ndb),(by rw [List.length_map];lia),fun p7 H7 g7 dp=>?_⟩;have dz:=DicP.same dq.p g7;replace g7:=g6.trans g7
 clear dq
 have hT1':=g7.tup hT1;have hT2':=g7.tup hT2;refine ⟨_,rfl,a1,rfl,⟨_,hT1'⟩,fun l hln=>?_⟩;refine aG (K:=K) (xs:=fs.map V.str) (fun i ys σ H'=>ys=bls (List.replicate i true)∧Same H7 H'∧H' l=some (.lst ys)∧∃ w,σ=[w,some (.ref p6),some (.ref p7)]) ⟨rfl,ag hln _,ac,_,rfl⟩ (fun i ys σ H' _ r=>r.2.1.tup hT1') ?_ ?_
 ·rintro i y ys σ H1 N hy ⟨rfl,g,e1,w1,rfl⟩ next;rw [List.getElem?_map] at hy;obtain ⟨f1,hfi,rfl⟩:=Option.map_eq_some_iff.mp hy;have hil:=(List.getElem?_eq_some_iff.mp hfi).1;have hm:=List.mem_of_getElem? hfi;obtain ⟨u,hu,hz⟩:=lw.fwd f1 hm;refine ⟨_,rfl,_,rfl,_,rfl,p7,_,rfl,DicP.at (K:=K) (DicP.same dp g) (oB ndb hu),p6,_,rfl,DicP.at (K:=K) (DicP.same dz g) (lV ndw lf hz),?_⟩;refine ⟨_,rfl,rfl,?_⟩;rw [eqG];exact ⟨e1,eP (by lia),next _ _ _ ⟨df i,az hln g,ac,_,rfl⟩⟩
 rintro ys σ H8 ⟨rfl,g8,e1,_⟩;refine ⟨l,_,rfl,rfl,SqL.of e1,_,rfl,?_⟩;rw [eQ];refine aQ ?_
 clear e1 hln l
 replace dz:=DicP.same dz g8;replace dp:=DicP.same dp g8;replace g8:=g7.trans g8
 clear g7 hT1' hT2'
 have hT2':=g8.tup hT2;refine ⟨_,rfl,a2,rfl,⟨_,hT2'⟩,fun l hln=>?_⟩;refine aG (K:=K) (xs:=xs2) (fun i ys σ H'=>ys=bls (List.replicate i true)∧Same H8 H'∧H' l=some (.lst ys)∧∃ w w2,σ=[w,w2,some (.ref p6),some (.ref p7)]) ⟨rfl,ag hln _,ac,_,_,rfl⟩ (fun i ys σ H' _ r=>r.2.1.tup hT2') ?_ ?_
 ·rintro i y ys σ H1 N hy ⟨rfl,g,e1,w1,w2,rfl⟩ next;obtain ⟨d,hdi,hp⟩:=ra2.get' hy;rw [List.getElem?_map] at hdi;obtain ⟨p,hfi,rfl⟩:=Option.map_eq_some_iff.mp hdi;have hil:=(List.getElem?_eq_some_iff.mp hfi).1;have hm:=List.mem_of_getElem? hfi;obtain ⟨u,hu,hz⟩:=lw.bwd p hm;replace hp:=hp.same (g8.trans g);obtain ⟨b,rfl,hb2⟩:=dH hp;refine ⟨b,_,rfl,hb2,rfl,_,_,rfl,_,_,rfl,rfl,?_⟩;refine ⟨_,rfl,_,rfl,_,rfl,p6,_,rfl,DicP.at (K:=K) (DicP.same dz g) (lV ndw lf hu),p7,_,rfl,DicP.at (K:=K) (DicP.same dp g) (oB ndb hz),?_⟩;refine ⟨_,rfl,rfl,?_⟩;rw [eqG];exact ⟨e1,eP (by lia),next _ _ _ ⟨df i,az hln g,ac,_,_,rfl⟩⟩
 rintro ys σ H9 ⟨rfl,g9,e1,_⟩;refine ⟨l,_,rfl,rfl,SqL.of e1,?_⟩;rw [eQ];exact q H9 (g8.trans g9)
theorem lW (T:Tx K mg ad) {f fl:Addr} {fd fdl:FuncData} (A:Gn K mg "is_turn_of" bP ["turn","kind"] f fd) (L:Gn K mg "are_led_words" aA ["forth","back","elder"] fl fdl):∀ n,FnOk P w K mg base CX0 (n+3) f fd ["turn","kind"] (rF K n)
 | 0=>cg fun vs H Q E z=>by obtain ⟨_,_,_,_,_,_,_,h,_,_,_,_,pk,_⟩:=z;have:=pk.pos;lia
 | n+1=>iC T n A (lW T A L n) L (fD T L)
def dh (K:PySem.W.Frag) (_:Ads):Sp:=fun vs H Q _=>∃ (a c:Nat) (t d e:Dt) (x y:V),a≤5∧(∃ a' c',FK a' c' e∧a'≤5∧c'≤40)∧vs=[x,y]∧IsP K H t x∧IsP K H d y∧okD t=true∧FK a c d∧GT t d e∧∀ v H',Same H H'→IsP K H' e v→Q v H'
def iD (K:PySem.W.Frag) (ad:Ads):Sp:=dh K ad
theorem bT (T:Tx K mg ad) {f:Addr} {fd:FuncData} (F:Gn K mg "kind_behind" cr ["turn","kind"] f fd):FnOk P w K mg base CX0 23 f fd ["turn","kind"] (dh K ad):=by
 obtain ⟨_,_,xR⟩:=T.is_turn_of;obtain ⟨f1,d1,D1⟩:=T.are_led_words;have yc:=lW (P:=P) (w:=w) (base:=base) T xR D1 5;obtain ⟨_,_,xV⟩:=T.led_kind;have ym:=oA (P:=P) (w:=w) (base:=base) T xV 5;obtain ⟨_,_,x6⟩:=T.made_kind;have yR:=jR (P:=P) (w:=w) (base:=base) T x6;refine F.F.ok ic (fun vs H Q E h=>?_) (fun cdv A outer s H vs Q E hr h=>?_)
 ·obtain ⟨a,c,t,d,e,x,y,_,_,rfl,_⟩:=h
  rfl
 obtain ⟨a,c,t,d,e,x,y,ha,hc,rfl,ht,hd,ok,fk,g,q⟩:=h;refine ⟨_,(@pss_cons _ _ _ _ _ (@ps_if _ _ _ _ _ _ _ _ (@pt_not _ _ _ _ (@pt_val _ _ _ (pcl xR yc (hr.mono (by lia)) rfl (@pa2 _ _ _ _ _ (pv 0) (pv 1) (by rfl) (by rfl))) (by intro _;rfl))) (@pss_one _ _ _ ps_never) pss_nil) (@pss_one _ _ _ (ps_tryN (@pss_one _ _ _ (@ps_ret _ _ _ _ (pe_call yR (hr.mono (by first | decide | lia)) rfl x6.m x6.F.kp x6.b .nil passF (@pa1 _ _ _ (pcl xV ym (hr.mono (by lia)) rfl (@pa2 _ _ _ _ _ (pv 0) (pv 1) (by rfl) (by rfl))) (by rfl)))))))),?_⟩;obtain ⟨a',c',fk',la,lc⟩:=hc;refine ⟨_,rfl,_,rfl,a,c,t,d,e,x,y,ha,rfl,ht,hd,ok,fk,g,fun H1 g1=>⟨_,rfl,aQ ?_⟩⟩;refine ⟨_,rfl,_,rfl,a,c,t,d,e,x,y,ha,rfl,ht.same g1,hd.same g1,fk,g,fun v H2 g2 hv=>?_⟩;refine ⟨e,v,rfl,hv,wF fk',.inr ⟨a',c',fk',by lia,fun _ H3 g3=>?_,fun z=>by lia⟩⟩;exact q v H3 ((g1.trans g2).trans g3) (hv.same g3)
theorem iE (T:Tx K mg ad) {f:Addr} {fd:FuncData} (F:Gn K mg "_law_behind" cT ["turn","kind"] f fd):FnOk P w K mg base CX0 24 f fd ["turn","kind"] (iD K ad):=by
 obtain ⟨_,_,xD⟩:=T.kind_behind;have xO:=bT (P:=P) (w:=w) (base:=base) T xD;refine F.F.ok cx (fun vs H Q E h=>?_) (fun cdv A outer s H vs Q E hr h=>?_)
 ·obtain ⟨a,c,t,d,e,x,y,_,_,rfl,_⟩:=h
  rfl
 obtain ⟨a,c,t,d,e,x,y,ha,hc,rfl,ht,hd,ok,fk,g,q⟩:=h;refine ⟨_,(@pss_cons _ _ _ _ _ (@ps_set _ _ 2 _ _ _ _ cx.nd rfl (Or.inl rfl) pe_non (by rfl) (by first | exact .inl rfl | exact .inr rfl | assumption)) (@pss_cons _ _ _ _ _ (ps_tryN (@pss_one _ _ _ (@ps_set _ _ 2 _ _ _ _ cx.nd rfl (Or.inl rfl) (pcl xD xO (hr.mono (by lia)) rfl (@pa2 _ _ _ _ _ (pv 0) (pv 1) (by rfl) (by rfl))) (by rfl) (by first | exact .inl rfl | exact .inr rfl | assumption)))) (@pss_one _ _ _ (@ps_ret _ _ _ _ (pv 2))))),?_⟩;exact ⟨_,rfl,_,rfl,a,c,t,d,e,x,y,ha,hc,rfl,ht,hd,ok,fk,g,fun v H1 g1 hv=>⟨_,rfl,q v H1 g1 hv⟩⟩
theorem GT.ok {t d e:Dt} (h:GT t d e):∀ {a c:Nat},FK a c d→okD t=true:=by
 induction h with
 | words fs bs ws h =>
  intro a c f;have hw:=gY f;obtain ⟨_,_,hn,_⟩:=aq hw;obtain ⟨_,_,hb,_⟩:=aq h.words;have n1:∀ p∈bs,okD (.str p.1)=true:=fun p hp=>eL (List.all_eq_true.mp hb _ (List.mem_map.mpr ⟨p,hp,rfl⟩));refine dZ fun d hd=>?_;rcases List.mem_cons.mp hd with rfl | hd
  ·decide +kernel
  rcases List.mem_cons.mp hd with rfl | hd
  ·refine dZ fun d hd=>?_;obtain ⟨z,hz,rfl⟩:=List.mem_map.mp hd;obtain ⟨u,hu,_⟩:=h.fwd z hz;exact n1 _ hu
  obtain rfl:=List.mem_singleton.mp hd;refine dZ fun d hd=>?_;obtain ⟨p,hp,rfl⟩:=List.mem_map.mp hd;obtain ⟨u,hu,_⟩:=h.bwd p hp;exact gU (n1 p hp) (eL (List.all_eq_true.mp hn _ (List.of_mem_zip hu).1))
 | items m h ih =>
  intro a c f
  cases f with
  | list g _ _=>exact gU (by decide +kernel) (ih g)
 | _=>exact fun _=>rfl
def vw (K:PySem.W.Frag) (r:Addr) (H:Hp) (d:Dt) (Q:VK):Prop:=∀ v t e n' H',But r H H'→H' r=some (.lst [.int n'])→IsP K H' t v→GT t d e→Q v H'
def d7 (K:PySem.W.Frag) (_:Ads):Sp:=fun vs H Q _=>∃ (r:Addr) (c i j:Int),vs=[.ref r,.int i,.int j]∧H r=some (.lst [.int c])∧aB i∧aB j∧vw K r H (bH i j) Q
def fE (i:Int):Int:=if i < 0 then -i else i
theorem vx {i j k:Int} (hk:2≤k) (h:(if fE j > fE i then fE j else fE i)*k≤10 ^ (30:Int).toNat):aB (i*k)∧aB (j*k):=by
 rw [wI] at h;have key:∀ x m:Int,fE x≤m→m*k≤1000000000000000000000000000000→aB (x*k):=by
  intro x m hx hm;have h1:fE x*k≤m*k:=Int.mul_le_mul_of_nonneg_right hx (by lia);unfold fE at h1;unfold aB
  split at h1
  ·rw [Int.neg_mul] at h1;have:x*k≤0:=Int.mul_nonpos_of_nonpos_of_nonneg (by lia) (by lia)
   constructor <;> lia
  ·have:0≤x*k:=Int.mul_nonneg (by lia) (by lia)
   constructor <;> lia
 constructor
 ·exact key i _ (by split <;> lia) h
 ·exact key j _ (by split <;> lia) h
theorem cE {c1 b:Bool} {F A B:Prop} (hF:(if b=true then A else B)→F) (h:if (c1 && b)=true then A else B):if c1=true then F else (if false=true then A else B):=by
 cases c1 with
 | false=>exact h
 | true=>exact hF h
theorem vy:∀ i∈([2,3,10,7]:List Int),2≤i∧i≤1000:=by decide
theorem wJ:(10:Int) ^ (29:Int).toNat=100000000000000000000000000000:=by decide +kernel
theorem d8 (T:Tx K mg ad) {f:Addr} {fd:FuncData} (F:Gn K mg "_law_number_turn" bn ["row","low","high"] f fd):FnOk P w K mg base CX0 2 f fd ["row","low","high"] (d7 K ad):=by
 obtain ⟨_,_,xA⟩:=T.law_digit;have xB:=bN (P:=P) (w:=w) (base:=base) T xA;obtain ⟨_,_,x9⟩:=T.law_figures;have yo:=gX (P:=P) (w:=w) (base:=base) T x9;refine F.F.ok aF (fun vs H Q E h=>?_) (fun cdv A outer s H vs Q E hr h=>?_)
 ·obtain ⟨r,c,i,j,rfl,_⟩:=h
  rfl
 obtain ⟨r,c,i,j,rfl,hr0,hi,hj,q⟩:=h;refine ⟨_,(@pss_cons _ _ _ _ _ (@ps_set _ _ 3 _ _ _ _ aF.nd rfl (Or.inl rfl) (pcl xA xB (hr.mono (by lia)) rfl (@pa2 _ _ _ _ _ (pv 0) pe_int (by rfl) (by rfl))) (by rfl) (by first | exact .inl rfl | exact .inr rfl | assumption)) (@pss_cons _ _ _ _ _ (@ps_if _ _ _ _ _ _ _ _ (pt_cmpR op_eq (pv 3) pe_int (nomark _)) (@pss_cons _ _ _ _ _ (@ps_set _ _ 4 _ _ _ _ aF.nd rfl (Or.inl rfl) (pe_callB (cz rfl) rfl T.z_max boot_max (@pa2 _ _ _ _ _ (pe_callB call_len_str rfl T.z_len PySem.boot_len (@pa1 _ _ _ (pcl x9 yo (hr.mono (by lia)) rfl (@pa1 _ _ _ (pv 1) (by rfl))) (by rfl))) (pe_callB call_len_str rfl T.z_len PySem.boot_len (@pa1 _ _ _ (pcl x9 yo (hr.mono (by lia)) rfl (@pa1 _ _ _ (pv 2) (by rfl))) (by rfl))) (by rfl) (by rfl))) (by rfl) (by first | exact .inl rfl | exact .inr rfl | assumption)) (@pss_one _ _ _ (@ps_ret _ _ _ _ (@pe_tupPK _ K _ _ _ _ rfl (@pa2 _ _ _ _ _ pe_str (@pe_op _ _ _ _ _ _ _ _ a7 (pv 4) (pcl xA xB (hr.mono (by lia)) rfl (@pa2 _ _ _ _ _ (pv 0) pe_int (by rfl) (by rfl)))) (by rfl) (by rfl)))))) pss_nil) (@pss_cons _ _ _ _ _ (@ps_set _ _ 5 _ _ _ _ aF.nd rfl (Or.inl rfl) (@bf _ _ _ _ _ _ _ (aS (K:=K) rfl) (@bt _ _ _ _ (@bC _ _ _ _ _ pe_int (@pa3 _ _ _ _ _ _ _ pe_int pe_int pe_int (by rfl) (by rfl) (by rfl)) (by rfl))) (pcl xA xB (hr.mono (by lia)) rfl (@pa2 _ _ _ _ _ (pv 0) pe_int (by rfl) (by rfl))) (fun _ _=>rfl)) (by rfl) (by first | exact .inl rfl | exact .inr rfl | assumption)) (@pss_cons _ _ _ _ _ (@ps_if _ _ _ _ _ _ _ _ (PW.pt (@pw_and _ _ _ _ _ _ _ (pt_cmpR op_eq (pv 3) pe_int (nomark _)) (@pw_and1 _ _ _ _ (pt_cmpR op_le (@pe_op _ _ _ _ _ _ _ _ cp (pe_callB (cz rfl) rfl T.z_max boot_max (@pa2 _ _ _ _ _ (pe_callB gx rfl T.z_abs boot_abs (@pa1 _ _ _ (pv 1) (by rfl))) (pe_callB gx rfl T.z_abs boot_abs (@pa1 _ _ _ (pv 2) (by rfl))) (by rfl) (by rfl))) (pv 5)) (@pe_op _ _ _ _ _ _ _ _ op_pow pe_int pe_int) (nomark _))))) (@pss_one _ _ _ (@ps_ret _ _ _ _ (@pe_tupPK _ K _ _ _ _ rfl (@pa2 _ _ _ _ _ pe_str (pv 5) (by rfl) (by rfl))))) pss_nil) (@pss_cons _ _ _ _ _ (@ps_if _ _ _ _ _ _ _ _ (PW.pt (@pw_and _ _ _ _ _ _ _ (pt_cmpR op_eq (pv 3) pe_int (nomark _)) (@pw_and _ _ _ _ _ _ _ (pt_cmpR op_eq (@pe_op _ _ _ _ _ _ _ _ cq (pv 1) (pv 5)) pe_int (nomark _)) (@pw_and1 _ _ _ _ (pt_cmpR op_eq (@pe_op _ _ _ _ _ _ _ _ cq (pv 2) (pv 5)) pe_int (nomark _)))))) (@pss_one _ _ _ (@ps_ret _ _ _ _ (@pe_tupPK _ K _ _ _ _ rfl (@pa2 _ _ _ _ _ pe_str (pv 5) (by rfl) (by rfl))))) pss_nil) (@pss_cons _ _ _ _ _ (@ps_set _ _ 6 _ _ _ _ aF.nd rfl (Or.inl rfl) (@pe_op _ _ _ _ _ _ _ _ op_sub (@pe_op _ _ _ _ _ _ _ _ a7 (pv 1) (pcl xA xB (hr.mono (by lia)) rfl (@pa2 _ _ _ _ _ (pv 0) pe_int (by rfl) (by rfl)))) pe_int) (by rfl) (by first | exact .inl rfl | exact .inr rfl | assumption)) (@pss_cons _ _ _ _ _ (@ps_if _ _ _ _ _ _ _ _ (pt_cmpR op_gt (pe_callB gx rfl T.z_abs boot_abs (@pa1 _ _ _ (pv 1) (by rfl))) (@pe_op _ _ _ _ _ _ _ _ op_pow pe_int pe_int) (nomark _)) (@pss_one _ _ _ (@ps_set _ _ 6 _ _ _ _ aF.nd rfl (Or.inl rfl) (@pe_op _ _ _ _ _ _ _ _ op_sub (pcl xA xB (hr.mono (by lia)) rfl (@pa2 _ _ _ _ _ (pv 0) pe_int (by rfl) (by rfl))) pe_int) (by rfl) (by first | exact .inl rfl | exact .inr rfl | assumption))) pss_nil) (@pss_one _ _ _ (@ps_ret _ _ _ _ (@pe_tupPK _ K _ _ _ _ rfl (@pa3 _ _ _ _ _ _ _ pe_str (pv 6) (@pe_op _ _ _ _ _ _ _ _ a7 (pv 6) (pcl xA xB (hr.mono (by lia)) rfl (@pa2 _ _ _ _ _ (pv 0) pe_int (by rfl) (by rfl)))) (by rfl) (by rfl) (by rfl)))))))))))),?_⟩;refine ⟨_,rfl,r,c,4,rfl,hr0,by decide,by decide,?_⟩;refine ⟨_,rfl,rfl,_,rfl,?_⟩;refine ar (fun c1=>?_) (fun c1=>?_)
 ·have li:=jT hi;have lj:=jT hj;refine ⟨_,rfl,i,rfl,hi,_,rfl,(by rw [cj];exact Nat.le_of_lt (ai (by lia))),?_⟩;refine ⟨_,rfl,j,rfl,hj,_,rfl,(by rw [cj];exact Nat.le_of_lt (ai (by lia))),?_⟩;refine ⟨_,_,rfl,?_⟩;rw [cj,cj];obtain ⟨d0,d1⟩:=mod_lt (c / 4) (m:=3) (by decide);refine ⟨_,rfl,_,rfl,r,c / 4,3,rfl,ac,by decide,by decide,_,_,rfl,rfl,?_⟩;refine ⟨[.str "figures",.int _],.cons .str (.cons .int .nil),sz2,fun v H' g hv=>?_⟩;have hm:ck i j≤32:=by unfold ck;split <;> lia
  have hm0:0≤ck i j:=by unfold ck;split <;> lia
  refine q v _ _ _ H' ((But.put.trans But.put).trans (But.same g)) (g _ _ ac) hv (.figures i j _ hi hj ?_ ?_ ?_)
  ·show ck i j≤ck i j+c / 4 % 3;lia
  ·show 0≤ck i j+c / 4 % 3;lia
  ·show ck i j+c / 4 % 3≤60;lia
 refine ⟨(by show 4≤sizeLine;decide),fun p hp=>?_⟩;have nrp:r≠p:=ak ac hp;obtain ⟨d0,d1⟩:=mod_lt (c / 4) (m:=4) (by decide);obtain ⟨k,mk,ek⟩:=rB (ns:=[2,3,10,7]) d0 d1;have hk:=vy k mk;refine ⟨_,rfl,r,c / 4,4,rfl,(by rw [ah nrp];exact ac),by decide,by decide,p,_,_,_,rfl,rfl,SqL.of (by rw [ah nrp.symm];exact ac),ek,?_⟩;have b1:But r H (upd (upd (upd H r (.lst [.int (c / 4)])) p (.lst [.int 2,.int 3,.int 10,.int 7])) r (.lst [.int (c / 4 / 4)])):=(But.put.trans (But.same (ag hp _))).trans But.put;have e1:upd (upd (upd H r (.lst [.int (c / 4)])) p (.lst [.int 2,.int 3,.int 10,.int 7])) r (.lst [.int (c / 4 / 4)]) r=some (.lst [.int (c / 4 / 4)]):=ac
 revert b1 e1
 generalize upd (upd (upd H r (.lst [.int (c / 4)])) p (.lst [.int 2,.int 3,.int 10,.int 7])) r (.lst [.int (c / 4 / 4)])=H2
 intro b1 e1;refine ⟨_,rfl,rfl,_,rfl,cE (b:=decide ((if fE j > fE i then fE j else fE i)*k≤10 ^ (30:Int).toNat)) (fun z=>⟨_,rfl,i,rfl,_,rfl,j,rfl,_,_,rfl,_,rfl,_,_,rfl,rfl,.inr ⟨by lia,by lia⟩,10,30,rfl,rfl,⟨by decide,by decide,by decide⟩,_,_,rfl,rfl,_,rfl,z⟩) ?_⟩;refine ar (fun a1=>?_) (fun _=>?_)
 ·have a2:=vx hk.1 (of_decide_eq_true ((Bool.and_eq_true _ _).mp a1).2);exact ⟨_,rfl,[.str "scale",.int k],.cons .str (.cons .int .nil),sz2,fun v H' g hv=>q v _ _ _ H' (b1.trans (But.same g)) (g _ _ e1) hv (.scale i j k hk.1 hk.2 a2.1 a2.2)⟩
 refine ⟨_,rfl,rfl,_,rfl,cE (b:=(decide (V.int (i % k)=.int 0) && decide (V.int (j % k)=.int 0))) (fun z=>⟨_,rfl,_,rfl,_,_,rfl,rfl,(by show (0:Int) < k;lia),rfl,_,rfl,cE (fun z=>⟨_,rfl,_,rfl,_,_,rfl,rfl,(by show (0:Int) < k;lia),rfl,_,rfl,z⟩) z⟩) ?_⟩;refine ar (fun a1=>?_) (fun _=>?_)
 ·have a2:=(Bool.and_eq_true _ _).mp ((Bool.and_eq_true _ _).mp a1).2;have a3:i % k=0:=by have:=of_decide_eq_true a2.1;injection this
  have a4:j % k=0:=by have:=of_decide_eq_true a2.2;injection this
  exact ⟨_,rfl,[.str "shrink",.int k],.cons .str (.cons .int .nil),sz2,fun v H' g hv=>q v _ _ _ H' (b1.trans (But.same g)) (g _ _ e1) hv (.shrink i j k hk.1 hk.2 a3 a4)⟩
 obtain ⟨l0,l1⟩:=mod_lt (c / 4 / 4) (m:=13) (by decide);refine ⟨_,rfl,_,rfl,r,c / 4 / 4,13,rfl,e1,by decide,by decide,_,_,rfl,rfl,_,_,rfl,rfl,?_⟩;refine ⟨_,rfl,i,rfl,10,29,rfl,rfl,⟨by decide,by decide,by decide⟩,_,_,rfl,rfl,_,rfl,ar (fun a1=>?_) (fun a1=>?_)⟩
 ·obtain ⟨m0,m1⟩:=mod_lt (c / 4 / 4 / 13) (m:=9) (by decide);obtain ⟨n0,n1⟩:=mod_lt (c / 4 / 4 / 13 / 9) (m:=40) (by decide);refine ⟨_,rfl,r,_,9,rfl,ac,by decide,by decide,_,_,rfl,rfl,?_⟩;refine ⟨_,rfl,_,rfl,_,rfl,r,_,40,rfl,ac,by decide,by decide,_,_,rfl,rfl,?_⟩;refine ⟨[.str "bounds",.int _,.int _],.cons .str (.cons .int (.cons .int .nil)),sz3,fun v H' g hv=>q v _ _ _ H' ((((b1.trans But.put).trans But.put).trans But.put).trans (But.same g)) (g _ _ ac) hv (.bounds i j _ _ ⟨?_,?_⟩ ?_ ⟨?_,?_⟩)⟩ <;> lia
 ·obtain ⟨n0,n1⟩:=mod_lt (c / 4 / 4 / 13) (m:=40) (by decide);have a2:fE i≤100000000000000000000000000000:=by
   rw [← wJ];exact Int.not_lt.mp fun z=>a1 (decide_eq_true z)
  have a3:-100000000000000000000000000000≤i∧i≤100000000000000000000000000000:=by
   unfold fE at a2
   split at a2 <;> lia
  refine ⟨_,rfl,_,rfl,_,rfl,r,_,40,rfl,ac,by decide,by decide,_,_,rfl,rfl,?_⟩;refine ⟨[.str "bounds",.int _,.int _],.cons .str (.cons .int (.cons .int .nil)),sz3,fun v H' g hv=>q v _ _ _ H' (((b1.trans But.put).trans But.put).trans (But.same g)) (g _ _ ac) hv (.bounds i j _ _ ⟨?_,?_⟩ ?_ ⟨?_,?_⟩)⟩ <;> lia
def ee (l:List (Str×Str)) (u:Str):List Str:=(l.filter fun p=>p.2 == u).map (·.1)
theorem jX {l:List (Str×Str)} {u z:Str} (h:(ee l u).head?=some z):(z,u)∈l:=by
 have h1:z∈ee l u:=List.mem_of_mem_head? (by rw [h];rfl);obtain ⟨p,hp,rfl⟩:=List.mem_map.mp h1;have h2:=List.mem_filter.mp hp;have:p.2=u:=by simpa using h2.2
 rw [← this];exact h2.1
theorem lX {l:List (Str×Str)} {u z f:Str} {i:Nat} (h:l[i]?=some (z,f)):ee (l.take (i+1)) u=ee (l.take i) u++(if f=u then [z] else []):=by
 unfold ee;rw [List.take_add_one,h,List.filter_append,List.map_append]
 congr 1
 by_cases e:f=u
 ·simp [e]
 ·simp [e]
theorem oC (l:List (Str×Str)) (u:Str):(ee l u).length≤l.length:=by
 unfold ee;rw [List.length_map];exact List.length_filter_le _ _
theorem lY {l:List (Str×Str)} {u z:Str} (h:(z,u)∈l):ee l u≠[]:=by
 have:z∈ee l u:=List.mem_map.mpr ⟨(z,u),List.mem_filter.mpr ⟨h,by simp⟩,rfl⟩;intro c;rw [c] at this
 cases this
theorem jY {ws fs:List Str} {i:Nat} {z f:Str} (h1:ws[i]?=some z) (h2:fs[i]?=some f):(ws.zip fs)[i]?=some (z,f):=by
 rw [List.getElem?_zip_eq_some];exact ⟨h1,h2⟩
theorem oD {ws fs:List Str} (hl:fs.length=ws.length) {f:Str} (h:f∈fs):∃ z,(z,f)∈ws.zip fs:=by
 obtain ⟨i,hi,e⟩:=List.mem_iff_getElem.mp h;have h1:fs[i]?=some f:=by rw [List.getElem?_eq_getElem hi,e]
 have h2:ws[i]?=some ws[i]:=List.getElem?_eq_getElem (by lia);exact ⟨ws[i],List.mem_of_getElem? (jY h2 h1)⟩
def oE (ws fs:List Str) (b:Str×Str):Prop:=∃ u,u∈fs∧(ee (ws.zip fs) u).head?=some b.2∧(b.1∈fs→u=b.1)
theorem vz {ws fs us:List Str} {bs:List (Str×Str)} (hu:aT us=true) (e:bs.map (·.1)=us) (hl:fs.length=ws.length) (hf:∀ f∈fs,f∈us) (hg:∀ b∈bs,oE ws fs b):LedW fs bs ws:=by
 have fnd:∀ f∈fs,∃ z,(f,z)∈bs∧(ee (ws.zip fs) f).head?=some z:=by
  intro f hm;have:=hf f hm;rw [← e] at this;obtain ⟨b,hb,rfl⟩:=List.mem_map.mp this;obtain ⟨u,h1,h2,h3⟩:=hg b hb;rw [h3 hm] at h2;exact ⟨b.2,hb,h2⟩
 refine ⟨by rw [e];exact hu,hl,fun f hm=>?_,fun b hb=>?_⟩
 ·obtain ⟨z,h1,h2⟩:=fnd f hm;exact ⟨z,h1,jX h2⟩
 ·obtain ⟨u,h1,h2,_⟩:=hg b hb;obtain ⟨z,h3,h4⟩:=fnd u h1;rw [h2] at h4
  cases h4
  exact ⟨u,jX h2,h3⟩
theorem pK:∀ k:Fin 3,∃ us:List Str,aT us=true∧eD [.str "x",.str "b",.str "yy"] none (some (1+(k.val:Int)))=us.map Dt.str
 | 0=>⟨["x"],by decide +kernel,by rfl⟩
 | 1=>⟨["x","b"],by decide +kernel,by rfl⟩
 | 2=>⟨["x","b","yy"],by decide +kernel,by rfl⟩
theorem m9 (c:Int):∃ us:List Str,aT us=true∧eD [.str "x",.str "b",.str "yy"] none (some (1+c % 3))=us.map Dt.str:=by
 obtain ⟨h0,h1⟩:=mod_lt c (m:=3) (by decide);obtain ⟨us,a,e⟩:=pK ⟨(c % 3).toNat,by lia⟩;refine ⟨us,a,?_⟩;rw [← e];show eD _ none (some (1+c % 3))=eD _ none (some (1+(((c % 3).toNat:Nat):Int)));rw [show (((c % 3).toNat:Nat):Int)=c % 3 by lia]
theorem eR {H:Hp} {ws:List Str} {a:Addr} (h:IsP K H (.tup (ws.map Dt.str)) (.ref a)):SqT K H a (ws.map V.str):=by
 obtain ⟨b,xs,e,hT,_,r⟩:=h.unref
 cases e
 rw [aX r] at hT;exact hT
theorem gm {H:Hp}:∀ ws:List Str,IsPs K H (ws.map Dt.str) (ws.map V.str)
 | []=>.nil
 | _ :: ws=>.cons .str (gm ws)
theorem lZ:∀ ws:List Str,gF (ws.map Dt.str)≤60
 | []=>by decide
 | z :: ws=>by
  have:=lZ ws;show max (Dt.dep (.str z)) (gF (ws.map Dt.str))≤60;exact Nat.max_le.mpr ⟨by show 0≤60;lia,this⟩
theorem wK {us:List Str} {d:Int} (h0:0≤d) (h1:d < (us.length:Int)):∃ u:Str,u∈us∧atI (us.map Dt.str) d=some (.str u):=by
 obtain ⟨v,hv,e⟩:=wH (xs:=us.map Dt.str) h0 (by rw [List.length_map];exact h1);obtain ⟨i,hi,rfl⟩:=List.mem_map.mp hv;exact ⟨i,hi,e⟩
theorem ng {us:List Str} {i:Nat} {u:Str} (h:us[i]?=some u):atI (us.map V.str) (0+(i:Int))=some (.str u):=by
 rw [Int.zero_add];exact cJ (by rw [List.getElem?_map,h];rfl)
theorem jZ {us:List Str} {i:Nat} {u:Str} (h:us[i]?=some u):atI (us.map Dt.str) (0+(i:Int))=some (.str u):=by
 rw [Int.zero_add];exact cJ (by rw [List.getElem?_map,h];rfl)
def j0 (K:PySem.W.Frag) (_:Ads):Sp:=fun vs H Q _=>∃ (r:Addr) (c:Int) (ws:List Str) (x:V),vs=[.ref r,x]∧H r=some (.lst [.int c])∧IsP K H (.tup (ws.map Dt.str)) x∧aT ws=true∧vw K r H (.tup [.str "choice",.tup (ws.map Dt.str)]) Q
theorem kb (T:Tx K mg ad) {f:Addr} {fd:FuncData} (F:Gn K mg "_law_words" be ["row","words"] f fd):FnOk P w K mg base CX0 2 f fd ["row","words"] (j0 K ad):=by
 obtain ⟨_,_,xA⟩:=T.law_digit;have xB:=bN (P:=P) (w:=w) (base:=base) T xA;refine F.F.ok aL (fun vs H Q E h=>?_) (fun cdv A outer s H vs Q E hr h=>?_)
 ·obtain ⟨r,c,ws,x,rfl,_⟩:=h
  rfl
 obtain ⟨r,c,ws,x,rfl,hr0,hw,ww,q⟩:=h;refine ⟨_,(@pss_cons _ _ _ _ _ (@ps_set _ _ 2 _ _ _ _ aL.nd rfl (Or.inr rfl) (bE (eI (K:=K) rfl) (@pe_tupPK _ K _ _ _ _ rfl (@pa3 _ _ _ _ _ _ _ pe_str pe_str pe_str (by rfl) (by rfl) (by rfl))) cI (bM (@pe_op _ _ _ _ _ _ _ _ a7 pe_int (pcl xA xB (hr.mono (by lia)) rfl (@pa2 _ _ _ _ _ (pv 0) pe_int (by rfl) (by rfl)))))) (by rfl) (by first | exact .inl rfl | exact .inr rfl | assumption)) (@pss_cons _ _ _ _ _ (@ps_set _ _ 3 _ _ _ _ aL.nd rfl (Or.inr rfl) (aI rfl (csR (sc:=af be) (NL:=["word"]) (N:=["row","words","behind","forth","back","word","elder","one"]) (ρ:=[0,2]) (N':=["word","row","behind"]) rfl rfl rfl (by decide +kernel) (by decide +kernel) (by decide +kernel) rfl (by decide +kernel)) (aP (K:=K) rfl (pv 1)) (fun _ _ _ _=>(aj (i:=0) (show List.Nodup (α:=Str) ["word","row","behind"] by decide +kernel) rfl (Or.inl rfl))) (fun _ _ _ _=>(@bf _ _ _ _ _ _ _ (cC (K:=K) rfl) (pv 2) (pcl xA xB (hr.mono (by lia)) rfl (@pa2 _ _ _ _ _ (pv 1) (pe_callB (call_lenDN (K:=K) rfl) rfl T.z_len PySem.boot_len (@pa1 _ _ _ (pv 2) (by rfl))) (by rfl) (by rfl))) (fun _ _=>rfl)))) (by rfl) (by first | exact .inl rfl | exact .inr rfl | assumption)) (@pss_cons _ _ _ _ _ (@ps_set _ _ 4 _ _ _ _ aL.nd rfl (Or.inl rfl) (@bt _ _ _ _ cY) (by rfl) (by first | exact .inl rfl | exact .inr rfl | assumption)) (@pss_cons _ _ _ _ _ (cH PassesOwn.never rfl (aP (K:=K) rfl (pv 2)) (aj (i:=5) aL.nd rfl (Or.inr rfl))
    (@pss_cons _ _ _ _ _ (fw (j:=6) aL.nd rfl (Or.inl rfl) rfl (csR (sc:=af be) (NL:=["k"]) (N:=["row","words","behind","forth","back","word","elder","one"]) (ρ:=[1,3,5]) (N':=["k","words","forth","word"]) rfl rfl rfl (by decide +kernel) (by decide +kernel) (by decide +kernel) rfl (by decide +kernel)) (bQ rfl T.z_range (@pa1 _ _ _ (pe_callB (call_lenDN (K:=K) rfl) rfl T.z_len PySem.boot_len (@pa1 _ _ _ (pv 1) (by rfl))) (by rfl))) (fun _ _ _ _=>(aj (i:=0) (show List.Nodup (α:=Str) ["k","words","forth","word"] by decide +kernel) rfl (Or.inl rfl))) (fun _ _ _ _=>(pt_cmpR op_eq (@bf _ _ _ _ _ _ _ (aS (K:=K) rfl) (pv 2) (pv 0) (fun _ _=>rfl)) (pv 3) (nomark _))) (fun _ _ _ _=>(@bf _ _ _ _ _ _ _ (cC (K:=K) rfl) (pv 1) (pv 0) (fun _ _=>rfl)))) (@pss_cons _ _ _ _ _ (@ps_if _ _ _ _ _ _ _ _ (pt_cmpR (uM hr.units) (pv 6) (@bt _ _ _ _ cY) (nomark _)) (@pss_cons _ _ _ _ _ (@ps_set _ _ 7 _ _ _ _ aL.nd rfl (Or.inr rfl) (pcl xA xB (hr.mono (by lia)) rfl (@pa2 _ _ _ _ _ (pv 0) (pe_callB (call_lenDN (K:=K) rfl) rfl T.z_len PySem.boot_len (@pa1 _ _ _ (pv 1) (by rfl))) (by rfl) (by rfl))) (by rfl) (by first | exact .inl rfl | exact .inr rfl | assumption)) (@pss_one _ _ _ (fw (j:=6) aL.nd rfl (Or.inl rfl) rfl (csR (sc:=af be) (NL:=["k"]) (N:=["row","words","behind","forth","back","word","elder","one"]) (ρ:=[1,3,7]) (N':=["k","words","forth","one"]) rfl rfl rfl (by decide +kernel) (by decide +kernel) (by decide +kernel) rfl (by decide +kernel)) (bQ rfl T.z_range (@pa1 _ _ _ (pe_callB (call_lenDN (K:=K) rfl) rfl T.z_len PySem.boot_len (@pa1 _ _ _ (pv 1) (by rfl))) (by rfl))) (fun _ _ _ _=>(aj (i:=0) (show List.Nodup (α:=Str) ["k","words","forth","one"] by decide +kernel) rfl (Or.inl rfl))) (fun _ _ _ _=>(pt_cmpR op_eq (@bf _ _ _ _ _ _ _ (aS (K:=K) rfl) (pv 2) (pv 0) (fun _ _=>rfl)) (@bf _ _ _ _ _ _ _ (aS (K:=K) rfl) (pv 2) (pv 3) (fun _ _=>rfl)) (nomark _))) (fun _ _ _ _=>(@bf _ _ _ _ _ _ _ (cC (K:=K) rfl) (pv 1) (pv 0) (fun _ _=>rfl)))))) pss_nil) (@pss_one _ _ _ (@jf _ _ _ _ (pe_bm PySem.F.plainAttrs_list PySem.F.slot_list_append PySem.F.type_list_append fj (pv 4) (@pa1 _ _ _ (@pe_tupPK _ K _ _ _ _ rfl (@pa2 _ _ _ _ _ (pv 5) (@bf _ _ _ _ _ _ _ (aS (K:=K) rfl) (pv 6) pe_int (fun _ _=>rfl)) (by rfl) (by rfl))) (by rfl))) (by rfl)))))) (@pss_one _ _ _ (@ps_ret _ _ _ _ (@pe_tupPK _ K _ _ _ _ rfl (@pa3 _ _ _ _ _ _ _ pe_str (pe_callTy (aY (K:=K) rfl) rfl T.z_tuple boot_tuple (@pa1 _ _ _ (pv 3) (by rfl))) (pe_callTy (aY (K:=K) rfl) rfl T.z_tuple boot_tuple (@pa1 _ _ _ (pv 4) (by rfl))) (by rfl) (by rfl) (by rfl))))))))),?_⟩
 obtain ⟨lw1,lw8,_,ndw⟩:=aq ww;obtain ⟨a1,xs1,rfl,_,_,_⟩:=id hw.unref;refine ⟨[.str "x",.str "b",.str "yy"],.cons .str (.cons .str (.cons .str .nil)),sz3,fun v1 H1 g1 hv1=>?_⟩;have e1:=g1 _ _ hr0;refine ⟨_,rfl,r,c,3,rfl,e1,by decide,by decide,_,_,rfl,rfl,_,rfl,?_⟩;have hv2:=hv1.but e1 (But.put (o:=.lst [.int (c / 3)]));refine ⟨_,hv2,fun v3 H3 g3 hv3=>?_⟩;obtain ⟨us,wu,eu⟩:=m9 c;obtain ⟨lu1,lu8,_,ndu⟩:=aq wu;rw [eu] at hv3;have b3:But r H H3:=((But.same g1).trans But.put).trans (But.same g3);have e3:H3 r=some (.lst [.int (c / 3)]):=g3 _ _ ac;obtain ⟨a3,xs3,rfl,_,_,_⟩:=id hv3.unref
 clear hv1 hv2 g1 e1 g3 eu
 have hw3:=hw.but hr0 b3;refine ⟨_,rfl,a1,rfl,⟨_,eR hw3⟩,fun l hln=>?_⟩;have nrl:r≠l:=ak e3 hln;refine aG (K:=K) (xs:=ws.map V.str) (fun i ys σ H'=>∃ (fs:List Str) (c':Int) (z:Option V),ys=fs.map V.str∧fs.length=i∧(∀ f∈fs,f∈us)∧But r H3 H'∧H' r=some (.lst [.int c'])∧H' l=some (.lst ys)∧σ=[z,some (.ref r),some (.ref a3)])
  ⟨[],c / 3,_,rfl,rfl,(fun f hf=>nomatch hf),But.same (ag hln _),(by rw [ah nrl];exact e3),ac,rfl⟩ (fun i ys σ H' _ p=>by
   obtain ⟨fs,c',z,_,_,_,b,_⟩:=p;exact eR (hw3.but e3 b)) ?_ ?_
 ·rintro i y ys σ H4 N hy ⟨fs,c',z,rfl,rfl,hf,b4,e4,f4,rfl⟩ next;have hil:=(List.getElem?_eq_some_iff.mp hy).1;rw [List.length_map] at hil;have hv4:=hv3.but e3 b4;obtain ⟨d0,d1⟩:=mod_lt c' (m:=(us.length:Int)) (by lia);obtain ⟨u,hu,eu⟩:=wK d0 d1;refine ⟨_,rfl,_,rfl,_,rfl,_,_,rfl,hv4.d,?_⟩;have eml:(us.map Dt.str).length=us.length:=List.length_map _;rw [eml];refine ⟨r,c',_,rfl,e4,(by lia),(by lia),_,_,_,hv4.but e4 But.put,rfl,eu,fun v5 hv5=>?_⟩;obtain rfl:=am hv5;have f5:upd H4 r (.lst [.int (c' / us.length)]) l=some (.lst (fs.map V.str)):=by rw [ah nrl.symm];exact f4
  refine ⟨f5,ai (by rw [List.length_map];lia),next _ _ _ ⟨fs++[u],c' / us.length,_,by rw [List.map_append];rfl,by rw [List.length_append];rfl,fun f hm=>?_,fun x o nx ex=>?_,?_,ac,rfl⟩⟩
  ·rcases List.mem_append.mp hm with hm | hm
   ·exact hf f hm
   ·obtain rfl:=List.mem_singleton.mp hm;exact hu
  ·rw [ah (ak ex hln),ah nx];exact b4 x o nx ex
  ·rw [ah nrl];exact ac
 rintro ys σ H4 ⟨fs,c',z,rfl,hfl,hf,b4,e4,f4,rfl⟩;rw [List.length_map] at hfl;have hv4:=hv3.but e3 b4;replace b4:=b3.trans b4;refine ⟨(by show 0≤sizeLine;decide),fun l2 hl2=>?_⟩;have nrl2:r≠l2:=ak e4 hl2;have nll2:l≠l2:=ak f4 hl2;refine ⟨_,rfl,a3,rfl,⟨_,eR (hv4.same (ag hl2 _))⟩,nN (K:=K) (xs:=us.map V.str) (fun i σ H'=>∃ (bs:List (Str×Str)) (ys:List V) (c2:Int) (w e o:Option V),But r H H'∧H' r=some (.lst [.int c2])∧H' l=some (.lst (fs.map V.str))∧H' l2=some (.lst ys)∧IsP K H' (.tup (us.map Dt.str)) (.ref a3)∧IsPs K H' (bs.map prS) ys∧bs.map (·.1)=us.take i∧(∀ b∈bs,oE ws fs b)∧σ=[some (.ref r),some (.ref a1),some (.ref a3),some (.ref l),some (.ref l2),w,e,o])
  ⟨[],[],c',_,_,_,b4.trans (But.same (ag hl2 _)),(by rw [ah nrl2];exact e4),(by rw [ah nll2];exact f4),ac,hv4.same (ag hl2 _),.nil,rfl,(fun b hb=>nomatch hb),rfl⟩ (fun i σ H' _ p=>by
   obtain ⟨bs,ys,c2,w,e,o,_,_,_,_,hv,_⟩:=p;exact eR hv) ?_ ?_⟩
 ·rintro i y σ H5 hy ⟨bs,ys,c2,w,e,o,b5,e5,f5,k5,hv5,hp5,tk5,gd5,rfl⟩;rw [List.getElem?_map] at hy;obtain ⟨u,hui,rfl⟩:=Option.map_eq_some_iff.mp hy;have hil:=(List.getElem?_eq_some_iff.mp hui).1;have lys:ys.length≤8:=by
   have h1:=hp5.length;rw [List.length_map] at h1;have h2:(bs.map (·.1)).length=(us.take i).length:=by rw [tk5]
   rw [List.length_map,List.length_take] at h2;lia
  have hw5:=hw.but hr0 b5;refine ⟨_,rfl,_,_,rfl,hw5.d,_,rfl,(by rw [List.length_map];lia),(by rw [List.length_map];lia),fun l3 hl3=>?_⟩;refine c9 (lo:=0) (fun i ys σ H'=>ys=(ee ((ws.zip fs).take i) u).map V.str∧Same H5 H'∧H' l3=some (.lst ys)∧∃ w,σ=[w,some (.ref a1),some (.ref l),some (.str u)]) ⟨rfl,ag hl3 _,ac,_,rfl⟩ ?_ ?_
  ·rintro k ys2 σ H6 N hk ⟨rfl,g6,k6,w6,rfl⟩ next;have hk':k < ws.length:=by rw [List.length_map] at hk;lia
   obtain ⟨z,hz⟩:∃ z,ws[k]?=some z:=⟨_,List.getElem?_eq_getElem hk'⟩;obtain ⟨f',hf'⟩:∃ f',fs[k]?=some f':=⟨_,List.getElem?_eq_getElem (by lia)⟩;have en:=lX (u:=u) (jY hz hf');have el:=oC ((ws.zip fs).take k) u;rw [List.length_take] at el;refine ⟨_,rfl,_,rfl,l,_,_,_,rfl,rfl,SqL.of (g6 _ _ f5),ng hf',_,rfl,rfl,_,rfl,ar (fun a=>?_) (fun a=>?_)⟩
   ·have a':f'=u:=by have:=of_decide_eq_true a;injection this
    refine ⟨_,rfl,_,rfl,_,_,_,hw5.same g6,rfl,jZ hz,fun v7 hv7=>?_⟩;obtain rfl:=am hv7;refine ⟨k6,ai (by rw [List.length_map];lia),next _ _ _ ⟨?_,az hl3 g6,ac,_,rfl⟩⟩;rw [en,if_pos a',List.map_append]
    rfl
   ·have a':¬ f'=u:=fun z=>a (decide_eq_true (by rw [z]));refine next _ _ _ ⟨?_,g6,k6,_,rfl⟩;rw [en,if_neg a',List.append_nil]
  rintro ys2 σ H7 ⟨rfl,g6,k6,_⟩;have hn:((((ws.map Dt.str).length:Nat):Int)).toNat=ws.length:=by rw [List.length_map];rfl
  rw [hn,List.take_of_length_le (by rw [List.length_zip];lia)] at k6;have b7:=b5.trans (But.same g6);have e7:=g6 _ _ e5;have f7:=g6 _ _ f5;have k7:=g6 _ _ k5;have hv7:=hv5.same g6;have hp7:=hp5.same g6;have hw7:=hw5.same g6
  cases hes:ee (ws.zip fs) u with
  | cons z es =>
   rw [hes] at k6;refine ⟨_,rfl,(by show 0≤sizeLine;decide),fun l4 hl4=>?_⟩;have g8:=ag hl4 (.lst []);refine ⟨l3,l4,_,_,(z :: es).map Dt.str,[],rfl,rfl,SqL.of (g8 _ _ k6),SqL.of ac,(gm (z :: es)).d,.nil,lZ _,_,rfl,aQ ?_⟩;have gz:oE ws fs (u,z):=⟨u,(List.of_mem_zip (jX (by rw [hes];rfl))).2,by rw [hes];rfl,fun _=>rfl⟩;refine ⟨_,rfl,.inl ⟨rfl,_,SqL.of (g8 _ _ k7)⟩,_,rfl,_,rfl,l3,_,_,_,rfl,rfl,SqL.of (g8 _ _ k6),at0 _ _,?_⟩;refine ⟨[.str u,.str z],.cons .str (.cons .str .nil),sz2,fun v9 H9 g9 hvN=>?_⟩;have k9:=g9 _ _ (g8 _ _ k7);refine ⟨l2,ys,_,rfl,rfl,k9,ai (by lia),?_⟩;have b9:But l2 H9 (upd H9 l2 (.lst (ys++[v9]))):=But.put;refine ⟨bs++[(u,z)],ys++[v9],c2,_,_,_,fun x o nx ex=>?_,?_,?_,ac,?_,?_,?_,fun b hb=>?_,rfl⟩
   ·rw [ah (ak (b4 x o nx ex) hl2)];exact g9 _ _ ((b7.trans (But.same g8)) x o nx ex)
   ·rw [ah nrl2];exact g9 _ _ (g8 _ _ e7)
   ·rw [ah nll2];exact g9 _ _ (g8 _ _ f7)
   ·exact ((hv7.same g8).same g9).but k9 b9
   ·rw [List.map_append];exact (((hp7.same g8).same g9).but k9 b9).append (.cons (hvN.but k9 b9) .nil)
   ·rw [List.map_append,tk5,List.take_add_one,hui]
    rfl
   ·rcases List.mem_append.mp hb with hb | hb
    ·exact gd5 b hb
    ·obtain rfl:=List.mem_singleton.mp hb;exact gz
  | nil =>
   rw [hes] at k6;refine ⟨_,rfl,(by show 0≤sizeLine;decide),fun l4 hl4=>?_⟩;have g8:=ag hl4 (.lst []);refine ⟨l3,l4,_,_,[],[],rfl,rfl,SqL.of (g8 _ _ k6),SqL.of ac,.nil,.nil,by decide,_,rfl,ay ?_⟩;have b8:=b7.trans (But.same g8);have e8:=g8 _ _ e7;have f8:=g8 _ _ f7;have k8:=g8 _ _ k7;have hv8:=hv7.same g8;have hp8:=hp7.same g8
   clear k6 g6 b7 e7 f7 k7 hv7 hp7 hw7
   revert b8 e8 f8 k8 hv8 hp8
   generalize upd H7 l4 (.lst [])=H8
   intro b8 e8 f8 k8 hv8 hp8;have hw8:=hw.but hr0 b8;refine ⟨_,rfl,_,rfl,_,_,rfl,hw8.d,?_⟩;have eml:(ws.map Dt.str).length=ws.length:=List.length_map _;rw [eml];refine ⟨r,c2,_,rfl,e8,(by lia),(by lia),?_⟩;obtain ⟨d0,d1⟩:=mod_lt c2 (m:=(ws.length:Int)) (by lia);obtain ⟨o1,ho1⟩:∃ o1:Nat,c2 % (ws.length:Int)=0+(o1:Int):=⟨(c2 % (ws.length:Int)).toNat,by lia⟩;rw [ho1];obtain ⟨u2,hu2⟩:∃ u2,fs[o1]?=some u2:=⟨_,List.getElem?_eq_getElem (by lia)⟩;have bp:But r H8 (upd H8 r (.lst [.int (c2 / ws.length)])):=But.put;have b9:=b8.trans bp;have e9:upd H8 r (.lst [.int (c2 / ws.length)]) r=some (.lst [.int (c2 / ws.length)]):=ac;have f9:=bp _ _ nrl.symm f8;have k9:=bp _ _ nrl2.symm k8;have hv9:=hv8.but e8 bp;have hp9:=hp8.but e8 bp
   clear bp b8 f8 k8 hv8 hp8 hw8
   revert b9 e9 f9 k9 hv9 hp9
   generalize upd H8 r (.lst [.int (c2 / ws.length)])=HA
   intro b9 e9 f9 k9 hv9 hp9;have hw9:=hw.but hr0 b9;refine ⟨_,rfl,_,_,rfl,hw9.d,_,rfl,(by rw [List.length_map];lia),(by rw [List.length_map];lia),fun l5 hl5=>?_⟩;refine c9 (lo:=0) (fun i ys σ H'=>ys=(ee ((ws.zip fs).take i) u2).map V.str∧Same HA H'∧H' l5=some (.lst ys)∧∃ w,σ=[w,some (.ref a1),some (.ref l),some (.int (0+(o1:Int)))]) ⟨rfl,ag hl5 _,ac,_,rfl⟩ ?_ ?_
   ·rintro k ys2 σ H6 N hk ⟨rfl,g6,k6,w6,rfl⟩ next;have hk':k < ws.length:=by rw [List.length_map] at hk;lia
    obtain ⟨z,hz⟩:∃ z,ws[k]?=some z:=⟨_,List.getElem?_eq_getElem hk'⟩;obtain ⟨f',hf'⟩:∃ f',fs[k]?=some f':=⟨_,List.getElem?_eq_getElem (by lia)⟩;have en:=lX (u:=u2) (jY hz hf');have el:=oC ((ws.zip fs).take k) u2;rw [List.length_take] at el;refine ⟨_,rfl,_,rfl,l,_,_,_,rfl,rfl,SqL.of (g6 _ _ f9),ng hf',_,rfl,_,rfl,l,_,_,_,rfl,rfl,SqL.of (g6 _ _ f9),ng hu2,rfl,_,rfl,ar (fun a=>?_) (fun a=>?_)⟩
    ·have a':f'=u2:=by have:=of_decide_eq_true a;injection this
     refine ⟨_,rfl,_,rfl,_,_,_,hw9.same g6,rfl,jZ hz,isS ?_⟩;refine ⟨k6,ai (by rw [List.length_map];lia),next _ _ _ ⟨?_,az hl5 g6,ac,_,rfl⟩⟩;rw [en,if_pos a',List.map_append]
     rfl
    ·have a':¬ f'=u2:=fun z=>a (decide_eq_true (by rw [z]));refine next _ _ _ ⟨?_,g6,k6,_,rfl⟩;rw [en,if_neg a',List.append_nil]
   rintro ys2 σ HB ⟨rfl,g6,k6,_⟩;have hn:((((ws.map Dt.str).length:Nat):Int)).toNat=ws.length:=by rw [List.length_map];rfl
   rw [hn,List.take_of_length_le (by rw [List.length_zip];lia)] at k6;obtain ⟨z0,hz0⟩:=oD hfl (List.mem_of_getElem? hu2)
   cases hes2:ee (ws.zip fs) u2 with
   | nil=>exact absurd hes2 (lY hz0)
   | cons z es2 =>
    rw [hes2] at k6;have gz:oE ws fs (u,z):=⟨u2,List.mem_of_getElem? hu2,by rw [hes2];rfl,fun hm=>by
     obtain ⟨z1,hz1⟩:=oD hfl hm;exact absurd hes (lY hz1)⟩
    refine ⟨_,rfl,.inl ⟨rfl,_,SqL.of (g6 _ _ k9)⟩,_,rfl,_,rfl,l5,_,_,_,rfl,rfl,SqL.of k6,at0 _ _,?_⟩;refine ⟨[.str u,.str z],.cons .str (.cons .str .nil),sz2,fun v9 H9 g9 hvN=>?_⟩;have kA:=g9 _ _ (g6 _ _ k9);refine ⟨l2,ys,_,rfl,rfl,kA,ai (by lia),?_⟩;have bA:But l2 H9 (upd H9 l2 (.lst (ys++[v9]))):=But.put;refine ⟨bs++[(u,z)],ys++[v9],c2 / ws.length,_,_,_,fun x o nx ex=>?_,?_,?_,ac,?_,?_,?_,fun b hb=>?_,rfl⟩
    ·rw [ah (ak (b4 x o nx ex) hl2)];exact g9 _ _ ((b9.trans (But.same g6)) x o nx ex)
    ·rw [ah nrl2];exact g9 _ _ (g6 _ _ e9)
    ·rw [ah nll2];exact g9 _ _ (g6 _ _ f9)
    ·exact ((hv9.same g6).same g9).but kA bA
    ·rw [List.map_append];exact (((hp9.same g6).same g9).but kA bA).append (.cons (hvN.but kA bA) .nil)
    ·rw [List.map_append,tk5,List.take_add_one,hui]
     rfl
    ·rcases List.mem_append.mp hb with hb | hb
     ·exact gd5 b hb
     ·obtain rfl:=List.mem_singleton.mp hb;exact gz
 ·rintro σ H9 ⟨bs,ys,c2,w,e,o,b9,e9,f9,k9,hv9,hp9,tk9,gd9,rfl⟩;rw [List.length_map,List.take_length] at tk9;refine ⟨_,rfl,l,_,_,rfl,SqL.of f9,gm fs,fun vA HA gA hvA=>?_⟩;refine ⟨_,rfl,l2,ys,_,rfl,SqL.of (gA _ _ k9),hp9.same gA,fun vB HB gB hvB=>?_⟩;exact ⟨[.str "words",.tup (fs.map Dt.str),.tup (bs.map prS)],.cons .str (.cons (hvA.same gB) (.cons hvB .nil)),sz3,fun v H' g hv=>q v _ _ _ H' (((b9.trans (But.same gA)).trans (But.same gB)).trans (But.same g)) (g _ _ (gB _ _ (gA _ _ e9))) hv (.words fs bs ws (vz wu tk9 hfl hf gd9))⟩
theorem tp {c1 b:Bool} {F A B:Prop} (hF:(if b=true then A else B)→F) (h:if (c1 || b)=true then A else B):if c1=true then (if true=true then A else B) else F:=by
 cases c1 with
 | false=>exact hF h
 | true=>exact h
theorem tq:∀ i∈([9,5,7]:List Int),0≤i∧i≤9∧ck 0 i≤1:=by decide +kernel
theorem tt:∀ i∈([0,1,2,4,60]:List Int),0≤i∧i≤60:=by decide
def nh (K:PySem.W.Frag) (n:Nat):Sp:=fun vs H Q _=>∃ (r:Addr) (c:Int) (a m:Nat) (d:Dt) (x:V),a≤n∧vs=[.ref r,x]∧H r=some (.lst [.int c])∧IsP K H d x∧FK a m d∧vw K r H d Q
theorem l6 (T:Tx K mg ad) {f:Addr} {fd:FuncData} (n:Nat) (xX:Gn K mg "_law_turn" cS ["row","kind"] f fd) (yl:FnOk P w K mg base CX0 (n+3) f fd ["row","kind"] (nh K n)):FnOk P w K mg base CX0 (n+3+1) f fd ["row","kind"] (nh K (n+1)):=by
 obtain ⟨_,_,xA⟩:=T.law_digit;have xB:=bN (P:=P) (w:=w) (base:=base) T xA;obtain ⟨_,_,ya⟩:=T.law_number_turn;have yu:=d8 (P:=P) (w:=w) (base:=base) T ya;obtain ⟨_,_,yz⟩:=T.law_words;have yU:=kb (P:=P) (w:=w) (base:=base) T yz;refine xX.F.ok fR (fun vs H Q E h=>?_) (fun cdv A outer s H vs Q E hr h=>?_)
 ·obtain ⟨r,c,a,m,d,x,_,rfl,_⟩:=h
  rfl
 obtain ⟨r,c,a,m,d,x,hle,rfl,hr0,hd,fk,q⟩:=h;refine ⟨_,(@pss_cons _ _ _ _ _ (@ps_if _ _ _ _ _ _ _ _ (PW.pt (@pw_or _ _ _ _ _ _ _ (pt_cmpR op_eq (pcl xA xB (hr.mono (by lia)) rfl (@pa2 _ _ _ _ _ (pv 0) pe_int (by rfl) (by rfl))) pe_int (nomark _)) (@pw_or1 _ _ _ _ (pt_cmpR op_eq (@pi1 K _ _ _ _ _ _ _ rfl (pv 1)) pe_str (nomark _))))) (@pss_one _ _ _ (@ps_ret _ _ _ _ (@pe_tupPK _ K _ _ _ _ rfl (@pa2 _ _ _ _ _ pe_str (@pe_op _ _ _ _ _ _ _ _ a7 pe_int (pcl xA xB (hr.mono (by lia)) rfl (@pa2 _ _ _ _ _ (pv 0) pe_int (by rfl) (by rfl)))) (by rfl) (by rfl))))) pss_nil) (@pss_cons _ _ _ _ _ (@ps_if _ _ _ _ _ _ _ _ (pt_cmpR op_eq (@pi1 K _ _ _ _ _ _ _ rfl (pv 1)) pe_str (nomark _)) (@pss_one _ _ _ (@ps_ret _ _ _ _ (pcl ya yu (hr.mono (by lia)) rfl (@pa3 _ _ _ _ _ _ _ (pv 0) (@pi1 K _ _ _ _ _ _ _ rfl (pv 1)) (@pi1 K _ _ _ _ _ _ _ rfl (pv 1)) (by rfl) (by rfl) (by rfl))))) pss_nil) (@pss_cons _ _ _ _ _ (@ps_if _ _ _ _ _ _ _ _ (pt_cmpR op_eq (@pi1 K _ _ _ _ _ _ _ rfl (pv 1)) pe_str (nomark _)) (@pss_one _ _ _ (@ps_ret _ _ _ _ (pcl yz yU (hr.mono (by lia)) rfl (@pa2 _ _ _ _ _ (pv 0) (@pi1 K _ _ _ _ _ _ _ rfl (pv 1)) (by rfl) (by rfl))))) pss_nil) (@pss_cons _ _ _ _ _ (@ps_if _ _ _ _ _ _ _ _ (pt_cmpR op_eq (@pi1 K _ _ _ _ _ _ _ rfl (pv 1)) pe_str (nomark _)) (@pss_cons _ _ _ _ _ (@ps_if _ _ _ _ _ _ _ _ (PW.pt (@pw_and _ _ _ _ _ _ _ (pt_cmpR op_eq (pcl xA xB (hr.mono (by lia)) rfl (@pa2 _ _ _ _ _ (pv 0) pe_int (by rfl) (by rfl))) pe_int (nomark _)) (@pw_and1 _ _ _ _ (pt_cmpR op_gt (@pi1 K _ _ _ _ _ _ _ rfl (pv 1)) pe_int (nomark _))))) (@pss_one _ _ _ (@ps_ret _ _ _ _ (@pe_tupPK _ K _ _ _ _ rfl (@pa3 _ _ _ _ _ _ _ pe_str pe_int (@bf _ _ _ _ _ _ _ (aS (K:=K) rfl) (@bt _ _ _ _ (@pa3 _ _ _ _ _ _ _ pe_int pe_int pe_int (by rfl) (by rfl) (by rfl))) (pcl xA xB (hr.mono (by lia)) rfl (@pa2 _ _ _ _ _ (pv 0) pe_int (by rfl) (by rfl))) (fun _ _=>rfl)) (by rfl) (by rfl) (by rfl))))) pss_nil) (@pss_one _ _ _ (@ps_ret _ _ _ _ (@pe_tupPK _ K _ _ _ _ rfl (@pa2 _ _ _ _ _ pe_str (@bf _ _ _ _ _ _ _ (aS (K:=K) rfl) (@bt _ _ _ _ (@bC _ _ _ _ _ pe_int (@bC _ _ _ _ _ pe_int (@pa3 _ _ _ _ _ _ _ pe_int pe_int pe_int (by rfl) (by rfl) (by rfl)) (by rfl)) (by rfl))) (pcl xA xB (hr.mono (by lia)) rfl (@pa2 _ _ _ _ _ (pv 0) pe_int (by rfl) (by rfl))) (fun _ _=>rfl)) (by rfl) (by rfl)))))) pss_nil) (@pss_cons _ _ _ _ _ (@ps_set _ _ 2 _ _ _ _ fR.nd rfl (Or.inl rfl) (pcl xA xB (hr.mono (by lia)) rfl (@pa2 _ _ _ _ _ (pv 0) pe_int (by rfl) (by rfl))) (by rfl) (by first | exact .inl rfl | exact .inr rfl | assumption)) (@pss_cons _ _ _ _ _ (@ps_if _ _ _ _ _ _ _ _ (PW.pt (@pw_and _ _ _ _ _ _ _ (pt_cmpR op_eq (@pi1 K _ _ _ _ _ _ _ rfl (pv 1)) pe_str (nomark _)) (@pw_and _ _ _ _ _ _ _ (pt_cmpR op_eq (pv 2) pe_int (nomark _)) (@pw_and1 _ _ _ _ (pt_cmpR op_gt (@pi1 K _ _ _ _ _ _ _ rfl (pv 1)) pe_int (nomark _)))))) (@pss_one _ _ _ (@ps_ret _ _ _ _ (@pe_tupPK _ K _ _ _ _ rfl (@pa1 _ _ _ pe_str (by rfl))))) pss_nil) (@pss_cons _ _ _ _ _ (@ps_if _ _ _ _ _ _ _ _ (PW.pt (@pw_and _ _ _ _ _ _ _ (pt_cmpR op_eq (@pi1 K _ _ _ _ _ _ _ rfl (pv 1)) pe_str (nomark _)) (@pw_and1 _ _ _ _ (pt_cmpR op_eq (pv 2) pe_int (nomark _))))) (@pss_one _ _ _ (@ps_ret _ _ _ _ (@pe_tupPK _ K _ _ _ _ rfl (@pa2 _ _ _ _ _ pe_str (pcl xX yl (hr.mono (by lia)) rfl (@pa2 _ _ _ _ _ (pv 0) (@pi1 K _ _ _ _ _ _ _ rfl (pv 1)) (by rfl) (by rfl))) (by rfl) (by rfl))))) pss_nil) (@pss_one _ _ _ (@ps_ret _ _ _ _ (@pe_tupPK _ K _ _ _ _ rfl (@pa2 _ _ _ _ _ pe_str (pcl xA xB (hr.mono (by lia)) rfl (@pa2 _ _ _ _ _ (pv 0) pe_int (by rfl) (by rfl))) (by rfl) (by rfl)))))))))))),?_⟩;obtain ⟨w1,l1,ed⟩:=gl fk;have b1:But r H (upd H r (.lst [.int (c / 5)])):=But.put;have e1:upd H r (.lst [.int (c / 5)]) r=some (.lst [.int (c / 5)]):=ac;have hd1:=hd.but hr0 b1;refine ⟨_,rfl,r,c,5,rfl,hr0,by decide,by decide,rfl,_,rfl,tp (b:=decide (V.str w1=.str "record")) (fun z=>⟨_,rfl,_,_,_,(by rw [← ed];exact hd1),rfl,at0 _ _,fun v hv=>by
  obtain rfl:=am hv;exact ⟨rfl,_,rfl,z⟩⟩) ?_⟩
 revert b1 e1 hd1
 generalize upd H r (.lst [.int (c / 5)])=H1
 intro b1 e1 hd1;refine ar (fun a1=>?_) (fun a1=>?_)
 ·obtain ⟨d0,d1⟩:=mod_lt (c / 5) (m:=8) (by decide);refine ⟨_,rfl,r,c / 5,8,rfl,e1,by decide,by decide,_,_,rfl,rfl,?_⟩;exact ⟨[.str "one",.int _],.cons .str (.cons .int .nil),sz2,fun v H' g hv=>q v _ _ _ H' ((b1.trans But.put).trans (But.same g)) (g _ _ ac) hv (.one d _ (by lia) (by lia))⟩
 have nw:w1≠ "record" :=fun z=>a1 (by rw [z,decide_eq_true rfl,Bool.or_true])
 clear a1
 cases fk with
 | number i j f1 f2 f3 =>
  refine ⟨_,rfl,_,_,_,hd1,rfl,at0 _ _,isS ?_⟩;refine ⟨rfl,_,rfl,aH ?_⟩;refine ⟨_,rfl,_,rfl,_,_,_,hd1,rfl,rfl,isI ?_⟩;refine ⟨_,rfl,_,_,_,hd1,rfl,rfl,isI ?_⟩;exact ⟨r,c / 5,i,j,rfl,e1,⟨f1,by lia⟩,⟨by lia,f3⟩,fun v t e n' H' b e' hv g=>q v t e n' H' (b1.trans b) e' hv g⟩
 | choice ws hw =>
  refine ⟨_,rfl,_,_,_,hd1,rfl,at0 _ _,isS ?_⟩;refine ⟨rfl,_,rfl,iteN (ae (by decide)) ?_⟩;refine ⟨_,rfl,_,_,_,hd1,rfl,at0 _ _,isS ?_⟩;refine ⟨rfl,_,rfl,aH ?_⟩;refine ⟨_,rfl,_,rfl,_,_,_,hd1,rfl,rfl,fun v3 hv3=>?_⟩;exact ⟨r,c / 5,ws,v3,rfl,e1,hv3,hw,fun v t e n' H' b e' hv g=>q v t e n' H' (b1.trans b) e' hv g⟩
 | text i f1 f2 =>
  refine ⟨_,rfl,_,_,_,hd1,rfl,at0 _ _,isS ?_⟩;refine ⟨rfl,_,rfl,iteN (ae (by decide)) ?_⟩;refine ⟨_,rfl,_,_,_,hd1,rfl,at0 _ _,isS ?_⟩;refine ⟨rfl,_,rfl,iteN (ae (by decide)) ?_⟩;refine ⟨_,rfl,_,_,_,hd1,rfl,at0 _ _,isS ?_⟩;refine ⟨rfl,_,rfl,aH ?_⟩;have b2:But r H (upd H1 r (.lst [.int (c / 5 / 2)])):=b1.trans But.put;have e2:upd H1 r (.lst [.int (c / 5 / 2)]) r=some (.lst [.int (c / 5 / 2)]):=ac;have hd2:=hd1.but e1 (But.put (o:=.lst [.int (c / 5 / 2)]));refine ⟨_,rfl,r,c / 5,2,rfl,e1,by decide,by decide,rfl,_,rfl,cE (b:=decide ((0:Int) < i)) (fun z=>⟨_,rfl,_,_,_,hd2,rfl,rfl,fun v hv=>by
   obtain rfl:=d6 hv;exact ⟨_,_,rfl,rfl,_,rfl,z⟩⟩) ?_⟩
  revert b2 e2 hd2
  generalize upd H1 r (.lst [.int (c / 5 / 2)])=H2
  intro b2 e2 hd2;refine ar (fun a1=>?_) (fun a1=>?_)
  ·have i0:0 < i:=of_decide_eq_true ((Bool.and_eq_true _ _).mp a1).2;refine ⟨sz3,fun p hp=>?_⟩;have nrp:r≠p:=ak e2 hp;obtain ⟨d0,d1⟩:=mod_lt (c / 5 / 2) (m:=3) (by decide);obtain ⟨k,mk,ek⟩:=rB (ns:=[9,5,7]) d0 d1;obtain ⟨k0,k9,km⟩:=tq k mk;refine ⟨_,rfl,r,c / 5 / 2,3,rfl,(by rw [ah nrp];exact e2),by decide,by decide,p,_,_,_,rfl,rfl,SqL.of (by rw [ah nrp.symm];exact ac),ek,?_⟩;exact ⟨[.str "number",.int 0,.int k],.cons .str (.cons .int (.cons .int .nil)),sz3,fun v H' g hv=>q v _ _ _ H' (((b2.trans (But.same (ag hp _))).trans But.put).trans (But.same g)) (g _ _ ac) hv (.number 0 k i ⟨by decide,by decide⟩ k0 ⟨by lia,by lia⟩ (by lia))⟩
  ·refine ⟨(by show 5≤sizeLine;decide),fun p hp=>?_⟩;have nrp:r≠p:=ak e2 hp;obtain ⟨d0,d1⟩:=mod_lt (c / 5 / 2) (m:=5) (by decide);obtain ⟨k,mk,ek⟩:=rB (ns:=[0,1,2,4,60]) d0 d1;obtain ⟨k0,k9⟩:=tt k mk;refine ⟨_,rfl,r,c / 5 / 2,5,rfl,(by rw [ah nrp];exact e2),by decide,by decide,p,_,_,_,rfl,rfl,SqL.of (by rw [ah nrp.symm];exact ac),ek,?_⟩;exact ⟨[.str "cut",.int k],.cons .str (.cons .int .nil),sz2,fun v H' g hv=>q v _ _ _ H' (((b2.trans (But.same (ag hp _))).trans But.put).trans (But.same g)) (g _ _ ac) hv (.cut i k k0 k9)⟩
 | @list a' m' k i fk' f1 f2 =>
  refine ⟨_,rfl,_,_,_,hd1,rfl,at0 _ _,isS ?_⟩;refine ⟨rfl,_,rfl,iteN (ae (by decide)) ?_⟩;refine ⟨_,rfl,_,_,_,hd1,rfl,at0 _ _,isS ?_⟩;refine ⟨rfl,_,rfl,iteN (ae (by decide)) ?_⟩;refine ⟨_,rfl,_,_,_,hd1,rfl,at0 _ _,isS ?_⟩;refine ⟨rfl,_,rfl,iteN (ae (by decide)) ?_⟩;have b2:But r H (upd H1 r (.lst [.int (c / 5 / 3)])):=b1.trans But.put;have e2:upd H1 r (.lst [.int (c / 5 / 3)]) r=some (.lst [.int (c / 5 / 3)]):=ac;have hd2:=hd1.but e1 (But.put (o:=.lst [.int (c / 5 / 3)]));refine ⟨_,rfl,r,c / 5,3,rfl,e1,by decide,by decide,?_⟩
  revert b2 e2 hd2
  generalize upd H1 r (.lst [.int (c / 5 / 3)])=H2
  intro b2 e2 hd2;refine ⟨_,rfl,_,_,_,hd2,rfl,at0 _ _,isS ?_⟩;refine ⟨rfl,_,rfl,cE (b:=(decide (V.int (c / 5 % 3)=.int 0) && decide ((0:Int) < i))) (fun z=>⟨_,rfl,rfl,_,rfl,cE (fun z=>⟨_,rfl,_,_,_,hd2,rfl,rfl,fun v hv=>by
   obtain rfl:=d6 hv;exact ⟨_,_,rfl,rfl,_,rfl,z⟩⟩) z⟩) ?_⟩
  refine ar (fun a1=>?_) (fun _=>?_)
  ·have i0:0 < i:=of_decide_eq_true ((Bool.and_eq_true _ _).mp ((Bool.and_eq_true _ _).mp a1).2).2;exact ⟨[.str "out"],.cons .str .nil,sz1,fun v H' g hv=>q v _ _ _ H' (b2.trans (But.same g)) (g _ _ e2) hv (.out k i i0)⟩
  refine ⟨_,rfl,_,_,_,hd2,rfl,at0 _ _,isS ?_⟩;refine ⟨rfl,_,rfl,aH ?_⟩;refine ⟨_,rfl,rfl,_,rfl,ar (fun _=>?_) (fun _=>?_)⟩
  ·refine ⟨_,rfl,_,rfl,_,_,_,hd2,rfl,rfl,fun v6 hv6=>?_⟩;refine ⟨r,_,_,_,k,v6,by lia,rfl,e2,hv6,fk',fun v7 t e n' H3 b3 e3 hv7 gt=>?_⟩;exact ⟨[.str "items",t],.cons .str (.cons hv7 .nil),sz2,fun v H' g hv=>q v _ _ _ H' ((b2.trans b3).trans (But.same g)) (g _ _ e3) hv (.items i gt)⟩
  ·obtain ⟨d0,d1⟩:=mod_lt (c / 5 / 3) (m:=5) (by decide);refine ⟨_,rfl,r,_,5,rfl,e2,by decide,by decide,?_⟩;exact ⟨[.str "first",.int _],.cons .str (.cons .int .nil),sz2,fun v H' g hv=>q v _ _ _ H' ((b2.trans But.put).trans (But.same g)) (g _ _ ac) hv (.firstL k i _ (by lia) (by lia))⟩
 | @rows a' m' z l i fk' hk f1 f2 =>
  refine ⟨_,rfl,_,_,_,hd1,rfl,at0 _ _,isS ?_⟩;refine ⟨rfl,_,rfl,iteN (ae (by decide)) ?_⟩;refine ⟨_,rfl,_,_,_,hd1,rfl,at0 _ _,isS ?_⟩;refine ⟨rfl,_,rfl,iteN (ae (by decide)) ?_⟩;refine ⟨_,rfl,_,_,_,hd1,rfl,at0 _ _,isS ?_⟩;refine ⟨rfl,_,rfl,iteN (ae (by decide)) ?_⟩;have b2:But r H (upd H1 r (.lst [.int (c / 5 / 3)])):=b1.trans But.put;have e2:upd H1 r (.lst [.int (c / 5 / 3)]) r=some (.lst [.int (c / 5 / 3)]):=ac;have hd2:=hd1.but e1 (But.put (o:=.lst [.int (c / 5 / 3)]));refine ⟨_,rfl,r,c / 5,3,rfl,e1,by decide,by decide,?_⟩
  revert b2 e2 hd2
  generalize upd H1 r (.lst [.int (c / 5 / 3)])=H2
  intro b2 e2 hd2;refine ⟨_,rfl,_,_,_,hd2,rfl,at0 _ _,isS ?_⟩;refine ⟨rfl,_,rfl,iteN (ae (by decide)) (aQ ?_)⟩;refine ⟨_,rfl,_,_,_,hd2,rfl,at0 _ _,isS ?_⟩;refine ⟨rfl,_,rfl,iteN (ae (by decide)) (aQ ?_)⟩;obtain ⟨d0,d1⟩:=mod_lt (c / 5 / 3) (m:=5) (by decide);refine ⟨_,rfl,r,_,5,rfl,e2,by decide,by decide,?_⟩;exact ⟨[.str "first",.int _],.cons .str (.cons .int .nil),sz2,fun v H' g hv=>q v _ _ _ H' ((b2.trans But.put).trans (But.same g)) (g _ _ ac) hv (.firstR z _ i _ (by lia) (by lia))⟩
 | rcd =>
  injection ed with ed
  injection ed with e _
  injection e with e
  exact absurd e.symm nw
theorem i6 (T:Tx K mg ad) {f:Addr} {fd:FuncData} (A:Gn K mg "_law_turn" cS ["row","kind"] f fd):∀ n,FnOk P w K mg base CX0 (n+3) f fd ["row","kind"] (nh K n)
 | 0=>cg fun vs H Q E z=>by obtain ⟨_,_,_,_,_,_,h,_,_,_,pk,_⟩:=z;have:=pk.pos;lia
 | n+1=>l6 T n A (i6 T A n)
def okC (c:Nat):Bool:=decide (32≤c) && decide (c≤126) && !decide (c=34) && !decide (c=37)
def okT (z:Str):Prop:=∀ c∈z.cps.toList,okC c=true
theorem tu (c:Nat):(⟨#[c]⟩:Str).length=1:=rfl
def uh:List Dt→Str→Option Dt
 | .tup [.str n,k] :: r,z=>if n=z then some k else uh r z
 | _,_=>none
def xm (v:Dt) (z:Str):Dt:=match v with
 | .tup [_,.tup l]=>(uh l z).getD .non
 | _=>.non
def Asc (l:List Dt):Prop:=(∃ ns:List Int,l=ns.map Dt.int∧ns.Pairwise (· < ·))∨∃ ss:List Str,l=ss.map Dt.str∧ss.Pairwise ltS
inductive FV:Dt→Dt→Prop
 | number {i j x:Int}:i≤x→x≤j→FV (.tup [.str "number",.int i,.int j]) (.int x)
 | text {i:Int} {z:Str}:(z.length:Int)≤i→okT z→FV (.tup [.str "text",.int i]) (.str z)
 | choice {ws:List Str} {z:Str}:z∈ws→FV (.tup [.str "choice",.tup (ws.map Dt.str)]) (.str z)
 | list {k:Dt} {i:Int} {vs:List Dt}:(∀ v∈vs,FV k v)→(vs.length:Int)≤i→FV (.tup [.str "list",k,.int i]) (.tup [.str "list",.tup vs])
 | rows {k:Dt} {z:Str} {i:Int} {vs:List Dt}:(∀ v∈vs,FV k v)→(vs.length:Int)≤i→Asc (vs.map fun v=>xm v z)→FV (.tup [.str "rows",.str z,k,.int i]) (.tup [.str "rows",.tup vs])
 | rcd {fs gs:List (Str×Dt)}:gs.map (·.1)=fs.map (·.1)→(∀ (i:Nat) (f g:Str×Dt),fs[i]?=some f→gs[i]?=some g→FV f.2 g.2)→FV (.tup [.str "record",.tup (fs.map prD)]) (.tup [.str "record",.tup (gs.map prD)])
theorem rJ {d e:Dt} (h:FV d e):∀ i j:Int,d=.tup [.str "number",.int i,.int j]→∃ x,e=.int x∧i≤x∧x≤j:=by
 cases h with
 | number h1 h2 =>
  intro i j e;simp at e;obtain ⟨rfl,rfl⟩:=e;exact ⟨_,rfl,h1,h2⟩
 | _ =>
  intro i j e;simp at e <;> first | exact absurd e.1 (by decide) | exact absurd e (by decide)
theorem tD {d e:Dt} (h:FV d e):∀ i:Int,d=.tup [.str "text",.int i]→∃ z,e=.str z∧(z.length:Int)≤i∧okT z:=by
 cases h with
 | text h1 h2 =>
  intro i e;simp at e;obtain rfl:=e;exact ⟨_,rfl,h1,h2⟩
 | _ =>
  intro i e;simp at e <;> first | exact absurd e.1 (by decide) | exact absurd e (by decide)
theorem l7:∀ {ws vs:List Str},ws.map Dt.str=vs.map Dt.str→ws=vs
 | [],[],_=>rfl
 | [],_ :: _,h=>by simp at h
 | _ :: _,[],h=>by simp at h
 | a :: ws,b :: vs,h=>by
  have h':=List.cons.inj (show Dt.str a :: ws.map Dt.str=Dt.str b :: vs.map Dt.str from h);rw [Dt.str.inj h'.1,l7 h'.2]
theorem i7 {d e:Dt} (h:FV d e):∀ ws:List Str,d=.tup [.str "choice",.tup (ws.map Dt.str)]→∃ z,e=.str z∧z∈ws:=by
 cases h with
 | @choice ws' z hz =>
  intro ws e;have e':ws'.map Dt.str=ws.map Dt.str:=by simpa using e
  obtain rfl:=l7 e';exact ⟨_,rfl,hz⟩
 | _ =>
  intro ws e;simp at e <;> first | exact absurd e.1 (by decide) | exact absurd e (by decide)
def bU (i j:Int):Int:=if 0 < i then i else if j < 0 then j else 0
def aU:Nat→Dt→Dt
 | 0,_=>.non
 | n+1,.tup (.str w :: r) =>
  if w= "number" then (match r with
   | [.int i,.int j]=>.int (bU i j)
   | _=>.non)
  else if w= "text" then .str ""
  else if w= "choice" then (match r with
   | [.tup (z :: _)]=>z
   | _=>.non)
  else if w= "record" then (match r with
   | [.tup l]=>.tup [.str "record",.tup (l.map fun p=>match p with
    | .tup [a,k]=>.tup [a,aU n k]
    | p=>p)]
   | _=>.non)
  else .tup [.str w,.tup []]
 | _+1,_=>.non
theorem eS (n:Nat) (i j:Int):aU (n+1) (.tup [.str "number",.int i,.int j])=.int (bU i j):=by simp [aU]
theorem ni (n:Nat) (i:Int):aU (n+1) (.tup [.str "text",.int i])=.str "" :=by
 simp only [aU];rw [if_neg (by decide),if_pos trivial]
theorem kc (n:Nat) (z:Str) (r:List Dt):aU (n+1) (.tup [.str "choice",.tup (.str z :: r)])=.str z:=by
 simp only [aU];rw [if_neg (by decide),if_neg (by decide),if_pos trivial]
theorem kg (n:Nat) (fs:List (Str×Dt)):aU (n+1) (.tup [.str "record",.tup (fs.map prD)])=.tup [.str "record",.tup ((fs.map fun f=>(f.1,aU n f.2)).map prD)]:=by
 simp only [aU];rw [if_neg (by decide),if_neg (by decide),if_neg (by decide),if_pos trivial,List.map_map,List.map_map]
 rfl
theorem nj (n:Nat) (r:List Dt):aU (n+1) (.tup (.str "list" :: r))=.tup [.str "list",.tup []]:=by
 simp only [aU];rw [if_neg (by decide),if_neg (by decide),if_neg (by decide),if_neg (by decide)]
theorem nn (n:Nat) (r:List Dt):aU (n+1) (.tup (.str "rows" :: r))=.tup [.str "rows",.tup []]:=by
 simp only [aU];rw [if_neg (by decide),if_neg (by decide),if_neg (by decide),if_neg (by decide)]
theorem nr {ws:List Str} (hw:aT ws=true):∃ z r,ws=z :: r:=by
 unfold aT at hw;simp only [Bool.and_eq_true,decide_eq_true_eq] at hw
 cases ws with
 | nil=>simp at hw
 | cons z r=>exact ⟨z,r,rfl⟩
def kh (K:PySem.W.Frag) (n:Nat):Sp:=fun vs H Q _=>∃ (a ct:Nat) (d:Dt) (x:V),a≤n∧vs=[x]∧IsP K H d x∧FK a ct d∧∀ v H',Same H H'→IsP K H' (aU n d) v→Q v H'
theorem gZ (T:Tx K mg ad) {f:Addr} {fd:FuncData} (n:Nat) (xE:Gn K mg "least_value" bD ["kind"] f fd) (xN:FnOk P w K mg base CX0 n f fd ["kind"] (kh K n)):FnOk P w K mg base CX0 (n+1) f fd ["kind"] (kh K (n+1)):=by
 refine xE.F.ok dC (fun vs H Q E h=>?_) (fun cdv A outer s H vs Q E hr h=>?_)
 ·obtain ⟨a,ct,d,x,_,rfl,_⟩:=h
  rfl
 obtain ⟨a,ct,d,x,ha,rfl,hd,gk,q⟩:=h;refine ⟨_,(@pss_cons _ _ _ _ _ (@ps_set _ _ 1 _ _ _ _ dC.nd rfl (Or.inl rfl) (@pi1 K _ _ _ _ _ _ _ rfl (pv 0)) (by rfl) (by first | exact .inl rfl | exact .inr rfl | assumption)) (@pss_cons _ _ _ _ _ (@ps_if _ _ _ _ _ _ _ _ (pt_cmpR op_eq (pv 1) pe_str (nomark _)) (@pss_one _ _ _ (@ps_ret _ _ _ _ (pe_callB (fh rfl) rfl T.z_min boot_min (@pa2 _ _ _ _ _ (pe_callB (cz rfl) rfl T.z_max boot_max (@pa2 _ _ _ _ _ pe_int (@pi1 K _ _ _ _ _ _ _ rfl (pv 0)) (by rfl) (by rfl))) (@pi1 K _ _ _ _ _ _ _ rfl (pv 0)) (by rfl) (by rfl))))) pss_nil) (@pss_cons _ _ _ _ _ (@ps_if _ _ _ _ _ _ _ _ (pt_cmpR op_eq (pv 1) pe_str (nomark _)) (@pss_one _ _ _ (@ps_ret _ _ _ _ pe_str)) pss_nil) (@pss_cons _ _ _ _ _ (@ps_if _ _ _ _ _ _ _ _ (pt_cmpR op_eq (pv 1) pe_str (nomark _)) (@pss_one _ _ _ (@ps_ret _ _ _ _ (@pi1 K _ _ _ _ _ _ _ rfl (@pi1 K _ _ _ _ _ _ _ rfl (pv 0))))) pss_nil) (@pss_cons _ _ _ _ _ (@ps_if _ _ _ _ _ _ _ _ (pt_cmpR op_eq (pv 1) pe_str (nomark _)) (@pss_one _ _ _ (@ps_ret _ _ _ _ (@pe_tupPK _ K _ _ _ _ rfl (@pa2 _ _ _ _ _ pe_str (pe_callTy (aY (K:=K) rfl) rfl T.z_tuple boot_tuple (@pa1 _ _ _ (aI rfl (cs0 (NL:=["name","inner"]) rfl (by decide +kernel) (by decide +kernel)) (aP (K:=K) rfl (@pi1 K _ _ _ _ _ _ _ rfl (pv 0))) (fun _ _ _ _=>(ci (K:=K) (n:=2) rfl rfl (aC (aj (i:=0) (show List.Nodup (α:=Str) ["name","inner"] by decide +kernel) rfl (Or.inl rfl)) (aC (aj (i:=1) (show List.Nodup (α:=Str) ["name","inner"] by decide +kernel) rfl (Or.inl rfl)) bL)))) (fun _ _ _ _=>(pe_tupPK (K:=K) rfl (@pa2 _ _ _ _ _ (pv 0) (pcl xE xN (hr.mono (by lia)) rfl (@pa1 _ _ _ (pv 1) (by rfl))) (by rfl) (by rfl))))) (by rfl))) (by rfl) (by rfl))))) pss_nil) (@pss_one _ _ _ (@ps_ret _ _ _ _ (@pe_tupPK _ K _ _ _ _ rfl (@pa2 _ _ _ _ _ (pv 1) (@pe_tupPK _ K _ _ _ _ rfl cY) (by rfl) (by rfl)))))))))),?_⟩
 cases gk with
 | number i j b1 b2 b3 =>
  refine ⟨_,rfl,_,_,_,hd,rfl,rfl,isS ?_⟩;refine ⟨_,rfl,rfl,_,rfl,aH ?_⟩;refine ⟨_,rfl,_,_,_,hd,rfl,rfl,isI ?_⟩;refine ⟨_,_,rfl,?_⟩;refine ⟨_,rfl,_,_,_,hd,rfl,rfl,isI ?_⟩;refine ⟨_,_,rfl,?_⟩;refine q _ H (Same.refl _) ?_;rw [eS];have e':∀ x:Int,x=bU i j→IsP K H (.int (bU i j)) (.int x):=fun x h=>by rw [h];exact .int
  refine e' _ ?_;unfold bU
  (repeat' split) <;> lia
 | text i b1 b2 =>
  refine ⟨_,rfl,_,_,_,hd,rfl,rfl,isS ?_⟩;refine ⟨_,rfl,rfl,_,rfl,iteN (ae (by decide)) ?_⟩;refine ⟨_,rfl,rfl,_,rfl,aH ?_⟩;refine q _ H (Same.refl _) ?_;rw [ni];exact .str
 | choice ws hw =>
  obtain ⟨z,r,rfl⟩:=nr hw;refine ⟨_,rfl,_,_,_,hd,rfl,rfl,isS ?_⟩;refine ⟨_,rfl,rfl,_,rfl,iteN (ae (by decide)) ?_⟩;refine ⟨_,rfl,rfl,_,rfl,iteN (ae (by decide)) ?_⟩;refine ⟨_,rfl,rfl,_,rfl,aH ?_⟩;refine ⟨_,rfl,_,_,_,hd,rfl,rfl,fun v1 hv1=>?_⟩;refine ⟨_,_,_,hv1,rfl,(show atI (List.map Dt.str (z :: r)) 0=some (Dt.str z) from at0 (Dt.str z) (r.map Dt.str)),fun v hv=>?_⟩;refine q _ H (Same.refl _) ?_;rw [show ((z :: r).map Dt.str)=Dt.str z :: r.map Dt.str from rfl,kc];exact hv
 | @list a' c' k i g b1 b2 =>
  refine ⟨_,rfl,_,_,_,hd,rfl,rfl,isS ?_⟩;refine ⟨_,rfl,rfl,_,rfl,iteN (ae (by decide)) ?_⟩;refine ⟨_,rfl,rfl,_,rfl,iteN (ae (by decide)) ?_⟩;refine ⟨_,rfl,rfl,_,rfl,iteN (ae (by decide)) ?_⟩;refine ⟨_,rfl,rfl,_,rfl,iteN (ae (by decide)) ?_⟩;refine ⟨_,rfl,[],.nil,(by show 0≤sizeLine;decide),fun v1 H1 g1 hv1=>?_⟩;refine ⟨[.str "list",.tup []],.cons .str (.cons hv1 .nil),sz2,fun v2 H2 g2 hv2=>?_⟩;refine q v2 H2 (g1.trans g2) ?_;rw [nj];exact hv2
 | @rows a' c' z l i g kl b1 b2 =>
  refine ⟨_,rfl,_,_,_,hd,rfl,rfl,isS ?_⟩;refine ⟨_,rfl,rfl,_,rfl,iteN (ae (by decide)) ?_⟩;refine ⟨_,rfl,rfl,_,rfl,iteN (ae (by decide)) ?_⟩;refine ⟨_,rfl,rfl,_,rfl,iteN (ae (by decide)) ?_⟩;refine ⟨_,rfl,rfl,_,rfl,iteN (ae (by decide)) ?_⟩;refine ⟨_,rfl,[],.nil,(by show 0≤sizeLine;decide),fun v1 H1 g1 hv1=>?_⟩;refine ⟨[.str "rows",.tup []],.cons .str (.cons hv1 .nil),sz2,fun v2 H2 g2 hv2=>?_⟩;refine q v2 H2 (g1.trans g2) ?_;rw [nn];exact hv2
 | @rcd gs g asc nm hl =>
  obtain ⟨fs,efs⟩:∃ fs:List (Str×Dt),fs=gs.map nk:=⟨_,rfl⟩;have ep:gs.map prG=fs.map prD:=by rw [efs,List.map_map];rfl
  rw [ep] at hd q;rw [kg] at q;have hl8:fs.length≤8:=by rw [efs,List.length_map];exact hl
  refine ⟨_,rfl,_,_,_,hd,rfl,rfl,isS ?_⟩;refine ⟨_,rfl,rfl,_,rfl,iteN (ae (by decide)) ?_⟩;refine ⟨_,rfl,rfl,_,rfl,iteN (ae (by decide)) ?_⟩;refine ⟨_,rfl,rfl,_,rfl,iteN (ae (by decide)) ?_⟩;refine ⟨_,rfl,rfl,_,rfl,aH ?_⟩;refine ⟨_,rfl,_,_,_,hd,rfl,rfl,fun v hv=>?_⟩;obtain ⟨aa,xs,rfl,ha',pa,ra⟩:=hv.unref;have el:=ra.length;rw [List.length_map] at el;refine ⟨aa,rfl,⟨xs,ha'⟩,fun l hln=>?_⟩;refine aG (K:=K) (xs:=xs) (fun i ys σ H'=>Same H H'∧H' l=some (.lst ys)∧IsPs K H' (((fs.take i).map fun f=>(f.1,aU n f.2)).map prD) ys∧ys.length=i∧∃ v1 v2,σ=[v1,v2])
   ⟨ag hln _,ac,.nil,rfl,none,none,rfl⟩ (fun i ys σ H' _ p=>p.1.tup ha') ?_ ?_
  ·rintro i u ys σ H1 N hu ⟨g1,e1,hp,le1,v1,v2,rfl⟩ next;have hi:i < xs.length:=(List.getElem?_eq_some_iff.mp hu).1;obtain ⟨e,he,hx⟩:=ra.get' hu;rw [List.getElem?_map] at he;obtain ⟨⟨w',d'⟩,hf,rfl⟩:=Option.map_eq_some_iff.mp he;obtain ⟨b,zs,rfl,hb,pb,rb⟩:=(hx.same g1).unref
   cases rb with
   | cons r1 rb =>
    cases rb with
    | @cons _ _ y2 _ r2 rb =>
     cases rb
     obtain rfl:=am r1;have hm:=List.mem_of_getElem? hf;rw [efs] at hm;obtain ⟨x',hx',ex'⟩:=List.mem_map.mp hm;have l9:=jD (List.mem_map_of_mem (f:=fun g:G4=>g.2.2.1) hx');have fk9:FK x'.2.2.1 x'.2.2.2 d':=by
      have:=g x' hx';rw [show x'.2.1=d' from congrArg Prod.snd ex'] at this;exact this
     refine ⟨b,_,rfl,hb,rfl,_,_,rfl,_,_,rfl,rfl,?_⟩;refine ⟨_,rfl,_,rfl,_,_,d',y2,by lia,rfl,r2,fk9,fun v H2 g2 hv2=>?_⟩;refine ⟨[.str w',aU n d'],.cons .str (.cons hv2 .nil),sz2,fun v4 H4 g4 hv4=>?_⟩;have f4:=g4 _ _ (g2 _ _ e1);have b5:But l H4 (upd H4 l (.lst (ys++[v4]))):=But.put;refine ⟨f4,ai (by lia),next _ _ _ ⟨az hln ((g1.trans g2).trans g4),ac,?_,by rw [List.length_append,le1];rfl,_,_,rfl⟩⟩;rw [List.take_add_one,hf,List.map_append,List.map_append];exact (((hp.same g2).same g4).but f4 b5).append (.cons (hv4.but f4 b5) .nil)
  ·rintro ys σ H1 ⟨g1,e1,hp,le1,v1,v2,rfl⟩;rw [← el,List.take_length] at hp;refine ⟨l,ys,_,rfl,SqL.of e1,hp,fun v2 H2 g2 hv2=>?_⟩;refine ⟨[.str "record",.tup ((fs.map fun f=>(f.1,aU n f.2)).map prD)],.cons .str (.cons hv2 .nil),sz2,fun v H3 g3 hv=>?_⟩;exact q v H3 ((g1.trans g2).trans g3) hv
theorem bI (T:Tx K mg ad) {f:Addr} {fd:FuncData} (D:Gn K mg "least_value" bD ["kind"] f fd):∀ n,FnOk P w K mg base CX0 n f fd ["kind"] (kh K n)
 | 0=>cg fun vs H Q E z=>by
  obtain ⟨a,_,_,_,h1,_,_,g,_⟩:=z;have:=g.pos;lia
 | n+1=>gZ T n D (bI T D n)
abbrev figs:Str:= "0123456789"
def inF (c:Nat):Bool:=!(Builtin.Str.occurrences figs ⟨#[c]⟩ 0 figs.length 1).isEmpty
def alph:List Nat:=(List.range 127).filter okC
def fP (c:Nat):Bool:=decide (48≤c∧c≤57)
theorem rK:∀ c∈alph,inF c=fP c:=by decide +kernel
theorem tE {c:Nat} (h:okC c=true):c∈alph:=by
 refine List.mem_filter.mpr ⟨List.mem_range.mpr ?_,h⟩;simp only [okC,Bool.and_eq_true,decide_eq_true_eq] at h;lia
def figsOf (cs:List Nat):List Nat:=if cs.head?=some 45 then cs.drop 1 else cs
def cc (cs:List Nat):Option Int :=
 if figsOf cs=[] then none else if (figsOf cs).all fP=false then none
 else if (figsOf cs).head?=some 48∧cs≠[48] then none
 else some (if cs.head?=some 45 then -(NumText.digitsVal (figsOf cs):Int) else (NumText.digitsVal (figsOf cs):Int))
def xn:Option Int→V
 | none=>.non
 | some i=>.int i
def tF (z:Str):Prop:=(∀ c∈z.cps.toList,c∈alph)∧z.length≤100
def ki (m:Int):Str:=Str.ofString (toString m)
def kj (_:PySem.W.Frag) (_:Ads):Sp:=fun vs H Q _=>∃ z:Str,vs=[.str z]∧tF z∧∀ H',Same H H'→Q (xn (cc z.cps.toList)) H'
theorem nu {n:Nat} (h:n≤1000):n≤sizeLine:=Nat.le_of_lt (ai h)
theorem bO (z:Str):z.cps.toList.length=z.length:=Array.length_toList
theorem rL:("-" : Str)=⟨#[45]⟩:=by decide +kernel
theorem i8:("0" : Str)=⟨#[48]⟩:=by decide +kernel
theorem vC:("" : Str)=⟨#[]⟩:=by decide +kernel
theorem rM (z:Str):decide (V.str z=V.str "")=decide (z.cps.toList=[]):=by
 rw [vC,decide_eq_decide];exact ⟨fun h=>by injection h with h;rw [h],fun h=>congrArg V.str (jt h)⟩
theorem i9 (z:Str):decide (V.str z=V.str "0")=decide (z.cps.toList=[48]):=by
 rw [i8,decide_eq_decide];exact ⟨fun h=>by injection h with h;rw [h],fun h=>congrArg V.str (jt h)⟩
theorem kn (z:Str):Txt.startswith z "-" = decide (z.cps.toList.head?=some 45):=by rw [rL];exact gK z 45
theorem dQ (z:Str):Txt.startswith z "0" = decide (z.cps.toList.head?=some 48):=by rw [i8];exact gK z 48
theorem rN {z:Str} {c:Nat} (h:z.cps.toList.head?=some c):1≤z.length:=by
 rw [← bO]
 cases e:z.cps.toList with
 | nil=>rw [e] at h;cases h
 | cons a l=>simp
theorem pL {z:Str} (h:z.cps.toList.head?=some 45):(Txt.slice z (some 1) none).cps.toList=figsOf z.cps.toList:=by
 rw [mJ (rN h)];unfold figsOf;rw [if_pos h]
theorem ja {cs:List Nat} (h:∀ c∈cs,c∈alph):∀ c∈figsOf cs,c∈alph:=by
 intro c hc;unfold figsOf at hc
 split at hc
 ·exact h c (List.mem_of_mem_drop hc)
 ·exact h c hc
theorem ma {cs:List Nat} (h:∀ c∈cs,c∈alph):cs.all inF=cs.all fP:=by
 induction cs with
 | nil=>rfl
 | cons c r ih =>
  rw [List.all_cons,List.all_cons,rK c (h c (List.mem_cons_self ..)),ih fun d hd=>h d (List.mem_cons_of_mem _ hd)]
theorem oF (cs:List Nat):(figsOf cs).length≤cs.length:=by
 unfold figsOf
 split
 ·rw [List.length_drop];lia
 ·exact Nat.le_refl _
theorem pM {cs:List Nat} (h:cs.all fP=true):NumText.AllDigits cs:=fun c hc=>of_decide_eq_true (List.all_eq_true.mp h c hc)
theorem md {z:Str} (hz:z.length≤100) (h1:figsOf z.cps.toList≠[]) (h2:(figsOf z.cps.toList).all fP=true) (h3:¬ ((figsOf z.cps.toList).head?=some 48∧z.cps.toList≠[48])):∃ n,PySem.intText? z=some n∧cc z.cps.toList=some n:=by
 unfold cc;rw [if_neg h1,if_neg (by rw [h2];exact Bool.noConfusion),if_neg h3];have hd:=pM h2
 by_cases hm:z.cps.toList.head?=some 45
 ·rw [if_pos hm];have ef:figsOf z.cps.toList=z.cps.toList.drop 1:=by unfold figsOf;rw [if_pos hm]
  have e:z.cps.toList=45 :: figsOf z.cps.toList:=by
   rw [ef]
   cases e:z.cps.toList with
   | nil=>rw [e] at hm;cases hm
   | cons a l=>rw [e] at hm;injection hm with hm;subst hm;rfl
  exact ⟨_,PySem.intText_neg e hd h1 (by lia),rfl⟩
 ·rw [if_neg hm];have ef:figsOf z.cps.toList=z.cps.toList:=by unfold figsOf;rw [if_neg hm]
  rw [ef] at hd h1 ⊢;exact ⟨_,PySem.intText_digits hd h1 (by lia),rfl⟩
theorem pN (m:Int):∀ c∈strI m,c∈alph:=by
 have hd:∀ c∈dg m.natAbs,c∈alph:=fun c hc=>by
  have:=ft _ c hc;have e:c=48∨c=49∨c=50∨c=51∨c=52∨c=53∨c=54∨c=55∨c=56∨c=57:=by lia
  rcases e with rfl | rfl | rfl | rfl | rfl | rfl | rfl | rfl | rfl | rfl <;> decide +kernel
 intro c hc;unfold strI at hc
 split at hc
 ·rcases List.mem_cons.mp hc with rfl | hc
  ·decide +kernel
  ·exact hd c hc
 ·exact hd c hc
theorem hG (m:Int):(ki m).cps.toList=strI m:=str_int m
theorem pO {m:Int} (h:m.natAbs < 10 ^ 61):tF (ki m):=by
 refine ⟨?_,?_⟩
 ·rw [hG];exact pN m
 ·rw [← bO,hG];have:=mI 60 m.natAbs h;unfold strI
  split
  ·rw [List.length_cons];lia
  ·lia
theorem tG (m:Int):cc (strI m)=some m:=by
 have hd:(dg m.natAbs).all fP=true:=List.all_eq_true.mpr fun c hc=>decide_eq_true (ft _ c hc)
 by_cases h:m < 0
 ·have e:strI m=45 :: dg m.natAbs:=by unfold strI;rw [if_pos h]
  have ef:figsOf (strI m)=dg m.natAbs:=by rw [e];rfl
  obtain ⟨c,r,eh,hc⟩:=n9 m.natAbs (by lia);unfold cc;rw [ef,if_neg (uc _),if_neg (by rw [hd];exact Bool.noConfusion),if_neg (by
   rintro ⟨a,_⟩;rw [eh] at a;injection a with a
   lia),qH,e]
  show some (if (45 :: dg m.natAbs).head?=some 45 then -(m.natAbs:Int) else (m.natAbs:Int))=some m;rw [if_pos (show (45 :: dg m.natAbs).head?=some 45 from rfl)]
  congr 1
  lia
 ·have e:strI m=dg m.natAbs:=by unfold strI;rw [if_neg h]
  have hh:(dg m.natAbs).head?≠some 45:=by
   intro z;have:45∈dg m.natAbs:=List.mem_of_head? z;have:=ft _ _ this;lia
  have ef:figsOf (strI m)=dg m.natAbs:=by rw [e];unfold figsOf;rw [if_neg hh]
  unfold cc;rw [ef,if_neg (uc _),if_neg (by rw [hd];exact Bool.noConfusion),if_neg (by
   rintro ⟨a,b⟩
   by_cases h0:m.natAbs=0
   ·rw [e,h0] at b;exact b (c8 (by decide))
   ·obtain ⟨c,r,eh,hc⟩:=n9 m.natAbs (by lia);rw [eh] at a;injection a with a
    lia),qH,e,if_neg hh]
  congr 1
  lia
theorem oG {K:PySem.W.Frag} {H:Hp} {l:Addr} {z:Str} {R:Hp→Prop} {nm:L2.St} (hl:H l=none) (hz:z.length≤sizeLine) (q:∀ H',Same H H'→SqL K H' l (bls (z.cps.toList.map inF))→R H')
  (hn:nm=[none]):∃ W:Nat→Nat→List V→L2.St→Hp→Prop,(∃ m,W 0 m [] nm (upd H l (.lst [])))∧∀ i m ys σ' H',W i m ys σ' H'→((Its z).stop i H'∧R H') ∨
   ((Its z).go i H'∧∀ x H'',(Its z).yld i H' x H''→gu 0 x σ' H'' fun σ2 H2=>cEl (tOp (fun x y H Q=>∃ i j,x=.str i∧y=.str j∧Q (.bl (!(Builtin.Str.occurrences j i 0 j.length 1).isEmpty)) H) (oS 0) (tC (.str figs))) ys l σ2 H2 fun ys' σ3 H3=>∃ m',m' < m∧W (i+1) m' ys' σ3 H3):=by
 subst hn;refine gE (Q:=fun _ H'=>R H') (fun i ys σ H'=>ys=bls ((z.cps.toList.take i).map inF)∧H'=upd H l (.lst ys)∧σ.length=1) ⟨rfl,rfl,rfl⟩ ?_ ?_
 ·rintro i c ys σ H1 N hc ⟨rfl,rfl,hσ⟩ next;have hc':z.cps.toList[i]?=some c:=by rw [Array.getElem?_toList];exact hc
  have hi:i < z.cps.toList.length:=(List.getElem?_eq_some_iff.mp hc').1;have hlen:(bls ((z.cps.toList.take i).map inF)).length < sizeLine:=by
   have:z.length=z.cps.toList.length:=by simp [Str.length]
   simp only [bls,List.length_map,List.length_take];lia
  match σ,hσ with
  | [_],_ =>
   refine ⟨.str ⟨#[c]⟩,rfl,_,_,rfl,rfl,ac,hlen,next _ _ _ ⟨?_,nL,rfl⟩⟩;show bls ((z.cps.toList.take i).map inF)++[V.bl (inF c)]=bls ((z.cps.toList.take (i+1)).map inF);unfold bls;rw [List.map_map,List.map_map];exact bw (V.bl ∘ inF) hc'
 ·rintro ys σ H1 ⟨rfl,rfl,hσ⟩;refine q _ (ag hl _) (SqL.of ?_);rw [ac];have:z.cps.toList.take z.cps.size=z.cps.toList:=List.take_of_length_le (by simp);rw [this]
theorem hU {c:Prop} [Decidable c] (h:(!decide c)=true):¬ c:=by simpa using h
theorem hV {c:Prop} [Decidable c] (h:¬ (!decide c)=true):c:=by simpa using h
theorem ko (T:Tx K mg ad) {f:Addr} {fd:FuncData} (F:Gn K mg "number_of" du ["text"] f fd):FnOk P w K mg base CX0 1 f fd ["text"] (kj K ad):=by
 obtain ⟨t_FIGURES,c_FIGURES⟩:=T.FIGURES;refine F.F.ok eW (fun vs H Q E h=>?_) (fun cdv A outer s H vs Q E hr h=>?_)
 ·obtain ⟨z,rfl,_⟩:=h
  rfl
 obtain ⟨z,rfl,⟨ha,hz⟩,q⟩:=h;refine ⟨_,(@pss_cons _ _ _ _ _ (@ps_set _ _ 1 _ _ _ _ eW.nd rfl (Or.inl rfl) (gq (@pt_val _ _ _ (pe_bm PySem.F.plainAttrs_str PySem.F.slot_str_startswith PySem.F.type_str_startswith mt_starts (pv 0) (@pa1 _ _ _ pe_str (by rfl))) (by intro _;rfl)) (bE qt (pv 0) (bM pe_int) cI) (pv 0)) (by rfl) (by first | exact .inl rfl | exact .inr rfl | assumption)) (@pss_cons _ _ _ _ _ (@ps_if _ _ _ _ _ _ _ _ (PW.pt (@pw_or _ _ _ _ _ _ _ (pt_cmpR op_eq (pv 1) pe_str (nomark _)) (@pw_or1 _ _ _ _ (@pt_not _ _ _ _ (@pt_val _ _ _ (pe_callB (call_allN (K:=K) rfl rfl) rfl T.z_all boot_all (@pa1 _ _ _ (aI rfl (cs0 (NL:=["figure"]) rfl (by decide +kernel) (by decide +kernel)) (mE (pv 1)) (fun _ _ _ _=>(aj (i:=0) (show List.Nodup (α:=Str) ["figure"] by decide +kernel) rfl (Or.inl rfl))) (fun _ _ _ _=>(pe_cmpR iI (pv 0) (pe_gstr rfl c_FIGURES) rfl))) (by rfl))) (by intro _;rfl)))))) (@pss_one _ _ _ (@ps_ret _ _ _ _ pe_non)) pss_nil) (@pss_cons _ _ _ _ _ (@ps_if _ _ _ _ _ _ _ _ (PW.pt (@pw_and _ _ _ _ _ _ _ (@pt_val _ _ _ (pe_bm PySem.F.plainAttrs_str PySem.F.slot_str_startswith PySem.F.type_str_startswith mt_starts (pv 1) (@pa1 _ _ _ pe_str (by rfl))) (by intro _;rfl)) (@pw_and1 _ _ _ _ (pt_cmpR op_ne (pv 0) pe_str (nomark _))))) (@pss_one _ _ _ (@ps_ret _ _ _ _ pe_non)) pss_nil) (@pss_one _ _ _ (@ps_ret _ _ _ _ (pe_callTy call_int_text rfl T.z_int boot_int (@pa1 _ _ _ (pv 0) (by rfl)))))))),?_⟩;refine ⟨_,rfl,rfl,_,_,rfl,rfl,_,rfl,?_⟩;rw [kn];refine ar (fun c1=>?_) (fun c1=>?_)
 ·have eF:=pL (of_decide_eq_true c1);refine ⟨_,rfl,_,rfl,z,rfl,nu (by lia),?_⟩;have lF:=bO (Txt.slice z (some 1) none);rw [eF] at lF;refine ⟨_,rfl,rfl,_,rfl,?_⟩;rw [rM];have fl:=oF z.cps.toList;rw [bO] at fl;refine ar (fun c2=>?_) (fun c2=>?_)
  ·have e:cc z.cps.toList=none:=by unfold cc;rw [if_pos (eF.symm.trans (of_decide_eq_true c2))]
   refine ay ?_;rw [e] at q;exact q H (Same.refl H)
  have n2:figsOf z.cps.toList≠[]:=fun y=>c2 (decide_eq_true (eF.trans y));refine ⟨_,rfl,_,rfl,fun l hl=>oG (K:=K) hl (nu (by lia)) (fun H1 g1 s1=>⟨l,_,rfl,rfl,s1,_,rfl,?_⟩) rfl⟩;rw [List.all_map,show (id ∘ inF)=inF from rfl,eF,ma (ja ha)]
  cases hall:(figsOf z.cps.toList).all fP with
  | false =>
   have e:cc z.cps.toList=none:=by unfold cc;rw [if_neg n2,if_pos hall]
   refine ay ?_;rw [e] at q;exact q H1 g1
  | true =>
  refine aQ ?_;refine ⟨_,rfl,rfl,_,_,rfl,rfl,_,rfl,?_⟩;rw [dQ];have due:¬ ((figsOf z.cps.toList).head?=some 48∧z.cps.toList≠[48])→∃ n,PySem.intText? z=some n∧cc z.cps.toList=some n:=md hz n2 hall;refine ar (fun c3=>?_) (fun c3=>?_)
  ·have c3':=(congrArg List.head? eF).symm.trans (of_decide_eq_true c3);refine ⟨_,rfl,rfl,_,rfl,?_⟩;rw [i9];refine ar (fun c4=>?_) (fun c4=>?_)
   ·have e:cc z.cps.toList=none:=by unfold cc;rw [if_neg n2,if_neg (by rw [hall];exact Bool.noConfusion),if_pos ⟨c3',hU c4⟩]
    rw [e] at q;exact q H1 g1
   ·obtain ⟨n,e1,e2⟩:=due (fun y=>y.2 (hV c4));rw [e2] at q;exact ⟨_,rfl,z,n,rfl,e1,by lia,q H1 g1⟩
  ·obtain ⟨n,e1,e2⟩:=due (fun y=>c3 (decide_eq_true ((congrArg List.head? eF).trans y.1)));rw [e2] at q;exact ⟨_,rfl,z,n,rfl,e1,by lia,q H1 g1⟩
 ·have eF:z.cps.toList=figsOf z.cps.toList:=by
   unfold figsOf;rw [if_neg (fun y=>c1 (decide_eq_true y))]
  have lF:=bO z;have lF:(figsOf z.cps.toList).length=z.length:=eF ▸ lF;refine ⟨_,rfl,?_⟩;refine ⟨_,rfl,rfl,_,rfl,?_⟩;rw [rM];have fl:=oF z.cps.toList;rw [bO] at fl;refine ar (fun c2=>?_) (fun c2=>?_)
  ·have e:cc z.cps.toList=none:=by unfold cc;rw [if_pos (eF.symm.trans (of_decide_eq_true c2))]
   refine ay ?_;rw [e] at q;exact q H (Same.refl H)
  have n2:figsOf z.cps.toList≠[]:=fun y=>c2 (decide_eq_true (eF.trans y));refine ⟨_,rfl,_,rfl,fun l hl=>oG (K:=K) hl (nu (by lia)) (fun H1 g1 s1=>⟨l,_,rfl,rfl,s1,_,rfl,?_⟩) rfl⟩;rw [List.all_map,show (id ∘ inF)=inF from rfl,eF,ma (ja ha)]
  cases hall:(figsOf z.cps.toList).all fP with
  | false =>
   have e:cc z.cps.toList=none:=by unfold cc;rw [if_neg n2,if_pos hall]
   refine ay ?_;rw [e] at q;exact q H1 g1
  | true =>
  refine aQ ?_;refine ⟨_,rfl,rfl,_,_,rfl,rfl,_,rfl,?_⟩;rw [dQ];have due:¬ ((figsOf z.cps.toList).head?=some 48∧z.cps.toList≠[48])→∃ n,PySem.intText? z=some n∧cc z.cps.toList=some n:=md hz n2 hall;refine ar (fun c3=>?_) (fun c3=>?_)
  ·have c3':=(congrArg List.head? eF).symm.trans (of_decide_eq_true c3);refine ⟨_,rfl,rfl,_,rfl,?_⟩;rw [i9];refine ar (fun c4=>?_) (fun c4=>?_)
   ·have e:cc z.cps.toList=none:=by unfold cc;rw [if_neg n2,if_neg (by rw [hall];exact Bool.noConfusion),if_pos ⟨c3',hU c4⟩]
    rw [e] at q;exact q H1 g1
   ·obtain ⟨n,e1,e2⟩:=due (fun y=>y.2 (hV c4));rw [e2] at q;exact ⟨_,rfl,z,n,rfl,e1,by lia,q H1 g1⟩
  ·obtain ⟨n,e1,e2⟩:=due (fun y=>c3 (decide_eq_true ((congrArg List.head? eF).trans y.1)));rw [e2] at q;exact ⟨_,rfl,z,n,rfl,e1,by lia,q H1 g1⟩
def cW (x i j:Int):Int:=if j < (if i > x then i else x) then j else (if i > x then i else x)
def nv (_:PySem.W.Frag) (_:Ads):Sp:=fun vs H Q _=>∃ x i j:Int,vs=[.int x,.int i,.int j]∧Q (.int (cW x i j)) H
theorem ny (T:Tx K mg ad) {f:Addr} {fd:FuncData} (F:Gn K mg "nearest" fI ["number","low","high"] f fd):FnOk P w K mg base CX0 1 f fd ["number","low","high"] (nv K ad):=by
 refine F.F.ok nK (fun vs H Q E h=>?_) (fun cdv A outer s H vs Q E hr h=>?_)
 ·obtain ⟨x,i,j,rfl,_⟩:=h
  rfl
 obtain ⟨x,i,j,rfl,q⟩:=h;refine ⟨_,(@pss_one _ _ _ (@ps_ret _ _ _ _ (pe_callB (fh rfl) rfl T.z_min boot_min (@pa2 _ _ _ _ _ (pe_callB (cz rfl) rfl T.z_max boot_max (@pa2 _ _ _ _ _ (pv 0) (pv 1) (by rfl) (by rfl))) (pv 2) (by rfl) (by rfl))))),?_⟩;exact ⟨_,rfl,_,rfl,_,_,rfl,_,rfl,_,_,rfl,q⟩
def bJ (z:Str) (i j:Int):Int:=match cc z.cps.toList with
 | none=>bU i j
 | some n=>if i≤n∧n≤j then n else bU i j
def hZ (K:PySem.W.Frag) (_:Ads):Sp:=fun vs H Q _=>∃ (z:Str) (i j:Int) (x:V),vs=[.str z,x]∧tF z∧IsP K H (bH i j) x∧FK 1 1 (bH i j)∧∀ H',Same H H'→Q (.int (bJ z i j)) H'
theorem h7 (T:Tx K mg ad) {f:Addr} {fd:FuncData} (F:Gn K mg "read_number" cu ["text","kind"] f fd):FnOk P w K mg base CX0 3 f fd ["text","kind"] (hZ K ad):=by
 obtain ⟨_,_,yB⟩:=T.number_of;have yV:=ko (P:=P) (w:=w) (base:=base) T yB;obtain ⟨_,_,xE⟩:=T.least_value;have xN:=bI (P:=P) (w:=w) (base:=base) T xE 1;refine F.F.ok dD (fun vs H Q E h=>?_) (fun cdv A outer s H vs Q E hr h=>?_)
 ·obtain ⟨z,i,j,x,rfl,_⟩:=h
  rfl
 obtain ⟨z,i,j,x,rfl,hz,hx,fk,q⟩:=h;refine ⟨_,(@pss_cons _ _ _ _ _ (@ps_set _ _ 2 _ _ _ _ dD.nd rfl (Or.inl rfl) (pcl yB yV (hr.mono (by lia)) rfl (@pa1 _ _ _ (pv 0) (by rfl))) (by rfl) (by first | exact .inl rfl | exact .inr rfl | assumption)) (@pss_cons _ _ _ _ _ (@ps_if _ _ _ _ _ _ _ _ (PW.pt (@pw_or _ _ _ _ _ _ _ (pt_cmpR qc (pv 2) pe_non (nomark _)) (@pw_or1 _ _ _ _ (@pt_not _ _ _ _ (pt_chain op_le op_le (@pi1 K _ _ _ _ _ _ _ rfl (pv 1)) (pv 2) (@pi1 K _ _ _ _ _ _ _ rfl (pv 1))))))) (@pss_one _ _ _ (@ps_ret _ _ _ _ (pcl xE xN (hr.mono (by lia)) rfl (@pa1 _ _ _ (pv 1) (by rfl))))) pss_nil) (@pss_one _ _ _ (@ps_ret _ _ _ _ (pv 2))))),?_⟩;refine ⟨_,rfl,z,rfl,hz,fun H1 g1=>?_⟩;have lst:∀ H2,Same H H2→bJ z i j=bU i j→kh K 1 [x] H2 (fun v H'=>Q v H') (fun _ _ _=>False):=fun H2 g2 e=>⟨1,1,_,x,Nat.le_refl _,rfl,hx.same g2,fk,fun v H' g hv=>by
  rw [eS] at hv;obtain rfl:=d6 hv;rw [← e];exact q H' (g2.trans g)⟩
 cases hd:cc z.cps.toList with
 | none =>
  refine ⟨_,rfl,rfl,_,rfl,ay ?_⟩;refine ay ⟨_,rfl,lst H1 g1 ?_⟩;unfold bJ;rw [hd]
 | some n =>
  refine ⟨_,rfl,rfl,_,rfl,aQ ?_⟩;refine ⟨_,rfl,_,_,_,hx.same g1,rfl,rfl,isI ?_⟩;refine ⟨_,rfl,i,n,rfl,rfl,_,rfl,ar (fun c1=>?_) (fun c1=>?_)⟩
  ·have c1':i≤n:=of_decide_eq_true c1;refine ⟨_,rfl,_,_,_,hx.same g1,rfl,rfl,isI ?_⟩;refine ⟨n,j,rfl,rfl,_,rfl,?_⟩
   by_cases c2:n≤j
   ·have e:bJ z i j=n:=by
     unfold bJ;rw [hd];exact if_pos ⟨c1',c2⟩
    rw [decide_eq_true c2];refine aQ ⟨_,rfl,?_⟩;have:=q H1 g1;rw [e] at this;exact this
   ·rw [decide_eq_false c2];refine ay ⟨_,rfl,lst H1 g1 ?_⟩;unfold bJ;rw [hd];exact if_neg fun c=>c2 c.2
  ·have c1':¬ i≤n:=fun c=>c1 (decide_eq_true c);refine ⟨_,rfl,ay ⟨_,rfl,lst H1 g1 ?_⟩⟩;unfold bJ;rw [hd];exact if_neg fun c=>c1' c.1
inductive GA:Dt→Dt→Dt→Dt→Prop
 | bounds (i j k l:Int):aB i→i≤j→aB j→aB k→k≤l→aB l→GA (.tup [.str "bounds",.int k,.int l]) (bH i j) (bH k l) (.tup [.str "bounds",.int i,.int j])
 | scale (i j k:Int):2≤k→k≤1000→aB (i*k)→aB (j*k)→GA (.tup [.str "scale",.int k]) (bH i j) (bH (i*k) (j*k)) (.tup [.str "shrink",.int k])
 | shrink (i j k:Int):2≤k→k≤1000→aB (i*k)→aB (j*k)→GA (.tup [.str "shrink",.int k]) (bH (i*k) (j*k)) (bH i j) (.tup [.str "scale",.int k])
 | figures (i j m:Int):aB i→i≤j→aB j→ck i j≤m→0≤m→m≤60→GA (.tup [.str "figures",.int m]) (bH i j) (.tup [.str "text",.int m]) (.tup [.str "number",.int i,.int j])
 | number (i j m:Int):aB i→i≤j→aB j→ck i j≤m→0≤m→m≤60→GA (.tup [.str "number",.int i,.int j]) (.tup [.str "text",.int m]) (bH i j) (.tup [.str "figures",.int m])
 | words (fs:List Str) (bs:List (Str×Str)) (ws:List Str):LedW fs bs ws→aT ws=true→GA (.tup [.str "words",.tup (fs.map Dt.str),.tup (bs.map prS)]) (.tup [.str "choice",.tup (ws.map Dt.str)]) (.tup [.str "choice",.tup ((bs.map (·.1)).map Dt.str)]) (.tup [.str "words",.tup ((bs.map (·.2)).map Dt.str),.tup ((ws.zip fs).map prS)])
 | cut (m i:Int):0≤i→i≤60→0≤m→m≤60→GA (.tup [.str "cut",.int i]) (.tup [.str "text",.int m]) (.tup [.str "text",.int i]) (.tup [.str "cut",.int m])
 | firstL (k:Dt) (m i:Int):0≤i→i≤8→0≤m→m≤8→GA (.tup [.str "first",.int i]) (.tup [.str "list",k,.int m]) (.tup [.str "list",k,.int i]) (.tup [.str "first",.int m])
 | firstR (z:Str) (k:Dt) (m i:Int):0≤i→i≤8→0≤m→m≤8→GA (.tup [.str "first",.int i]) (.tup [.str "rows",.str z,k,.int m]) (.tup [.str "rows",.str z,k,.int i]) (.tup [.str "first",.int m])
 | one (d:Dt) (i:Int):1≤i→i≤8→GA (.tup [.str "one",.int i]) d (.tup [.str "list",d,.int i]) (.tup [.str "out"])
 | out (k:Dt) (m:Int):1≤m→m≤8→GA (.tup [.str "out"]) (.tup [.str "list",k,.int m]) k (.tup [.str "one",.int m])
 | items {t k e a:Dt} (m:Int):GA t k e a→GA (.tup [.str "items",t]) (.tup [.str "list",k,.int m]) (.tup [.str "list",e,.int m]) (.tup [.str "items",a])
theorem bx {i k:Int} (hk:2≤k):i*k / k=i:=Int.mul_ediv_cancel i (by lia)
theorem GA.gt {t d e a:Dt} (h:GA t d e a):GT t d e:=by
 induction h with
 | bounds i j k l h1 h2 h3 h4 h5 h6=>exact .bounds i j k l h4 h5 h6
 | scale i j k h1 h2 h3 h4=>exact .scale i j k h1 h2 h3 h4
 | shrink i j k h1 h2 h3 h4 =>
  have:=GT.shrink (i*k) (j*k) k h1 h2 (Int.mul_emod_left i k) (Int.mul_emod_left j k);rw [bx h1,bx h1] at this;exact this
 | figures i j m h1 h2 h3 h4 h5 h6=>exact .figures i j m h1 h3 h4 h5 h6
 | number i j m h1 h2 h3 h4 h5 h6=>exact .number i j m h1 h2 h3 h4
 | words fs bs ws h1 h2=>exact .words fs bs ws h1
 | cut m i h1 h2 h3 h4=>exact .cut m i h1 h2
 | firstL k m i h1 h2 h3 h4=>exact .firstL k m i h1 h2
 | firstR z k m i h1 h2 h3 h4=>exact .firstR z k m i h1 h2
 | one d i h1 h2=>exact .one d i h1 h2
 | out k m h1 h2=>exact .out k m h1
 | items m h ih=>exact .items m ih
theorem kq:∀ {ws fs:List Str},fs.length=ws.length→(ws.zip fs).map (·.1)=ws
 | [],_,_=>by simp
 | w :: ws,[],h=>by simp at h
 | w :: ws,f :: fs,h=>by
  have:=kq (ws:=ws) (fs:=fs) (by simpa using h);simp only [List.map_cons,List.zip_cons_cons,this]
theorem oH:∀ {ws fs:List Str},fs.length=ws.length→(ws.zip fs).map (·.2)=fs
 | [],[],_=>by simp
 | [],f :: fs,h=>by simp at h
 | w :: ws,[],h=>by simp at h
 | w :: ws,f :: fs,h=>by
  have:=oH (ws:=ws) (fs:=fs) (by simpa using h);simp only [List.map_cons,List.zip_cons_cons,this]
theorem di:∀ bs:List (Str×Str),(bs.map (·.1)).zip (bs.map (·.2))=bs
 | []=>rfl
 | b :: bs=>by
  have:=di bs;simp only [List.map_cons,List.zip_cons_cons,this]
theorem LedW.about {fs:List Str} {bs:List (Str×Str)} {ws:List Str} (h:LedW fs bs ws) (hw:aT ws=true):LedW (bs.map (·.2)) (ws.zip fs) (bs.map (·.1)):=by
 refine ⟨by rw [kq h.len];exact hw,by rw [List.length_map,List.length_map],fun f hf=>?_,fun b hb=>?_⟩
 ·obtain ⟨b,hb,rfl⟩:=List.mem_map.mp hf;obtain ⟨u,h1,h2⟩:=h.bwd b hb;rw [di];exact ⟨u,h1,h2⟩
 ·obtain ⟨w,h1,h2⟩:=h.fwd b.2 (List.of_mem_zip hb).2;rw [di];exact ⟨w,h1,h2⟩
theorem GA.symm {t d e a:Dt} (h:GA t d e a):GA a e d t:=by
 induction h with
 | bounds i j k l h1 h2 h3 h4 h5 h6=>exact .bounds k l i j h4 h5 h6 h1 h2 h3
 | scale i j k h1 h2 h3 h4=>exact .shrink i j k h1 h2 h3 h4
 | shrink i j k h1 h2 h3 h4=>exact .scale i j k h1 h2 h3 h4
 | figures i j m h1 h2 h3 h4 h5 h6=>exact .number i j m h1 h2 h3 h4 h5 h6
 | number i j m h1 h2 h3 h4 h5 h6=>exact .figures i j m h1 h2 h3 h4 h5 h6
 | words fs bs ws h1 h2 =>
  have:=GA.words (bs.map (·.2)) (ws.zip fs) (bs.map (·.1)) (h1.about h2) h1.words;rw [kq h1.len,oH h1.len,di] at this;exact this
 | cut m i h1 h2 h3 h4=>exact .cut i m h3 h4 h1 h2
 | firstL k m i h1 h2 h3 h4=>exact .firstL k i m h3 h4 h1 h2
 | firstR z k m i h1 h2 h3 h4=>exact .firstR z k i m h3 h4 h1 h2
 | one d i h1 h2=>exact .out d i h1 h2
 | out k m h1 h2=>exact .one k m h1 h2
 | items m h ih=>exact .items m ih
theorem GT.about {t d e:Dt} (h:GT t d e):∀ {a c:Nat},FK a c d→∃ b,GA t d e b:=by
 induction h with
 | bounds i j k l h1 h2 h3 =>
  intro a c f
  cases f with
  | number _ _ f1 f2 f3=>exact ⟨_,.bounds i j k l ⟨f1,by lia⟩ f2 ⟨by lia,f3⟩ h1 h2 h3⟩
 | scale i j k h1 h2 h3 h4=>exact fun _=>⟨_,.scale i j k h1 h2 h3 h4⟩
 | shrink i j k h1 h2 h3 h4 =>
  intro a c f
  cases f with
  | number _ _ f1 f2 f3 =>
   have e1:i / k*k=i:=Int.ediv_mul_cancel (Int.dvd_of_emod_eq_zero h3);have e2:j / k*k=j:=Int.ediv_mul_cancel (Int.dvd_of_emod_eq_zero h4);have:=GA.shrink (i / k) (j / k) k h1 h2 (by rw [e1];exact ⟨f1,by lia⟩) (by rw [e2];exact ⟨by lia,f3⟩);rw [e1,e2] at this;exact ⟨_,this⟩
 | figures i j m h1 h2 h3 h4 h5 =>
  intro a c f
  cases f with
  | number _ _ f1 f2 f3=>exact ⟨_,.figures i j m h1 f2 h2 h3 h4 h5⟩
 | number i j m h1 h2 h3 h4 =>
  intro a c f
  cases f with
  | text _ f1 f2=>exact ⟨_,.number i j m h1 h2 h3 h4 f1 f2⟩
 | words fs bs ws h=>exact fun f=>⟨_,.words fs bs ws h (gY f)⟩
 | cut m i h1 h2 =>
  intro a c f
  cases f with
  | text _ f1 f2=>exact ⟨_,.cut m i h1 h2 f1 f2⟩
 | firstL k m i h1 h2 =>
  intro a c f
  cases f with
  | list g f1 f2=>exact ⟨_,.firstL k m i h1 h2 f1 f2⟩
 | firstR z k m i h1 h2 =>
  intro a c f
  cases f with
  | rows g hk f1 f2=>exact ⟨_,.firstR z _ m i h1 h2 f1 f2⟩
 | one d i h1 h2=>exact fun _=>⟨_,.one d i h1 h2⟩
 | out k m h1 =>
  intro a c f
  cases f with
  | list g f1 f2=>exact ⟨_,.out k m h1 f2⟩
 | items m h ih =>
  intro a c f
  cases f with
  | list g f1 f2 =>
   obtain ⟨b,hb⟩:=ih g;exact ⟨_,.items m hb⟩
theorem oI:∀ ws fs:List Str,zD (ws.map Dt.str) (fs.map Dt.str)=(ws.zip fs).map prS
 | [],_=>by simp [zD]
 | _ :: _,[]=>by simp [zD]
 | w :: ws,f :: fs=>by
  have:=oI ws fs;unfold zD at this ⊢;simp only [List.map_cons,List.zip_cons_cons,this]
  rfl
def nz (K:PySem.W.Frag) (n:Nat):Sp:=fun vs H Q _=>∃ (a c:Nat) (t d e b:Dt) (x y:V),a≤n∧vs=[x,y]∧IsP K H t x∧IsP K H d y∧FK a c d∧GA t d e b∧∀ v H',Same H H'→IsP K H' b v→Q v H'
theorem kr (T:Tx K mg ad) {f:Addr} {fd:FuncData} (n:Nat) (xS:Gn K mg "led_about" cn ["turn","kind"] f fd) (yh:FnOk P w K mg base CX0 (n+3) f fd ["turn","kind"] (nz K n)):FnOk P w K mg base CX0 (n+3+1) f fd ["turn","kind"] (nz K (n+1)):=by
 refine xS.F.ok eY (fun vs H Q E h=>?_) (fun cdv A outer s H vs Q E hr h=>?_)
 ·obtain ⟨a,c,t,d,e,b,x,y,_,rfl,_⟩:=h
  rfl
 obtain ⟨a,c,t,d,e,b,x,y,hle,rfl,ht,hd,fk,g,q⟩:=h;refine ⟨_,(@pss_cons _ _ _ _ _ (@ps_set _ _ 2 _ _ _ _ eY.nd rfl (Or.inl rfl) (@pi1 K _ _ _ _ _ _ _ rfl (pv 0)) (by rfl) (by first | exact .inl rfl | exact .inr rfl | assumption)) (@pss_cons _ _ _ _ _ (@ps_if _ _ _ _ _ _ _ _ (pt_cmpR op_eq (pv 2) pe_str (nomark _)) (@pss_one _ _ _ (@ps_ret _ _ _ _ (@pe_tupPK _ K _ _ _ _ rfl (@pa3 _ _ _ _ _ _ _ pe_str (@pi1 K _ _ _ _ _ _ _ rfl (pv 1)) (@pi1 K _ _ _ _ _ _ _ rfl (pv 1)) (by rfl) (by rfl) (by rfl))))) pss_nil) (@pss_cons _ _ _ _ _ (@ps_if _ _ _ _ _ _ _ _ (pt_cmpR op_eq (pv 2) pe_str (nomark _)) (@pss_one _ _ _ (@ps_ret _ _ _ _ (@pe_tupPK _ K _ _ _ _ rfl (@pa2 _ _ _ _ _ pe_str (@pi1 K _ _ _ _ _ _ _ rfl (pv 0)) (by rfl) (by rfl))))) pss_nil) (@pss_cons _ _ _ _ _ (@ps_if _ _ _ _ _ _ _ _ (pt_cmpR op_eq (pv 2) pe_str (nomark _)) (@pss_one _ _ _ (@ps_ret _ _ _ _ (@pe_tupPK _ K _ _ _ _ rfl (@pa2 _ _ _ _ _ pe_str (@pi1 K _ _ _ _ _ _ _ rfl (pv 0)) (by rfl) (by rfl))))) pss_nil) (@pss_cons _ _ _ _ _ (@ps_if _ _ _ _ _ _ _ _ (pt_cmpR op_eq (pv 2) pe_str (nomark _)) (@pss_one _ _ _ (@ps_ret _ _ _ _ (@pe_tupPK _ K _ _ _ _ rfl (@pa3 _ _ _ _ _ _ _ pe_str (@pi1 K _ _ _ _ _ _ _ rfl (pv 1)) (@pi1 K _ _ _ _ _ _ _ rfl (pv 1)) (by rfl) (by rfl) (by rfl))))) pss_nil) (@pss_cons _ _ _ _ _ (@ps_if _ _ _ _ _ _ _ _ (pt_cmpR op_eq (pv 2) pe_str (nomark _)) (@pss_one _ _ _ (@ps_ret _ _ _ _ (@pe_tupPK _ K _ _ _ _ rfl (@pa2 _ _ _ _ _ pe_str (@pi1 K _ _ _ _ _ _ _ rfl (pv 1)) (by rfl) (by rfl))))) pss_nil) (@pss_cons _ _ _ _ _ (@ps_if _ _ _ _ _ _ _ _ (pt_cmpR op_eq (pv 2) pe_str (nomark _)) (@pss_one _ _ _ (@ps_ret _ _ _ _ (@pe_tupPK _ K _ _ _ _ rfl (@pa3 _ _ _ _ _ _ _ pe_str (pe_callTy (aY (K:=K) rfl) rfl T.z_tuple boot_tuple (@pa1 _ _ _ (aI rfl (cs0 (NL:=["first","elder"]) rfl (by decide +kernel) (by decide +kernel)) (aP (K:=K) rfl (@pi1 K _ _ _ _ _ _ _ rfl (pv 0))) (fun _ _ _ _=>(ci (K:=K) (n:=2) rfl rfl (aC (aj (i:=0) (show List.Nodup (α:=Str) ["first","elder"] by decide +kernel) rfl (Or.inl rfl)) (aC (aj (i:=1) (show List.Nodup (α:=Str) ["first","elder"] by decide +kernel) rfl (Or.inl rfl)) bL)))) (fun _ _ _ _=>(pv 1))) (by rfl))) (sQ rfl rfl T.z_tuple rfl T.z_zip (@pa2 _ _ _ _ _ (@pi1 K _ _ _ _ _ _ _ rfl (pv 1)) (@pi1 K _ _ _ _ _ _ _ rfl (pv 0)) (by rfl) (by rfl))) (by rfl) (by rfl) (by rfl))))) pss_nil) (@pss_cons _ _ _ _ _ (@ps_if _ _ _ _ _ _ _ _ (pt_cmpR (op_in_seqK (K:=K) rfl) (pv 2) (@pe_tupPK _ K _ _ _ _ rfl (@pa2 _ _ _ _ _ pe_str pe_str (by rfl) (by rfl))) rfl) (@pss_one _ _ _ (@ps_ret _ _ _ _ (@pe_tupPK _ K _ _ _ _ rfl (@pa2 _ _ _ _ _ (pv 2) (@bf _ _ _ _ _ _ _ (cC (K:=K) rfl) (pv 1) (@pe_un _ _ _ _ _ _ un_neg pe_int) (fun _ _=>rfl)) (by rfl) (by rfl))))) pss_nil) (@pss_cons _ _ _ _ _ (@ps_if _ _ _ _ _ _ _ _ (pt_cmpR op_eq (pv 2) pe_str (nomark _)) (@pss_one _ _ _ (@ps_ret _ _ _ _ (@pe_tupPK _ K _ _ _ _ rfl (@pa1 _ _ _ pe_str (by rfl))))) pss_nil) (@pss_cons _ _ _ _ _ (@ps_if _ _ _ _ _ _ _ _ (pt_cmpR op_eq (pv 2) pe_str (nomark _)) (@pss_one _ _ _ (@ps_ret _ _ _ _ (@pe_tupPK _ K _ _ _ _ rfl (@pa2 _ _ _ _ _ pe_str (@pi1 K _ _ _ _ _ _ _ rfl (pv 1)) (by rfl) (by rfl))))) pss_nil) (@pss_one _ _ _ (@ps_ret _ _ _ _ (@pe_tupPK _ K _ _ _ _ rfl (@pa2 _ _ _ _ _ pe_str (pcl xS yh (hr.mono (by lia)) rfl (@pa2 _ _ _ _ _ (@pi1 K _ _ _ _ _ _ _ rfl (pv 0)) (@pi1 K _ _ _ _ _ _ _ rfl (pv 1)) (by rfl) (by rfl))) (by rfl) (by rfl))))))))))))))),?_⟩
 cases g with
 | bounds i j k l h1 h2 h3 h4 h5 h6 =>
  refine ⟨_,rfl,_,_,_,ht,rfl,rfl,fun v hv=>?_⟩;obtain rfl:=am hv;refine ⟨_,rfl,rfl,_,rfl,aH ?_⟩;refine ⟨_,rfl,_,_,_,hd,rfl,rfl,fun v2 hv2=>?_⟩;refine ⟨_,rfl,_,_,_,hd,rfl,rfl,fun v3 hv3=>?_⟩;exact ⟨[.str "bounds",.int i,.int j],.cons .str (.cons hv2 (.cons hv3 .nil)),sz3,fun v H' g hv=>q v H' g hv⟩
 | scale i j k h1 h2 h3 h4 =>
  refine ⟨_,rfl,_,_,_,ht,rfl,rfl,fun v hv=>?_⟩;obtain rfl:=am hv;refine ⟨_,rfl,rfl,_,rfl,iteN (ae (by decide)) ?_⟩;refine ⟨_,rfl,rfl,_,rfl,aH ?_⟩;refine ⟨_,rfl,_,_,_,ht,rfl,rfl,fun v2 hv2=>?_⟩;exact ⟨[.str "shrink",.int k],.cons .str (.cons hv2 .nil),sz2,fun v H' g hv=>q v H' g hv⟩
 | shrink i j k h1 h2 h3 h4 =>
  refine ⟨_,rfl,_,_,_,ht,rfl,rfl,fun v hv=>?_⟩;obtain rfl:=am hv;refine ⟨_,rfl,rfl,_,rfl,iteN (ae (by decide)) ?_⟩;refine ⟨_,rfl,rfl,_,rfl,iteN (ae (by decide)) ?_⟩;refine ⟨_,rfl,rfl,_,rfl,aH ?_⟩;refine ⟨_,rfl,_,_,_,ht,rfl,rfl,fun v2 hv2=>?_⟩;exact ⟨[.str "scale",.int k],.cons .str (.cons hv2 .nil),sz2,fun v H' g hv=>q v H' g hv⟩
 | figures i j m h1 h2 h3 h4 h5 h6 =>
  refine ⟨_,rfl,_,_,_,ht,rfl,rfl,fun v hv=>?_⟩;obtain rfl:=am hv;refine ⟨_,rfl,rfl,_,rfl,iteN (ae (by decide)) ?_⟩;refine ⟨_,rfl,rfl,_,rfl,iteN (ae (by decide)) ?_⟩;refine ⟨_,rfl,rfl,_,rfl,iteN (ae (by decide)) ?_⟩;refine ⟨_,rfl,rfl,_,rfl,aH ?_⟩;refine ⟨_,rfl,_,_,_,hd,rfl,rfl,fun v2 hv2=>?_⟩;refine ⟨_,rfl,_,_,_,hd,rfl,rfl,fun v3 hv3=>?_⟩;exact ⟨[.str "number",.int i,.int j],.cons .str (.cons hv2 (.cons hv3 .nil)),sz3,fun v H' g hv=>q v H' g hv⟩
 | number i j m h1 h2 h3 h4 h5 h6 =>
  refine ⟨_,rfl,_,_,_,ht,rfl,rfl,fun v hv=>?_⟩;obtain rfl:=am hv;refine ⟨_,rfl,rfl,_,rfl,iteN (ae (by decide)) ?_⟩;refine ⟨_,rfl,rfl,_,rfl,iteN (ae (by decide)) ?_⟩;refine ⟨_,rfl,rfl,_,rfl,iteN (ae (by decide)) ?_⟩;refine ⟨_,rfl,rfl,_,rfl,iteN (ae (by decide)) ?_⟩;refine ⟨_,rfl,rfl,_,rfl,aH ?_⟩;refine ⟨_,rfl,_,_,_,hd,rfl,rfl,fun v2 hv2=>?_⟩;exact ⟨[.str "figures",.int m],.cons .str (.cons hv2 .nil),sz2,fun v H' g hv=>q v H' g hv⟩
 | words fs bs ws lw ww =>
  refine ⟨_,rfl,_,_,_,ht,rfl,rfl,fun v hv=>?_⟩;obtain rfl:=am hv;refine ⟨_,rfl,rfl,_,rfl,iteN (ae (by decide)) ?_⟩;refine ⟨_,rfl,rfl,_,rfl,iteN (ae (by decide)) ?_⟩;refine ⟨_,rfl,rfl,_,rfl,iteN (ae (by decide)) ?_⟩;refine ⟨_,rfl,rfl,_,rfl,iteN (ae (by decide)) ?_⟩;refine ⟨_,rfl,rfl,_,rfl,iteN (ae (by decide)) ?_⟩;refine ⟨_,rfl,rfl,_,rfl,aH ?_⟩;refine ⟨_,rfl,_,_,_,ht,rfl,rfl,fun v2 hv2=>?_⟩;obtain ⟨_,lw8,_,_⟩:=aq ww;obtain ⟨_,lb8,_,_⟩:=aq lw.words;rw [List.length_map] at lb8;have lf:=lw.len;obtain ⟨a2,xs2,rfl,hT2,pa2,ra2⟩:=id hv2.unref;have l2:=ra2.length;rw [List.length_map] at l2;refine ⟨a2,rfl,⟨_,hT2⟩,fun l hln=>?_⟩;refine aG (K:=K) (xs:=xs2) (fun i ys σ H'=>ys=((bs.take i).map (·.2)).map V.str∧Same H H'∧H' l=some (.lst ys)∧σ.length=2) ⟨rfl,ag hln _,ac,rfl⟩ (fun i ys σ H' _ r=>r.2.1.tup hT2) ?_ ?_
  ·rintro i y ys σ H1 N hy ⟨rfl,g,e1,hσ⟩ next;obtain ⟨d,hdi,hp⟩:=ra2.get' hy;rw [List.getElem?_map] at hdi;obtain ⟨p,hfi,rfl⟩:=Option.map_eq_some_iff.mp hdi;have hil:=(List.getElem?_eq_some_iff.mp hfi).1;obtain ⟨b,rfl,hb2⟩:=dH (hp.same g)
   match σ,hσ with
   | [_,_],_ =>
    refine ⟨b,_,rfl,hb2,rfl,_,_,rfl,_,_,rfl,rfl,?_⟩;refine ⟨_,rfl,e1,ai (by rw [List.length_map,List.length_map,List.length_take];lia),next _ _ _ ⟨?_,az hln g,ac,rfl⟩⟩;rw [List.take_add_one,hfi,List.map_append,List.map_append]
    rfl
  rintro ys σ H1 ⟨rfl,g1,e1,_⟩;rw [← l2,List.take_length] at e1;refine ⟨l,_,_,rfl,SqL.of e1,gm (bs.map (·.2)),fun v3 H3 g3 hv3=>?_⟩;replace g3:=g1.trans g3;replace ht:=ht.same g3;replace hd:=hd.same g3;refine ⟨_,rfl,_,_,_,hd,rfl,rfl,fun v4 hv4=>?_⟩;refine ⟨_,rfl,_,_,_,ht,rfl,rfl,fun v5 hv5=>?_⟩;refine ⟨v4,v5,ws.map Dt.str,fs.map Dt.str,rfl,hv4,hv5,(by rw [List.length_map,List.length_map,lf]),(by rw [List.length_map];lia),fun v6 H6 g6 hv6=>?_⟩;rw [oI] at hv6;exact ⟨[.str "words",.tup ((bs.map (·.2)).map Dt.str),.tup ((ws.zip fs).map prS)],.cons .str (.cons (hv3.same g6) (.cons hv6 .nil)),sz3,fun v H' g hv=>q v H' ((g3.trans g6).trans g) hv⟩
 | cut m i h1 h2 h3 h4 =>
  refine ⟨_,rfl,_,_,_,ht,rfl,rfl,fun v hv=>?_⟩;obtain rfl:=am hv;refine ⟨_,rfl,rfl,_,rfl,iteN (ae (by decide)) ?_⟩;refine ⟨_,rfl,rfl,_,rfl,iteN (ae (by decide)) ?_⟩;refine ⟨_,rfl,rfl,_,rfl,iteN (ae (by decide)) ?_⟩;refine ⟨_,rfl,rfl,_,rfl,iteN (ae (by decide)) ?_⟩;refine ⟨_,rfl,rfl,_,rfl,iteN (ae (by decide)) ?_⟩;refine ⟨_,rfl,rfl,_,rfl,iteN (ae (by decide)) ?_⟩;refine ⟨_,rfl,[.str "cut",.str "first"],.cons .str (.cons .str .nil),sz2,fun u9 H9 j9 hu9=>?_⟩;obtain ⟨p9,zs9,rfl,hz9,_,rz9⟩:=id hu9.unref;obtain rfl:=ax rz9;replace ht:=ht.same j9;replace hd:=hd.same j9;replace q:=fun v H' g hv=>q v H' (j9.trans g) hv;refine ⟨p9,_,rfl,.inr hz9,rfl,rfl,_,rfl,ar (fun _=>?_) (fun c=>absurd (by decide +kernel) c)⟩;refine ⟨_,rfl,_,rfl,_,rfl,_,_,_,hd,rfl,rfl,fun v2 hv2=>?_⟩;exact ⟨[.str "cut",.int m],.cons .str (.cons hv2 .nil),sz2,fun v H' g hv=>q v H' g hv⟩
 | firstL k m i h1 h2 h3 h4 =>
  refine ⟨_,rfl,_,_,_,ht,rfl,rfl,fun v hv=>?_⟩;obtain rfl:=am hv;refine ⟨_,rfl,rfl,_,rfl,iteN (ae (by decide)) ?_⟩;refine ⟨_,rfl,rfl,_,rfl,iteN (ae (by decide)) ?_⟩;refine ⟨_,rfl,rfl,_,rfl,iteN (ae (by decide)) ?_⟩;refine ⟨_,rfl,rfl,_,rfl,iteN (ae (by decide)) ?_⟩;refine ⟨_,rfl,rfl,_,rfl,iteN (ae (by decide)) ?_⟩;refine ⟨_,rfl,rfl,_,rfl,iteN (ae (by decide)) ?_⟩;refine ⟨_,rfl,[.str "cut",.str "first"],.cons .str (.cons .str .nil),sz2,fun u9 H9 j9 hu9=>?_⟩;obtain ⟨p9,zs9,rfl,hz9,_,rz9⟩:=id hu9.unref;obtain rfl:=ax rz9;replace ht:=ht.same j9;replace hd:=hd.same j9;replace q:=fun v H' g hv=>q v H' (j9.trans g) hv;refine ⟨p9,_,rfl,.inr hz9,rfl,rfl,_,rfl,ar (fun _=>?_) (fun c=>absurd (by decide +kernel) c)⟩;refine ⟨_,rfl,_,rfl,_,rfl,_,_,_,hd,rfl,rfl,fun v2 hv2=>?_⟩;exact ⟨[.str "first",.int m],.cons .str (.cons hv2 .nil),sz2,fun v H' g hv=>q v H' g hv⟩
 | firstR z k m i h1 h2 h3 h4 =>
  refine ⟨_,rfl,_,_,_,ht,rfl,rfl,fun v hv=>?_⟩;obtain rfl:=am hv;refine ⟨_,rfl,rfl,_,rfl,iteN (ae (by decide)) ?_⟩;refine ⟨_,rfl,rfl,_,rfl,iteN (ae (by decide)) ?_⟩;refine ⟨_,rfl,rfl,_,rfl,iteN (ae (by decide)) ?_⟩;refine ⟨_,rfl,rfl,_,rfl,iteN (ae (by decide)) ?_⟩;refine ⟨_,rfl,rfl,_,rfl,iteN (ae (by decide)) ?_⟩;refine ⟨_,rfl,rfl,_,rfl,iteN (ae (by decide)) ?_⟩;refine ⟨_,rfl,[.str "cut",.str "first"],.cons .str (.cons .str .nil),sz2,fun u9 H9 j9 hu9=>?_⟩;obtain ⟨p9,zs9,rfl,hz9,_,rz9⟩:=id hu9.unref;obtain rfl:=ax rz9;replace ht:=ht.same j9;replace hd:=hd.same j9;replace q:=fun v H' g hv=>q v H' (j9.trans g) hv;refine ⟨p9,_,rfl,.inr hz9,rfl,rfl,_,rfl,ar (fun _=>?_) (fun c=>absurd (by decide +kernel) c)⟩;refine ⟨_,rfl,_,rfl,_,rfl,_,_,_,hd,rfl,rfl,fun v2 hv2=>?_⟩;exact ⟨[.str "first",.int m],.cons .str (.cons hv2 .nil),sz2,fun v H' g hv=>q v H' g hv⟩
 | one _ i h1 h2 =>
  refine ⟨_,rfl,_,_,_,ht,rfl,rfl,fun v hv=>?_⟩;obtain rfl:=am hv;refine ⟨_,rfl,rfl,_,rfl,iteN (ae (by decide)) ?_⟩;refine ⟨_,rfl,rfl,_,rfl,iteN (ae (by decide)) ?_⟩;refine ⟨_,rfl,rfl,_,rfl,iteN (ae (by decide)) ?_⟩;refine ⟨_,rfl,rfl,_,rfl,iteN (ae (by decide)) ?_⟩;refine ⟨_,rfl,rfl,_,rfl,iteN (ae (by decide)) ?_⟩;refine ⟨_,rfl,rfl,_,rfl,iteN (ae (by decide)) ?_⟩;refine ⟨_,rfl,[.str "cut",.str "first"],.cons .str (.cons .str .nil),sz2,fun u9 H9 j9 hu9=>?_⟩;obtain ⟨p9,zs9,rfl,hz9,_,rz9⟩:=id hu9.unref;obtain rfl:=ax rz9;replace ht:=ht.same j9;replace hd:=hd.same j9;replace q:=fun v H' g hv=>q v H' (j9.trans g) hv;refine ⟨p9,_,rfl,.inr hz9,rfl,rfl,_,rfl,ar (fun c=>absurd c (by decide +kernel)) (fun _=>?_)⟩;refine ⟨_,rfl,rfl,_,rfl,aH ?_⟩;exact ⟨[.str "out"],.cons .str .nil,sz1,fun v H' g hv=>q v H' g hv⟩
 | out _ m h1 h2 =>
  refine ⟨_,rfl,_,_,_,ht,rfl,rfl,fun v hv=>?_⟩;obtain rfl:=am hv;refine ⟨_,rfl,rfl,_,rfl,iteN (ae (by decide)) ?_⟩;refine ⟨_,rfl,rfl,_,rfl,iteN (ae (by decide)) ?_⟩;refine ⟨_,rfl,rfl,_,rfl,iteN (ae (by decide)) ?_⟩;refine ⟨_,rfl,rfl,_,rfl,iteN (ae (by decide)) ?_⟩;refine ⟨_,rfl,rfl,_,rfl,iteN (ae (by decide)) ?_⟩;refine ⟨_,rfl,rfl,_,rfl,iteN (ae (by decide)) ?_⟩;refine ⟨_,rfl,[.str "cut",.str "first"],.cons .str (.cons .str .nil),sz2,fun u9 H9 j9 hu9=>?_⟩;obtain ⟨p9,zs9,rfl,hz9,_,rz9⟩:=id hu9.unref;obtain rfl:=ax rz9;replace ht:=ht.same j9;replace hd:=hd.same j9;replace q:=fun v H' g hv=>q v H' (j9.trans g) hv;refine ⟨p9,_,rfl,.inr hz9,rfl,rfl,_,rfl,ar (fun c=>absurd c (by decide +kernel)) (fun _=>?_)⟩;refine ⟨_,rfl,rfl,_,rfl,iteN (ae (by decide)) ?_⟩;refine ⟨_,rfl,rfl,_,rfl,aH ?_⟩;refine ⟨_,rfl,_,_,_,hd,rfl,rfl,fun v2 hv2=>?_⟩;exact ⟨[.str "one",.int m],.cons .str (.cons hv2 .nil),sz2,fun v H' g hv=>q v H' g hv⟩
 | @items t k e a m gi =>
  refine ⟨_,rfl,_,_,_,ht,rfl,rfl,fun v hv=>?_⟩;obtain rfl:=am hv;refine ⟨_,rfl,rfl,_,rfl,iteN (ae (by decide)) ?_⟩;refine ⟨_,rfl,rfl,_,rfl,iteN (ae (by decide)) ?_⟩;refine ⟨_,rfl,rfl,_,rfl,iteN (ae (by decide)) ?_⟩;refine ⟨_,rfl,rfl,_,rfl,iteN (ae (by decide)) ?_⟩;refine ⟨_,rfl,rfl,_,rfl,iteN (ae (by decide)) ?_⟩;refine ⟨_,rfl,rfl,_,rfl,iteN (ae (by decide)) ?_⟩;refine ⟨_,rfl,[.str "cut",.str "first"],.cons .str (.cons .str .nil),sz2,fun u9 H9 j9 hu9=>?_⟩;obtain ⟨p9,zs9,rfl,hz9,_,rz9⟩:=id hu9.unref;obtain rfl:=ax rz9;replace ht:=ht.same j9;replace hd:=hd.same j9;replace q:=fun v H' g hv=>q v H' (j9.trans g) hv;refine ⟨p9,_,rfl,.inr hz9,rfl,rfl,_,rfl,ar (fun c=>absurd c (by decide +kernel)) (fun _=>?_)⟩;refine ⟨_,rfl,rfl,_,rfl,iteN (ae (by decide)) ?_⟩;refine ⟨_,rfl,rfl,_,rfl,iteN (ae (by decide)) ?_⟩
  cases fk with
  | list fk f1 f2 =>
   refine ⟨_,rfl,_,_,_,ht,rfl,rfl,fun v2 hv2=>?_⟩;refine ⟨_,rfl,_,_,_,hd,rfl,rfl,fun v3 hv3=>?_⟩;refine ⟨_,_,t,k,e,a,v2,v3,by lia,rfl,hv2,hv3,fk,gi,fun v4 H4 g4 hv4=>?_⟩;exact ⟨[.str "items",a],.cons .str (.cons hv4 .nil),sz2,fun v H' g hv=>q v H' (g4.trans g) hv⟩
theorem jb (T:Tx K mg ad) {f:Addr} {fd:FuncData} (A:Gn K mg "led_about" cn ["turn","kind"] f fd):∀ n,FnOk P w K mg base CX0 (n+3) f fd ["turn","kind"] (nz K n)
 | 0=>cg fun vs H Q E z=>by obtain ⟨_,_,_,_,_,_,_,_,h,_,_,_,pk,_⟩:=z;have:=pk.pos;lia
 | n+1=>kr T n A (jb T A n)
open PySem.Builtin.Str in
theorem nA {n:Nat} {i:Int} (h:(n:Int)≤i):strSliceIndices none (some i) 1 n=strSliceIndices none (some (n:Int)) 1 n:=by
 have h0:¬ i < 0:=by lia
 have h1:¬ ((n:Int) < 0):=by lia
 have h2:(1:Int) > 0:=by decide
 simp only [strSliceIndices,h0,h1,h2,if_false,if_true,Int.min_eq_right h,Int.min_self]
theorem nB (z:Str) {i:Int} (h:0≤i):(Txt.slice z none (some i)).cps.toList=z.cps.toList.take i.toNat:=by
 have base:∀ {j:Int},0≤j→j≤z.length→(Txt.slice z none (some j)).cps.toList=z.cps.toList.take j.toNat:=fun {j} h0 h1=>by
  have e:=eq_of_beq (slice_closes_toL (x:=z) (j:=j) h0 h1);rw [e];simp
 by_cases h1:i≤z.length
 ·exact base h h1
 ·have e2:Txt.slice z none (some i)=Txt.slice z none (some (z.length:Int)):=by
   unfold Txt.slice;rw [nA (by lia)]
  rw [e2,base (by lia) (Int.le_refl _)];have hl:=bO z;rw [List.take_of_length_le (by lia),List.take_of_length_le (by lia)]
theorem oJ {x k l:Int} (h:k≤l):k≤cW x k l∧cW x k l≤l:=by
 unfold cW
 constructor <;> split <;> split <;> lia
theorem me {k l:Int} (h:k≤l):k≤bU k l∧bU k l≤l:=by
 unfold bU
 constructor <;> split <;> try split
 all_goals lia
theorem tH {z:Str} {k l:Int} (h:k≤l):k≤bJ z k l∧bJ z k l≤l:=by
 unfold bJ
 split
 ·exact me h
 ·split
  ·assumption
  ·exact me h
theorem dI {z:Str}:∀ {ws:List Str},z∈ws→∃ j:Nat,ws[j]?=some z∧∀ m:Nat,m < j→ws[m]?≠some z
 | w :: ws,h=>by
  by_cases e:w=z
  ·exact ⟨0,by rw [e];rfl,fun m h=>absurd h (Nat.not_lt_zero _)⟩
  ·have h':z∈ws:=by
    rcases List.mem_cons.mp h with h | h
    ·exact absurd h.symm e
    ·exact h
   obtain ⟨j,h1,h2⟩:=dI h';refine ⟨j+1,by simpa using h1,fun m hm=>?_⟩
   cases m with
   | zero=>simpa using e
   | succ m=>simpa using h2 m (by lia)
inductive TV:Nat→Dt→Dt→Dt→Dt→Prop
 | bounds (n:Nat) (i j k l x:Int):TV n (.tup [.str "bounds",.int k,.int l]) (bH i j) (.int x) (.int (cW x k l))
 | scale (n:Nat) (i j k x:Int):2≤k→k≤1000→TV n (.tup [.str "scale",.int k]) (bH i j) (.int x) (.int (x*k))
 | shrink (n:Nat) (i j k x:Int):2≤k→k≤1000→TV n (.tup [.str "shrink",.int k]) (bH i j) (.int x) (.int (x / k))
 | figures (n:Nat) (i j m x:Int):aB x→TV n (.tup [.str "figures",.int m]) (bH i j) (.int x) (.str (ki x))
 | number (n:Nat) (i j m:Int) (z:Str):aB i→i≤j→aB j→tF z→TV n (.tup [.str "number",.int i,.int j]) (.tup [.str "text",.int m]) (.str z) (.int (bJ z i j))
 | words (n:Nat) (fs ws:List Str) (b:Dt) (z f:Str) (j:Nat):ws.length≤8→ws[j]?=some z→(∀ m:Nat,m < j→ws[m]?≠some z)→fs[j]?=some f→TV n (.tup [.str "words",.tup (fs.map Dt.str),b]) (.tup [.str "choice",.tup (ws.map Dt.str)]) (.str z) (.str f)
 | cut (n:Nat) (m i:Int) (z:Str):z.length≤60→TV n (.tup [.str "cut",.int i]) (.tup [.str "text",.int m]) (.str z) (.str (Txt.slice z none (some i)))
 | first (n:Nat) (d:Dt) (w:Str) (i:Int) (vs:List Dt):TV n (.tup [.str "first",.int i]) d (.tup [.str w,.tup vs]) (.tup [.str w,.tup (L2.eD vs none (some i))])
 | one (n:Nat) (d v:Dt) (i:Int):TV n (.tup [.str "one",.int i]) d v (.tup [.str "list",.tup [v]])
 | out (n:Nat) (k u:Dt) (m:Int) (w:Str) (vs us:List Dt) (a c:Nat):FK a c k→a≤4→vs.length≤8→vs++[aU 4 k]=u :: us→TV n (.tup [.str "out"]) (.tup [.str "list",k,.int m]) (.tup [.str w,.tup vs]) u
 | items (n:Nat) (t k:Dt) (m:Int) (w:Str) (vs us:List Dt):vs.length≤8→us.length=vs.length→(∀ (i:Nat) (v u:Dt),vs[i]?=some v→us[i]?=some u→TV n t k v u)→TV (n+1) (.tup [.str "items",t]) (.tup [.str "list",k,.int m]) (.tup [.str w,.tup vs]) (.tup [.str "list",.tup us])
theorem aE {i:Nat} {u u':Str} {A b:TS} {D:Ends} {σ:L2.St} {H:Hp} (hσ:σ[i]?=some (some (.str u'))) (hn:u'≠u) (h:b D σ H):ut (uu (nR (tOp rEq (oS i) (tC (.str u)))) A pW) b D σ H:=⟨_,hσ,rfl,_,rfl,iteN (ae hn) h⟩
theorem dR {i:Nat} {u:Str} {A b:TS} {D:Ends} {σ:L2.St} {H:Hp} (hσ:σ[i]?=some (some (.str u))) (h:A { D with nx:=b D } σ H):ut (uu (nR (tOp rEq (oS i) (tC (.str u)))) A pW) b D σ H:=⟨_,hσ,rfl,_,rfl,aH h⟩
def vD (K:PySem.W.Frag) (n:Nat):Sp:=fun vs H Q _=>∃ (t d v u:Dt) (x y z:V),vs=[x,y,z]∧IsP K H t x∧IsP K H d y∧IsP K H v z∧TV n t d v u∧∀ e H',Same H H'→IsP K H' u e→Q e H'
def wL (K:PySem.W.Frag) (n:Nat):Sp:=fun vs H Q E=>∃ m,n=m+1∧vD K m vs H Q E
theorem eT (T:Tx K mg ad) {f:Addr} {fd:FuncData} (n:Nat) (xH:Gn K mg "led_value" bF ["turn","kind","value"] f fd) (xP:FnOk P w K mg base CX0 (n+5) f fd ["turn","kind","value"] (wL K n)):FnOk P w K mg base CX0 (n+5+1) f fd ["turn","kind","value"] (vD K n):=by
 obtain ⟨_,_,yJ⟩:=T.nearest;have y4:=ny (P:=P) (w:=w) (base:=base) T yJ;obtain ⟨_,_,xK⟩:=T.figures_of;have xW:=dP (P:=P) (w:=w) (base:=base) T xK;obtain ⟨_,_,yn⟩:=T.read_number;have yK:=h7 (P:=P) (w:=w) (base:=base) T yn;obtain ⟨_,_,xE⟩:=T.least_value;have xN:=bI (P:=P) (w:=w) (base:=base) T xE 4;refine xH.F.ok eZ (fun vs H Q E h=>?_) (fun cdv A outer s H vs Q E hr h=>?_)
 ·obtain ⟨t,d,v,u,x,y,z,rfl,_⟩:=h
  rfl
 obtain ⟨t,d,v,u,x,y,z,rfl,ht,hd,hv,tv,q⟩:=h;refine ⟨_,(@pss_cons _ _ _ _ _ (@ps_set _ _ 3 _ _ _ _ eZ.nd rfl (Or.inl rfl) (@pi1 K _ _ _ _ _ _ _ rfl (pv 0)) (by rfl) (by first | exact .inl rfl | exact .inr rfl | assumption)) (@pss_cons _ _ _ _ _ (@ps_if _ _ _ _ _ _ _ _ (pt_cmpR op_eq (pv 3) pe_str (nomark _)) (@pss_one _ _ _ (@ps_ret _ _ _ _ (pcl yJ y4 (hr.mono (by lia)) rfl (@pa3 _ _ _ _ _ _ _ (pv 2) (@pi1 K _ _ _ _ _ _ _ rfl (pv 0)) (@pi1 K _ _ _ _ _ _ _ rfl (pv 0)) (by rfl) (by rfl) (by rfl))))) pss_nil) (@pss_cons _ _ _ _ _ (@ps_if _ _ _ _ _ _ _ _ (pt_cmpR op_eq (pv 3) pe_str (nomark _)) (@pss_one _ _ _ (@ps_ret _ _ _ _ (@pe_op _ _ _ _ _ _ _ _ cp (pv 2) (@pi1 K _ _ _ _ _ _ _ rfl (pv 0))))) pss_nil) (@pss_cons _ _ _ _ _ (@ps_if _ _ _ _ _ _ _ _ (pt_cmpR op_eq (pv 3) pe_str (nomark _)) (@pss_one _ _ _ (@ps_ret _ _ _ _ (@pe_op _ _ _ _ _ _ _ _ c7 (pv 2) (@pi1 K _ _ _ _ _ _ _ rfl (pv 0))))) pss_nil) (@pss_cons _ _ _ _ _ (@ps_if _ _ _ _ _ _ _ _ (pt_cmpR op_eq (pv 3) pe_str (nomark _)) (@pss_one _ _ _ (@ps_ret _ _ _ _ (pcl xK xW (hr.mono (by lia)) rfl (@pa1 _ _ _ (pv 2) (by rfl))))) pss_nil) (@pss_cons _ _ _ _ _ (@ps_if _ _ _ _ _ _ _ _ (pt_cmpR op_eq (pv 3) pe_str (nomark _)) (@pss_one _ _ _ (@ps_ret _ _ _ _ (pcl yn yK (hr.mono (by lia)) rfl (@pa2 _ _ _ _ _ (pv 2) (@pe_tupPK _ K _ _ _ _ rfl (@pa3 _ _ _ _ _ _ _ pe_str (@pi1 K _ _ _ _ _ _ _ rfl (pv 0)) (@pi1 K _ _ _ _ _ _ _ rfl (pv 0)) (by rfl) (by rfl) (by rfl))) (by rfl) (by rfl))))) pss_nil) (@pss_cons _ _ _ _ _ (@ps_if _ _ _ _ _ _ _ _ (pt_cmpR op_eq (pv 3) pe_str (nomark _)) (@pss_one _ _ _ (@ps_ret _ _ _ _ (@bf _ _ _ _ _ _ _ (cC (K:=K) rfl) (@pi1 K _ _ _ _ _ _ _ rfl (pv 0)) (wA PySem.F.plainAttrs_tuple PySem.F.slot_tuple_index PySem.F.type_tuple_index mQ (@pi1 K _ _ _ _ _ _ _ rfl (pv 1)) (@pa1 _ _ _ (pv 2) (by rfl))) (fun _ _=>rfl)))) pss_nil) (@pss_cons _ _ _ _ _ (@ps_if _ _ _ _ _ _ _ _ (pt_cmpR op_eq (pv 3) pe_str (nomark _)) (@pss_one _ _ _ (@ps_ret _ _ _ _ (bE qt (pv 2) cI (bM (@pi1 K _ _ _ _ _ _ _ rfl (pv 0)))))) pss_nil) (@pss_cons _ _ _ _ _ (@ps_if _ _ _ _ _ _ _ _ (pt_cmpR op_eq (pv 3) pe_str (nomark _)) (@pss_one _ _ _ (@ps_ret _ _ _ _ (@pe_tupPK _ K _ _ _ _ rfl (@pa2 _ _ _ _ _ (@pi1 K _ _ _ _ _ _ _ rfl (pv 2)) (bE (eI (K:=K) rfl) (@pi1 K _ _ _ _ _ _ _ rfl (pv 2)) cI (bM (@pi1 K _ _ _ _ _ _ _ rfl (pv 0)))) (by rfl) (by rfl))))) pss_nil) (@pss_cons _ _ _ _ _ (@ps_if _ _ _ _ _ _ _ _ (pt_cmpR op_eq (pv 3) pe_str (nomark _)) (@pss_one _ _ _ (@ps_ret _ _ _ _ (@pe_tupPK _ K _ _ _ _ rfl (@pa2 _ _ _ _ _ pe_str (@pe_tupPK _ K _ _ _ _ rfl (@pa1 _ _ _ (pv 2) (by rfl))) (by rfl) (by rfl))))) pss_nil) (@pss_cons _ _ _ _ _ (@ps_if _ _ _ _ _ _ _ _ (pt_cmpR op_eq (pv 3) pe_str (nomark _)) (@pss_one _ _ _ (@ps_ret _ _ _ _ (gq (pt_cmpR op_eq (pe_callB (call_lenDN (K:=K) rfl) rfl T.z_len PySem.boot_len (@pa1 _ _ _ (@pi1 K _ _ _ _ _ _ _ rfl (pv 2)) (by rfl))) pe_int (nomark _)) (pcl xE xN (hr.mono (by lia)) rfl (@pa1 _ _ _ (@pi1 K _ _ _ _ _ _ _ rfl (pv 1)) (by rfl))) (@pi1 K _ _ _ _ _ _ _ rfl (@pi1 K _ _ _ _ _ _ _ rfl (pv 2)))))) pss_nil) (@pss_one _ _ _ (@ps_ret _ _ _ _ (@pe_tupPK _ K _ _ _ _ rfl (@pa2 _ _ _ _ _ pe_str (pe_callTy (aY (K:=K) rfl) rfl T.z_tuple boot_tuple (@pa1 _ _ _ (aI rfl (csR (sc:=af bF) (NL:=["item"]) (N:=["turn","kind","value","word"]) (ρ:=[0,1]) (N':=["item","turn","kind"]) rfl rfl rfl (by decide +kernel) (by decide +kernel) (by decide +kernel) rfl (by decide +kernel)) (aP (K:=K) rfl (@pi1 K _ _ _ _ _ _ _ rfl (pv 2))) (fun _ _ _ _=>(aj (i:=0) (show List.Nodup (α:=Str) ["item","turn","kind"] by decide +kernel) rfl (Or.inl rfl))) (fun _ _ _ _=>(pcl xH xP (hr.mono (by lia)) rfl (@pa3 _ _ _ _ _ _ _ (@pi1 K _ _ _ _ _ _ _ rfl (pv 1)) (@pi1 K _ _ _ _ _ _ _ rfl (pv 2)) (pv 0) (by rfl) (by rfl) (by rfl))))) (by rfl))) (by rfl) (by rfl)))))))))))))))),?_⟩
 cases tv with
 | bounds _ i j k l x0 =>
  refine ⟨_,rfl,_,_,_,ht,rfl,rfl,isS ?_⟩;obtain rfl:=d6 hv;refine dR rfl ?_;refine ⟨_,rfl,_,rfl,_,_,_,ht,rfl,rfl,isI ?_⟩;refine ⟨_,rfl,_,_,_,ht,rfl,rfl,isI ?_⟩;exact ⟨_,_,_,rfl,q _ _ (Same.refl _) .int⟩
 | scale _ i j k x0 h1 h2 =>
  refine ⟨_,rfl,_,_,_,ht,rfl,rfl,isS ?_⟩;obtain rfl:=d6 hv;refine aE rfl (by decide) (dR rfl ?_);refine ⟨_,rfl,_,rfl,_,_,_,ht,rfl,rfl,isI ?_⟩;exact ⟨_,_,rfl,rfl,.inr ⟨by lia,by lia⟩,q _ _ (Same.refl _) .int⟩
 | shrink _ i j k x0 h1 h2 =>
  refine ⟨_,rfl,_,_,_,ht,rfl,rfl,isS ?_⟩;obtain rfl:=d6 hv;refine aE rfl (by decide) (aE rfl (by decide) (dR rfl ?_));refine ⟨_,rfl,_,rfl,_,_,_,ht,rfl,rfl,isI ?_⟩;exact ⟨_,_,rfl,rfl,⟨by lia,by lia⟩,q _ _ (Same.refl _) .int⟩
 | figures _ i j m x0 h1 =>
  refine ⟨_,rfl,_,_,_,ht,rfl,rfl,isS ?_⟩;obtain rfl:=d6 hv;refine aE rfl (by decide) (aE rfl (by decide) (aE rfl (by decide) (dR rfl ?_)));exact ⟨_,rfl,_,rfl,h1,q _ _ (Same.refl _) .str⟩
 | number _ i j m z0 h1 h2 h3 hz =>
  refine ⟨_,rfl,_,_,_,ht,rfl,rfl,isS ?_⟩;obtain rfl:=am hv;refine aE rfl (by decide) (aE rfl (by decide) (aE rfl (by decide) (aE rfl (by decide) (dR rfl ?_))));refine ⟨_,rfl,_,rfl,_,_,_,ht,rfl,rfl,isI ?_⟩;refine ⟨_,rfl,_,_,_,ht,rfl,rfl,isI ?_⟩;refine ⟨[.str "number",.int i,.int j],.cons .str (.cons .int (.cons .int .nil)),sz3,fun v4 H4 g4 hv4=>?_⟩;exact ⟨z0,i,j,v4,rfl,hz,hv4,.number i j h1.1 h2 h3.2,fun H5 g5=>q _ _ (g4.trans g5) .int⟩
 | words _ fs ws b z0 f0 j h1 h2 h3 h4 =>
  refine ⟨_,rfl,_,_,_,ht,rfl,rfl,isS ?_⟩;obtain rfl:=am hv;refine aE rfl (by decide) (aE rfl (by decide) (aE rfl (by decide) (aE rfl (by decide) (aE rfl (by decide) (dR rfl ?_)))));refine ⟨_,rfl,_,_,_,ht,rfl,rfl,fun v2 hv2=>?_⟩;refine ⟨_,rfl,_,_,_,hd,rfl,rfl,fun v3 hv3=>?_⟩;refine ⟨⟨rfl,_,hv3⟩,_,rfl,ws,z0,j,rfl,hv3,h2,h3,by lia,_,_,_,hv2,rfl,(by have:=jZ h4;rwa [Int.zero_add] at this),fun v4 hv4=>?_⟩;exact q _ _ (Same.refl _) hv4
 | cut _ m i z0 hz =>
  refine ⟨_,rfl,_,_,_,ht,rfl,rfl,isS ?_⟩;obtain rfl:=am hv;refine aE rfl (by decide) (aE rfl (by decide) (aE rfl (by decide) (aE rfl (by decide) (aE rfl (by decide) (aE rfl (by decide) (dR rfl ?_))))));refine ⟨_,rfl,_,rfl,_,_,_,ht,rfl,rfl,isI ?_⟩;exact ⟨_,rfl,_,rfl,Nat.le_of_lt (ai (show z0.length≤1000 by lia)),q _ _ (Same.refl _) .str⟩
 | first _ d w0 i vs =>
  refine ⟨_,rfl,_,_,_,ht,rfl,rfl,isS ?_⟩;refine aE rfl (by decide) (aE rfl (by decide) (aE rfl (by decide) (aE rfl (by decide) (aE rfl (by decide) (aE rfl (by decide) (aE rfl (by decide) (dR rfl ?_)))))));refine ⟨_,rfl,_,_,_,hv,rfl,rfl,fun v2 hv2=>?_⟩;refine ⟨_,rfl,_,_,_,hv,rfl,rfl,fun v3 hv3=>?_⟩;refine ⟨_,rfl,_,_,_,ht,rfl,rfl,isI ?_⟩;refine ⟨_,rfl,_,hv3,fun v5 H5 g5 hv5=>?_⟩;exact ⟨_,.cons (hv2.same g5) (.cons hv5 .nil),sz2,fun v6 H6 g6 hv6=>q _ _ (g5.trans g6) hv6⟩
 | one _ d v i =>
  refine ⟨_,rfl,_,_,_,ht,rfl,rfl,isS ?_⟩;refine aE rfl (by decide) (aE rfl (by decide) (aE rfl (by decide) (aE rfl (by decide) (aE rfl (by decide) (aE rfl (by decide) (aE rfl (by decide) (aE rfl (by decide) (dR rfl ?_))))))));refine ⟨_,rfl,[v],.cons hv .nil,sz1,fun v2 H2 g2 hv2=>?_⟩;exact ⟨_,.cons .str (.cons hv2 .nil),sz2,fun v6 H6 g6 hv6=>q _ _ (g2.trans g6) hv6⟩
 | out _ k u m w0 vs us a c fk ha hl he =>
  refine ⟨_,rfl,_,_,_,ht,rfl,rfl,isS ?_⟩;refine aE rfl (by decide) (aE rfl (by decide) (aE rfl (by decide) (aE rfl (by decide) (aE rfl (by decide) (aE rfl (by decide) (aE rfl (by decide) (aE rfl (by decide) (aE rfl (by decide) (dR rfl ?_)))))))));refine ⟨_,rfl,_,_,_,hv,rfl,rfl,fun v2 hv2=>⟨v2,_,rfl,hv2.d,rfl,_,rfl,?_⟩⟩
  cases vs with
  | nil =>
   obtain ⟨rfl,_⟩:=List.cons.inj he;refine aH ⟨_,rfl,_,_,_,hd,rfl,rfl,fun v3 hv3=>?_⟩;exact ⟨a,c,k,v3,ha,rfl,hv3,fk,fun v4 H4 g4 hv4=>q _ _ g4 hv4⟩
  | cons x0 vs =>
   obtain ⟨rfl,_⟩:=List.cons.inj he;refine iteN (fun e=>by injection e with e;simp at e;lia) ⟨_,rfl,_,_,_,hv,rfl,rfl,fun v3 hv3=>⟨_,_,_,hv3,rfl,at0 _ _,fun v4 hv4=>?_⟩⟩;exact q _ _ (Same.refl _) hv4
 | items n t k m w0 vs us h8 hl hu =>
  refine ⟨_,rfl,_,_,_,ht,rfl,rfl,isS ?_⟩;refine aE rfl (by decide) (aE rfl (by decide) (aE rfl (by decide) (aE rfl (by decide) (aE rfl (by decide) (aE rfl (by decide) (aE rfl (by decide) (aE rfl (by decide) (aE rfl (by decide) (aE rfl (by decide) ?_)))))))));refine ⟨_,rfl,_,_,_,hv,rfl,rfl,fun v2 hv2=>?_⟩;obtain ⟨b,xs,rfl,hb,pb,rb⟩:=hv2.unref;have el:=rb.length;refine ⟨b,rfl,⟨xs,hb⟩,fun l2 hl2=>?_⟩;refine aG (K:=K) (xs:=xs) (fun i ys σ H'=>Same H H'∧H' l2=some (.lst ys)∧IsPs K H' (us.take i) ys∧ys.length=i∧i≤8∧∃ v1,σ=[v1,some x,some y]) ⟨ag hl2 _,ac,.nil,rfl,Nat.zero_le _,none,rfl⟩ (fun i ys σ H' _ r=>r.1.tup hb) ?_ ?_
  ·rintro j u0 ys σ H2 N hu0 ⟨g2,e2,hys,ly,j8,v1,rfl⟩ next;have hj2:j < xs.length:=(List.getElem?_eq_some_iff.mp hu0).1;obtain ⟨e,he',hp⟩:=rb.get' hu0;have hju:j < us.length:=by lia
   have huj:us[j]?=some us[j]:=List.getElem?_eq_getElem hju;refine ⟨_,rfl,_,_,_,ht.same g2,rfl,rfl,fun v3 hv3=>?_⟩;refine ⟨_,rfl,_,_,_,hd.same g2,rfl,rfl,fun v4 hv4=>?_⟩;refine ⟨_,rfl,n,rfl,t,k,e,us[j],v3,v4,u0,rfl,hv3,hv4,hp.same g2,hu j e us[j] he' huj,fun e3 H3 g3 he3=>?_⟩;have f4:=g3 _ _ e2;have b5:But l2 H3 (upd H3 l2 (.lst (ys++[e3]))):=But.put;refine ⟨f4,ai (by lia),next _ _ _ ⟨az hl2 (g2.trans g3),ac,?_,by rw [List.length_append,ly];rfl,by lia,_,rfl⟩⟩;rw [List.take_add_one,huj];exact ((hys.same g3).but f4 b5).append (.cons (he3.but f4 b5) .nil)
  ·rintro ys σ H2 ⟨g2,e2,hys,ly,j8,v1,rfl⟩;rw [← el,← hl,List.take_length] at hys;refine ⟨l2,ys,_,rfl,SqL.of e2,hys,fun v3 H3 g3 hv3=>?_⟩;exact ⟨_,.cons .str (.cons hv3 .nil),sz2,fun v4 H4 g4 hv4=>q _ _ ((g2.trans g3).trans g4) hv4⟩
theorem h9 (T:Tx K mg ad) {f:Addr} {fd:FuncData} (A:Gn K mg "led_value" bF ["turn","kind","value"] f fd):∀ n,FnOk P w K mg base CX0 (n+6) f fd ["turn","kind","value"] (vD K n)
 | 0=>eT T 0 A (cg fun vs H Q E z=>by obtain ⟨m,h,_⟩:=z;cases h)
 | n+1=>eT T (n+1) A ((h9 T A n).imp fun vs H Q E z=>by obtain ⟨m,h,z⟩:=z;cases h;exact z)
theorem pP {v i j k l:Int} (h1:i≤v) (h2:v≤j) (h3:k≤l):cW (cW (cW v k l) i j) k l=cW v k l:=by
 unfold cW
 repeat' split
 all_goals lia
theorem rO {u i j:Int} (h1:i≤u) (h2:u≤j):bJ (ki u) i j=u:=by
 unfold bJ;rw [hG,tG];exact if_pos ⟨h1,h2⟩
theorem rP {ws fs:List Str} {w f:Str} {j:Nat} (nd:ws.Nodup) (hl:fs.length=ws.length) (hm:(w,f)∈ws.zip fs) (hj:ws[j]?=some w):fs[j]?=some f:=by
 obtain ⟨i,hi,e⟩:=List.mem_iff_getElem.mp hm;have hi':i < ws.length:=by rw [List.length_zip] at hi;lia
 rw [List.getElem_zip] at e;have e1:ws[i]=w:=congrArg (·.1) e;have e2:fs[i]'(by lia)=f:=congrArg (·.2) e;have hj':=(List.getElem?_eq_some_iff.mp hj);obtain ⟨hj1,hj2⟩:=hj';have:i=j:=(List.getElem_inj nd).mp (e1.trans hj2.symm);subst this;rw [List.getElem?_eq_getElem (by lia),e2]
theorem rQ (ms:List Int) (lo hi:Option Int):∃ ks:List Int,fS (ms.map V.int) lo hi=ks.map V.int∧ks.length≤ms.length:=by
 refine ⟨(ms.drop (HT.sIx (ms.map V.int).length 0 lo)).take (HT.sIx (ms.map V.int).length (ms.map V.int).length hi - HT.sIx (ms.map V.int).length 0 lo),?_,?_⟩
 ·unfold fS;rw [List.map_take,List.map_drop]
 ·rw [List.length_take,List.length_drop];lia
def pQ (K:PySem.W.Frag) (_:Ads):Sp:=fun vs H Q _=>∃ (a c:Nat) (t d e v u:Dt) (x y z:V),a≤5∧(∃ a' c',FK a' c' e∧a'≤5∧c'≤40)∧vs=[x,y,z]∧IsP K H t x∧IsP K H d y∧IsP K H v z∧FK a c d∧GT t d e∧TV 5 t d v u∧∀ b H',Same H H'→IsP K H' u b→Q b H'
theorem pR (T:Tx K mg ad) {f:Addr} {fd:FuncData} (F:Gn K mg "turned" ib ["turn","kind","value"] f fd):FnOk P w K mg base CX0 24 f fd ["turn","kind","value"] (pQ K ad):=by
 obtain ⟨_,_,xD⟩:=T.kind_behind;have xO:=bT (P:=P) (w:=w) (base:=base) T xD;obtain ⟨_,_,xH⟩:=T.led_value;have xP:=h9 (P:=P) (w:=w) (base:=base) T xH 5;refine F.F.ok pU (fun vs H Q E h=>?_) (fun cdv A outer s H vs Q E hr h=>?_)
 ·obtain ⟨a,c,t,d,e,v,u,x,y,z,_,_,rfl,_⟩:=h
  rfl
 obtain ⟨a,c,t,d,e,v,u,x,y,z,ha,he,rfl,ht,hd,hv,fk,g,tv,q⟩:=h;refine ⟨_,(@pss_cons _ _ _ _ _ (@jf _ _ _ _ (pcl xD xO (hr.mono (by lia)) rfl (@pa2 _ _ _ _ _ (pv 0) (pv 1) (by rfl) (by rfl))) (by rfl)) (@pss_one _ _ _ (@ps_ret _ _ _ _ (pcl xH xP (hr.mono (by lia)) rfl (@pa3 _ _ _ _ _ _ _ (pv 0) (pv 1) (pv 2) (by rfl) (by rfl) (by rfl)))))),?_⟩;refine ⟨_,rfl,_,rfl,a,c,t,d,e,x,y,ha,he,rfl,ht,hd,g.ok fk,fk,g,fun v1 H1 g1 _=>?_⟩;exact ⟨_,rfl,_,rfl,_,rfl,t,d,v,u,x,y,z,rfl,ht.same g1,hd.same g1,hv.same g1,tv,fun b H2 g2 hb=>q b H2 (g1.trans g2) hb⟩
def nD (K:PySem.W.Frag) (_:Ads):Sp:=fun vs H Q _=>∃ (a c:Nat) (t d e b v u r:Dt) (x y z:V),a≤5∧(∃ a' c',FK a' c' e∧a'≤5∧c'≤40)∧vs=[x,y,z]∧IsP K H t x∧IsP K H d y∧IsP K H v z∧FK a c d∧GA t d e b∧TV 5 t d v u∧TV 5 b e u r∧∀ n H',Same H H'→IsP K H' r n→Q n H'
theorem nE (T:Tx K mg ad) {f:Addr} {fd:FuncData} (F:Gn K mg "twin_of" fJ ["turn","kind","value"] f fd):FnOk P w K mg base CX0 24 f fd ["turn","kind","value"] (nD K ad):=by
 obtain ⟨_,_,xD⟩:=T.kind_behind;have xO:=bT (P:=P) (w:=w) (base:=base) T xD;obtain ⟨_,_,xH⟩:=T.led_value;have xP:=h9 (P:=P) (w:=w) (base:=base) T xH 5;obtain ⟨_,_,xS⟩:=T.led_about;have yh:=jb (P:=P) (w:=w) (base:=base) T xS 5;refine F.F.ok ie (fun vs H Q E h=>?_) (fun cdv A outer s H vs Q E hr h=>?_)
 ·obtain ⟨a,c,t,d,e,b,v,u,r,x,y,z,_,_,rfl,_⟩:=h
  rfl
 obtain ⟨a,c,t,d,e,b,v,u,r,x,y,z,ha,he,rfl,ht,hd,hv,fk,g,tv,tw,q⟩:=h;refine ⟨_,(@pss_cons _ _ _ _ _ (@ps_set _ _ 3 _ _ _ _ ie.nd rfl (Or.inl rfl) (pcl xD xO (hr.mono (by lia)) rfl (@pa2 _ _ _ _ _ (pv 0) (pv 1) (by rfl) (by rfl))) (by rfl) (by first | exact .inl rfl | exact .inr rfl | assumption)) (@pss_one _ _ _ (@ps_ret _ _ _ _ (pcl xH xP (hr.mono (by lia)) rfl (@pa3 _ _ _ _ _ _ _ (pcl xS yh (hr.mono (by lia)) rfl (@pa2 _ _ _ _ _ (pv 0) (pv 1) (by rfl) (by rfl))) (pv 3) (pcl xH xP (hr.mono (by lia)) rfl (@pa3 _ _ _ _ _ _ _ (pv 0) (pv 1) (pv 2) (by rfl) (by rfl) (by rfl))) (by rfl) (by rfl) (by rfl)))))),?_⟩;refine ⟨_,rfl,_,rfl,a,c,t,d,e,x,y,ha,he,rfl,ht,hd,g.gt.ok fk,fk,g.gt,fun v1 H1 g1 h1=>?_⟩;refine ⟨_,rfl,_,rfl,a,c,t,d,e,b,x,y,ha,rfl,ht.same g1,hd.same g1,fk,g,fun v2 H2 g2 h2=>?_⟩;have S2:=g1.trans g2;refine ⟨_,rfl,_,rfl,_,rfl,_,rfl,t,d,v,u,x,y,z,rfl,ht.same S2,hd.same S2,hv.same S2,tv,fun v3 H3 g3 h3=>?_⟩;exact ⟨b,e,u,r,v2,v1,v3,rfl,h2.same g3,(h1.same g2).same g3,h3,tw,fun n H4 g4 hn=>q n H4 ((S2.trans g3).trans g4) hn⟩
def ia (f:List Str) (t:Str):List Str:=f++([55,45,97]:List Nat).map fun c=>t++(⟨#[c]⟩:Str)
def gd (n:Nat) (l:List Str):List Str:=l.filter fun z=>decide (z.length=n)
def textL:Nat→List Str
 | 0=>[""]
 | n+1=>(gd n (textL n)).foldl ia (textL n)
inductive SK:Dt→List Key→Prop
 | choice (ws:List Str):aT ws=true→SK (.tup [.str "choice",.tup (ws.map Dt.str)]) (ws.map Sum.inr)
 | text (n:Nat):n < 3→SK (.tup [.str "text",.int n]) ((textL n).map Sum.inr)
 | number (i:Int) (n:Nat):-30≤i→i≤30→n < 40→SK (bH i (i+n)) ((List.range (n+1)).map fun (k:Nat)=>Sum.inl (i+(k:Int)))
theorem SK.fk {d:Dt} {L:List Key} (h:SK d L):FK 1 1 d:=by
 cases h with
 | choice ws hw=>exact .choice ws hw
 | text n h=>exact .text _ (by lia) (by lia)
 | number i n h1 h2 h3=>exact .number _ _ (by lia) (by lia) (by lia)
theorem jc {n:Nat} (h:n < 3):(textL n).length≤13∧∀ z∈textL n,z.length≤n:=by
 obtain rfl | rfl | rfl:n=0∨n=1∨n=2:=by lia
 all_goals exact ⟨by decide +kernel,by decide +kernel⟩
def eU (K:PySem.W.Frag) (_:Ads):Sp:=fun vs H Q _=>∃ (r:Addr) (c:Int),vs=[.ref r]∧H r=some (.lst [.int c])∧∀ v d L n' H',But r H H'→H' r=some (.lst [.int n'])→IsP K H' d v→SK d L→Q v H'
theorem eV (T:Tx K mg ad) {f:Addr} {fd:FuncData} (F:Gn K mg "_law_small_kind" bB ["row"] f fd):FnOk P w K mg base CX0 2 f fd ["row"] (eU K ad):=by
 obtain ⟨_,_,xA⟩:=T.law_digit;have xB:=bN (P:=P) (w:=w) (base:=base) T xA;refine F.F.ok bo (fun vs H Q E h=>?_) (fun cdv A outer s H vs Q E hr h=>?_)
 ·obtain ⟨r,c,rfl,_⟩:=h
  rfl
 obtain ⟨r,c,rfl,hr0,q⟩:=h;refine ⟨_,(@pss_cons _ _ _ _ _ (@ps_set _ _ 1 _ _ _ _ bo.nd rfl (Or.inl rfl) (pcl xA xB (hr.mono (by lia)) rfl (@pa2 _ _ _ _ _ (pv 0) pe_int (by rfl) (by rfl))) (by rfl) (by first | exact .inl rfl | exact .inr rfl | assumption)) (@pss_cons _ _ _ _ _ (@ps_if _ _ _ _ _ _ _ _ (pt_cmpR op_eq (pv 1) pe_int (nomark _)) (@pss_one _ _ _ (@ps_ret _ _ _ _ (@pe_tupPK _ K _ _ _ _ rfl (@pa2 _ _ _ _ _ pe_str (bE (eI (K:=K) rfl) (@pe_tupPK _ K _ _ _ _ rfl (@bC _ _ _ _ _ pe_str (@pa3 _ _ _ _ _ _ _ pe_str pe_str pe_str (by rfl) (by rfl) (by rfl)) (by rfl))) (bM (pcl xA xB (hr.mono (by lia)) rfl (@pa2 _ _ _ _ _ (pv 0) pe_int (by rfl) (by rfl)))) cI) (by rfl) (by rfl))))) pss_nil) (@pss_cons _ _ _ _ _ (@ps_if _ _ _ _ _ _ _ _ (pt_cmpR op_eq (pv 1) pe_int (nomark _)) (@pss_one _ _ _ (@ps_ret _ _ _ _ (@pe_tupPK _ K _ _ _ _ rfl (@pa2 _ _ _ _ _ pe_str (pcl xA xB (hr.mono (by lia)) rfl (@pa2 _ _ _ _ _ (pv 0) pe_int (by rfl) (by rfl))) (by rfl) (by rfl))))) pss_nil) (@pss_cons _ _ _ _ _ (@ps_set _ _ 2 _ _ _ _ bo.nd rfl (Or.inl rfl) (@pe_op _ _ _ _ _ _ _ _ op_sub (pcl xA xB (hr.mono (by lia)) rfl (@pa2 _ _ _ _ _ (pv 0) pe_int (by rfl) (by rfl))) pe_int) (by rfl) (by first | exact .inl rfl | exact .inr rfl | assumption)) (@pss_one _ _ _ (@ps_ret _ _ _ _ (@pe_tupPK _ K _ _ _ _ rfl (@pa3 _ _ _ _ _ _ _ pe_str (pv 2) (@pe_op _ _ _ _ _ _ _ _ a7 (pv 2) (pcl xA xB (hr.mono (by lia)) rfl (@pa2 _ _ _ _ _ (pv 0) pe_int (by rfl) (by rfl)))) (by rfl) (by rfl) (by rfl))))))))),?_⟩;refine ⟨_,rfl,r,c,4,rfl,hr0,by decide,by decide,?_⟩;refine ⟨_,rfl,rfl,_,rfl,?_⟩;refine ar (fun c1=>?_) (fun c1=>?_)
 ·refine ⟨[.str "b",.str "a",.str "no",.str "yes"],.cons .str (.cons .str (.cons .str (.cons .str .nil))),(by show 4≤sizeLine;decide),fun v1 H1 g1 hv1=>?_⟩;have e1:=g1 _ _ (ac (H:=H) (a:=r) (o:=.lst [.int (c / 4)]));refine ⟨_,rfl,r,c / 4,3,rfl,e1,by decide,by decide,_,rfl,?_⟩;have hv2:=hv1.but e1 (But.put (o:=.lst [.int (c / 4 / 3)]));refine ⟨_,hv2,fun v3 H3 g3 hv3=>?_⟩;refine ⟨[.str "choice",_],.cons .str (.cons hv3 .nil),sz2,fun v H' g hv=>?_⟩;obtain ⟨ws,l1,ew⟩:=sZ (c / 4);rw [ew] at hv;exact q v _ _ _ H' ((((But.put.trans (But.same g1)).trans But.put).trans (But.same g3)).trans (But.same g)) (g _ _ (g3 _ _ ac)) hv (.choice ws l1)
 refine ⟨_,rfl,rfl,_,rfl,?_⟩;refine ar (fun c2=>?_) (fun c2=>?_)
 ·obtain ⟨d0,d1⟩:=mod_lt (c / 4) (m:=3) (by decide);refine ⟨_,rfl,r,c / 4,3,rfl,ac,by decide,by decide,?_⟩;refine ⟨[.str "text",.int _],.cons .str (.cons .int .nil),sz2,fun v H' g hv=>?_⟩;have e:(((c / 4 % 3).toNat:Nat):Int)=c / 4 % 3:=by lia
  exact q v _ _ _ H' ((But.put.trans But.put).trans (But.same g)) (g _ _ ac) hv (by rw [← e];exact .text _ (by lia))
 obtain ⟨d0,d1⟩:=mod_lt (c / 4) (m:=61) (by decide);obtain ⟨k0,k1⟩:=mod_lt (c / 4 / 61) (m:=40) (by decide);refine ⟨_,rfl,r,c / 4,61,rfl,ac,by decide,by decide,_,_,rfl,rfl,?_⟩;refine ⟨_,rfl,_,rfl,_,rfl,r,c / 4 / 61,40,rfl,ac,by decide,by decide,_,_,rfl,rfl,?_⟩;refine ⟨[.str "number",.int _,.int _],.cons .str (.cons .int (.cons .int .nil)),sz3,fun v H' g hv=>?_⟩;have e:(((c / 4 / 61 % 40).toNat:Nat):Int)=c / 4 / 61 % 40:=by lia
 exact q v _ _ _ H' (((But.put.trans But.put).trans But.put).trans (But.same g)) (g _ _ ac) hv (by rw [← e];exact .number _ _ (by lia) (by lia) (by lia))
def nF (K:PySem.W.Frag) (_:Ads):Sp:=fun vs H Q _=>∃ (d:Dt) (L:List Key) (x:V),vs=[x]∧IsP K H d x∧SK d L∧∀ p H',H p=none→Same H H'→H' p=some (.lst (L.map kV))→Q (.ref p) H'
theorem rR {n i:Nat} {l:List Str} {z:Str} (h:l[i]?=some z):gd n (l.take (i+1))=gd n (l.take i)++if z.length=n then [z] else []:=by
 rw [List.take_add_one,h];unfold gd;rw [List.filter_append]
 by_cases e:z.length=n <;> simp [e]
theorem rS (l f:List Str):(l.foldl ia f).length=f.length+3*l.length:=by
 induction l generalizing f with
 | nil=>rfl
 | cons t l ih =>
  rw [List.foldl_cons,ih];unfold ia;rw [List.length_append,List.length_cons];simp only [List.length_map,List.length_cons,List.length_nil];lia
theorem nG (T:Tx K mg ad) {f:Addr} {fd:FuncData} (F:Gn K mg "_law_all" cF ["kind"] f fd):FnOk P w K mg base CX0 1 f fd ["kind"] (nF K ad):=by
 refine F.F.ok ca (fun vs H Q E h=>?_) (fun cdv A outer s H vs Q E hr h=>?_)
 ·obtain ⟨d,L,x,rfl,_⟩:=h
  rfl
 obtain ⟨d,L,x,rfl,hd,sk,q⟩:=h;refine ⟨_,(@pss_cons _ _ _ _ _ (@ps_if _ _ _ _ _ _ _ _ (pt_cmpR op_eq (@pi1 K _ _ _ _ _ _ _ rfl (pv 0)) pe_str (nomark _)) (@pss_one _ _ _ (@ps_ret _ _ _ _ (pe_callTy (im (K:=K) rfl) rfl T.z_list boot_list (@pa1 _ _ _ (@pi1 K _ _ _ _ _ _ _ rfl (pv 0)) (by rfl))))) pss_nil) (@pss_cons _ _ _ _ _ (@ps_if _ _ _ _ _ _ _ _ (pt_cmpR op_eq (@pi1 K _ _ _ _ _ _ _ rfl (pv 0)) pe_str (nomark _)) (@pss_one _ _ _ (@ps_ret _ _ _ _ (mU rfl rfl T.z_list rfl T.z_range (@pa2 _ _ _ _ _ (@pi1 K _ _ _ _ _ _ _ rfl (pv 0)) (@pe_op _ _ _ _ _ _ _ _ a7 (@pi1 K _ _ _ _ _ _ _ rfl (pv 0)) pe_int) (by rfl) (by rfl))))) pss_nil) (@pss_cons _ _ _ _ _ (@ps_set _ _ 1 _ _ _ _ ca.nd rfl (Or.inl rfl) (@bt _ _ _ _ (@pa1 _ _ _ pe_str (by rfl))) (by rfl) (by first | exact .inl rfl | exact .inr rfl | assumption)) (@pss_cons _ _ _ _ _ (cH PassesOwn.never rfl (bQ rfl T.z_range (@pa1 _ _ _ (@pi1 K _ _ _ _ _ _ _ rfl (pv 0)) (by rfl))) (aj (i:=2) ca.nd rfl (Or.inr rfl))
    (@pss_one _ _ _ (cH PassesOwn.never rfl (da (K:=K) rfl (o4 rfl (csR (sc:=af cF) (NL:=["one"]) (N:=["kind","found","k","text"]) (ρ:=[2]) (N':=["one","k"]) rfl rfl rfl (by decide +kernel) (by decide +kernel) (by decide +kernel) rfl (by decide +kernel)) (da (K:=K) rfl (pv 1)) (fun _ _ _ _=>(aj (i:=0) (show List.Nodup (α:=Str) ["one","k"] by decide +kernel) rfl (Or.inl rfl))) (fun _ _ _ _=>(pt_cmpR op_eq (pe_callB call_len_str rfl T.z_len PySem.boot_len (@pa1 _ _ _ (pv 0) (by rfl))) (pv 1) (nomark _))) (fun _ _ _ _=>(pv 0)))) (aj (i:=3) ca.nd rfl (Or.inr rfl))
    (@pss_one _ _ _ (@ps_set _ _ 1 _ _ _ _ ca.nd rfl (Or.inl rfl) (@pe_op _ _ _ _ _ _ _ _ (lh (K:=K) rfl) (pv 1) (aI rfl (csR (sc:=af cF) (NL:=["sign"]) (N:=["kind","found","k","text"]) (ρ:=[3]) (N':=["sign","text"]) rfl rfl rfl (by decide +kernel) (by decide +kernel) (by decide +kernel) rfl (by decide +kernel)) (mE pe_str) (fun _ _ _ _=>(aj (i:=0) (show List.Nodup (α:=Str) ["sign","text"] by decide +kernel) rfl (Or.inl rfl))) (fun _ _ _ _=>(@pe_op _ _ _ _ _ _ _ _ mn (pv 1) (pv 0))))) (by rfl) (by first | exact .inl rfl | exact .inr rfl | assumption)))))) (@pss_one _ _ _ (@ps_ret _ _ _ _ (pv 1))))))),?_⟩
 cases sk with
 | choice ws hw =>
  refine ⟨_,rfl,_,_,_,hd,rfl,at0 _ _,isS ?_⟩;refine ⟨rfl,_,rfl,aH ?_⟩;refine ⟨_,rfl,_,_,_,hd,rfl,rfl,fun v2 hv2=>?_⟩;obtain ⟨a,xs,rfl,hT,_,r⟩:=hv2.unref;rw [aX r] at hT;refine ⟨a,_,rfl,.inr hT,fun l hl=>q l _ hl (ag hl _) ?_⟩;rw [ac,List.map_map]
  rfl
 | number i n h1 h2 h3 =>
  refine ⟨_,rfl,_,_,_,hd,rfl,at0 _ _,isS ?_⟩;refine ⟨rfl,_,rfl,iteN (ae (by decide)) ?_⟩;refine ⟨_,rfl,_,_,_,hd,rfl,at0 _ _,isS ?_⟩;refine ⟨rfl,_,rfl,aH ?_⟩;refine ⟨_,rfl,_,_,_,hd,rfl,rfl,isI ?_⟩;refine ⟨_,rfl,_,_,_,hd,rfl,rfl,isI ?_⟩;refine ⟨_,_,rfl,rfl,_,_,rfl,by lia,by lia,by lia,fun l hl=>q l _ hl (ag hl _) ?_⟩;rw [ac,List.map_map,show (i+(n:Int)+1 - i).toNat=n+1 by lia]
  rfl
 | text n hn =>
  refine ⟨_,rfl,_,_,_,hd,rfl,at0 _ _,isS ?_⟩;refine ⟨rfl,_,rfl,iteN (ae (by decide)) ?_⟩;refine ⟨_,rfl,_,_,_,hd,rfl,at0 _ _,isS ?_⟩;refine ⟨rfl,_,rfl,iteN (ae (by decide)) ?_⟩;refine ⟨sz1,fun p hp=>?_⟩;have hd1:=hd.same (ag hp (.lst [.str ""]));refine ⟨_,rfl,_,_,_,hd1,rfl,rfl,isI ?_⟩;refine ⟨_,rfl,by lia,by lia,fg (lo:=0) (n:=((n:Nat):Int).toNat) (fun i σ H'=>Same H H'∧∃ p' v2 v3,H p'=none∧H' p'=some (.lst ((textL i).map V.str))∧σ=[some x,some (.ref p'),v2,v3]) ⟨ag hp _,p,_,_,hp,ac,rfl⟩ ?_ ?_⟩
  ·rintro i σ H1 hi ⟨g1,p1,w2,w3,n1,f1,rfl⟩;rw [Int.toNat_natCast] at hi;obtain ⟨tl,tz⟩:=jc (n:=i) (by lia);refine ⟨_,rfl,p1,rfl,⟨_,SqL.of f1⟩,fun l hl=>?_⟩;refine dX (K:=K) (xs:=(textL i).map V.str) (fun j ys σ H'=>ys=(gd i ((textL i).take j)).map V.str∧Same H1 H'∧H' l=some (.lst ys)∧∃ w,σ=[w,some (.int (0+(i:Int)))]) ⟨rfl,ag hl _,ac,_,rfl⟩ (fun j ys σ H' _ p=>by
    obtain ⟨_,g,_⟩:=p;exact SqL.of (g _ _ f1)) ?_ ?_
   ·rintro j y ys σ H2 N hy ⟨rfl,g2,k2,w,rfl⟩ next;rw [List.getElem?_map] at hy;obtain ⟨z,hz,rfl⟩:=Option.map_eq_some_iff.mp hy;have hj:=(List.getElem?_eq_some_iff.mp hz).1;have en:=rR (n:=i) hz;have el:(gd i ((textL i).take j)).length≤13:=by
     have h1:=List.length_filter_le (fun z:Str=>decide (z.length=i)) ((textL i).take j);rw [List.length_take] at h1;unfold gd;lia
    refine ⟨_,rfl,z,rfl,Nat.le_of_lt (ai (by have:=tz z (List.mem_of_getElem? hz);lia)),_,rfl,rfl,_,rfl,ar (fun a=>?_) (fun a=>?_)⟩
    ·have a':z.length=i:=by
      have:=of_decide_eq_true a;injection this with this
      lia
     refine ⟨_,rfl,k2,ai (by rw [List.length_map];lia),next _ _ _ ⟨?_,az hl g2,ac,_,rfl⟩⟩;rw [en,if_pos a',List.map_append]
     rfl
    ·have a':¬ z.length=i:=fun c=>a (decide_eq_true (by rw [c,Int.zero_add]));refine next _ _ _ ⟨?_,g2,k2,_,rfl⟩;rw [en,if_neg a',List.append_nil]
   ·rintro ys σ H2 ⟨rfl,g2,k2,w,rfl⟩;rw [List.length_map,List.take_length] at k2;have sl:(gd i (textL i)).length≤13:=Nat.le_trans (List.length_filter_le _ _) tl;refine ⟨l,rfl,⟨_,SqL.of k2⟩,kF (K:=K) (xs:=(gd i (textL i)).map V.str) (fun j σ H'=>Same H2 H'∧∃ p' v3,H p'=none∧H' p'=some (.lst ((((gd i (textL i)).take j).foldl ia (textL i)).map V.str))∧σ=[some x,some (.ref p'),some (.int (0+(i:Int))),v3]) ⟨Same.refl _,p1,_,n1,g2 _ _ f1,rfl⟩ (fun j σ H' _ p=>SqL.of (p.1 _ _ k2)) ?_ ?_⟩
    ·rintro j y σ H3 hy ⟨g3,p3,w3,n3,f3,rfl⟩;rw [List.getElem?_map] at hy;obtain ⟨z,hz,rfl⟩:=Option.map_eq_some_iff.mp hy;have hj:=(List.getElem?_eq_some_iff.mp hz).1;refine ⟨_,rfl,_,rfl,fun l3 hl3=>?_⟩;refine pw (z:= "7-a") (fun k ys σ H'=>ys=(([55,45,97]:List Nat).take k).map (fun c=>V.str (z++(⟨#[c]⟩:Str)))∧Same H3 H'∧H' l3=some (.lst ys)∧∃ w,σ=[w,some (.str z)]) ⟨rfl,ag hl3 _,ac,_,rfl⟩ ?_ ?_
     ·rintro k c ys σ H4 N hc ⟨rfl,g4,k4,w,rfl⟩ next;have hk:k < 3:=by
       have:=(Array.getElem?_eq_some_iff.mp hc).1;exact this
      have hc':([55,45,97]:List Nat)[k]?=some c:=by
       rw [← hc];obtain rfl | rfl | rfl:k=0∨k=1∨k=2:=by lia
       all_goals decide +kernel
      have zl:z.length≤3:=by have:=tz z (List.mem_filter.mp (List.mem_of_getElem? hz)).1;lia
      refine ⟨_,rfl,_,rfl,z,_,rfl,rfl,Nat.le_of_lt (ai (by rw [tu];lia)),k4,ai (by rw [List.length_map,List.length_take];simp only [List.length_cons,List.length_nil];lia),next _ _ _ ⟨?_,az hl3 g4,ac,_,rfl⟩⟩;rw [List.take_add_one,hc',List.map_append]
      rfl
     ·rintro ys σ H4 ⟨rfl,g4,k4,w,rfl⟩;have e3:(([55,45,97]:List Nat).take (Str.ofString "7-a").cps.size)=[55,45,97]:=by decide +kernel
      rw [e3] at k4;have sl2:=rS ((gd i (textL i)).take j) (textL i);rw [List.length_take] at sl2;refine ⟨p3,l3,_,_,rfl,rfl,SqL.of (g4 _ _ f3),SqL.of k4,Nat.le_of_lt (ai (by
       rw [List.length_map,List.length_map,sl2];simp only [List.length_cons,List.length_nil];lia)),fun p5 hp5=>?_⟩
      have g5:=ag hp5 (.lst ((((gd i (textL i)).take j).foldl ia (textL i)).map V.str++([55,45,97]:List Nat).map fun c=>V.str (z++(⟨#[c]⟩:Str))));refine ⟨(g3.trans g4).trans g5,p5,_,((g1.trans g2).trans (g3.trans g4)).free hp5,?_,rfl⟩;rw [ac,List.take_add_one,hz,List.foldl_append];show _=some (HO.lst ((ia _ z).map V.str));unfold ia;rw [List.map_append,List.map_map]
      rfl
    ·rintro σ H3 ⟨g3,p3,w3,n3,f3,rfl⟩;rw [List.length_map,List.take_length] at f3;exact ⟨(g1.trans g2).trans g3,p3,_,_,n3,f3,rfl⟩
  ·rintro σ H1 ⟨g1,p1,w2,w3,n1,f1,rfl⟩;rw [Int.toNat_natCast] at f1;refine ⟨_,rfl,q p1 H1 n1 g1 ?_⟩;rw [f1,List.map_map]
   rfl
def mf (m:Bool) (k:Key):Dt:=match m with
 | false=>kDt k
 | true=>iq k
theorem tI {H:Hp} {m:Bool} {k:Key} {x:V} (h:IsP K H (mf m k) x):KeyE m K H k x:=by
 cases m with
 | false=>exact jy h
 | true=>exact h
theorem fF {H:Hp} (k:Key):IsP K H (kDt k) (kV k):=by
 cases k with
 | inl i=>exact .int
 | inr z=>exact .str
def pS:Dt→Bool
 | .tup (.str w :: _)=>decide (w= "text")
 | _=>false
theorem SK.fv {d:Dt} {L:List Key} (h:SK d L):(∀ v∈L,FV d (kDt v))∧L.Nodup∧L.length≤40∧0 < L.length∧(pS d=false→∀ x,FV d x→∃ v∈L,x=kDt v):=by
 cases h with
 | choice ws hw =>
  obtain ⟨w1,w8,_,nd⟩:=aq hw;refine ⟨fun v hv=>?_,?_,by rw [List.length_map];lia,by rw [List.length_map];lia,fun _ x fx=>?_⟩
  ·obtain ⟨z,hz,rfl⟩:=List.mem_map.mp hv;exact .choice hz
  ·exact List.Pairwise.map _ (fun a b n q=>n (Sum.inr.inj q)) nd
  ·obtain ⟨z,rfl,hz⟩:=i7 fx ws rfl;exact ⟨.inr z,List.mem_map.mpr ⟨z,hz,rfl⟩,rfl⟩
 | number i n h1 h2 h3 =>
  refine ⟨fun v hv=>?_,?_,by rw [List.length_map,List.length_range];lia,by rw [List.length_map,List.length_range];lia,fun _ x fx=>?_⟩
  ·obtain ⟨k,hk,rfl⟩:=List.mem_map.mp hv;have:=List.mem_range.mp hk;exact .number (by lia) (by lia)
  ·exact List.Pairwise.map _ (fun (a b:Nat) n q=>n (by have:=Sum.inl.inj q;lia)) List.nodup_range
  ·obtain ⟨y,rfl,y1,y2⟩:=rJ fx _ _ rfl;exact ⟨.inl y,List.mem_map.mpr ⟨(y - i).toNat,List.mem_range.mpr (by lia),congrArg Sum.inl (by lia)⟩,rfl⟩
 | text n hn =>
  obtain ⟨t1,t2⟩:=jc hn;have al:∀ z∈textL n,∀ c∈z.cps.toList,okC c=true:=by
   obtain rfl | rfl | rfl:n=0∨n=1∨n=2:=by lia
   all_goals decide +kernel
  have nd:(textL n).Nodup:=by
   obtain rfl | rfl | rfl:n=0∨n=1∨n=2:=by lia
   all_goals decide +kernel
  have ne:0 < (textL n).length:=by
   obtain rfl | rfl | rfl:n=0∨n=1∨n=2:=by lia
   all_goals decide +kernel
  refine ⟨fun v hv=>?_,List.Pairwise.map _ (fun a b n q=>n (Sum.inr.inj q)) nd,by rw [List.length_map];lia,by rw [List.length_map];exact ne,fun c=>by simp [pS] at c⟩;obtain ⟨z,hz,rfl⟩:=List.mem_map.mp hv;exact .text (by have:=t2 z hz;lia) (al z hz)
def lkS:List Str→List Str→Str→Str
 | w :: ws,f :: fs,z=>if w=z then f else lkS ws fs z
 | _,_,z=>z
theorem oK:∀ {ws fs:List Str} {j:Nat} {z f:Str},ws[j]?=some z→(∀ m:Nat,m < j→ws[m]?≠some z)→fs[j]?=some f→lkS ws fs z=f
 | w :: ws,g :: fs,0,z,f,h,_,e=>by
  obtain rfl:w=z:=by simpa using h
  obtain rfl:g=f:=by simpa using e
  simp [lkS]
 | w :: ws,g :: fs,j+1,z,f,h,no,e=>by
  have n0:¬ w=z:=by simpa using no 0 (by lia)
  simp only [lkS];rw [if_neg n0];exact oK (by simpa using h) (fun m hm=>by simpa using no (m+1) (by lia)) (by simpa using e)
 | [],_,j,z,f,h,_,_=>by simp at h
 | w :: ws,[],j,z,f,_,_,e=>by simp at e
def onI (f:Int→Int):Key→Key
 | .inl x=>.inl (f x)
 | k=>k
def onS (f:Str→Str):Key→Key
 | .inr x=>.inr (f x)
 | k=>k
structure Led (t d e b:Dt) (L:List Key) (m:Bool) (F G:Key→Key):Prop where
 forth:∀ v∈L,TV 5 t d (kDt v) (mf m (F v))
 back:∀ v∈L,TV 5 b e (mf m (F v)) (kDt (G (F v)))
 keep:pS d=false→∀ v∈L,FV d (kDt (G (F v)))∧F (G (F v))=F v
theorem vE {t d e b:Dt} {L:List Key} (g:GA t d e b) (sk:SK d L):∃ m F G,Led t d e b L m F G:=by
 obtain ⟨fv,_,_,_,_⟩:=sk.fv;have fk:=sk.fk;have num:∀ {i j:Int},d=bH i j→∀ v∈L,∃ x,v=.inl x∧i≤x∧x≤j:=fun e0 v hv=>by
  obtain ⟨x,ex,x1,x2⟩:=rJ (fv v hv) _ _ e0
  cases v with
  | inl y=>cases ex;exact ⟨_,rfl,x1,x2⟩
  | inr y=>cases ex
 have txt:∀ {i:Int},d=.tup [.str "text",.int i]→∀ v∈L,∃ x,v=.inr x∧(x.length:Int)≤i∧okT x:=fun e0 v hv=>by
  obtain ⟨x,ex,x1,x2⟩:=tD (fv v hv) _ e0
  cases v with
  | inl y=>cases ex
  | inr y=>cases ex;exact ⟨_,rfl,x1,x2⟩
 cases g with
 | bounds i j k l h1 h2 h3 h4 h5 h6 =>
  refine ⟨false,onI (cW · k l),onI (cW · i j),fun v hv=>?_,fun v hv=>?_,fun _ v hv=>?_⟩
  all_goals obtain ⟨x,rfl,x1,x2⟩:=num rfl v hv
  ·exact .bounds 5 i j k l x
  ·exact .bounds 5 k l i j _
  ·exact ⟨.number (oJ h2).1 (oJ h2).2,congrArg Sum.inl (pP x1 x2 h5)⟩
 | scale i j k h1 h2 h3 h4 =>
  refine ⟨false,onI (· * k),onI (· / k),fun v hv=>?_,fun v hv=>?_,fun _ v hv=>?_⟩
  all_goals obtain ⟨x,rfl,x1,x2⟩:=num rfl v hv
  ·exact .scale 5 i j k x h1 h2
  ·exact .shrink 5 _ _ k _ h1 h2
  ·have e:=bx (i:=x) h1;refine ⟨?_,congrArg Sum.inl (by show x*k / k*k=x*k;rw [e])⟩;show FV _ (.int (x*k / k));rw [e];exact .number x1 x2
 | shrink i j k h1 h2 h3 h4 =>
  refine ⟨false,onI (· / k),onI (· * k),fun v hv=>?_,fun v hv=>?_,fun _ v hv=>?_⟩
  all_goals obtain ⟨x,rfl,x1,x2⟩:=num rfl v hv
  ·exact .shrink 5 _ _ k x h1 h2
  ·exact .scale 5 i j k _ h1 h2
  ·have u1:i≤x / k:=by have:=Int.ediv_le_ediv (c:=k) (by lia) x1;rwa [bx h1] at this
   have u2:x / k≤j:=by have:=Int.ediv_le_ediv (c:=k) (by lia) x2;rwa [bx h1] at this
   exact ⟨.number (Int.mul_le_mul_of_nonneg_right u1 (by lia)) (Int.mul_le_mul_of_nonneg_right u2 (by lia)),congrArg Sum.inl (bx h1)⟩
 | figures i j m h1 h2 h3 h4 h5 h6 =>
  refine ⟨false,fun k=>match k with
   | .inl x=>.inr (ki x)
   | k=>k,fun k=>match k with
   | .inr z=>.inl (bJ z i j)
   | k=>k,fun v hv=>?_,fun v hv=>?_,fun _ v hv=>?_⟩
  all_goals obtain ⟨x,rfl,x1,x2⟩:=num rfl v hv
  all_goals have hx:aB x:=⟨by have:=h1.1;lia,by have:=h3.2;lia⟩
  ·exact .figures 5 i j m x hx
  ·exact .number 5 i j m (ki x) h1 h2 h3 (pO (by
    have:=hx.1;have:=hx.2;have:x.natAbs≤1000000000000000000000000000000:=by lia
    exact Nat.lt_of_le_of_lt this (by decide +kernel)))
  ·have e:=rO x1 x2;exact ⟨by show FV _ (.int (bJ (ki x) i j));rw [e];exact .number x1 x2,congrArg (fun y=>Sum.inr (ki y)) e⟩
 | number i j m h1 h2 h3 h4 h5 h6 =>
  refine ⟨false,fun k=>match k with
   | .inr z=>.inl (bJ z i j)
   | k=>k,fun k=>match k with
   | .inl x=>.inr (ki x)
   | k=>k,fun v hv=>?_,fun v hv=>?_,fun c=>absurd c (by simp [pS])⟩
  all_goals obtain ⟨z,rfl,z1,z2⟩:=txt rfl v hv
  ·exact .number 5 i j m z h1 h2 h3 ⟨fun c hc=>tE (z2 c hc),by lia⟩
  ·obtain ⟨u1,u2⟩:=tH (z:=z) h2;exact .figures 5 i j m _ ⟨by have:=h1.1;lia,by have:=h3.2;lia⟩
 | words fs bs ws LL hw =>
  obtain ⟨_,hw2,_,nd⟩:=aq hw;obtain ⟨_,hb2,_,ndb⟩:=aq LL.words;have key:∀ v∈L,∃ z w f j j' j3,v=.inr z∧ws[j]?=some z∧(∀ m:Nat,m < j→ws[m]?≠some z)∧fs[j]?=some f∧(bs.map (·.1))[j']?=some f∧(∀ m:Nat,m < j'→(bs.map (·.1))[m]?≠some f)∧(bs.map (·.2))[j']?=some w∧ws[j3]?=some w∧(∀ m:Nat,m < j3→ws[m]?≠some w)∧fs[j3]?=some f:=fun v hv=>by
   obtain ⟨z,ez,hz⟩:=i7 (fv v hv) ws rfl;obtain ⟨j,j1,j2⟩:=dI hz;have hj:j < fs.length:=by
    rw [LL.len];exact (List.getElem?_eq_some_iff.mp j1).1
   have hf:fs[j]?=some fs[j]:=List.getElem?_eq_getElem hj;obtain ⟨w,hb,hw'⟩:=LL.fwd fs[j] (List.getElem_mem hj);have hfm:fs[j]∈bs.map (·.1):=List.mem_map.mpr ⟨_,hb,rfl⟩;obtain ⟨j',k1,k2⟩:=dI hfm;have hb':(fs[j],w)∈(bs.map (·.1)).zip (bs.map (·.2)):=by rw [di];exact hb
   have k3:=rP ndb (by rw [List.length_map,List.length_map]) hb' k1;obtain ⟨j3,l1,l2⟩:=dI (List.of_mem_zip hw').1;have l3:=rP nd LL.len hw' l1;refine ⟨z,w,fs[j],j,j',j3,?_,j1,j2,hf,k1,k2,k3,l1,l2,l3⟩
   cases v with
   | inl y=>cases ez
   | inr y=>cases ez;rfl
  refine ⟨false,onS (lkS ws fs),onS (lkS (bs.map (·.1)) (bs.map (·.2))),fun v hv=>?_,fun v hv=>?_,fun _ v hv=>?_⟩
  all_goals obtain ⟨z,w,f,j,j',j3,rfl,j1,j2,hf,k1,k2,k3,l1,l2,l3⟩:=key v hv
  all_goals have a1:=oK j1 j2 hf
  all_goals have a2:=oK k1 k2 k3
  all_goals have a3:=oK l1 l2 l3
  ·show TV 5 _ _ (.str z) (.str (lkS ws fs z));rw [a1];exact .words 5 fs ws _ z f j hw2 j1 j2 hf
  ·show TV 5 _ _ (.str (lkS ws fs z)) (.str (lkS (bs.map (·.1)) (bs.map (·.2)) (lkS ws fs z)));rw [a1,a2];exact .words 5 _ _ _ f w j' hb2 k1 k2 k3
  ·show FV _ (.str (lkS (bs.map (·.1)) (bs.map (·.2)) (lkS ws fs z)))∧(Sum.inr (lkS ws fs (lkS (bs.map (·.1)) (bs.map (·.2)) (lkS ws fs z))):Key)=.inr (lkS ws fs z);rw [a1,a2,a3];exact ⟨.choice (List.mem_of_getElem? l1),rfl⟩
 | cut m i h1 h2 h3 h4 =>
  refine ⟨false,onS (Txt.slice · none (some i)),onS (Txt.slice · none (some m)),fun v hv=>?_,fun v hv=>?_,fun c=>absurd c (by simp [pS])⟩
  all_goals obtain ⟨z,rfl,z1,z2⟩:=txt rfl v hv
  ·exact .cut 5 m i z (by lia)
  ·have es:=nB z h1;have lu:(Txt.slice z none (some i)).length≤z.length:=by
    rw [← bO,es,List.length_take];have:=bO z;lia
   exact .cut 5 i m _ (Nat.le_trans lu (by lia))
 | one d i h1 h2 =>
  refine ⟨true,id,id,fun v hv=>.one 5 d _ i,fun v hv=>.out 5 d _ i _ [kDt v] [aU 4 d] 1 1 fk (by decide) (by show 1≤8;decide) rfl,fun _ v hv=>⟨fv v hv,rfl⟩⟩
 | firstL k m i h1 h2 h3 h4=>cases sk
 | firstR z k m i h1 h2 h3 h4=>cases sk
 | out k m h1 h2=>cases sk
 | items m h=>cases sk
def spotsL (ms:List Key) (c:Key) (n:Nat):List Nat:=(List.range n).filter fun j=>decide (ms[j]?=some c)
theorem nI (ms:List Key) (c:Key) (n:Nat):spotsL ms c (n+1)=spotsL ms c n++if ms[n]?=some c then [n] else []:=by
 unfold spotsL;rw [List.range_succ,List.filter_append]
 by_cases e:ms[n]?=some c <;> simp [e]
theorem fG {ms:List Key} {c:Key} (nd:ms.Nodup) (n:Nat):(spotsL ms c n).length≤1:=by
 have h1:(spotsL ms c n).Nodup:=List.Nodup.sublist List.filter_sublist List.nodup_range;have h2:∀ a∈spotsL ms c n,ms[a]?=some c:=fun a ha=>of_decide_eq_true (List.mem_filter.mp ha).2
 generalize spotsL ms c n=l at h1 h2
 match l with
 | []=>exact Nat.zero_le _
 | [a]=>exact Nat.le_refl _
 | a :: b :: l =>
  have ha:=h2 a (by simp);have hb:=h2 b (by simp);have:a=b:=(List.getElem?_inj (List.getElem?_eq_some_iff.mp ha).1 nd).mp (ha.trans hb.symm);rw [List.nodup_cons] at h1;exact absurd (by rw [this];exact List.mem_cons_self) h1.1
theorem pT {ms:List Key} {c:Key} (nd:ms.Nodup) (hc:c∈ms):(spotsL ms c ms.length).length=1:=by
 obtain ⟨j,hj⟩:=List.getElem?_of_mem hc;have hm:j∈spotsL ms c ms.length:=List.mem_filter.mpr ⟨List.mem_range.mpr (List.getElem?_eq_some_iff.mp hj).1,decide_eq_true hj⟩;have:=fG nd (c:=c) ms.length;have:=List.length_pos_of_mem hm;lia
structure Grp (F:Key→Key) (done:List Key) (H0 H:Hp) (kvs:List (Key×V)):Prop where
 at':∀ k x,(k,x)∈kvs→∃ q,x=V.ref q∧H0 q=none∧H q=some (.lst ((done.filter fun v=>decide (F v=k)).map kV))∧∃ v∈done,F v=k
 inj:∀ k k' q,(k,V.ref q)∈kvs→(k',V.ref q)∈kvs→k=k'
 uniq:∀ k x x',(k,x)∈kvs→(k,x')∈kvs→x=x'
 all':∀ v∈done,∃ x,(F v,x)∈kvs
 len:kvs.length≤done.length
theorem Grp.nil {F:Key→Key} {H0 H:Hp}:Grp F [] H0 H []:=⟨fun k x h=>by simp at h,fun k k' q h=>by simp at h,fun k x x' h=>by simp at h,fun v h=>by simp at h,Nat.le_refl _⟩
theorem oM {kvs:List (Key×V)} {k:Key} {x:V} (h:aK kvs k=some x):(k,x)∈kvs:=by
 unfold aK at h;obtain ⟨p,hp,rfl⟩:=Option.map_eq_some_iff.mp h;have e:=List.find?_some hp;have e':p.1=k:=by simpa using e
 rw [← e'];exact List.mem_of_find?_eq_some hp
theorem rV {kvs:List (Key×V)} {k:Key} (h:aK kvs k=none) (x:V):(k,x)∉kvs:=fun hm=>by
 unfold aK at h;have:=List.find?_eq_none.mp (Option.map_eq_none_iff.mp h) _ hm;exact this (decide_eq_true rfl)
theorem tJ {kvs:List (Key×V)} {k:Key} {x:V} (h:(k,x)∈kvs):∃ x',aK kvs k=some x'∧(k,x')∈kvs:=by
 cases e:aK kvs k with
 | none=>exact absurd h (rV e x)
 | some y=>exact ⟨y,rfl,oM e⟩
theorem Grp.same {F:Key→Key} {done:List Key} {H0 H H':Hp} {kvs:List (Key×V)} (g:Grp F done H0 H kvs) (s:Same H H'):Grp F done H0 H' kvs :=
 ⟨fun k x h=>by obtain ⟨q,a,b,c,d⟩:=g.at' k x h;exact ⟨q,a,b,s _ _ c,d⟩,g.inj,g.uniq,g.all',g.len⟩
theorem Grp.old {F:Key→Key} {done:List Key} {H0 H H':Hp} {kvs:List (Key×V)} {v:Key} {q:Addr} (g:Grp F done H0 H kvs) (hk:(F v,V.ref q)∈kvs)
  (e:H' q=some (.lst ((done.filter fun u=>decide (F u=F v)).map kV++[kV v]))) (oth:But q H H'):Grp F (done++[v]) H0 H' kvs:=by
 refine ⟨fun k x h=>?_,g.inj,g.uniq,fun u hu=>?_,by rw [List.length_append];have:=g.len;lia⟩
 ·obtain ⟨q',rfl,b,c,u,hu,eu⟩:=g.at' k x h;refine ⟨q',rfl,b,?_,u,List.mem_append_left _ hu,eu⟩;rw [List.filter_append]
  by_cases ek:k=F v
  ·subst ek;have:=g.uniq _ _ _ hk h;injection this with this
   subst this;rw [e];simp
  ·have nq:q'≠q:=fun c=>ek (g.inj _ _ _ (c ▸ h) hk);rw [oth _ _ nq c];have:¬ F v=k:=fun c=>ek c.symm;simp [this]
 ·rcases List.mem_append.mp hu with hu | hu
  ·exact g.all' u hu
  ·obtain rfl:=List.mem_singleton.mp hu;exact ⟨_,hk⟩
theorem Grp.new {F:Key→Key} {done:List Key} {H0 H H':Hp} {kvs:List (Key×V)} {v:Key} {q:Addr} (g:Grp F done H0 H kvs) (hk:aK kvs (F v)=none) (h0:H0 q=none) (hq:H q=none)
  (e:H' q=some (.lst [kV v])) (oth:∀ k x p,(k,x)∈kvs→x=V.ref p→∀ o,H p=some o→H' p=some o):Grp F (done++[v]) H0 H' (kvs++[(F v,V.ref q)]):=by
 have no:=rV hk;have noD:(done.filter fun u=>decide (F u=F v))=[]:=by
  rw [List.filter_eq_nil_iff];intro u hu c;obtain ⟨x,hx⟩:=g.all' u hu;rw [of_decide_eq_true c] at hx;exact no x hx
 have nq:∀ k,(k,V.ref q)∉kvs:=fun k h=>by
  obtain ⟨q',a,_,c,_⟩:=g.at' k _ h;injection a with a
  subst a;rw [hq] at c
  cases c
 refine ⟨fun k x h=>?_,fun k k' p h1 h2=>?_,fun k x x' h1 h2=>?_,fun u hu=>?_,by rw [List.length_append,List.length_append];have:=g.len;simp only [List.length_cons,List.length_nil];lia⟩
 ·rcases List.mem_append.mp h with h | h
  ·obtain ⟨q',rfl,b,c,u,hu,eu⟩:=g.at' k x h;refine ⟨q',rfl,b,?_,u,List.mem_append_left _ hu,eu⟩;have:¬ F v=k:=fun c=>no _ (c ▸ h);rw [oth _ _ _ h rfl _ c,List.filter_append];simp [this]
  ·have:=List.mem_singleton.mp h;injection this with e1 e2
   subst e1 e2;refine ⟨q,rfl,h0,?_,v,List.mem_append_right _ List.mem_cons_self,rfl⟩;rw [e,List.filter_append,noD];simp
 ·rcases List.mem_append.mp h1 with x1 | x1 <;> rcases List.mem_append.mp h2 with x2 | x2
  ·exact g.inj _ _ _ x1 x2
  ·have:=List.mem_singleton.mp x2;injection this with e1 e2
   injection e2 with e2
   subst e2;exact absurd x1 (nq _)
  ·have:=List.mem_singleton.mp x1;injection this with e1 e2
   injection e2 with e2
   subst e2;exact absurd x2 (nq _)
  ·have a1:=List.mem_singleton.mp x1;have a2:=List.mem_singleton.mp x2;injection a1 with a1 _
   injection a2 with a2 _
   exact a1.trans a2.symm
 ·rcases List.mem_append.mp h1 with x1 | x1 <;> rcases List.mem_append.mp h2 with x2 | x2
  ·exact g.uniq _ _ _ x1 x2
  ·have:=List.mem_singleton.mp x2;injection this with e1 e2
   subst e1;exact absurd x1 (no _)
  ·have:=List.mem_singleton.mp x1;injection this with e1 e2
   subst e1;exact absurd x2 (no _)
  ·have a1:=List.mem_singleton.mp x1;have a2:=List.mem_singleton.mp x2;injection a1 with _ a1
   injection a2 with _ a2
   exact a1.trans a2.symm
 ·rcases List.mem_append.mp hu with hu | hu
  ·obtain ⟨x,hx⟩:=g.all' u hu;exact ⟨x,List.mem_append_left _ hx⟩
  ·obtain rfl:=List.mem_singleton.mp hu;exact ⟨_,List.mem_append_right _ List.mem_cons_self⟩
theorem tK (a b:Key):eqD (kDt a) (kDt b)=decide (a=b):=by
 rw [Bool.eq_iff_iff]
 cases a <;> cases b <;> simp [kDt,eqD]
theorem oN (a:Key):(kDt a).dep=0:=by cases a <;> rfl
theorem wM {xs:List V} {n:Nat} {x:V} (h:xs[n]?=some x):atI xs (0+(n:Int))=some x:=by
 rw [Int.zero_add];exact cJ h
theorem oO (x:Dt):∀ n:Nat,gF (List.replicate n x)≤x.dep
 | 0=>Nat.zero_le _
 | n+1=>Nat.max_le.mpr ⟨Nat.le_refl _,oO x n⟩
theorem tL {a b:Key} (h:kDt a=kDt b):a=b:=by
 cases a <;> cases b <;> cases h <;> rfl
theorem xp (T:Tx K mg ad) {f:Addr} {fd:FuncData} (F:Gn K mg "law" jd ["script"] f fd):FnOk P w K mg base CX0 depth f fd ["script"] (ve K ad):=by
 obtain ⟨_,_,yp⟩:=T.law_stream;have yQ:=iA (P:=P) (w:=w) (base:=base) T yp;obtain ⟨_,_,yb⟩:=T.law_small_kind;have yD:=eV (P:=P) (w:=w) (base:=base) T yb;obtain ⟨_,_,xX⟩:=T.law_turn;have yl:=i6 (P:=P) (w:=w) (base:=base) T xX 4;obtain ⟨_,_,yr⟩:=T.law_behind;have yP:=iE (P:=P) (w:=w) (base:=base) T yr;obtain ⟨_,_,yH⟩:=T.law_all;have y6:=nG (P:=P) (w:=w) (base:=base) T yH;obtain ⟨_,_,yM⟩:=T.turned;have y7:=pR (P:=P) (w:=w) (base:=base) T yM;obtain ⟨_,_,yI⟩:=T.twin_of;have y3:=nE (P:=P) (w:=w) (base:=base) T yI;refine F.F.ok cy (fun vs H Q E h=>?_) (fun cdv A outer s H vs Q E hr h=>?_)
 ·obtain ⟨a,ns,rfl,_⟩:=h
  rfl
 obtain ⟨a,ns,rfl,hS,h63,q⟩:=h;refine ⟨_,(@pss_cons _ _ _ _ _ (cH PassesOwn.never rfl (bQ rfl T.z_range (@pa1 _ _ _ (@pe_op _ _ _ _ _ _ _ _ a7 pe_int (pe_callB (fh rfl) rfl T.z_min boot_min (@pa2 _ _ _ _ _ pe_int (pe_callB (aM (K:=K) rfl) rfl T.z_len PySem.boot_len (@pa1 _ _ _ (pv 0) (by rfl))) (by rfl) (by rfl)))) (by rfl))) (aj (i:=1) cy.nd rfl (Or.inl rfl))
    (@pss_cons _ _ _ _ _ (@ps_set _ _ 2 _ _ _ _ cy.nd rfl (Or.inl rfl) (pcl yp yQ (hr.mono (by lia)) rfl (@pa2 _ _ _ _ _ (bE (lg (K:=K) rfl) (@pe_op _ _ _ _ _ _ _ _ (lh (K:=K) rfl) (@bt _ _ _ _ (@pa1 _ _ _ pe_int (by rfl))) (pv 0)) (bM (pv 1)) (bM (@pe_op _ _ _ _ _ _ _ _ a7 (pv 1) pe_int))) pe_int (by rfl) (by rfl))) (by rfl) (by first | exact .inl rfl | exact .inr rfl | assumption)) (@pss_cons _ _ _ _ _ (@ps_set _ _ 3 _ _ _ _ cy.nd rfl (Or.inr rfl) (pcl yb yD (hr.mono (by lia)) rfl (@pa1 _ _ _ (pv 2) (by rfl))) (by rfl) (by first | exact .inl rfl | exact .inr rfl | assumption)) (@pss_cons _ _ _ _ _ (@ps_set _ _ 4 _ _ _ _ cy.nd rfl (Or.inr rfl) (pcl xX yl (hr.mono (by lia)) rfl (@pa2 _ _ _ _ _ (pv 2) (pv 3) (by rfl) (by rfl))) (by rfl) (by first | exact .inl rfl | exact .inr rfl | assumption)) (@pss_one _ _ _ (@ps_if _ _ _ _ _ _ _ _ (pt_cmpR op_notN (pcl yr yP (hr.mono (by lia)) rfl (@pa2 _ _ _ _ _ (pv 4) (pv 3) (by rfl) (by rfl))) pe_non (nomark _)) (@pss_cons _ _ _ _ _ (@ps_set _ _ 5 _ _ _ _ cy.nd rfl (Or.inr rfl) qD (by rfl) (by first | exact .inl rfl | exact .inr rfl | assumption)) (@pss_cons _ _ _ _ _ (cH PassesOwn.never rfl (da (K:=K) rfl (pcl yH y6 (hr.mono (by lia)) rfl (@pa1 _ _ _ (pv 3) (by rfl)))) (aj (i:=6) cy.nd rfl (Or.inl rfl))
    (@pss_one _ _ _ (@jf _ _ _ _ (pe_bm PySem.F.plainAttrs_list PySem.F.slot_list_append PySem.F.type_list_append fj (pF (P:=P) (w:=w) (K:=K) rfl rfl rfl hr.units (pv 5) (pcl yM y7 (hr.mono (by lia)) rfl (@pa3 _ _ _ _ _ _ _ (pv 4) (pv 3) (pv 6) (by rfl) (by rfl) (by rfl))) (@bt _ _ _ _ cY) ⟨rfl,rfl,rfl,rfl⟩) (@pa1 _ _ _ (pv 6) (by rfl))) (by rfl)))) (@pss_one _ _ _ (cH PassesOwn.never rfl (q9 (P:=P) (w:=w) (K:=K) rfl rfl rfl (pv 5)) (aj (i:=7) cy.nd rfl (Or.inr rfl))
    (@pss_cons _ _ _ _ _ (@ps_set _ _ 8 _ _ _ _ cy.nd rfl (Or.inr rfl) (aI rfl (csR (sc:=af jd) (NL:=["value"]) (N:=["script","k","row","kind","turn","heaps","value","there","twins","same"]) (ρ:=[3,4]) (N':=["value","kind","turn"]) rfl rfl rfl (by decide +kernel) (by decide +kernel) (by decide +kernel) rfl (by decide +kernel)) (da (K:=K) rfl (ol (P:=P) (w:=w) (K:=K) rfl rfl rfl hr.units (pv 5) (pv 7) (fun _ _=>rfl))) (fun _ _ _ _=>(aj (i:=0) (show List.Nodup (α:=Str) ["value","kind","turn"] by decide +kernel) rfl (Or.inl rfl))) (fun _ _ _ _=>(pcl yI y3 (hr.mono (by lia)) rfl (@pa3 _ _ _ _ _ _ _ (pv 2) (pv 1) (pv 0) (by rfl) (by rfl) (by rfl))))) (by rfl) (by first | exact .inl rfl | exact .inr rfl | assumption)) (@pss_cons _ _ _ _ _ (fw (j:=9) cy.nd rfl (Or.inl rfl) rfl (csR (sc:=af jd) (NL:=["j"]) (N:=["script","k","row","kind","turn","heaps","value","there","twins","same"]) (ρ:=[5,7,8]) (N':=["j","heaps","there","twins"]) rfl rfl rfl (by decide +kernel) (by decide +kernel) (by decide +kernel) rfl (by decide +kernel)) (bQ rfl T.z_range (@pa1 _ _ _ (pe_callB (aM (K:=K) rfl) rfl T.z_len PySem.boot_len (@pa1 _ _ _ (pv 8) (by rfl))) (by rfl))) (fun _ _ _ _=>(aj (i:=0) (show List.Nodup (α:=Str) ["j","heaps","there","twins"] by decide +kernel) rfl (Or.inl rfl))) (fun _ _ _ _=>(pt_cmpR (oh (K:=K) rfl hr.units) (@bf _ _ _ _ _ _ _ (aS (K:=K) rfl) (pv 3) (pv 0) (fun _ _=>rfl)) (@bf _ _ _ _ _ _ _ (aS (K:=K) rfl) (ol (P:=P) (w:=w) (K:=K) rfl rfl rfl hr.units (pv 1) (pv 2) (fun _ _=>rfl)) (pv 0) (fun _ _=>rfl)) (nomark _))) (fun _ _ _ _=>(pv 0))) (@pss_cons _ _ _ _ _ (@ps_if _ _ _ _ _ _ _ _ (PW.pt (@pw_or _ _ _ _ _ _ _ (pt_cmpR op_gt (pe_callB (aM (K:=K) rfl) rfl T.z_len PySem.boot_len (@pa1 _ _ _ (pv 9) (by rfl))) pe_int (nomark _)) (@pw_or1 _ _ _ _ (pt_cmpR (uN hr.units) (pv 8) (@pe_op _ _ _ _ _ _ _ _ re (@bt _ _ _ _ (@pa1 _ _ _ (@bf _ _ _ _ _ _ _ (aS (K:=K) rfl) (pv 8) pe_int (fun _ _=>rfl)) (by rfl))) (pe_callB (aM (K:=K) rfl) rfl T.z_len PySem.boot_len (@pa1 _ _ _ (pv 8) (by rfl)))) (nomark _))))) (@pss_one _ _ _ (@ps_ret _ _ _ _ pe_bl)) pss_nil) (@pss_one _ _ _ (@ps_if _ _ _ _ _ _ _ _ (PW.pt (@pw_and _ _ _ _ _ _ _ (pt_cmpR op_ne (@pi1 K _ _ _ _ _ _ _ rfl (pv 3)) pe_str (nomark _)) (@pw_and1 _ _ _ _ (pt_cmpR op_ne (pe_callB (aM (K:=K) rfl) rfl T.z_len PySem.boot_len (@pa1 _ _ _ (pv 9) (by rfl))) pe_int (nomark _))))) (@pss_one _ _ _ (@ps_ret _ _ _ _ pe_bl)) pss_nil))))))))) pss_nil)))))) (@pss_one _ _ _ (@ps_ret _ _ _ _ pe_bl))),?_⟩
 have hlen:(ns.map V.int).length=ns.length:=List.length_map _;refine ⟨_,rfl,a,_,rfl,.inl hS,_,_,rfl,_,_,rfl,rfl,?_⟩;rw [hlen]
 generalize hJ:1+(if ((ns.length:Nat):Int) < 12 then ((ns.length:Nat):Int) else 12)=J
 have J1:0≤J∧J≤13:=by rw [← hJ];split <;> lia
 refine ⟨J,rfl,by lia,by lia,fg (lo:=0) (n:=J.toNat) (fun i σ H'=>Same H H'∧∃ v1 v2 v3 v4 v5 v6 v7 v8 v9,σ=[some (.ref a),v1,v2,v3,v4,v5,v6,v7,v8,v9]) ⟨Same.refl H,_,_,_,_,_,_,_,_,_,rfl⟩ ?_ ?_⟩
 ·rintro i σ H1 hi ⟨g1,v1,v2,v3,v4,v5,v6,v7,v8,v9,rfl⟩;refine ⟨sz1,fun p0 hp0=>?_⟩;have g2:=g1.trans (ag hp0 (.lst [.int 0]));refine ⟨_,rfl,p0,a,_,_,rfl,rfl,SqL.of ac,g2.seq hS,(by show 1+(ns.map V.int).length≤sizeLine;rw [hlen];exact Nat.le_of_lt (ai (by lia))),fun p1 hp1=>?_⟩;have g3:=g2.trans (ag hp1 (.lst ([.int 0]++ns.map V.int)));refine ⟨_,rfl,_,rfl,_,rfl,_,_,rfl,rfl,_,rfl,p1,_,rfl,SqL.of ac,fun p2 hp2=>?_⟩;obtain ⟨ks,ek,lk⟩:=rQ (0 :: ns) (some (0+(i:Int))) (some (0+(i:Int)+1));have lk':ks.length≤ns.length+1:=lk;have g4:=g3.trans (ag hp2 (.lst (fS ([V.int 0]++ns.map V.int) (some (0+(i:Int))) (some (0+(i:Int)+1)))));refine ⟨p2,ks,0,rfl,SqL.of (by rw [ac];exact congrArg (fun l=>some (HO.lst l)) ek),by lia,by decide,by decide,fun r n H2 hr2 s2 e2=>?_⟩;have hrH:H r=none:=g4.free hr2;have keep:∀ {H3 H4:Hp},Same H H3→But r H3 H4→Same H H4:=fun s b c o e=>b c o (ak e hrH) (s c o e);have g5:=g4.trans s2;refine ⟨_,rfl,r,n,rfl,e2,fun v d L c3 H3 b3 e3 hv sk=>?_⟩;have fk:=sk.fk;refine ⟨_,rfl,_,rfl,r,c3,1,1,d,v,by lia,rfl,e3,hv,fk,fun v5 t e c5 H5 b5 e5 ht gt=>?_⟩;have hv5:=hv.but e3 b5;obtain ⟨a',c',fk',la',lc''⟩:=gt.fk fk;obtain ⟨b,ga⟩:=gt.about fk;obtain ⟨m,FF,GG,ld⟩:=vE ga sk;obtain ⟨fv,ndL,lenL,posL,allL⟩:=sk.fv;have he:∃ a' c',FK a' c' e∧a'≤5∧c'≤40:=⟨a',c',fk',by lia,by lia⟩;refine ⟨_,rfl,_,rfl,1,1,t,d,e,v5,v,by lia,he,rfl,ht,hv5,gt.ok fk,fk,gt,fun v6 H6 g6 hv6=>?_⟩;obtain ⟨b6,_,eb6,_⟩:∃ b xs,v6=V.ref b∧True:=by
   obtain ⟨u0,l0,rfl⟩:=gl fk';obtain ⟨b,xs,eb,_⟩:=hv6.unref;exact ⟨b,xs,eb,trivial⟩
  refine ⟨rfl,_,rfl,or (by rw [eb6];exact fun c=>by cases c) ?_⟩;intro hp hhp;have g7:=g6.trans (ag hhp (.dK []));refine ⟨_,rfl,d,L,v,rfl,hv5.same g7,sk,fun la H8 hla g8 f8=>⟨la,rfl,⟨_,SqL.of f8⟩,?_⟩⟩;have f8d:H8 hp=some (.dK []):=g8 _ _ ac;have nla:la≠hp:=gp f8 f8d (by intro c;cases c);have t8:=(ht.same g7).same g8;have k8:=(hv5.same g7).same g8;refine kF (K:=K) (xs:=L.map kV) (fun j σ H'=>∃ kvs w6 w7 w8 w9,But hp H8 H'∧DicE P w m K H' hp kvs∧Grp FF (L.take j) H8 H' kvs∧σ=[some (.ref a),some (.int (0+(i:Int))),some (.ref r),some v,some v5,some (.ref hp),w6,w7,w8,w9])
   ⟨[],_,_,_,_,But.refl _ _,DicE.new f8d,Grp.nil,rfl⟩ (fun j σ H' _ p=>by
    obtain ⟨_,_,_,_,_,bb,_⟩:=p;exact SqL.of (bb _ _ nla f8)) ?_ ?_
  ·rintro j y σ H9 hy ⟨kvs,w6,w7,w8,w9,b9,d9,gr,rfl⟩;rw [List.getElem?_map] at hy;obtain ⟨vv,hvv,rfl⟩:=Option.map_eq_some_iff.mp hy;have hm:vv∈L:=List.mem_of_getElem? hvv;have hj:=(List.getElem?_eq_some_iff.mp hvv).1;have tk:L.take (j+1)=L.take j++[vv]:=by rw [List.take_add_one,hvv];rfl
   have mu8:Mut (H8 hp):=by rw [f8d];exact True.intro
   have t9:=dG mu8 b9 t8;have k9:=dG mu8 b9 k8;have lkv:kvs.length≤40:=by
    have:=gr.len;rw [List.length_take] at this;lia
   refine ⟨_,rfl,hp,m,kvs,rfl,d9,_,rfl,_,rfl,_,rfl,1,1,t,d,e,kDt vv,mf m (FF vv),v5,v,kV vv,by lia,he,rfl,t9,k9,fF vv,fk,gt,ld.forth vv hm,fun bk H10 g10 hbk=>?_⟩;refine ⟨(by show 0≤sizeLine;decide),fun p hp11=>?_⟩;have g11:=g10.trans (ag hp11 (.lst []));have f11:upd H10 p (.lst []) p=some (.lst []):=ac;have np:H9 p=none:=g10.free hp11
   revert g11 f11
   have ke:=(tI hbk).same (ag hp11 (.lst []))
   revert ke
   generalize upd H10 p (.lst [])=H11
   intro ke g11 f11;have d11:=d9.same g11;have gr11:=gr.same g11;refine ⟨FF vv,d11,ke,ai (by lia),fun x hx=>?_,fun hx H12 b12 d12=>?_⟩
   ·have hmk:=oM hx;obtain ⟨q',rfl,q0,qf,_⟩:=gr11.at' _ _ hmk;refine ⟨.inl ⟨rfl,_,SqL.of qf⟩,_,rfl,q',_,_,rfl,rfl,qf,ai ?_,?_⟩
    ·rw [List.length_map];have h1:=List.length_filter_le (fun u=>decide (FF u=FF vv)) (L.take j);rw [List.length_take] at h1;lia
    ·refine ⟨kvs,_,_,_,_,fun c o nc ec=>?_,d11.but qf But.put,?_,rfl⟩
     ·rw [ah (ak ec q0)];exact g11 _ _ (b9 c o nc ec)
     ·rw [tk];exact gr11.old hmk ac But.put
   ·have nph:p≠hp:=(DicE.ne d11 f11);have f12:=b12 _ _ nph f11;refine ⟨.inl ⟨rfl,_,SqL.of f12⟩,_,rfl,p,_,_,rfl,rfl,f12,ai (by show 0≤1000;decide),?_⟩;have np8:H8 p=none:=by
     cases c:H8 p with
     | none=>rfl
     | some o =>
      have:=b9 p o nph c;rw [np] at this
      cases this
    refine ⟨kvs++[(FF vv,.ref p)],_,_,_,_,fun c o nc ec=>?_,d12.but f12 But.put,?_,rfl⟩
    ·rw [ah (ak ec np8)];exact b12 _ _ nc (g11 _ _ (b9 c o nc ec))
    ·rw [tk];refine gr.new hx np8 np ac fun k x p' hm' ex o eo=>?_;subst ex;obtain ⟨q',a,_,c,_⟩:=gr.at' k _ hm';injection a with a
     subst a;rw [ah (ak eo np)];exact b12 _ _ (DicE.ne d9 c) (g11 _ _ eo)
  ·rintro σ H9 ⟨kvs,w6,w7,w8,w9,b9,d9,gr,rfl⟩;rw [List.length_map,List.take_length] at gr;have mu8:Mut (H8 hp):=by rw [f8d];exact True.intro
   have hne:kvs≠[]:=by
    intro c;subst c;obtain ⟨v0,hv0⟩:∃ v0,v0∈L:=List.exists_mem_of_length_pos posL;obtain ⟨x,hx⟩:=gr.all' v0 hv0;simp at hx
   have back:∀ {H':Hp},But hp H8 H'→Same H H':=fun bb c o ec=>bb c o (ak (keep (keep g5 b3) b5 c o ec) (g6.free hhp)) (g8 _ _ (g7 _ _ (keep (keep g5 b3) b5 c o ec)));refine ⟨_,rfl,hp,m,kvs,rfl,d9,hne,fun ob H10 b10 d10=>?_⟩;have b10':But hp H8 H10:=b9.trans b10;have t10:=dG mu8 b10' t8;have k10:=dG mu8 b10' k8;refine rd (fun j σ H'=>Same H10 H'∧∃ w6 w7 w8 w9,σ=[some (.ref a),some (.int (0+(i:Int))),some (.ref r),some v,some v5,some (.ref hp),w6,w7,w8,w9]) ⟨Same.refl _,_,_,_,_,rfl⟩ (fun j σ H' p=>d10.same p.1) ?_ ?_
   ·rintro j ⟨k,y⟩ x σ H11 hk ke ⟨g11,w6,w7,w8,w9,rfl⟩;obtain ⟨y',hval,hmk⟩:=tJ (List.mem_of_getElem? hk);obtain ⟨q',rfl,q0,qf,u0,hu0,eu0⟩:=gr.at' _ _ hmk;have nq:q'≠hp:=DicE.ne d9 qf;have qf10:=b10 _ _ nq qf;have qf11:=g11 _ _ qf10;have df11:=d10.same g11;obtain ⟨ms,hms⟩:∃ ms,ms=L.filter fun v=>decide (FF v=k):=⟨_,rfl⟩;rw [← hms] at qf11;have mem:∀ u∈ms,u∈L∧FF u=k:=fun u hu=>by
     rw [hms] at hu;obtain ⟨h1,h2⟩:=List.mem_filter.mp hu;exact ⟨h1,of_decide_eq_true h2⟩
    have mem':∀ u,u∈L→FF u=k→u∈ms:=fun u h1 h2=>by
     rw [hms];exact List.mem_filter.mpr ⟨h1,decide_eq_true h2⟩
    have ndm:ms.Nodup:=by rw [hms];exact List.Nodup.sublist List.filter_sublist ndL
    have lm:ms.length≤40:=by rw [hms];exact Nat.le_trans (List.length_filter_le _ _) lenL
    have pm:0 < ms.length:=List.length_pos_of_mem (mem' u0 hu0 eu0);have t11:=t10.same g11;have k11:=k10.same g11;refine ⟨_,rfl,_,rfl,hp,m,ob,kvs,k,.ref q',rfl,df11,ke,hval,q',rfl,⟨_,SqL.of qf11⟩,fun l hl=>?_⟩;refine dX (K:=K) (xs:=ms.map kV) (fun n ys σ H'=>ys=List.replicate n (kV (GG k))∧Same H11 H'∧H' l=some (.lst ys)∧∃ w,σ=[w,some v,some v5]) ⟨rfl,ag hl _,ac,_,rfl⟩ (fun n ys σ H' _ p=>SqL.of (p.2.1 _ _ qf11)) ?_ ?_
    ·rintro n z ys σ H12 N hz ⟨rfl,g12,f12,w,rfl⟩ next;rw [List.getElem?_map] at hz;obtain ⟨u,hu,rfl⟩:=Option.map_eq_some_iff.mp hz;have hn:=(List.getElem?_eq_some_iff.mp hu).1;obtain ⟨u1,u2⟩:=mem u (List.mem_of_getElem? hu);have tv1:=ld.forth u u1;have tv2:=ld.back u u1;rw [u2] at tv1 tv2;refine ⟨_,rfl,_,rfl,_,rfl,1,1,t,d,e,b,kDt u,mf m k,kDt (GG k),v5,v,kV u,by lia,he,rfl,t11.same g12,k11.same g12,fF u,fk,ga,tv1,tv2,fun n' H13 g13 hn'=>?_⟩;obtain rfl:=jy hn';refine ⟨g13 _ _ f12,ai (by rw [List.length_replicate];lia),next _ _ _ ⟨?_,az hl (g12.trans g13),ac,_,rfl⟩⟩;rw [List.replicate_succ']
    rintro ys σ H12 ⟨rfl,g12,f12,w,rfl⟩;rw [List.length_map] at f12;have lr:(List.replicate ms.length (kV (GG k))).length=ms.length:=List.length_replicate;have df12:=df11.same g12;have ke12:=ke.same g12;have qf12:=g12 _ _ qf11;refine ⟨_,rfl,l,_,rfl,.inl (SqL.of f12),?_⟩;rw [lr];refine ⟨_,rfl,by lia,by lia,fun l2 hl2=>?_⟩;refine c9 (lo:=0) (fun n ys σ H'=>ys=(spotsL ms (GG k) n).map (fun j=>V.int (0+(j:Nat)))∧Same H12 H'∧H' l2=some (.lst ys)∧∃ w,σ=[w,some (.ref hp),some x,some (.ref l)]) ⟨rfl,ag hl2 _,ac,_,rfl⟩ ?_ ?_
    ·rintro n ys σ H13 N hn ⟨rfl,g13,f13,w,rfl⟩ next;rw [Int.toNat_natCast] at hn;have hn':ms[n]?=some ms[n]:=List.getElem?_eq_getElem hn;have en:=nI ms (GG k) n;have el:(spotsL ms (GG k) n).length≤1:=fG ndm n;refine ⟨_,rfl,_,rfl,l,_,_,_,rfl,rfl,SqL.of (g13 _ _ f12),wM (List.getElem?_replicate_of_lt hn),_,rfl,_,rfl,hp,m,ob,kvs,k,.ref q',rfl,df12.same g13,ke12.same g13,hval,_,rfl,q',_,_,_,rfl,rfl,SqL.of (g13 _ _ qf12),wM (by rw [List.getElem?_map,hn'];rfl),kDt (GG k),kDt ms[n],(fF _).d,(fF _).d,by rw [oN];lia,_,rfl,?_⟩;rw [tK];refine ar (fun c=>?_) (fun c=>?_)
     ·refine ⟨_,rfl,f13,ai (by rw [List.length_map];lia),next _ _ _ ⟨?_,az hl2 g13,ac,_,rfl⟩⟩;rw [en,if_pos (by rw [hn',of_decide_eq_true c]),List.map_append]
      rfl
     ·refine next _ _ _ ⟨?_,g13,f13,_,rfl⟩;rw [en,if_neg (fun z=>c (decide_eq_true (Option.some.inj (hn'.symm.trans z)).symm)),List.append_nil]
    rintro ys σ H13 ⟨rfl,g13,f13,w,rfl⟩;rw [Int.toNat_natCast] at f13;have ls:=fG ndm (c:=GG k) ms.length;have f12':=g13 _ _ f12;refine ⟨_,rfl,l2,_,rfl,.inl (SqL.of f13),_,_,rfl,rfl,?_⟩;rw [List.length_map];refine ⟨_,rfl,ar (fun c=>absurd (of_decide_eq_true c) (by lia)) (fun _=>?_)⟩;have z0:atI (List.replicate ms.length (kV (GG k))) ((0:Nat):Int)=some (kV (GG k)):=cJ (List.getElem?_replicate_of_lt pm);refine ⟨_,rfl,_,rfl,l,_,_,_,rfl,rfl,SqL.of f12',z0,sz1,fun p3 hp3=>?_⟩;have g14:=ag hp3 (.lst [kV (GG k)]);refine ⟨_,rfl,l,_,rfl,.inl (SqL.of (g14 _ _ f12')),p3,kV (GG k),_,rfl,ac,rfl,by lia,by rw [lr];lia,fun p4 hp4=>?_⟩;rw [lr,Int.toNat_natCast];have g15:=g14.trans (ag hp4 (.lst (List.replicate ms.length (kV (GG k)))));refine ⟨l,p4,_,_,List.replicate ms.length (kDt (GG k)),List.replicate ms.length (kDt (GG k)),rfl,rfl,SqL.of (g15 _ _ f12'),SqL.of ac,(qR (fF _) _).d,(qR (fF _) _).d,Nat.le_trans (oO _ _) (by rw [oN];lia),_,rfl,?_⟩;rw [fo];refine aQ ?_;obtain ⟨w0,l0,ed⟩:=gl fk;have k15:=(k11.same (g12.trans g13)).same g15;refine ⟨_,rfl,_,_,_,(by rw [← ed];exact k15),rfl,at0 _ _,isS ?_⟩;have fin:=(g11.trans (g12.trans g13)).trans g15
    by_cases ew:w0= "text"
    ·subst ew;exact ⟨rfl,_,rfl,i3 (aQ ⟨fin,_,_,_,_,rfl⟩)⟩
    ·refine ⟨rfl,_,rfl,or (ae ew) ⟨_,rfl,l2,_,rfl,.inl (SqL.of (g15 _ _ f13)),rfl,_,rfl,?_⟩⟩;have tx:pS d=false:=by
      rw [ed];exact decide_eq_false ew
     obtain ⟨kf,ke0⟩:=ld.keep tx u0 hu0;rw [eu0] at kf ke0;obtain ⟨g0,hg0,eg0⟩:=allL tx _ kf;rw [← tL eg0] at hg0;have one:=pT ndm (mem' _ hg0 ke0);rw [List.length_map,one];exact i3 ⟨fin,_,_,_,_,rfl⟩
   ·rintro σ H11 ⟨g11,w6,w7,w8,w9,rfl⟩;exact ⟨(back b10').trans g11,_,_,_,_,_,_,_,_,_,rfl⟩
 ·rintro σ H1 ⟨g1,v1,v2,v3,v4,v5,v6,v7,v8,v9,rfl⟩;exact q _
end
@[elab_as_elim] theorem tM {α:Type} {p:List α→Prop} {us:List α} (hl:us.length=0) (h:p []):p us:=by
 cases us with
 | nil=>exact h
 | cons a r=>cases hl
@[elab_as_elim] theorem tN {α:Type} {p:List α→Prop} {us:List α} (hl:us.length=1) (h:∀ x0,p [x0]):p us:=by
 cases us with
 | nil=>cases hl
 | cons a r=>exact tM (p:=fun r=>p (a :: r)) (Nat.succ.inj hl) (h a)
@[elab_as_elim] theorem tO {α:Type} {p:List α→Prop} {us:List α} (hl:us.length=2) (h:∀ x0 x1,p [x0,x1]):p us:=by
 cases us with
 | nil=>cases hl
 | cons a r=>exact tN (p:=fun r=>p (a :: r)) (Nat.succ.inj hl) (h a)
@[elab_as_elim] theorem tP {α:Type} {p:List α→Prop} {us:List α} (hl:us.length=3) (h:∀ x0 x1 x2,p [x0,x1,x2]):p us:=by
 cases us with
 | nil=>cases hl
 | cons a r=>exact tO (p:=fun r=>p (a :: r)) (Nat.succ.inj hl) (h a)
@[elab_as_elim] theorem tQ {α:Type} {p:List α→Prop} {us:List α} (hl:us.length=4) (h:∀ x0 x1 x2 x3,p [x0,x1,x2,x3]):p us:=by
 cases us with
 | nil=>cases hl
 | cons a r=>exact tP (p:=fun r=>p (a :: r)) (Nat.succ.inj hl) (h a)
@[elab_as_elim] theorem tR {α:Type} {p:List α→Prop} {us:List α} (hl:us.length=5) (h:∀ x0 x1 x2 x3 x4,p [x0,x1,x2,x3,x4]):p us:=by
 cases us with
 | nil=>cases hl
 | cons a r=>exact tQ (p:=fun r=>p (a :: r)) (Nat.succ.inj hl) (h a)
@[elab_as_elim] theorem wN {α:Type} {p:List α→Prop} {us:List α} (hl:us.length=6) (h:∀ x0 x1 x2 x3 x4 x5,p [x0,x1,x2,x3,x4,x5]):p us:=by
 cases us with
 | nil=>cases hl
 | cons a r=>exact tR (p:=fun r=>p (a :: r)) (Nat.succ.inj hl) (h a)
theorem gnM {K:PySem.W.Frag} {h:Heap} {mg:Str→Option Value} (X:K.In h) (G:h.Ns mainGlobals mg) {x:Str} {st:Stmt} {ps:List Str} {f:Addr} {od an:Option Addr} {sl:Array (Option Value)} {oc kV dc pm cd ct:Value}
  (a:PySem.W.nsIn K mainGlobals x=some (some (.ref f))) (l:K.lookup f=some ⟨oc,od,.func (PySem.W.fnOf x x (cG st) (bK st) (af st) .none kV dc pm an cd ct),sl⟩) (c:PySem.W.codeIn K cd x=true) (k:PySem.W.keepIn K (.ref f)=true)
  (b:∀ (kV doc pm:Value) (an:Option Addr) (cdv ct:Value) (us:List Value),us.length=ps.length→bindArgs (PySem.W.fnOf x x (cG st) (bK st) (af st) .none kV doc pm an cdv ct) ⟨us,[]⟩=pure (ps.zip us)):∃ f fd,Gn K mg x st ps f fd :=
 ⟨f,_,qm (st:=st) l c k,(qm (st:=st) l c k).binds b,PySem.W.mg_of X G a⟩
theorem exM {K:PySem.W.Frag} {h:Heap} {mg:Str→Option Value} (X:K.In h) (G:h.Ns mainGlobals mg) {x:Str} {C:Addr} {d:ClassData} (xa:PySem.W.nsIn K mainGlobals x=some (some (.ref C))) (xq:PySem.W.excIn K C bmV "ValueError.__new__" = true) (xg:PySem.W.findIn K (.ref C) "__getattribute__" = some (some (.builtin "BaseException.__getattribute__"))) (xt:PySem.W.findIn K (.ref C) "__getattr__" = some none) (xc:PySem.W.findIn K (.ref C) "__class__" = some (some (.builtin "object.__class__"))) (xb:PySem.W.mroIn K C (.type "BaseException")=some true) (xo:PySem.W.mroIn K C (.type "object")=some true) (xd:PySem.W.clsIn K C=some d) (xk:PySem.W.keepIn K (.ref C)=true):ExC K mg x C:=⟨PySem.W.mg_of X G xa,xq,⟨xg,xt,xc,xb,xo,_,xd⟩,xk⟩
theorem csM {K:PySem.W.Frag} {h:Heap} {mg:Str→Option Value} (X:K.In h) (G:h.Ns mainGlobals mg) {x z:Str} {t:Tok} (g:PySem.W.nsIn K mainGlobals x=some (some (.str z t))):∃ t,mg x=some (.str z t):=⟨_,PySem.W.mg_of X G g⟩
theorem ciM {K:PySem.W.Frag} {h:Heap} {mg:Str→Option Value} (X:K.In h) (G:h.Ns mainGlobals mg) {x:Str} {i:Int} {t:Tok} (g:PySem.W.nsIn K mainGlobals x=some (some (.int i t))):∃ t,mg x=some (.int i t):=⟨_,PySem.W.mg_of X G g⟩
theorem cdM {K:PySem.W.Frag} {h:Heap} {mg:Str→Option Value} (X:K.In h) (G:h.Ns mainGlobals mg) {x:Str} {a:Addr} {l:List (Str×Int)} (g:PySem.W.nsIn K mainGlobals x=some (some (.ref a))) (d:KTD.tabLook (KTD.datLooks fun b=>K.lookup b) (fun b=>K.lookup b) a (ik l)=true):∃ a,mg x=some (.ref a)∧kT K a l:=⟨_,PySem.W.mg_of X G g,qy d⟩
theorem txI {K:PySem.W.Frag} {mg:Str→Option Value} {a0 a1 a2:Addr} (T:Tx K mg ⟨a0,a1,a2⟩):∃ ad,Tx K mg ad:=⟨_,T⟩
theorem vG {K:PySem.W.Frag} {f:Addr} {fd:FuncData} (F:Fun K "law" "law" jd f fd):∀ (s:Shared) (u:Value),BindsTo s fd ⟨[u],[]⟩ [("script",u)]:=by
 obtain ⟨oc,od,kV,doc,pm,an,cdv,ct,osl,rfl,lk,hcd⟩:=F.ex;exact fun s u=>.of_eq rfl
end K21
open PySem PySem.W PyProof.Rows
set_option maxRecDepth 100000 in
set_option maxHeartbeats 0 in
theorem PySem.Challenge.cw_oldhands_k21_whole_one_value_that_keeps_holds : PySem.Challenge.rw_oldhands_k21_whole_one_value_that_keeps.Holds := by
 w_on
 refine PySem.W.holds_law K21.said fun said=>?_;refine PySem.W.holds_open (q:=K21.hQ) (loose:=K21.hW) (Xt:=K21.hX) (XP:=fun _ _=>True) (Yf:=K21.hH.obs) (Ya:=K21.hH.val) (YP:=PySem.W.InK K21.hK) (N:=5620) K21.hl K21.hH.of K21.hH.keeps (fun _ _=>trivial) (fun _ _ _ _ _=>trivial) (by rfl) (by rfl) (by rfl) (fun s e=>PySem.W.recFacts_of e) (by rfl) said (by decide +kernel) ⟨rfl,rfl,rfl,rfl,rfl,by decide +kernel⟩ ?hw ?hc
 case hw=>w_witness2
 k_fill
 refine L2.vU (l:=PySem.Challenge.rw_oldhands_k21_whole_one_value_that_keeps) (K:=K21.hK) (n:=63) (k:=K21.depth) (x:= "script") (CX:=L2.CX0) (sp:=K21.wE) rfl (by decide) rfl ⟨rfl,by decide,by decide⟩ (fun w h Y=>Y) ?F (fun _ _ a ns hl _ hS=>⟨a,ns,rfl,hS,hl,fun _=>rfl⟩) (fun _ _ _ _ z=>z)
 case F =>
  intro w mg fa h KX G hmg;have T:∃ ad,K21.Tx (L2.KOf KX) mg ad:=by
   dsimp only [L2.KOf];refine' K21.txI ⟨K21.gnM KX G ?_ ?_ ?_ ?_ ?_,K21.gnM KX G ?_ ?_ ?_ ?_ ?_,K21.gnM KX G ?_ ?_ ?_ ?_ ?_,K21.gnM KX G ?_ ?_ ?_ ?_ ?_,K21.gnM KX G ?_ ?_ ?_ ?_ ?_,K21.gnM KX G ?_ ?_ ?_ ?_ ?_,K21.gnM KX G ?_ ?_ ?_ ?_ ?_,K21.gnM KX G ?_ ?_ ?_ ?_ ?_,K21.gnM KX G ?_ ?_ ?_ ?_ ?_,K21.gnM KX G ?_ ?_ ?_ ?_ ?_,K21.gnM KX G ?_ ?_ ?_ ?_ ?_,K21.gnM KX G ?_ ?_ ?_ ?_ ?_,K21.gnM KX G ?_ ?_ ?_ ?_ ?_,K21.gnM KX G ?_ ?_ ?_ ?_ ?_,K21.gnM KX G ?_ ?_ ?_ ?_ ?_,K21.gnM KX G ?_ ?_ ?_ ?_ ?_,K21.gnM KX G ?_ ?_ ?_ ?_ ?_,K21.gnM KX G ?_ ?_ ?_ ?_ ?_,K21.gnM KX G ?_ ?_ ?_ ?_ ?_,K21.gnM KX G ?_ ?_ ?_ ?_ ?_,K21.gnM KX G ?_ ?_ ?_ ?_ ?_,K21.gnM KX G ?_ ?_ ?_ ?_ ?_,K21.gnM KX G ?_ ?_ ?_ ?_ ?_,K21.gnM KX G ?_ ?_ ?_ ?_ ?_,K21.gnM KX G ?_ ?_ ?_ ?_ ?_,K21.gnM KX G ?_ ?_ ?_ ?_ ?_,K21.gnM KX G ?_ ?_ ?_ ?_ ?_,K21.gnM KX G ?_ ?_ ?_ ?_ ?_,K21.gnM KX G ?_ ?_ ?_ ?_ ?_,K21.gnM KX G ?_ ?_ ?_ ?_ ?_,K21.gnM KX G ?_ ?_ ?_ ?_ ?_,K21.gnM KX G ?_ ?_ ?_ ?_ ?_,K21.gnM KX G ?_ ?_ ?_ ?_ ?_,K21.gnM KX G ?_ ?_ ?_ ?_ ?_,K21.gnM KX G ?_ ?_ ?_ ?_ ?_,K21.gnM KX G ?_ ?_ ?_ ?_ ?_,K21.gnM KX G ?_ ?_ ?_ ?_ ?_,K21.gnM KX G ?_ ?_ ?_ ?_ ?_,K21.gnM KX G ?_ ?_ ?_ ?_ ?_,K21.gnM KX G ?_ ?_ ?_ ?_ ?_,K21.gnM KX G ?_ ?_ ?_ ?_ ?_,K21.gnM KX G ?_ ?_ ?_ ?_ ?_,K21.gnM KX G ?_ ?_ ?_ ?_ ?_,K21.exM KX G ?_ ?_ ?_ ?_ ?_ ?_ ?_ ?_ ?_,K21.exM KX G ?_ ?_ ?_ ?_ ?_ ?_ ?_ ?_ ?_,K21.exM KX G ?_ ?_ ?_ ?_ ?_ ?_ ?_ ?_ ?_,K21.csM KX G ?_,K21.ciM KX G ?_,K21.csM KX G ?_,K21.ciM KX G ?_,K21.ciM KX G ?_,K21.ciM KX G ?_,K21.ciM KX G ?_,K21.ciM KX G ?_,K21.ciM KX G ?_,K21.cdM KX G ?_ ?_,K21.csM KX G ?_,K21.ciM KX G ?_,K21.ciM KX G ?_,K21.cdM KX G ?_ ?_,⟨PySem.W.mg_of KX G ?_,L2.vF ?_,L2.wy ?_⟩,PySem.W.mg_none_of KX G ?_,PySem.W.mg_none_of KX G ?_,PySem.W.mg_none_of KX G ?_,PySem.W.mg_none_of KX G ?_,PySem.W.mg_none_of KX G ?_,PySem.W.mg_none_of KX G ?_,PySem.W.mg_none_of KX G ?_,PySem.W.mg_none_of KX G ?_,PySem.W.mg_none_of KX G ?_,PySem.W.mg_none_of KX G ?_,PySem.W.mg_none_of KX G ?_,PySem.W.mg_none_of KX G ?_,PySem.W.mg_none_of KX G ?_,PySem.W.mg_none_of KX G ?_,PySem.W.mg_none_of KX G ?_,PySem.W.mg_none_of KX G ?_,PySem.W.mg_none_of KX G ?_⟩
   any_goals (first | k_is | kernel_rfl | exact fun _ _ _ _ _ _ _ e=>K21.tM e rfl | exact fun _ _ _ _ _ _ _ e=>K21.tN e fun _=>rfl | exact fun _ _ _ _ _ _ _ e=>K21.tO e fun _ _=>rfl | exact fun _ _ _ _ _ _ _ e=>K21.tP e fun _ _ _=>rfl | exact fun _ _ _ _ _ _ _ e=>K21.tQ e fun _ _ _ _=>rfl | exact fun _ _ _ _ _ _ _ e=>K21.tR e fun _ _ _ _ _=>rfl | exact fun _ _ _ _ _ _ _ e=>K21.wN e fun _ _ _ _ _ _=>rfl)
  obtain ⟨ad,T⟩:=T;obtain ⟨fL,dL,L⟩:=T.law;have e:=hmg.symm.trans L.m
  cases e
  exact ⟨dL,K21.vG L.F,fun base _ _=>K21.xp T L⟩
#print axioms PySem.Challenge.cw_oldhands_k21_whole_one_value_that_keeps_holds
