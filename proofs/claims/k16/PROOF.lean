import PyProof.Rows.All
import Wide.All
import OpenK.AllK
import Wide.FinOn
import Lean
import PyProof.EqAt
import PyProof.EqKinds
import PyProof.TupleCall
import PyProof.NeKinds
import KE.KIntText
import PyProof.StrCalls
import PyProof.ZipIter
import PyProof.Rows.SetFrom
import PyProof.SetRoads
import PyProof.CompUse
import PyProof.Rows.MinMaxN
import PyProof.Rows.SortStr
import PyProof.Rows.SortWalk
import PyProof.Rows.SeqMore2
import KE.KMinKey
import PyProof.Rows.CallKwBuiltin
import PyProof.TupleOfStr
import PyProof.Draws
import PyProof.Rows.TupIter
import KE.KxText
import PyProof.FString5
import PyProof.DictWalks
import PyProof.CollectStr
import PyProof.FactsAll.set_1
import KE.KDictLaws
import PySem.Challenge.RW_oldhands_k16_turns_refused
set_option Elab.async false
set_option linter.all false
set_option maxHeartbeats 4000000
set_option maxRecDepth 100000
namespace L2
open PySem PySem.Spec PyProof.Rows
def ck (s:Stmt):Arguments:=match s with
 | .FunctionDef _ a _ _ _ _ _ _ _ _=>a
 | _=>{ posonlyargs:=[],args:=[],vararg:=none,kwonlyargs:=[],kw_defaults:=[],kwarg:=none,defaults:=[] }
def bo (s:Stmt):List Stmt:=match s with
 | .FunctionDef _ _ b _ _ _ _ _ _ _=>b
 | _=>[]
def ae (s:Stmt):Scope:=match s with
 | .FunctionDef _ _ _ _ _ _ sc _ _ _=>sc
 | _=>{ kind:=.function,names:=[],isGenerator:=false,isCoroutine:=false }
end L2
namespace K16
open PySem L2 PyProof.Rows
def top (i:Nat):Stmt:=PySem.Challenge.pw_oldhands_k16_turns_refused.main.body.getD i (.Pass ⟨0,0,0,0⟩)
def hT (t:Nat):Value:=.str "/claim/cut.py" t
def hE (P:Params) (x:Str) (t:Nat) (v:Value):DictEntry:={ hash:=PyData.keyHash P x,key:=.str x t,val:=v }
def hF (x y m:Str) (st:Stmt) (t c:Nat):Obj:={ cls:=.type "function",data:=.func (PySem.W.fnOf x y (ck st) (bo st) (ae st) .none .none .none (.str m t) none (.ref c) .none) }
def hC (x y:Str) (t u v:Nat) (r:List Value):Obj:={ cls:=.type "code",data:=.fields (Array.mk (.str x t :: .str y u :: hT v :: r)) }
def hK:Params→PySem.W.Frag:=fun P =>
 (nat_lit 2,{ cls:=.none,data:=.dict #[] }) ::
 (nat_lit 3,{ cls:=.type "dict",data:=.dict #[hE P "__name__" 165 (.str ("law_oldhands_k16_turns_refused") 618),hE P "__doc__" 166 (.none),hE P "__package__" 167 (.none),hE P "__loader__" 168 (.builtin "__main__.__loader__#opaque"),hE P "__spec__" 169 (.none),hE P "__annotations__" 170 (.ref 6),hE P "__builtins__" 171 (.ref 4),hE P "__file__" 173 (.str ("/claim/cut.py") 172),hE P "__cached__" 174 (.none),hE P "HandError" 206 (.ref 24),hE P "BadKind" 222 (.ref 37),hE P "BadTurn" 238 (.ref 49),hE P "BadPiece" 254 (.ref 61),hE P "LETTERS" 258 (.str ("abcdefghijklmnopqrstuvwxyz") 257),hE P "LONGEST_NAME" 260 (.int 8 259),hE P "EACH" 262 (.str ("each") 261),hE P "MOST_SIGNS" 264 (.int 60 263),hE P "MOST_WORDS" 266 (.int 8 265),hE P "MOST_FIELDS" 268 (.int 8 267),hE P "MOST_ITEMS" 270 (.int 8 269),hE P "MOST_KINDS" 272 (.int 40 271),hE P "DEEPEST" 274 (.int 5 273),hE P "PART_COUNTS" 293 (.ref 64),hE P "is_name" 299 (.ref 69),hE P "is_whole" 306 (.ref 76),hE P "is_whole_within" 315 (.ref 83),hE P "made_kind" 322 (.ref 90),hE P "is_formed" 331 (.ref 97),hE P "has_parts" 338 (.ref 104),hE P "are_bounds" 346 (.ref 111),hE P "are_words" 352 (.ref 116),hE P "are_fields" 358 (.ref 121),hE P "is_field" 366 (.ref 128),hE P "are_rows" 376 (.ref 135),hE P "field_kind" 386 (.ref 142),hE P "item_kind" 393 (.ref 149),hE P "kinds_within" 399 (.ref 154),hE P "kind_many" 405 (.ref 159),hE P "least_value" 413 (.ref 164),hE P "FIGURES" 417 (.str ("0123456789") 416),hE P "LEAST_FACTOR" 419 (.int 2 418),hE P "GREATEST_FACTOR" 421 (.int 1000 420),hE P "TURN_COUNTS" 455 (.ref 165),hE P "TURN_SORTS" 487 (.ref 166),hE P "figures_of" 494 (.ref 183),hE P "number_of" 500 (.ref 188),hE P "nearest" 509 (.ref 195),hE P "is_factor" 516 (.ref 202),hE P "kind_behind" 524 (.ref 209),hE P "is_turn_of" 533 (.ref 216),hE P "has_turn_parts" 540 (.ref 223),hE P "most_figures" 548 (.ref 230),hE P "are_led_words" 554 (.ref 235),hE P "words_behind" 560 (.ref 240),hE P "led_kind" 569 (.ref 247),hE P "turn_about" 577 (.ref 254),hE P "led_about" 583 (.ref 259),hE P "turned" 592 (.ref 266),hE P "led_value" 598 (.ref 271),hE P "read_number" 607 (.ref 278),hE P "twin_of" 617 (.ref 285),hE P "_law_mixed" 628 (.ref 292),hE P "_law_stream" 639 (.ref 299),hE P "_law_digit" 648 (.ref 306),hE P "_law_leaf" 657 (.ref 313),hE P "_law_record" 668 (.ref 320),hE P "_law_rows" 679 (.ref 327),hE P "_law_kind" 688 (.ref 334),hE P "_law_shape" 696 (.ref 341),hE P "_law_bad_forms" 703 (.ref 348),hE P "_law_other_kind" 712 (.ref 355),hE P "_law_asked" 721 (.ref 362),hE P "_law_refused" 732 (.ref 369),hE P "law" 744 (.ref 376)] 74 }) ::
 (nat_lit 15,{ cls:=.type "tuple",data:=.seq #[.type "ValueError"] }) ::
 (nat_lit 22,{ cls:=.type "tuple",data:=.seq #[] }) ::
 (nat_lit 23,{ cls:=.type "dict",data:=.dict #[{ hash:=PyData.keyHash P ("__module__"),key:=.str ("__module__") 196,val:=.str ("oldhands.errors") 187 },{ hash:=PyData.keyHash P ("__firstlineno__"),key:=.str ("__firstlineno__") 200,val:=.int 2 199 },{ hash:=PyData.keyHash P ("__static_attributes__"),key:=.str ("__static_attributes__") 201,val:=.ref 22 },{ hash:=PyData.keyHash P ("__weakref__"),key:=.str ("__weakref__") 203,val:=.ref 25 },{ hash:=PyData.keyHash P ("__doc__"),key:=.str ("__doc__") 204,val:=.none }] 3 }) ::
 (nat_lit 24,{ cls:=.type "type",data:=.cls { name:= "HandError",bases:=[.type "ValueError"],mro:=[.ref 24,.type "ValueError",.type "Exception",.type "BaseException",.type "object"],ns:=23,qualname:= "HandError",subclasses:=[.ref 37,.ref 49,.ref 61] },slots:=#[Option.some (.ref 15),Option.none,Option.some (.str ("HandError") 189),Option.some (.str ("HandError") 197),Option.some (.builtin "ValueError.__new__"),Option.some (.bool Bool.true)] }) ::
 (nat_lit 25,{ cls:=.type "getset_descriptor",data:=.fields #[.str ("__weakref__") 202,.ref 24,.builtin "ExceptionGroup.__weakref__",.none] }) ::
 (nat_lit 28,{ cls:=.type "tuple",data:=.seq #[.ref 24] }) ::
 (nat_lit 35,{ cls:=.type "tuple",data:=.seq #[] }) ::
 (nat_lit 36,{ cls:=.type "dict",data:=.dict #[{ hash:=PyData.keyHash P ("__module__"),key:=.str ("__module__") 214,val:=.str ("oldhands.errors") 187 },{ hash:=PyData.keyHash P ("__firstlineno__"),key:=.str ("__firstlineno__") 218,val:=.int 4 217 },{ hash:=PyData.keyHash P ("__static_attributes__"),key:=.str ("__static_attributes__") 219,val:=.ref 35 },{ hash:=PyData.keyHash P ("__doc__"),key:=.str ("__doc__") 220,val:=.none }] 2 }) ::
 (nat_lit 37,{ cls:=.type "type",data:=.cls { name:= "BadKind",bases:=[.ref 24],mro:=[.ref 37,.ref 24,.type "ValueError",.type "Exception",.type "BaseException",.type "object"],ns:=36,qualname:= "BadKind" },slots:=#[Option.some (.ref 28),Option.none,Option.some (.str ("BadKind") 207),Option.some (.str ("BadKind") 215),Option.some (.builtin "ValueError.__new__"),Option.some (.bool Bool.true)] }) ::
 (nat_lit 40,{ cls:=.type "tuple",data:=.seq #[.ref 24] }) ::
 (nat_lit 47,{ cls:=.type "tuple",data:=.seq #[] }) ::
 (nat_lit 48,{ cls:=.type "dict",data:=.dict #[{ hash:=PyData.keyHash P ("__module__"),key:=.str ("__module__") 230,val:=.str ("oldhands.errors") 187 },{ hash:=PyData.keyHash P ("__firstlineno__"),key:=.str ("__firstlineno__") 234,val:=.int 6 233 },{ hash:=PyData.keyHash P ("__static_attributes__"),key:=.str ("__static_attributes__") 235,val:=.ref 47 },{ hash:=PyData.keyHash P ("__doc__"),key:=.str ("__doc__") 236,val:=.none }] 2 }) ::
 (nat_lit 49,{ cls:=.type "type",data:=.cls { name:= "BadTurn",bases:=[.ref 24],mro:=[.ref 49,.ref 24,.type "ValueError",.type "Exception",.type "BaseException",.type "object"],ns:=48,qualname:= "BadTurn" },slots:=#[Option.some (.ref 40),Option.none,Option.some (.str ("BadTurn") 223),Option.some (.str ("BadTurn") 231),Option.some (.builtin "ValueError.__new__"),Option.some (.bool Bool.true)] }) ::
 (nat_lit 52,{ cls:=.type "tuple",data:=.seq #[.ref 24] }) ::
 (nat_lit 59,{ cls:=.type "tuple",data:=.seq #[] }) ::
 (nat_lit 60,{ cls:=.type "dict",data:=.dict #[{ hash:=PyData.keyHash P ("__module__"),key:=.str ("__module__") 246,val:=.str ("oldhands.errors") 187 },{ hash:=PyData.keyHash P ("__firstlineno__"),key:=.str ("__firstlineno__") 250,val:=.int 8 249 },{ hash:=PyData.keyHash P ("__static_attributes__"),key:=.str ("__static_attributes__") 251,val:=.ref 59 },{ hash:=PyData.keyHash P ("__doc__"),key:=.str ("__doc__") 252,val:=.none }] 2 }) ::
 (nat_lit 61,{ cls:=.type "type",data:=.cls { name:= "BadPiece",bases:=[.ref 24],mro:=[.ref 61,.ref 24,.type "ValueError",.type "Exception",.type "BaseException",.type "object"],ns:=60,qualname:= "BadPiece" },slots:=#[Option.some (.ref 52),Option.none,Option.some (.str ("BadPiece") 239),Option.some (.str ("BadPiece") 247),Option.some (.builtin "ValueError.__new__"),Option.some (.bool Bool.true)] }) ::
 (nat_lit 64,{ cls:=.type "dict",data:=.dict #[{ hash:=PyData.keyHash P ("number"),key:=.str ("number") 275,val:=.int 3 276 },{ hash:=PyData.keyHash P ("text"),key:=.str ("text") 277,val:=.int 2 278 },{ hash:=PyData.keyHash P ("choice"),key:=.str ("choice") 279,val:=.int 2 280 },{ hash:=PyData.keyHash P ("list"),key:=.str ("list") 281,val:=.int 3 282 },{ hash:=PyData.keyHash P ("record"),key:=.str ("record") 283,val:=.int 2 284 },{ hash:=PyData.keyHash P ("rows"),key:=.str ("rows") 285,val:=.int 4 286 }] 6 }) ::
 (nat_lit 68,hC "is_name" "is_name" 294 295 296 [.int 21 0,.int 1 0,.int 0 0,.int 0 0,.int 3 0,.ref 65,.bool Bool.true,.int 181 0,.ref 66,.none,.none,.none,.ref 67,.int 297 0,.int 21 0,hT 298]) ::
 (nat_lit 69,hF "is_name" "is_name" "oldhands.kinds" (top 16) 255 68) ::
 (nat_lit 75,hC "is_whole" "is_whole" 300 301 302 [.int 25 0,.int 1 0,.int 0 0,.int 0 0,.int 3 0,.ref 70,.bool Bool.true,.int 181 0,.ref 71,.none,.ref 72,.ref 73,.ref 74,.int 304 0,.int 25 0,hT 305]) ::
 (nat_lit 76,hF "is_whole" "is_whole" "oldhands.kinds" (top 17) 255 75) ::
 (nat_lit 82,hC "is_whole_within" "is_whole_within" 307 308 309 [.int 27 0,.int 3 0,.int 0 0,.int 0 0,.int 3 0,.ref 77,.bool Bool.true,.int 181 0,.ref 78,.none,.ref 79,.ref 80,.ref 81,.int 313 0,.int 27 0,hT 314]) ::
 (nat_lit 83,hF "is_whole_within" "is_whole_within" "oldhands.kinds" (top 18) 255 82) ::
 (nat_lit 89,hC "made_kind" "made_kind" 316 317 318 [.int 29 0,.int 1 0,.int 0 0,.int 0 0,.int 3 0,.ref 84,.bool Bool.true,.int 181 0,.ref 85,.none,.ref 86,.ref 87,.ref 88,.int 320 0,.int 29 0,hT 321]) ::
 (nat_lit 90,hF "made_kind" "made_kind" "oldhands.kinds" (top 19) 255 89) ::
 (nat_lit 96,hC "is_formed" "is_formed" 323 324 325 [.int 35 0,.int 2 0,.int 0 0,.int 0 0,.int 3 0,.ref 91,.bool Bool.true,.int 181 0,.ref 92,.none,.ref 93,.ref 94,.ref 95,.int 329 0,.int 35 0,hT 330]) ::
 (nat_lit 97,hF "is_formed" "is_formed" "oldhands.kinds" (top 20) 255 96) ::
 (nat_lit 103,hC "has_parts" "has_parts" 332 333 334 [.int 50 0,.int 1 0,.int 0 0,.int 0 0,.int 3 0,.ref 98,.bool Bool.true,.int 181 0,.ref 99,.none,.ref 100,.ref 101,.ref 102,.int 336 0,.int 50 0,hT 337]) ::
 (nat_lit 104,hF "has_parts" "has_parts" "oldhands.kinds" (top 21) 255 103) ::
 (nat_lit 110,hC "are_bounds" "are_bounds" 339 340 341 [.int 54 0,.int 2 0,.int 0 0,.int 0 0,.int 3 0,.ref 105,.bool Bool.true,.int 181 0,.ref 106,.none,.ref 107,.ref 108,.ref 109,.int 344 0,.int 54 0,hT 345]) ::
 (nat_lit 111,hF "are_bounds" "are_bounds" "oldhands.kinds" (top 22) 255 110) ::
 (nat_lit 115,hC "are_words" "are_words" 347 348 349 [.int 58 0,.int 1 0,.int 0 0,.int 0 0,.int 3 0,.ref 112,.bool Bool.true,.int 181 0,.ref 113,.none,.none,.none,.ref 114,.int 350 0,.int 58 0,hT 351]) ::
 (nat_lit 116,hF "are_words" "are_words" "oldhands.kinds" (top 23) 255 115) ::
 (nat_lit 120,hC "are_fields" "are_fields" 353 354 355 [.int 62 0,.int 2 0,.int 0 0,.int 0 0,.int 3 0,.ref 117,.bool Bool.true,.int 181 0,.ref 118,.none,.none,.none,.ref 119,.int 356 0,.int 62 0,hT 357]) ::
 (nat_lit 121,hF "are_fields" "are_fields" "oldhands.kinds" (top 24) 255 120) ::
 (nat_lit 127,hC "is_field" "is_field" 359 360 361 [.int 69 0,.int 2 0,.int 0 0,.int 0 0,.int 3 0,.ref 122,.bool Bool.true,.int 181 0,.ref 123,.none,.ref 124,.ref 125,.ref 126,.int 364 0,.int 69 0,hT 365]) ::
 (nat_lit 128,hF "is_field" "is_field" "oldhands.kinds" (top 25) 255 127) ::
 (nat_lit 134,hC "are_rows" "are_rows" 367 368 369 [.int 73 0,.int 3 0,.int 0 0,.int 0 0,.int 3 0,.ref 129,.bool Bool.true,.int 181 0,.ref 130,.none,.ref 131,.ref 132,.ref 133,.int 374 0,.int 73 0,hT 375]) ::
 (nat_lit 135,hF "are_rows" "are_rows" "oldhands.kinds" (top 26) 255 134) ::
 (nat_lit 141,hC "field_kind" "field_kind" 377 378 379 [.int 78 0,.int 2 0,.int 0 0,.int 0 0,.int 3 0,.ref 136,.bool Bool.true,.int 181 0,.ref 137,.none,.ref 138,.ref 139,.ref 140,.int 384 0,.int 78 0,hT 385]) ::
 (nat_lit 142,hF "field_kind" "field_kind" "oldhands.kinds" (top 27) 255 141) ::
 (nat_lit 148,hC "item_kind" "item_kind" 387 388 389 [.int 85 0,.int 1 0,.int 0 0,.int 0 0,.int 3 0,.ref 143,.bool Bool.true,.int 181 0,.ref 144,.none,.ref 145,.ref 146,.ref 147,.int 391 0,.int 85 0,hT 392]) ::
 (nat_lit 149,hF "item_kind" "item_kind" "oldhands.kinds" (top 28) 255 148) ::
 (nat_lit 153,hC "kinds_within" "kinds_within" 394 395 396 [.int 91 0,.int 1 0,.int 0 0,.int 0 0,.int 3 0,.ref 150,.bool Bool.true,.int 181 0,.ref 151,.none,.none,.none,.ref 152,.int 397 0,.int 91 0,hT 398]) ::
 (nat_lit 154,hF "kinds_within" "kinds_within" "oldhands.kinds" (top 29) 255 153) ::
 (nat_lit 158,hC "kind_many" "kind_many" 400 401 402 [.int 96 0,.int 1 0,.int 0 0,.int 0 0,.int 3 0,.ref 155,.bool Bool.true,.int 181 0,.ref 156,.none,.none,.none,.ref 157,.int 403 0,.int 96 0,hT 404]) ::
 (nat_lit 159,hF "kind_many" "kind_many" "oldhands.kinds" (top 30) 255 158) ::
 (nat_lit 163,hC "least_value" "least_value" 408 409 410 [.int 99 0,.int 1 0,.int 0 0,.int 0 0,.int 3 0,.ref 160,.bool Bool.true,.int 181 0,.ref 161,.none,.none,.none,.ref 162,.int 411 0,.int 99 0,hT 412]) ::
 (nat_lit 164,hF "least_value" "least_value" "oldhands.values" (top 32) 406 163) ::
 (nat_lit 165,{ cls:=.type "dict",data:=.dict #[{ hash:=PyData.keyHash P ("bounds"),key:=.str ("bounds") 422,val:=.int 3 423 },{ hash:=PyData.keyHash P ("scale"),key:=.str ("scale") 424,val:=.int 2 425 },{ hash:=PyData.keyHash P ("shrink"),key:=.str ("shrink") 426,val:=.int 2 427 },{ hash:=PyData.keyHash P ("figures"),key:=.str ("figures") 428,val:=.int 2 429 },{ hash:=PyData.keyHash P ("number"),key:=.str ("number") 430,val:=.int 3 431 },{ hash:=PyData.keyHash P ("words"),key:=.str ("words") 432,val:=.int 3 433 },{ hash:=PyData.keyHash P ("cut"),key:=.str ("cut") 434,val:=.int 2 435 },{ hash:=PyData.keyHash P ("first"),key:=.str ("first") 436,val:=.int 2 437 },{ hash:=PyData.keyHash P ("one"),key:=.str ("one") 438,val:=.int 2 439 },{ hash:=PyData.keyHash P ("out"),key:=.str ("out") 440,val:=.int 1 441 },{ hash:=PyData.keyHash P ("items"),key:=.str ("items") 442,val:=.int 2 443 }] 11 }) ::
 (nat_lit 166,{ cls:=.type "dict",data:=.dict #[{ hash:=PyData.keyHash P ("bounds"),key:=.str ("bounds") 456,val:=.ref 167 },{ hash:=PyData.keyHash P ("scale"),key:=.str ("scale") 458,val:=.ref 168 },{ hash:=PyData.keyHash P ("shrink"),key:=.str ("shrink") 460,val:=.ref 169 },{ hash:=PyData.keyHash P ("figures"),key:=.str ("figures") 462,val:=.ref 170 },{ hash:=PyData.keyHash P ("number"),key:=.str ("number") 464,val:=.ref 171 },{ hash:=PyData.keyHash P ("words"),key:=.str ("words") 466,val:=.ref 172 },{ hash:=PyData.keyHash P ("cut"),key:=.str ("cut") 468,val:=.ref 173 },{ hash:=PyData.keyHash P ("first"),key:=.str ("first") 470,val:=.ref 174 },{ hash:=PyData.keyHash P ("out"),key:=.str ("out") 473,val:=.ref 175 },{ hash:=PyData.keyHash P ("items"),key:=.str ("items") 475,val:=.ref 176 }] 10 }) ::
 (nat_lit 167,{ cls:=.type "tuple",data:=.seq #[.str ("number") 457] }) ::
 (nat_lit 168,{ cls:=.type "tuple",data:=.seq #[.str ("number") 459] }) ::
 (nat_lit 169,{ cls:=.type "tuple",data:=.seq #[.str ("number") 461] }) ::
 (nat_lit 170,{ cls:=.type "tuple",data:=.seq #[.str ("number") 463] }) ::
 (nat_lit 171,{ cls:=.type "tuple",data:=.seq #[.str ("text") 465] }) ::
 (nat_lit 172,{ cls:=.type "tuple",data:=.seq #[.str ("choice") 467] }) ::
 (nat_lit 173,{ cls:=.type "tuple",data:=.seq #[.str ("text") 469] }) ::
 (nat_lit 174,{ cls:=.type "tuple",data:=.seq #[.str ("list") 471,.str ("rows") 472] }) ::
 (nat_lit 175,{ cls:=.type "tuple",data:=.seq #[.str ("list") 474] }) ::
 (nat_lit 176,{ cls:=.type "tuple",data:=.seq #[.str ("list") 476] }) ::
 (nat_lit 182,hC "figures_of" "figures_of" 488 489 490 [.int 116 0,.int 1 0,.int 0 0,.int 0 0,.int 3 0,.ref 177,.bool Bool.true,.int 181 0,.ref 178,.none,.ref 179,.ref 180,.ref 181,.int 492 0,.int 116 0,hT 493]) ::
 (nat_lit 183,hF "figures_of" "figures_of" "oldhands.turns" (top 39) 414 182) ::
 (nat_lit 187,hC "number_of" "number_of" 495 496 497 [.int 118 0,.int 1 0,.int 0 0,.int 0 0,.int 3 0,.ref 184,.bool Bool.true,.int 181 0,.ref 185,.none,.none,.none,.ref 186,.int 498 0,.int 118 0,hT 499]) ::
 (nat_lit 188,hF "number_of" "number_of" "oldhands.turns" (top 40) 414 187) ::
 (nat_lit 194,hC "nearest" "nearest" 501 502 503 [.int 125 0,.int 3 0,.int 0 0,.int 0 0,.int 3 0,.ref 189,.bool Bool.true,.int 181 0,.ref 190,.none,.ref 191,.ref 192,.ref 193,.int 507 0,.int 125 0,hT 508]) ::
 (nat_lit 195,hF "nearest" "nearest" "oldhands.turns" (top 41) 414 194) ::
 (nat_lit 201,hC "is_factor" "is_factor" 510 511 512 [.int 127 0,.int 1 0,.int 0 0,.int 0 0,.int 3 0,.ref 196,.bool Bool.true,.int 181 0,.ref 197,.none,.ref 198,.ref 199,.ref 200,.int 514 0,.int 127 0,hT 515]) ::
 (nat_lit 202,hF "is_factor" "is_factor" "oldhands.turns" (top 42) 414 201) ::
 (nat_lit 208,hC "kind_behind" "kind_behind" 517 518 519 [.int 129 0,.int 2 0,.int 0 0,.int 0 0,.int 3 0,.ref 203,.bool Bool.true,.int 181 0,.ref 204,.none,.ref 205,.ref 206,.ref 207,.int 522 0,.int 129 0,hT 523]) ::
 (nat_lit 209,hF "kind_behind" "kind_behind" "oldhands.turns" (top 43) 414 208) ::
 (nat_lit 215,hC "is_turn_of" "is_turn_of" 525 526 527 [.int 136 0,.int 2 0,.int 0 0,.int 0 0,.int 3 0,.ref 210,.bool Bool.true,.int 181 0,.ref 211,.none,.ref 212,.ref 213,.ref 214,.int 531 0,.int 136 0,hT 532]) ::
 (nat_lit 216,hF "is_turn_of" "is_turn_of" "oldhands.turns" (top 44) 414 215) ::
 (nat_lit 222,hC "has_turn_parts" "has_turn_parts" 534 535 536 [.int 157 0,.int 1 0,.int 0 0,.int 0 0,.int 3 0,.ref 217,.bool Bool.true,.int 181 0,.ref 218,.none,.ref 219,.ref 220,.ref 221,.int 538 0,.int 157 0,hT 539]) ::
 (nat_lit 223,hF "has_turn_parts" "has_turn_parts" "oldhands.turns" (top 45) 414 222) ::
 (nat_lit 229,hC "most_figures" "most_figures" 541 542 543 [.int 161 0,.int 2 0,.int 0 0,.int 0 0,.int 3 0,.ref 224,.bool Bool.true,.int 181 0,.ref 225,.none,.ref 226,.ref 227,.ref 228,.int 546 0,.int 161 0,hT 547]) ::
 (nat_lit 230,hF "most_figures" "most_figures" "oldhands.turns" (top 46) 414 229) ::
 (nat_lit 234,hC "are_led_words" "are_led_words" 549 550 551 [.int 163 0,.int 3 0,.int 0 0,.int 0 0,.int 3 0,.ref 231,.bool Bool.true,.int 181 0,.ref 232,.none,.none,.none,.ref 233,.int 552 0,.int 163 0,hT 553]) ::
 (nat_lit 235,hF "are_led_words" "are_led_words" "oldhands.turns" (top 47) 414 234) ::
 (nat_lit 239,hC "words_behind" "words_behind" 555 556 557 [.int 178 0,.int 1 0,.int 0 0,.int 0 0,.int 3 0,.ref 236,.bool Bool.true,.int 181 0,.ref 237,.none,.none,.none,.ref 238,.int 558 0,.int 178 0,hT 559]) ::
 (nat_lit 240,hF "words_behind" "words_behind" "oldhands.turns" (top 48) 414 239) ::
 (nat_lit 246,hC "led_kind" "led_kind" 561 562 563 [.int 180 0,.int 2 0,.int 0 0,.int 0 0,.int 3 0,.ref 241,.bool Bool.true,.int 181 0,.ref 242,.none,.ref 243,.ref 244,.ref 245,.int 567 0,.int 180 0,hT 568]) ::
 (nat_lit 247,hF "led_kind" "led_kind" "oldhands.turns" (top 49) 414 246) ::
 (nat_lit 253,hC "turn_about" "turn_about" 570 571 572 [.int 199 0,.int 2 0,.int 0 0,.int 0 0,.int 3 0,.ref 248,.bool Bool.true,.int 181 0,.ref 249,.none,.ref 250,.ref 251,.ref 252,.int 575 0,.int 199 0,hT 576]) ::
 (nat_lit 254,hF "turn_about" "turn_about" "oldhands.turns" (top 50) 414 253) ::
 (nat_lit 258,hC "led_about" "led_about" 578 579 580 [.int 202 0,.int 2 0,.int 0 0,.int 0 0,.int 3 0,.ref 255,.bool Bool.true,.int 181 0,.ref 256,.none,.none,.none,.ref 257,.int 581 0,.int 202 0,hT 582]) ::
 (nat_lit 259,hF "led_about" "led_about" "oldhands.turns" (top 51) 414 258) ::
 (nat_lit 265,hC "turned" "turned" 584 585 586 [.int 223 0,.int 3 0,.int 0 0,.int 0 0,.int 3 0,.ref 260,.bool Bool.true,.int 181 0,.ref 261,.none,.ref 262,.ref 263,.ref 264,.int 590 0,.int 223 0,hT 591]) ::
 (nat_lit 266,hF "turned" "turned" "oldhands.turns" (top 52) 414 265) ::
 (nat_lit 270,hC "led_value" "led_value" 593 594 595 [.int 226 0,.int 3 0,.int 0 0,.int 0 0,.int 3 0,.ref 267,.bool Bool.true,.int 181 0,.ref 268,.none,.none,.none,.ref 269,.int 596 0,.int 226 0,hT 597]) ::
 (nat_lit 271,hF "led_value" "led_value" "oldhands.turns" (top 53) 414 270) ::
 (nat_lit 277,hC "read_number" "read_number" 599 600 601 [.int 249 0,.int 2 0,.int 0 0,.int 0 0,.int 3 0,.ref 272,.bool Bool.true,.int 181 0,.ref 273,.none,.ref 274,.ref 275,.ref 276,.int 605 0,.int 249 0,hT 606]) ::
 (nat_lit 278,hF "read_number" "read_number" "oldhands.turns" (top 54) 414 277) ::
 (nat_lit 284,hC "twin_of" "twin_of" 608 609 610 [.int 254 0,.int 3 0,.int 0 0,.int 0 0,.int 3 0,.ref 279,.bool Bool.true,.int 181 0,.ref 280,.none,.ref 281,.ref 282,.ref 283,.int 615 0,.int 254 0,hT 616]) ::
 (nat_lit 285,hF "twin_of" "twin_of" "oldhands.turns" (top 55) 414 284) ::
 (nat_lit 291,hC "_law_mixed" "_law_mixed" 620 621 622 [.int 258 0,.int 2 0,.int 0 0,.int 0 0,.int 3 0,.ref 286,.bool Bool.true,.int 181 0,.ref 287,.none,.ref 288,.ref 289,.ref 290,.int 626 0,.int 258 0,hT 627]) ::
 (nat_lit 292,hF "_law_mixed" "_law_mixed" "law_oldhands_k16_turns_refused" (top 57) 618 291) ::
 (nat_lit 298,hC "_law_stream" "_law_stream" 629 630 631 [.int 261 0,.int 2 0,.int 0 0,.int 0 0,.int 3 0,.ref 293,.bool Bool.true,.int 181 0,.ref 294,.none,.ref 295,.ref 296,.ref 297,.int 637 0,.int 261 0,hT 638]) ::
 (nat_lit 299,hF "_law_stream" "_law_stream" "law_oldhands_k16_turns_refused" (top 58) 618 298) ::
 (nat_lit 305,hC "_law_digit" "_law_digit" 640 641 642 [.int 271 0,.int 2 0,.int 0 0,.int 0 0,.int 3 0,.ref 300,.bool Bool.true,.int 181 0,.ref 301,.none,.ref 302,.ref 303,.ref 304,.int 646 0,.int 271 0,hT 647]) ::
 (nat_lit 306,hF "_law_digit" "_law_digit" "law_oldhands_k16_turns_refused" (top 59) 618 305) ::
 (nat_lit 312,hC "_law_leaf" "_law_leaf" 649 650 651 [.int 275 0,.int 1 0,.int 0 0,.int 0 0,.int 3 0,.ref 307,.bool Bool.true,.int 181 0,.ref 308,.none,.ref 309,.ref 310,.ref 311,.int 655 0,.int 275 0,hT 656]) ::
 (nat_lit 313,hF "_law_leaf" "_law_leaf" "law_oldhands_k16_turns_refused" (top 60) 618 312) ::
 (nat_lit 319,hC "_law_record" "_law_record" 658 659 660 [.int 283 0,.int 3 0,.int 0 0,.int 0 0,.int 3 0,.ref 314,.bool Bool.true,.int 181 0,.ref 315,.none,.ref 316,.ref 317,.ref 318,.int 666 0,.int 283 0,hT 667]) ::
 (nat_lit 320,hF "_law_record" "_law_record" "law_oldhands_k16_turns_refused" (top 61) 618 319) ::
 (nat_lit 326,hC "_law_rows" "_law_rows" 669 670 671 [.int 289 0,.int 2 0,.int 0 0,.int 0 0,.int 3 0,.ref 321,.bool Bool.true,.int 181 0,.ref 322,.none,.ref 323,.ref 324,.ref 325,.int 677 0,.int 289 0,hT 678]) ::
 (nat_lit 327,hF "_law_rows" "_law_rows" "law_oldhands_k16_turns_refused" (top 62) 618 326) ::
 (nat_lit 333,hC "_law_kind" "_law_kind" 680 681 682 [.int 294 0,.int 2 0,.int 0 0,.int 0 0,.int 3 0,.ref 328,.bool Bool.true,.int 181 0,.ref 329,.none,.ref 330,.ref 331,.ref 332,.int 686 0,.int 294 0,hT 687]) ::
 (nat_lit 334,hF "_law_kind" "_law_kind" "law_oldhands_k16_turns_refused" (top 63) 618 333) ::
 (nat_lit 347,hC "_law_bad_forms" "_law_bad_forms" 697 698 699 [.int 308 0,.int 0 0,.int 0 0,.int 0 0,.int 3 0,.ref 342,.bool Bool.true,.int 181 0,.ref 343,.none,.ref 344,.ref 345,.ref 346,.int 701 0,.int 308 0,hT 702]) ::
 (nat_lit 348,hF "_law_bad_forms" "_law_bad_forms" "law_oldhands_k16_turns_refused" (top 65) 618 347) ::
 (nat_lit 354,hC "_law_other_kind" "_law_other_kind" 704 705 706 [.int 315 0,.int 1 0,.int 0 0,.int 0 0,.int 3 0,.ref 349,.bool Bool.true,.int 181 0,.ref 350,.none,.ref 351,.ref 352,.ref 353,.int 710 0,.int 315 0,hT 711]) ::
 (nat_lit 355,hF "_law_other_kind" "_law_other_kind" "law_oldhands_k16_turns_refused" (top 66) 618 354) ::
 (nat_lit 361,hC "_law_asked" "_law_asked" 713 714 715 [.int 331 0,.int 3 0,.int 0 0,.int 0 0,.int 3 0,.ref 356,.bool Bool.true,.int 181 0,.ref 357,.none,.ref 358,.ref 359,.ref 360,.int 719 0,.int 331 0,hT 720]) ::
 (nat_lit 362,hF "_law_asked" "_law_asked" "law_oldhands_k16_turns_refused" (top 67) 618 361) ::
 (nat_lit 368,hC "_law_refused" "_law_refused" 722 723 724 [.int 339 0,.int 2 0,.int 0 0,.int 0 0,.int 3 0,.ref 363,.bool Bool.true,.int 181 0,.ref 364,.none,.ref 365,.ref 366,.ref 367,.int 730 0,.int 339 0,hT 731]) ::
 (nat_lit 369,hF "_law_refused" "_law_refused" "law_oldhands_k16_turns_refused" (top 68) 618 368) ::
 (nat_lit 375,hC "law" "law" 733 734 735 [.int 349 0,.int 1 0,.int 0 0,.int 0 0,.int 3 0,.ref 370,.bool Bool.true,.int 181 0,.ref 371,.none,.ref 372,.ref 373,.ref 374,.int 742 0,.int 349 0,hT 743]) ::
 (nat_lit 376,hF "law" "law" "law_oldhands_k16_turns_refused" (top 69) 618 375) :: []
def hA:List Addr:=[2,3,15,22,23,24,25,28,35,36,37,40,47,48,49,52,59,60,61,64,68,69,75,76,82,83,89,90,96,97,103,104,110,111,115,116,120,121,127,128,134,135,141,142,148,149,153,154,158,159,163,164,165,166,167,168,169,170,171,172,173,174,175,176,182,183,187,188,194,195,201,202,208,209,215,216,222,223,229,230,234,235,239,240,246,247,253,254,258,259,265,266,270,271,277,278,284,285,291,292,298,299,305,306,312,313,319,320,326,327,333,334,347,348,354,355,361,362,368,369,375,376]
theorem hKA:∀ P,hA=(hK P).map (·.1):=fun _=>by kernel_rfl
abbrev hH:PySem.W.Hook:=PySem.W.kHook hK hA hKA
abbrev hQ:Program:=PySem.W.view PySem.Challenge.pw_oldhands_k16_turns_refused [69]
def hW:List Str:= "HandError" :: "BadKind" :: "BadTurn" :: "BadPiece" :: "LETTERS" :: "LONGEST_NAME" :: "EACH" :: "MOST_SIGNS" :: "MOST_WORDS" :: "MOST_FIELDS" :: "MOST_ITEMS" :: "MOST_KINDS" :: "DEEPEST" :: "PART_COUNTS" :: "is_name" :: "is_whole" :: "is_whole_within" :: "made_kind" :: "is_formed" :: "has_parts" :: "are_bounds" :: "are_words" :: "are_fields" :: "is_field" :: "are_rows" :: "field_kind" :: "item_kind" :: "kinds_within" :: "kind_many" :: "least_value" :: "FIGURES" :: "LEAST_FACTOR" :: "GREATEST_FACTOR" :: "TURN_COUNTS" :: "TURN_SORTS" :: "figures_of" :: "number_of" :: "nearest" :: "is_factor" :: "kind_behind" :: "is_turn_of" :: "has_turn_parts" :: "most_figures" :: "are_led_words" :: "words_behind" :: "led_kind" :: "turn_about" :: "led_about" :: "turned" :: "led_value" :: "read_number" :: "twin_of" :: "_law_mixed" :: "_law_stream" :: "_law_digit" :: "_law_leaf" :: "_law_record" :: "_law_rows" :: "_law_kind" :: "_law_shape" :: "_law_bad_forms" :: "_law_other_kind" :: "_law_asked" :: "_law_refused" :: []
abbrev hX (s:Shared):Bool:=PySem.W.recOk (PySem.W.RowW.records (PySem.W.OpenRow.toRowW PySem.Challenge.rw_oldhands_k16_turns_refused.row)) s
theorem px {p q:Program} {loose:List Str} {Xt:Shared→Bool} {α:Type} {Yf:Shared→α} {Ya:World→α} {N:Nat} (row:String) (h0:∀ w:World,(PySem.W.openEnds treeTable p (w.withFollow row false) N).map (fun s=>(PySem.W.openSeen q loose (importedModules p.main.body) Xt true s,Yf s))=some (PySem.W.openGood q loose,Ya (w.withFollow row false)))
  (h1:∀ w:World,(PySem.W.openEnds treeTable p (w.withFollow row true) N).map (fun s=>(PySem.W.openSeen q loose (importedModules p.main.body) Xt true s,Yf s))=some (PySem.W.openGood q loose,Ya (w.withFollow row true))):PySem.W.LeftO p q loose Xt Yf Ya N:=fun w=>by
 have e:=World.withFollow_self w row
 cases hb:w.params.followText row <;> rw [hb] at e
 ·have z:=h0 w;rw [e] at z;exact z
 ·have z:=h1 w;rw [e] at z;exact z
theorem hlF:∀ w:World,(PySem.W.openEnds treeTable PySem.Challenge.pw_oldhands_k16_turns_refused (w.withFollow "special-get-raises" false) 5720).map (fun s=>(PySem.W.openSeen hQ hW (importedModules PySem.Challenge.pw_oldhands_k16_turns_refused.main.body) hX true s,hH.obs s))=some (PySem.W.openGood hQ hW,hH.val (w.withFollow "special-get-raises" false)):=fun w=>by kernel_rfl
theorem hlT:∀ w:World,(PySem.W.openEnds treeTable PySem.Challenge.pw_oldhands_k16_turns_refused (w.withFollow "special-get-raises" true) 5720).map (fun s=>(PySem.W.openSeen hQ hW (importedModules PySem.Challenge.pw_oldhands_k16_turns_refused.main.body) hX true s,hH.obs s))=some (PySem.W.openGood hQ hW,hH.val (w.withFollow "special-get-raises" true)):=fun w=>by kernel_rfl
theorem hl:PySem.W.LeftO PySem.Challenge.pw_oldhands_k16_turns_refused hQ hW hX hH.obs hH.val 5720:=px "special-get-raises" hlF hlT
theorem said:PySem.Challenge.rw_oldhands_k16_turns_refused.wellSaid=true:=by kernel_rfl
end K16
namespace L2
open PySem PySem.Spec PyProof.Rows
abbrev Key:=Sum Int Str
def hV:Key→Value→Bool
 | .inl k,v=>Value.isInt k v
 | .inr x,v=>Value.isStrOf x v
def ua (w:World):Key→Int
 | .inl k=>hashInt k
 | .inr x=>hashStr w x
theorem aM:∀ {k:Key} {v:Value},hV k v=true→(∃ i t,k=Sum.inl i∧v=Value.int i t)∨(∃ x t,k=Sum.inr x∧v=Value.str x t)
 | .inl i,v,h=>by
  obtain ⟨t,e⟩:=Value.isInt_shape (k:=i) (v:=v) h;exact .inl ⟨i,t,rfl,e⟩
 | .inr x,v,h=>by
  obtain ⟨t,e⟩:=Value.isStrOf_shape (x:=x) (v:=v) h;exact .inr ⟨x,t,rfl,e⟩
theorem mH (i:Int) (t:Tok):hV (.inl i) (.int i t)=true:=by simp [hV,Value.isInt]
theorem mI (x:Str) (t:Tok):hV (.inr x) (.str x t)=true:=by simp [hV,Value.isStrOf]
theorem qY (a b:Int):decide ((Sum.inl a:Key)=Sum.inl b)=(a == b):=by
 by_cases e:a=b
 ·subst e;simp
 ·have h:¬ (Sum.inl a:Key)=Sum.inl b:=fun q=>e (Sum.inl.inj q);rw [decide_eq_false h];exact (beq_eq_false_iff_ne.mpr e).symm
theorem qZ (a b:Str):decide ((Sum.inr a:Key)=Sum.inr b)=decide (a=b):=by
 by_cases e:a=b
 ·subst e;simp
 ·have h:¬ (Sum.inr a:Key)=Sum.inr b:=fun q=>e (Sum.inr.inj q);rw [decide_eq_false h,decide_eq_false e]
theorem q9 (a:Int) (b:Str):decide ((Sum.inl a:Key)=Sum.inr b)=false:=decide_eq_false (fun q=>nomatch q)
theorem re (a:Str) (b:Int):decide ((Sum.inr a:Key)=Sum.inl b)=false:=decide_eq_false (fun q=>nomatch q)
def az (prog:Program) (w:World):PySem.KeyKind prog w Key where
 is:=hV
 hash:=ua w
 inj:=fun v a b ha hb=>by
  rcases aM ha with ⟨i,t,rfl,rfl⟩ | ⟨x,t,rfl,rfl⟩
  ·rcases aM hb with ⟨j,u,rfl,e⟩ | ⟨y,u,rfl,e⟩
   ·injection e with e1 _;rw [e1]
   ·exact nomatch e
  ·rcases aM hb with ⟨j,u,rfl,e⟩ | ⟨y,u,rfl,e⟩
   ·exact nomatch e
   ·injection e with e1 _;rw [e1]
 byValue:=fun k v h=>by
  rcases aM h with ⟨i,t,rfl,rfl⟩ | ⟨x,t,rfl,rfl⟩ <;> rfl
 pyHash:=fun hv h=>by
  rcases aM hv with ⟨i,t,rfl,rfl⟩ | ⟨x,t,rfl,rfl⟩
  ·exact wpAny_pyHash_int h
  ·exact wpAny_pyHash_str h
 eqBool:=fun hu hv h=>by
  rcases aM hu with ⟨i,t,rfl,rfl⟩ | ⟨x,t,rfl,rfl⟩
  ·rcases aM hv with ⟨j,u,rfl,rfl⟩ | ⟨y,u,rfl,rfl⟩
   ·rw [qY] at h;exact wpAny_eqBool_int h
   ·rw [q9] at h;exact SeqAt.EqAt.int_str i t y u _ _ _ _ h
  ·rcases aM hv with ⟨j,u,rfl,rfl⟩ | ⟨y,u,rfl,rfl⟩
   ·rw [re] at h;exact SeqAt.EqAt.str_int x t j u _ _ _ _ h
   ·rw [qZ] at h;exact wpAny_eqBool_str h
 «strs»:=fun k x t v h=>by
  rcases aM h with ⟨i,u,rfl,e⟩ | ⟨y,u,rfl,e⟩
  ·exact nomatch e
  ·injection e with e1 _
   subst e1
   cases v <;> rfl
theorem jK (prog:Program) (w:World) (i:Int) (t:Tok):(az prog w).is (.inl i) (.int i t)=true:=mH i t
theorem jL (prog:Program) (w:World) (x:Str) (t:Tok):(az prog w).is (.inr x) (.str x t)=true:=mI x t
inductive V where
 | non | bl (b:Bool) | int (i:Int) | str (x:Str) | byt (b:Array UInt8) | flt (b:UInt64) | ref (a:Addr) | ty (n:String)
 deriving DecidableEq
def RelV:V→Value→Prop
 | .non,u=>u=Value.none
 | .bl b,u=>u=Value.bool b
 | .int i,u=>∃ t,u=Value.int i t
 | .str x,u=>∃ t,u=Value.str x t
 | .byt b,u=>∃ t,u=Value.bytes b t
 | .flt b,u=>∃ t,u=Value.float b t
 | .ref a,u=>u=Value.ref a
 | .ty n,u=>u=Value.type n
abbrev Vals:List V→List Value→Prop:=Paired RelV
theorem Vals.length {xs:List V} {us:List Value} (r:Vals xs us):xs.length=us.length:=Paired.length r
theorem Vals.get:∀ {xs:List V} {us:List Value} {i:Nat} {x:V},Vals xs us→xs[i]?=some x→∃ u,us[i]?=some u∧RelV x u
 | _,_,_,_,.nil,e=>by simp at e
 | _,_,0,_,.cons r _,e=>by simp at e;subst e;exact ⟨_,rfl,r⟩
 | _,_,i+1,x,.cons _ t,e=>by
  obtain ⟨u,h1,h2⟩:=Vals.get (i:=i) (x:=x) t (by simpa using e);exact ⟨u,by simpa using h1,h2⟩
theorem Vals.set {x:V} {u:Value} (r:RelV x u):∀ {xs:List V} {us:List Value} (i:Nat),Vals xs us→Vals (xs.set i x) (us.set i u)
 | _,_,_,.nil=>.nil
 | _,_,0,.cons _ t=>.cons r t
 | _,_,i+1,.cons q t=>.cons q (Vals.set r i t)
theorem Vals.append:∀ {xs ys:List V} {us ws:List Value},Vals xs us→Vals ys ws→Vals (xs++ys) (us++ws)
 | _,_,_,_,.nil,s=>s
 | _,_,_,_,.cons r t,s=>.cons r (Vals.append t s)
theorem Vals.take:∀ {xs:List V} {us:List Value} (n:Nat),Vals xs us→Vals (xs.take n) (us.take n)
 | _,_,0,_=>.nil
 | _,_,_+1,.nil=>.nil
 | _,_,n+1,.cons r t=>.cons r (Vals.take n t)
theorem Vals.drop:∀ {xs:List V} {us:List Value} (n:Nat),Vals xs us→Vals (xs.drop n) (us.drop n)
 | _,_,0,r=>r
 | _,_,_+1,.nil=>.nil
 | _,_,n+1,.cons _ t=>Vals.drop n t
def RelO:Option V→Option Value→Prop
 | some v,some u=>RelV v u
 | none,none=>True
 | _,_=>False
def KV {κ:Type}:List (κ×V)→List (κ×Value)→Prop:=Paired fun (p:κ×V) (q:κ×Value)=>p.1=q.1∧RelV p.2 q.2
def kV:Key→V
 | .inl i=>.int i
 | .inr x=>.str x
inductive HO where
 | lst (xs:List V)
 | tup (xs:List V)
 | dK (kvs:List (Key×V)) | dT (kvs:List (List Key×V))
 | set (S:Int→Bool) (n:Nat)
 | ins (C dx:Addr) (fs:List (Str×V))
 | own (x:Addr)
 | xd (fs:List (Str×V))
 | met (f x:Addr)
 | rng (lo hi:Int)
 | frz (o:Obj) (u:HO)
 | tbl (ps:Array Value)
 | ext (φ:Heap→Prop)
abbrev Hp:=Addr→Option HO
def upd (H:Hp) (a:Addr) (o:HO):Hp:=fun b=>if b=a then some o else H b
theorem ac {H:Hp} {a:Addr} {o:HO}:upd H a o a=some o:=by unfold upd;rw [if_pos rfl]
theorem ah {H:Hp} {a b:Addr} {o:HO} (h:b≠a):upd H a o b=H b:=by unfold upd;rw [if_neg h]
theorem pz {H:Hp} {a:Addr} {o u:HO}:upd (upd H a o) a u=upd H a u:=by
 funext b;unfold upd;split <;> rfl
theorem l5 {H:Hp} {a b:Addr} {o u:HO} (h:H a=some o) (h':H b=some u) (d:o≠u):a≠b:=by
 intro e;subst e;rw [h] at h';exact d (Option.some.inj h')
theorem aj {H:Hp} {a b:Addr} {o:HO} (h:H a=some o) (h':H b=none):a≠b:=by
 intro e;subst e;rw [h] at h';cases h'
section
variable (P:Program) (w:World)
def ObjOk (H:Hp) (h:Heap) (a:Addr):HO→Prop
 | .lst xs=>xs.length≤sizeLine∧∃ (its:List Value) (n:Nat),Vals xs its∧h.get? a=some { cls:=.type "list",data:=.seq its.toArray n }
 | .tup xs=>xs.length≤sizeLine∧∃ its:List Value,Vals xs its∧IsTup h a its.toArray
 | .dK kvs=>kvs.length≤sizeLine∧(a == sysModules)=false∧∃ vs,KV kvs vs∧h.DictOf (az P w) a vs
 | .dT kvs=>kvs.length≤sizeLine∧(a == sysModules)=false∧∃ xs:List (List Key×Addr×Value),
   Paired (fun (p:List Key×V) (q:List Key×Addr×Value)=>p.1=q.1∧H q.2.1=some (.tup (p.1.map kV))∧RelV p.2 q.2.2) kvs xs ∧
   ∃ o es ep,h.get? a=some o∧o.ExactDict∧o.data=.dict es ep∧es.toList=xs.map (entryOfKey (tupleKind (az P w)))∧(xs.map (·.1)).Nodup
 | .set S n=>h.SetOf (intKind P w) a S n
 | .ins C dx fs=>H dx=some (.own a)∧fs.length≤1000∧dx≠a∧h.get? a=some (PySem.W.instObj C dx) ∧
   ∃ mA,h.Ns1 dx mA∧(∀ f,RelO (fs.lookup f) (mA f))∧PySem.Within mA (fs.map (·.1))
 | .own _=>∃ o,h.get? a=some o
 | .xd fs=>∃ mA,h.Ns1 a mA∧∀ f,RelO (fs.lookup f) (mA f)
 | .rng lo hi=>∃ t u v,h.get? a=some { cls:=.type "range",data:=.fields #[.int lo t,.int hi u,.int 1 v] }
 | .frz o u=>h.get? a=some o∧ObjOk H h a u
 | .tbl ps=>h.get? a=some { cls:=.none,data:=.fields ps }
 | .met f x=>h.get? a=some (PySem.W.methodObj (.ref f) (.ref x))
 | .ext φ=>φ h∧(∃ o,h.get? a=some o)∧∀ h1 h2:Heap,φ h1→(∀ o,h1.get? a=some o→h2.get? a=some o)→φ h2
def HOk (H:Hp) (h:Heap):Prop:=∀ a o,H a=some o→ObjOk P w H h a o
end
section
variable {P:Program} {w:World} {H H':Hp} {h h':Heap} {a:Addr} {o:HO}
theorem ObjOk.lt (x:ObjOk P w H h a o):a < h.objs.size:=by
 cases o with
 | lst xs=>obtain ⟨_,_,_,_,e⟩:=x;exact Heap.lt_size e
 | tup xs=>obtain ⟨_,_,_,p⟩:=x;exact p.lt
 | dK kvs=>obtain ⟨_,_,_,_,o,_,_,e,_⟩:=x;exact Heap.lt_size e
 | dT kvs=>obtain ⟨_,_,_,_,o,_,_,e,_⟩:=x;exact Heap.lt_size e
 | set S n=>obtain ⟨o,_,_,_,e,_⟩:=x;exact Heap.lt_size e
 | ins C dx fs=>obtain ⟨_,_,_,e,_⟩:=x;exact Heap.lt_size e
 | own y=>obtain ⟨_,e⟩:=x;exact Heap.lt_size e
 | xd fs=>obtain ⟨_,⟨_,_,_,e,_⟩,_⟩:=x;exact Heap.lt_size e
 | rng lo hi=>obtain ⟨_,_,_,e⟩:=x;exact Heap.lt_size e
 | frz ob u=>obtain ⟨e,_⟩:=x;exact Heap.lt_size e
 | tbl ps=>exact Heap.lt_size (show h.get? a=some _ from x)
 | met f y=>exact Heap.lt_size (show h.get? a=some _ from x)
 | ext φ=>obtain ⟨_,⟨_,e⟩,_⟩:=x;exact Heap.lt_size e
theorem Paired.mapP {α β:Type} {F G:α→β→Prop}:∀ {l₁:List α} {l₂:List β},Paired F l₁ l₂→(∀ a b,F a b→G a b)→Paired G l₁ l₂
 | _,_,.nil,_=>.nil
 | _,_,.cons r t,f=>.cons (f _ _ r) (Paired.mapP t f)
theorem ObjOk.stay (x:ObjOk P w H h a o) (k:∀ b u,(b=a∨H b=some (.own a))→h.get? b=some u→h'.get? b=some u)
  (ho:∀ b,H b=some (.own a)→H' b=some (.own a)) (ht:∀ b xs,H b=some (.tup xs)→H' b=some (.tup xs)):ObjOk P w H' h' a o:=by
 induction o with
 | lst xs=>obtain ⟨z,its,n,r,e⟩:=x;exact ⟨z,its,n,r,k _ _ (.inl rfl) e⟩
 | tup xs=>obtain ⟨z,its,r,ob,e,c⟩:=x;exact ⟨z,its,r,ob,k _ _ (.inl rfl) e,c⟩
 | dK kvs=>obtain ⟨z,y,vs,r,ob,es,ep,e,c⟩:=x;exact ⟨z,y,vs,r,ob,es,ep,k _ _ (.inl rfl) e,c⟩
 | dT kvs =>
  obtain ⟨z,y,xs,r,ob,es,ep,e,c⟩:=x;exact ⟨z,y,xs,Paired.mapP r fun p q z=>⟨z.1,ht _ _ z.2.1,z.2.2⟩,ob,es,ep,k _ _ (.inl rfl) e,c⟩
 | set S n=>obtain ⟨ob,es,ep,t,e,c⟩:=x;exact ⟨ob,es,ep,t,k _ _ (.inl rfl) e,c⟩
 | ins C dx fs =>
  obtain ⟨d,z,ne,e,mA,⟨od,es,ep,e2,c⟩,r⟩:=x;exact ⟨ho _ d,z,ne,k _ _ (.inl rfl) e,mA,⟨od,es,ep,k _ _ (.inr d) e2,c⟩,r⟩
 | own y=>obtain ⟨ob,e⟩:=x;exact ⟨ob,k _ _ (.inl rfl) e⟩
 | xd fs=>obtain ⟨mA,⟨od,es,ep,e,c⟩,r⟩:=x;exact ⟨mA,⟨od,es,ep,k _ _ (.inl rfl) e,c⟩,r⟩
 | rng lo hi=>obtain ⟨t,u,v,e⟩:=x;exact ⟨t,u,v,k _ _ (.inl rfl) e⟩
 | frz ob u ih=>obtain ⟨e,q⟩:=x;exact ⟨k _ _ (.inl rfl) e,ih q⟩
 | tbl ps =>
  have e:h.get? a=some { cls:=.none,data:=.fields ps }:=x;show h'.get? a=some { cls:=.none,data:=.fields ps };exact k a _ (.inl rfl) e
 | met f y =>
  have e:h.get? a=some (PySem.W.methodObj (.ref f) (.ref y)):=x;show h'.get? a=some (PySem.W.methodObj (.ref f) (.ref y));exact k a _ (.inl rfl) e
 | ext φ=>obtain ⟨p,⟨o,e⟩,st⟩:=x;exact ⟨st _ _ p fun o q=>k _ _ (.inl rfl) q,⟨o,k _ _ (.inl rfl) e⟩,st⟩
theorem HOk.lt (x:HOk P w H h) (e:H a=some o):a < h.objs.size:=(x a o e).lt
theorem HOk.fresh (x:HOk P w H h) (e:h.objs.size≤a):H a=none:=by
 cases q:H a with
 | none=>rfl
 | some u=>exact absurd (Nat.lt_of_lt_of_le (x.lt q) e) (Nat.lt_irrefl _)
theorem HOk.kept (x:HOk P w H h) (k:∀ b u,h.get? b=some u→h'.get? b=some u):HOk P w H h':=fun a o e =>
 (x a o e).stay (fun b u _ q=>k b u q) (fun _ q=>q) fun _ _ q=>q
theorem HOk.laid (x:HOk P w H h) (k:∀ b u,h.get? b=some u→h'.get? b=some u) (hp:h.objs.size≤a) (new:ObjOk P w (upd H a o) h' a o):HOk P w (upd H a o) h':=fun b u e=>by
 have hn:=x.fresh hp
 by_cases hb:b=a
 ·subst hb;rw [ac] at e;cases e;exact new
 ·rw [ah hb] at e;exact (x b u e).stay (fun c v _ q=>k c v q) (fun c q=>by rw [ah (aj q hn)];exact q) fun c xs q=>by rw [ah (aj q hn)];exact q
end
def Rd (H:Hp) (a:Addr) (u:HO):Prop:=H a=some u∨∃ o,H a=some (.frz o u)
theorem Rd.ok {P:Program} {w:World} {H:Hp} {h:Heap} {a:Addr} {u:HO} (r:Rd H a u) (x:HOk P w H h):ObjOk P w H h a u:=by
 rcases r with r | ⟨o,r⟩
 ·exact x a u r
 ·obtain ⟨_,q⟩:=x a _ r;exact q
def Mut:Option HO→Prop
 | some (.lst _)=>True
 | some (.dK _)=>True
 | some (.dT _)=>True
 | some (.set _ _)=>True
 | some (.ins _ _ _)=>True
 | some (.ext _)=>True
 | _=>False
section
variable {P:Program} {w:World} {H:Hp} {h h':Heap} {x e:Addr} {o':HO}
theorem HOk.write (ok:HOk P w H h) (mu:Mut (H x)) (he:e=x∨H e=some (.own x)) (k:∀ b u,b≠e→h.get? b=some u→h'.get? b=some u) (heo:∃ u,h'.get? e=some u)
  (new:ObjOk P w (upd H x o') h' x o'):HOk P w (upd H x o') h':=fun b u q=>by
 have nown:∀ c y,H c=some (.own y)→c≠x:=fun c y r z=>by subst z;rw [r] at mu;exact mu
 have ntup:∀ c xs,H c=some (.tup xs)→c≠x:=fun c xs r z=>by subst z;rw [r] at mu;exact mu
 by_cases hb:b=x
 ·subst hb;rw [ac] at q;cases q;exact new
 ·rw [ah hb] at q
  by_cases hbe:b=e
  ·have q':H b=some (.own x):=by
    rcases he with z | z
    ·exact absurd (hbe.trans z) hb
    ·rw [hbe];exact z
   rw [q] at q';cases q';obtain ⟨v,hv⟩:=heo;exact ⟨v,by rw [hbe];exact hv⟩
  ·refine (ok b u q).stay (fun c v hc r=>k c v ?_ r) (fun c r=>by rw [ah (nown c b r)];exact r) fun c xs r=>by rw [ah (ntup c xs r)];exact r
   rcases hc with rfl | hc
   ·exact hbe
   ·rintro rfl;rcases he with z | z
    ·exact nown c b hc z
    ·rw [hc] at z;cases z;exact hb rfl
end
structure Un (fs ex:List Addr) (H H':Hp) (h h':Heap):Prop where
 keep:∀ b o,h.get? b=some o→H b=none→b∉fs→b∉ex→h'.get? b=some o
 slot:∀ b o,h.get? b=some o→H b=none→b∈fs→b∉ex→∃ sl,h'.get? b=some { o with slots:=sl }
 free:∀ b o,h.get? b=some o→H b=none→b∉ex→H' b=none
 there:∀ b o,h.get? b=some o→b∉ex→∃ o',h'.get? b=some o'
 tups:∀ b xs,H b=some (.tup xs)→H' b=some (.tup xs)
 frzs:∀ b o u,H b=some (.frz o u)→H' b=some (.frz o u)
 tbls:∀ b ps,H b=some (.tbl ps)→∃ more,H' b=some (.tbl (ps++more))
section
variable {fs fs' ex ex':List Addr} {H H1 H2:Hp} {h h1 h2 h':Heap} {a x e:Addr} {o:HO}
theorem Un.any (u:Un fs ex H H1 h h1) {b:Addr} {ob:Obj} (q:h.get? b=some ob) (n:H b=none) (hx:b∉ex):∃ sl,h1.get? b=some { ob with slots:=sl }:=by
 by_cases hb:b∈fs
 ·exact u.slot b ob q n hb hx
 ·exact ⟨ob.slots,u.keep b ob q n hb hx⟩
theorem Un.kept (k:∀ b u,h.get? b=some u→h'.get? b=some u):Un fs ex H H h h' :=
 ⟨fun b ob q _ _ _=>k b ob q,fun b ob q _ _ _=>⟨ob.slots,k b ob q⟩,fun _ _ _ n _=>n,fun b ob q _=>⟨ob,k b ob q⟩,fun _ _ q=>q,fun _ _ _ q=>q,fun _ ps q=>⟨#[],by rw [q];simp⟩⟩
theorem Un.refl:Un fs ex H H h h:=Un.kept fun _ _ q=>q
theorem Un.laid (k:∀ b u,h.get? b=some u→h'.get? b=some u) (hp:h.objs.size≤a) (hn:H a=none):Un fs ex H (upd H a o) h h' where
 keep:=fun b u q _ _ _=>k b u q
 slot:=fun b u q _ _ _=>⟨u.slots,k b u q⟩
 free:=fun b u q n _=>by rw [ah (Nat.ne_of_lt (Nat.lt_of_lt_of_le (Heap.lt_size q) hp))];exact n
 there:=fun b u q _=>⟨u,k b u q⟩
 tups:=fun b xs q=>by rw [ah (aj q hn)];exact q
 frzs:=fun b u xs q=>by rw [ah (aj q hn)];exact q
 tbls:=fun b ps q=>⟨#[],by rw [ah (aj q hn),q];simp⟩
theorem Un.write (mu:Mut (H x)) (he:e=x∨H e=some (.own x)) (k:∀ b u,b≠e→h.get? b=some u→h'.get? b=some u) (heo:∃ u,h'.get? e=some u):Un fs ex H (upd H x o) h h':=by
 have hx:∀ b,H b=none→b≠x:=fun b n z=>by subst z;rw [n] at mu;exact mu
 have hb:∀ b,H b=none→b≠e:=fun b n z=>by
  subst z;rcases he with r | r
  ·exact hx b n r
  ·rw [n] at r;cases r
 have hm:∀ b u,H b=some u→¬ Mut (some u)→b≠x:=fun b u q nm z=>by subst z;rw [q] at mu;exact nm mu
 refine ⟨fun b u q n _ _=>k b u (hb b n) q,fun b u q n _ _=>⟨u.slots,k b u (hb b n) q⟩,fun b u q n _=>by rw [ah (hx b n)];exact n,fun b u q _=>?_,
  fun b xs q=>by rw [ah (hm b _ q fun z=>z)];exact q,fun b u xs q=>by rw [ah (hm b _ q fun z=>z)];exact q,fun b ps q=>⟨#[],by rw [ah (hm b _ q fun z=>z),q];simp⟩⟩
 by_cases hbe:b=e
 ·subst hbe;exact heo
 ·exact ⟨u,k b u hbe q⟩
end
def trk (h:Heap) (H:Hp):List Addr:=(List.range h.objs.size).filter fun a=>(H a).isSome
def iC (h:Heap) (H:Hp):Heap:=PySem.W.hideAll h (trk h H)
theorem mJ (h:Heap) (H:Hp):(iC h H).objs.size=h.objs.size:=PySem.W.hideAll_size _ _
theorem nD {h:Heap} {H:Hp} {b:Addr} {o:Obj} (e:h.get? b=some o) (n:H b=none):(iC h H).get? b=some o :=
 PySem.W.hideAll_get _ e fun hm=>by
  have q:(H b).isSome=true:=(List.mem_filter.mp hm).2;rw [n] at q;simp at q
theorem pA {h:Heap} {H:Hp} {b:Addr} {o:Obj} (e:(iC h H).get? b=some o):h.get? b=some o∧H b=none:=by
 have e':h.get? b=some o:=PySem.W.of_hideAll (trk h H) e;refine ⟨e',?_⟩
 cases q:H b with
 | none=>rfl
 | some x =>
  have hm:b∈trk h H:=List.mem_filter.mpr ⟨List.mem_range.mpr (Heap.lt_size e'),by simp [q]⟩;have z:(iC h H).get? b=none:=PySem.W.hideAll_none (trk h H) hm;rw [z] at e;cases e
def pB (g h:Heap) (L:Addr):List (Addr×Obj):=(List.range h.objs.size).filterMap fun a=>if a=L∨(g.get? a).isSome=true then none else (h.get? a).map fun o=>(a,o)
def rest (g h:Heap) (L d:Addr):List (Addr×Obj):=(pB g h L).filter fun p=>decide (p.1≠d)
structure Mod (K:PySem.W.Frag) (mg:Str→Option Value) (base:Heap):Prop where
 kin:K.In base
 glob:base.Ns mainGlobals mg
 blt:∃ mb,base.Ns builtinsNs mb∧∀ x:Str,x≠ "__name__" →mb x=bootBuiltins x
 nolimit:base.NoLimit
structure Cx where
 prog:Program
 w:World
 K:PySem.W.Frag
 mg:Str→Option Value
 base:Heap
 A:Around
 N:List Str
 s₀:Shared
 H₀:Hp
 env:Env
 outer:List Env
 stack:List Env
 ex:List Addr
 fn:Str→Bool
 calm:Bool
 pn:List (Addr×Obj)
 xe:Value→Shared→Prop
def frs (l:List Env):List Addr:=l.filterMap (·.frame)
abbrev Cx.fs (X:Cx):List Addr:=frs X.outer
def Vis (sc:Scope) (x:Str):Prop:=sc.names.lookup x=some .local∨sc.names.lookup x=some .cell∨sc.names.lookup x=some .free
def Loc (sc:Scope) (x:Str):Prop:=sc.names.lookup x=some .local∨sc.names.lookup x=some .cell
def ub (env:Env) (h:Heap) (m:Str→Option Value) (x:Str) (u:Value):Prop :=
 (env.kindOf x=some .local∧m x=some u)∨((env.kindOf x=some .cell∨env.kindOf x=some .free)∧∃ c,env.cells.lookup x=some c∧h.IsCell c (some u))
structure Cx.Ok (X:Cx):Prop where
 mod:Mod X.K X.mg X.base
 kind:X.env.scope.kind=.function
 glob:X.env.globals=mainGlobals
 blt:X.env.builtins=builtinsNs
 above:X.s₀.heap.objs.size≤X.env.locals
 inj:∀ x y c,X.env.cells.lookup x=some c→X.env.cells.lookup y=some c→x=y
 has:∀ x,(X.env.kindOf x=some .cell∨X.env.kindOf x=some .free)→∃ c,X.env.cells.lookup x=some c
 cab:∀ x c,X.fn x=true→X.env.cells.lookup x=some c→X.s₀.heap.objs.size≤c
 hd:X.calm=true→X.A.handled=none
 frames:X.A.frames=some X.stack
 stk:X.stack=X.outer∨(X.stack=X.env :: X.outer∧X.env.frame=some X.env.locals)
 exf:∀ b∈X.ex,b≠X.env.locals∧∀ x c,X.env.cells.lookup x=some c→c≠b
 bs:∀ b o,X.base.get? b=some o→X.s₀.heap.get? b=some o∧X.H₀ b=none
 bsz:X.base.objs.size≤X.s₀.heap.objs.size
 noex:∀ b o,X.base.get? b=some o→b∉X.ex
 exfs:∀ b∈X.ex,b∉X.fs
 funs:X.s₀.heap.FunFrames X.base X.outer
 frf:∀ b∈X.fs,X.H₀ b=none
structure Inv (X:Cx) (pins:List (Addr×Obj)) (σ:List (Option V)) (H:Hp) (s:Shared):Prop where
 ok:X.Ok
 os:s.os=X.s₀.os
 bare:AllBare s.gens
 base:Un X.fs X.ex X.H₀ H X.s₀.heap s.heap
 loc:∃ m,s.heap.Ns X.env.locals m∧∀ (i:Nat) (x:Str) (v:V),X.N[i]?=some x→σ[i]?=some (some v)→Vis X.env.scope x→∃ u,RelV v u∧ub X.env s.heap m x u
 cell:∀ x c,X.env.cells.lookup x=some c→∃ v,s.heap.IsCell c v
 free:H X.env.locals=none
 freeC:∀ x c,X.env.cells.lookup x=some c→H c=none
 pin:∀ p∈X.pn++pins,s.heap.get? p.1=some p.2∧H p.1=none∧p.1≠X.env.locals∧p.1∉X.fs∧∀ v,p.2.data≠.cell v
 hok:HOk X.prog X.w H s.heap
 len:σ.length=X.N.length
section
variable {X:Cx} {pins:List (Addr×Obj)} {σ:List (Option V)} {H H':Hp} {s:Shared} {h':Heap}
theorem Cx.Ok.nofr (ok:X.Ok) {b:Addr} {o:Obj} (e:X.base.get? b=some o):b∉X.fs:=fun hb=>by
 have:=(ok.funs.mem hb).1;rw [e] at this;cases this
theorem Inv.bs (I:Inv X pins σ H s):∀ b o,X.base.get? b=some o→s.heap.get? b=some o∧H b=none:=fun b o e =>
 ⟨I.base.keep b o (I.ok.bs b o e).1 (I.ok.bs b o e).2 (I.ok.nofr e) (I.ok.noex b o e),I.base.free b o (I.ok.bs b o e).1 (I.ok.bs b o e).2 (I.ok.noex b o e)⟩
theorem Inv.bk (I:Inv X pins σ H s):∀ b o,X.base.get? b=some o→s.heap.get? b=some o:=fun b o e=>(I.bs b o e).1
theorem Inv.mod (I:Inv X pins σ H s):Mod X.K X.mg X.base:=I.ok.mod
theorem Inv.kIn (I:Inv X pins σ H s):X.K.In s.heap:=I.ok.mod.kin.keeps I.bk
theorem Inv.lt (I:Inv X pins σ H s):X.env.locals < s.heap.objs.size:=let ⟨_,hn,_⟩:=I.loc;hn.lt
theorem Inv.sz (I:Inv X pins σ H s):X.s₀.heap.objs.size≤s.heap.objs.size:=Nat.le_trans I.ok.above (Nat.le_of_lt I.lt)
theorem Inv.nofs (I:Inv X pins σ H s) {a:Addr} (h:s.heap.objs.size≤a):a∉X.fs:=fun hb=>by
 obtain ⟨_,o,ho,_⟩:=I.ok.funs.mem hb;exact absurd (Nat.lt_of_lt_of_le (Heap.lt_size ho) (Nat.le_trans I.sz h)) (Nat.lt_irrefl _)
theorem Inv.cne (I:Inv X pins σ H s):∀ x c,X.env.cells.lookup x=some c→c≠X.env.locals:=fun x c e z=>by
 obtain ⟨v,o,ho,hd⟩:=I.cell x c e;obtain ⟨m,⟨o',es,ep,ho',hd',_⟩,_⟩:=I.loc;rw [z,ho'] at ho;cases ho;rw [hd'] at hd;cases hd
theorem Inv.funs (I:Inv X pins σ H s):s.heap.FunFrames X.base X.outer:=by
 have all:∀ (l:List Env),(∀ b∈frs l,b∈X.fs)→X.s₀.heap.FunFrames X.base l→s.heap.FunFrames X.base l:=by
  intro l
  induction l with
  | nil=>intro _ _;trivial
  | cons env r ih =>
   intro hs hl;obtain ⟨hk,⟨L,o,hf,hn,ho,hd⟩,hr⟩:=hl;have hL:L∈X.fs:=hs L (by unfold frs;rw [List.filterMap_cons,hf];exact List.mem_cons_self);obtain ⟨sl,e⟩:=I.base.slot L o ho (I.ok.frf L hL) hL fun z=>I.ok.exfs L z hL;exact ⟨hk,⟨L,_,hf,hn,e,hd⟩,ih (fun b hb=>hs b (by unfold frs;rw [List.filterMap_cons,hf];exact List.mem_cons_of_mem _ hb)) hr⟩
 exact all X.outer (fun _ hb=>hb) I.ok.funs
theorem Inv.stack (I:Inv X pins σ H s):s.heap.FunFrames X.base X.stack:=by
 rcases I.ok.stk with e | ⟨e,hf⟩
 ·rw [e];exact I.funs
 ·rw [e];obtain ⟨m,hn,_⟩:=I.loc;refine .cons (by rw [I.ok.kind];decide) hf hn ?_ I.funs;exact Heap.get?_none_of_le (Nat.le_trans I.ok.bsz I.ok.above)
theorem Inv.stkSub (I:Inv X pins σ H s):∀ b∈frs X.stack,b∈X.env.locals :: X.fs:=fun b hb=>by
 rcases I.ok.stk with e | ⟨e,hf⟩
 ·rw [e] at hb;exact List.mem_cons_of_mem _ hb
 ·rw [e] at hb;unfold frs at hb;rw [List.filterMap_cons,hf] at hb;exact hb
theorem Inv.stkFree (I:Inv X pins σ H s):∀ b∈frs X.stack,H b=none:=fun b hb=>by
 rcases List.mem_cons.mp (I.stkSub b hb) with e | hb
 ·rw [e];exact I.free
 ·obtain ⟨_,o,ho,_⟩:=I.ok.funs.mem hb;exact I.base.free b o ho (I.ok.frf b hb) fun z=>I.ok.exfs b z hb
theorem Inv.step {g':Array GenState} {t':Nat} {d':Drawn} {ch:List Addr} (I:Inv X pins σ H s)
  (hch:∀ b∈ch,(b∈X.ex∨X.s₀.heap.objs.size≤b)∧b≠X.env.locals∧(∀ x c,X.env.cells.lookup x=some c→c≠b)∧∀ p∈X.pn++pins,p.1≠b)
  (keep:∀ b o,b≠X.env.locals→b∉X.fs→b∉ch→s.heap.get? b=some o→H b=none→h'.get? b=some o)
  (slot:∀ b o,b≠X.env.locals→b∈X.fs→b∉ch→s.heap.get? b=some o→H b=none→∃ sl,h'.get? b=some { o with slots:=sl }) (free:∀ b o,b∉ch→s.heap.get? b=some o→H b=none→H' b=none)
  (there:∀ b o,b∉ch→s.heap.get? b=some o→∃ o',h'.get? b=some o')
  (tups:∀ b xs,H b=some (.tup xs)→H' b=some (.tup xs)) (frzs:∀ b o u,H b=some (.frz o u)→H' b=some (.frz o u)) (tbls:∀ b ps,H b=some (.tbl ps)→∃ more,H' b=some (.tbl (ps++more)))
  (ns:∀ m,s.heap.Ns X.env.locals m→h'.Ns X.env.locals m) (hok:HOk X.prog X.w H' h') (hg:AllBare g') :
  Inv X pins σ H' { s with heap:=h',gens:=g',drawn:=d',toks:=t' }:=by
 have neL:∀ b o,X.s₀.heap.get? b=some o→b≠X.env.locals:=fun b o e=>Nat.ne_of_lt (Nat.lt_of_lt_of_le (Heap.lt_size e) I.ok.above);have neC:∀ b o,X.s₀.heap.get? b=some o→b∉X.ex→b∉ch:=fun b o e hx hb=>by
  rcases (hch b hb).1 with z | z
  ·exact hx z
  ·exact absurd (Nat.lt_of_lt_of_le (Heap.lt_size e) z) (Nat.lt_irrefl _)
 have cellK:∀ x c,X.env.cells.lookup x=some c→∀ v,s.heap.IsCell c v→h'.IsCell c v:=fun x c e v ⟨o,ho,hd⟩=>by
  have nch:c∉ch:=fun z=>(hch c z).2.2.1 x c e rfl
  by_cases hc:c∈X.fs
  ·obtain ⟨sl,q⟩:=slot c o (I.cne x c e) hc nch ho (I.freeC x c e);exact ⟨_,q,hd⟩
  ·exact ⟨o,keep c o (I.cne x c e) hc nch ho (I.freeC x c e),hd⟩
 refine ⟨I.ok,I.os,hg,⟨fun b o e n hb hx=>?_,fun b o e n hb hx=>?_,fun b o e n hx=>?_,fun b o e hx=>?_,fun b xs e=>tups b xs (I.base.tups b xs e),fun b o xs e=>frzs b o xs (I.base.frzs b o xs e),fun b ps e=>?_⟩,?_,fun x c e=>?_,?_,fun x c e=>?_,fun p hp=>?_,hok,I.len⟩
 ·exact keep b o (neL b o e) hb (neC b o e hx) (I.base.keep b o e n hb hx) (I.base.free b o e n hx)
 ·obtain ⟨sl,e1⟩:=I.base.slot b o e n hb hx;obtain ⟨sl',e2⟩:=slot b _ (neL b o e) hb (neC b o e hx) e1 (I.base.free b o e n hx);exact ⟨sl',e2⟩
 ·obtain ⟨o',e1⟩:=I.base.there b o e hx;exact free b o' (neC b o e hx) e1 (I.base.free b o e n hx)
 ·obtain ⟨o',e1⟩:=I.base.there b o e hx;exact there b o' (neC b o e hx) e1
 ·obtain ⟨m1,e1⟩:=I.base.tbls b ps e;obtain ⟨m2,e2⟩:=tbls b _ e1;exact ⟨m1++m2,by rw [e2,Array.append_assoc]⟩
 ·obtain ⟨m,hn,hl⟩:=I.loc;refine ⟨m,ns m hn,fun i x v e1 e2 e3=>?_⟩;obtain ⟨u,r,l⟩:=hl i x v e1 e2 e3;refine ⟨u,r,?_⟩;rcases l with l | ⟨k,c,e,z⟩
  ·exact .inl l
  ·exact .inr ⟨k,c,e,cellK x c e _ z⟩
 ·obtain ⟨v,z⟩:=I.cell x c e;exact ⟨v,cellK x c e v z⟩
 ·obtain ⟨m,⟨o,_,_,ho,_⟩,_⟩:=I.loc;exact free _ o (fun z=>(hch _ z).2.1 rfl) ho I.free
 ·obtain ⟨v,o,ho,hd⟩:=I.cell x c e;exact free c o (fun z=>(hch c z).2.2.1 x c e rfl) ho (I.freeC x c e)
 ·obtain ⟨e,n,ne,nf,d⟩:=I.pin p hp;have nch:p.1∉ch:=fun z=>(hch p.1 z).2.2.2 p hp rfl;exact ⟨keep p.1 p.2 ne nf nch e n,free p.1 p.2 nch e n,ne,nf,d⟩
theorem Inv.un {t':Nat} (I:Inv X pins σ H s) (u:Un X.fs [] H H' s.heap h') (hok:HOk X.prog X.w H' h'):Inv X pins σ H' { s with heap:=h',toks:=t' }:=by
 obtain ⟨m,⟨o,es,ep,ho,r⟩,_⟩:=id I.loc;obtain ⟨sl,hL⟩:=u.any ho I.free (by simp);exact I.step (g':=s.gens) (d':=s.drawn) (ch:=[]) (fun _ z=>nomatch z) (fun b o _ hb _ e n=>u.keep b o e n hb (by simp)) (fun b o _ hb _ e n=>u.slot b o e n hb (by simp)) (fun b o _ e n=>u.free b o e n (by simp)) (fun b o _ e=>u.there b o e (by simp)) u.tups u.frzs u.tbls (fun m' hm=>by
  obtain ⟨o',es',ep',ho',r'⟩:=hm;rw [ho] at ho';cases ho';exact ⟨_,es',ep',hL,r'⟩) hok I.bare
theorem Inv.call {g':Array GenState} {t':Nat} {d':Drawn} {ch:List Addr} (I:Inv X pins σ H s) (u:Un (frs X.stack) ch H H' s.heap h') (hok:HOk X.prog X.w H' h') (hg:AllBare g')
  (hch:∀ b∈ch,(b∈X.ex∨X.s₀.heap.objs.size≤b)∧b≠X.env.locals∧(∀ x c,X.env.cells.lookup x=some c→c≠b)∧∀ p∈X.pn++pins,p.1≠b) :
  Inv X pins σ H' { s with heap:=h',gens:=g',drawn:=d',toks:=t' }:=by
 obtain ⟨m,⟨o,es,ep,ho,r⟩,_⟩:=id I.loc;obtain ⟨sl,hL⟩:=u.any ho I.free fun z=>(hch _ z).2.1 rfl;exact I.step (ch:=ch) hch (fun b o hL hb hc e n=>u.keep b o e n (fun z=>(List.mem_cons.mp (I.stkSub b z)).elim hL hb) hc) (fun b o _ _ hc e n=>u.any e n hc) (fun b o hc e n=>u.free b o e n hc) (fun b o hc e=>u.there b o e hc) u.tups u.frzs u.tbls (fun m' hm=>by
  obtain ⟨o',es',ep',ho',r'⟩:=hm;rw [ho] at ho';cases ho';exact ⟨_,es',ep',hL,r'⟩) hok hg
theorem Inv.turned {t':Nat} {it:Addr} (I:Inv X pins σ H s) (k:∀ b o,b≠it→s.heap.get? b=some o→h'.get? b=some o) (hn:H it=none) (hL:it≠X.env.locals)
  (h1:it∈X.ex∨X.s₀.heap.objs.size≤it) (h2:∀ x c,X.env.cells.lookup x=some c→c≠it) (h3:∀ p∈X.pn++pins,p.1≠it):Inv X pins σ H { s with heap:=h',toks:=t' }:=by
 have nit:∀ b u,H b=some u→b≠it:=fun b u e z=>by rw [z,hn] at e;cases e
 refine I.step (g':=s.gens) (d':=s.drawn) (ch:=[it]) (fun b hb=>?_) (fun b o _ _ hc e _=>k b o (fun z=>hc (by simp [z])) e) (fun b o _ _ hc e _=>⟨o.slots,k b o (fun z=>hc (by simp [z])) e⟩) (fun _ _ _ _ n=>n)
  (fun b o hc e=>⟨o,k b o (fun z=>hc (by simp [z])) e⟩) (fun _ _ e=>e) (fun _ _ _ e=>e) (fun b ps e=>⟨#[],by rw [e];simp⟩) (fun m hm=>?_) (fun b u e=>?_) I.bare
 ·have e:b=it:=by simpa using hb
  subst e;exact ⟨h1,hL,h2,h3⟩
 ·obtain ⟨o,es,ep,ho,r⟩:=hm;exact ⟨o,es,ep,k _ o (Ne.symm hL) ho,r⟩
 ·refine (I.hok b u e).stay (fun c v hc q=>k c v ?_ q) (fun _ q=>q) fun _ _ q=>q;rcases hc with z | z
  ·rw [z];exact nit b u e
  ·exact nit c _ z
theorem Inv.tok (I:Inv X pins σ H s) (t:Nat):Inv X pins σ H { s with toks:=t }:=I.un (h':=s.heap) (t':=t) Un.refl I.hok
theorem Inv.kept {t':Nat} (I:Inv X pins σ H s) (k:∀ b u,s.heap.get? b=some u→h'.get? b=some u):Inv X pins σ H { s with heap:=h',toks:=t' }:=I.un (Un.kept k) (I.hok.kept k)
theorem Inv.laid {a:Addr} {o:HO} {t':Nat} (I:Inv X pins σ H s) (k:∀ b u,s.heap.get? b=some u→h'.get? b=some u) (hp:s.heap.objs.size≤a) (new:ObjOk X.prog X.w (upd H a o) h' a o) :
  Inv X pins σ (upd H a o) { s with heap:=h',toks:=t' }:=I.un (Un.laid k hp (I.hok.fresh hp)) (I.hok.laid k hp new)
theorem Inv.write {x e:Addr} {o:HO} {t':Nat} (I:Inv X pins σ H s) (mu:Mut (H x)) (he:e=x∨H e=some (.own x)) (k:∀ b u,b≠e→s.heap.get? b=some u→h'.get? b=some u) (heo:∃ u,h'.get? e=some u)
  (new:ObjOk X.prog X.w (upd H x o) h' x o):Inv X pins σ (upd H x o) { s with heap:=h',toks:=t' }:=I.un (Un.write mu he k heo) (I.hok.write mu he k heo new)
theorem Inv.pins_of {pins':List (Addr×Obj)} (I:Inv X pins σ H s) (h:∀ p∈pins',s.heap.get? p.1=some p.2∧H p.1=none∧p.1≠X.env.locals∧p.1∉X.fs∧∀ v,p.2.data≠.cell v):Inv X pins' σ H s :=
 ⟨I.ok,I.os,I.bare,I.base,I.loc,I.cell,I.free,I.freeC,fun p hp=>(List.mem_append.mp hp).elim (fun z=>I.pin p (List.mem_append_left _ z)) (h p),I.hok,I.len⟩
theorem fS {N:List Str} (hN:N.Nodup) {i j:Nat} {x:Str} (a:N[i]?=some x) (b:N[j]?=some x):i=j:=by
 obtain ⟨h1,e1⟩:=List.getElem?_eq_some_iff.mp a;obtain ⟨h2,e2⟩:=List.getElem?_eq_some_iff.mp b;exact (List.getElem_inj hN).mp (e1.trans e2.symm)
theorem hZ {M:Model} {A:Around} {E:Value→Shared→Prop} {i:Nat} {x:Str} {v:V} {u:Value} {Q:Unit→Shared→Prop} (I:Inv X pins σ H s) (hN:X.N.Nodup) (hi:X.N[i]?=some x) (hx:Loc X.env.scope x) (r:RelV v u)
  (h:∀ s',Inv X pins (σ.set i (some v)) H s'→(∃ a,Heap.SameBut a s.heap s'.heap∧(a=X.env.locals∨X.env.cells.lookup x=some a))→Q () s') (hf:X.fn x=true∨X.env.scope.names.lookup x=some .local:=by first | exact .inl rfl | exact .inr rfl | assumption):wpAny M A (storeName X.env x u) Q E s:=by
 obtain ⟨m,hn,hl⟩:=id I.loc;have hcls:(X.env.scope.kind == .class || (X.env.scope.kind == .module && X.env.locals != X.env.globals))=false:=by rw [I.ok.kind];rfl
 have hiσ:i < σ.length:=by rw [I.len];exact (List.getElem?_eq_some_iff.mp hi).1
 have cne:=I.cne;have tracked:∀ {a:Addr} {h':Heap},(∃ o,s.heap.get? a=some o∧H a=none)→Heap.SameBut a s.heap h'→HOk X.prog X.w H h':=fun {a h'} ha hs b ob e=>by
  obtain ⟨_,_,hfree⟩:=ha;refine (I.hok b ob e).stay (fun c w' hc q=>(hs.2 c ?_).trans q) (fun _ q=>q) fun _ _ q=>q;rintro rfl;rcases hc with rfl | hc
  ·rw [hfree] at e;cases e
  ·rw [hfree] at hc;cases hc
 rcases hx with hk | hk
 ·refine wpAny_storeName_local hk hn (fun h' hn' hs=>?_) hcls;obtain ⟨oL,_,_,hoL,_⟩:=id hn;refine h _ ⟨I.ok,I.os,I.bare,⟨fun b o e n hb hx=>?_,fun b o e n hb hx=>?_,I.base.free,fun b o e hx=>?_,I.base.tups,I.base.frzs,I.base.tbls⟩,⟨_,hn',fun j y v' e1 e2 e3=>?_⟩,fun y c e=>?_,I.free,I.freeC,fun p hp=>?_,tracked ⟨oL,hoL,I.free⟩ hs,by simpa using I.len⟩ ⟨_,hs,.inl rfl⟩
  ·exact (hs.2 b (Nat.ne_of_lt (Nat.lt_of_lt_of_le (Heap.lt_size e) I.ok.above))).trans (I.base.keep b o e n hb hx)
  ·obtain ⟨sl,e1⟩:=I.base.slot b o e n hb hx;exact ⟨sl,(hs.2 b (Nat.ne_of_lt (Nat.lt_of_lt_of_le (Heap.lt_size e) I.ok.above))).trans e1⟩
  ·obtain ⟨o',e1⟩:=I.base.there b o e hx;exact ⟨o',(hs.2 b (Nat.ne_of_lt (Nat.lt_of_lt_of_le (Heap.lt_size e) I.ok.above))).trans e1⟩
  ·by_cases hj:j=i
   ·subst hj;rw [hi] at e1;cases e1;rw [List.getElem?_set_self hiσ] at e2
    cases e2
    exact ⟨u,r,.inl ⟨hk,by simp⟩⟩
   ·rw [List.getElem?_set_ne (Ne.symm hj)] at e2;obtain ⟨u',r',q⟩:=hl j y v' e1 e2 e3;refine ⟨u',r',?_⟩;rcases q with ⟨k,e⟩ | ⟨k,c,e,z⟩
    ·refine .inl ⟨k,?_⟩;have:y≠x:=fun e=>hj (fS hN e1 (e ▸ hi));simp [this,e]
    ·exact .inr ⟨k,c,e,z.sameBut hs (cne y c e)⟩
  ·obtain ⟨w',z⟩:=I.cell y c e;exact ⟨w',z.sameBut hs (cne y c e)⟩
  ·obtain ⟨e,n,ne,nf,d⟩:=I.pin p hp;exact ⟨(hs.2 p.1 ne).trans e,n,ne,nf,d⟩
 ·have hfn:X.fn x=true:=by
   rcases hf with z | z
   ·exact z
   ·rw [z] at hk;cases hk
  obtain ⟨c,hc⟩:=I.ok.has x (.inl hk);obtain ⟨w',z⟩:=I.cell x c hc;refine wpAny_storeName_cell I.ok.kind hk hc z (fun h' hc' hs=>?_);obtain ⟨oc,hoc,hocd⟩:=id z;refine h { s with heap:=h' } ⟨I.ok,I.os,I.bare,⟨fun b o e n hb hx=>?_,fun b o e n hb hx=>?_,I.base.free,fun b o e hx=>?_,I.base.tups,I.base.frzs,I.base.tbls⟩,⟨m,hn.sameBut hs (Ne.symm (cne x c hc)),fun j y v' e1 e2 e3=>?_⟩,fun y c' e=>?_,I.free,I.freeC,fun p hp=>?_,tracked ⟨oc,hoc,I.freeC x c hc⟩ hs,by simpa using I.len⟩ ⟨c,hs,.inr hc⟩
  ·exact (hs.2 b (Nat.ne_of_lt (Nat.lt_of_lt_of_le (Heap.lt_size e) (I.ok.cab x c hfn hc)))).trans (I.base.keep b o e n hb hx)
  ·obtain ⟨sl,e1⟩:=I.base.slot b o e n hb hx;exact ⟨sl,(hs.2 b (Nat.ne_of_lt (Nat.lt_of_lt_of_le (Heap.lt_size e) (I.ok.cab x c hfn hc)))).trans e1⟩
  ·obtain ⟨o',e1⟩:=I.base.there b o e hx;exact ⟨o',(hs.2 b (Nat.ne_of_lt (Nat.lt_of_lt_of_le (Heap.lt_size e) (I.ok.cab x c hfn hc)))).trans e1⟩
  ·by_cases hj:j=i
   ·subst hj;rw [hi] at e1;cases e1;rw [List.getElem?_set_self hiσ] at e2
    cases e2
    exact ⟨u,r,.inr ⟨.inl hk,c,hc,hc'⟩⟩
   ·rw [List.getElem?_set_ne (Ne.symm hj)] at e2;obtain ⟨u',r',q⟩:=hl j y v' e1 e2 e3;refine ⟨u',r',?_⟩;rcases q with q | ⟨k,c',e,z'⟩
    ·exact .inl q
    ·refine .inr ⟨k,c',e,z'.sameBut hs ?_⟩;rintro rfl;exact hj (fS hN e1 (I.ok.inj _ _ _ e hc ▸ hi))
  ·by_cases hcc:c'=c
   ·subst hcc;exact ⟨_,hc'⟩
   ·obtain ⟨w2,z2⟩:=I.cell y c' e;exact ⟨w2,z2.sameBut hs hcc⟩
  ·obtain ⟨e,n,ne,nf,d⟩:=I.pin p hp;refine ⟨(hs.2 p.1 ?_).trans e,n,ne,nf,d⟩;intro q;rw [q,hoc] at e;have q':oc=p.2:=Option.some.inj e;exact d w' (by rw [← q'];exact hocd)
theorem fT {M:Model} {A:Around} {E:Value→Shared→Prop} {i:Nat} {x:Str} {v:V} {u:Value} {Q:Unit→Shared→Prop} (I:Inv X pins σ H s) (hN:X.N.Nodup) (hi:X.N[i]?=some x) (hx:Loc X.env.scope x) (r:RelV v u)
  (h:∀ s',Inv X pins (σ.set i (some v)) H s'→Q () s') (hf:X.fn x=true∨X.env.scope.names.lookup x=some .local:=by first | exact .inl rfl | exact .inr rfl | assumption):wpAny M A (storeName X.env x u) Q E s :=
 hZ I hN hi hx r (fun s' I' _=>h s' I') hf
theorem Inv.call' {s':Shared} {ch:List Addr} (I:Inv X pins σ H s) (ho:s'.os=s.os) (u:Un (frs X.stack) ch H H' s.heap s'.heap) (hok:HOk X.prog X.w H' s'.heap) (hg:AllBare s'.gens)
  (hch:∀ b∈ch,(b∈X.ex∨X.s₀.heap.objs.size≤b)∧b≠X.env.locals∧(∀ x c,X.env.cells.lookup x=some c→c≠b)∧∀ p∈X.pn++pins,p.1≠b):Inv X pins σ H' s':=by
 obtain ⟨h',g',d',t',o'⟩:=s';have e:o'=s.os:=ho;subst e;exact I.call (g':=g') (t':=t') (d':=d') u hok hg hch
end
abbrev XK:=Value→Option Addr→Hp→Prop
abbrev St:=List (Option V)
abbrev VK:=V→Hp→Prop
abbrev TE:=St→Hp→VK→Prop
abbrev TT:=St→Hp→(Bool→Hp→Prop)→Prop
abbrev TA:=St→Hp→(List V→Hp→Prop)→Prop
structure Ends where
 nx:St→Hp→Prop
 rt:VK
 bk:St→Hp→Prop:=fun _ _=>False
 ct:St→Hp→Prop:=fun _ _=>False
abbrev TS:=Ends→St→Hp→Prop
def EP (X:Cx) (pins:List (Addr×Obj)) (σ:St) (Q:VK) (u:Value) (s':Shared):Prop:=∃ v H',Inv X pins σ H' s'∧RelV v u∧Q v H'
def TP (X:Cx) (pins:List (Addr×Obj)) (σ:St) (Q:Bool→Hp→Prop) (b:Bool) (s':Shared):Prop:=∃ H',Inv X pins σ H' s'∧Q b H'
def AP (X:Cx) (pins:List (Addr×Obj)) (σ:St) (Q:List V→Hp→Prop) (us:List Value) (s':Shared):Prop:=∃ vs H',Inv X pins σ H' s'∧Vals vs us∧Q vs H'
def SP (X:Cx) (pins:List (Addr×Obj)) (D:Ends) (f:Flow) (s':Shared):Prop :=
 match f with
 | .next=>∃ σ' H',Inv X pins σ' H' s'∧D.nx σ' H'
 | .brk=>∃ σ' H',Inv X pins σ' H' s'∧D.bk σ' H'
 | .cont=>∃ σ' H',Inv X pins σ' H' s'∧D.ct σ' H'
 | .ret u=>∃ v σ' H',Inv X pins σ' H' s'∧RelV v u∧D.rt v H'
def PE (X:Cx) (e:Expr) (t:TE):Prop :=
 ∀ (pins:List (Addr×Obj)) (s:Shared) (σ:St) (H:Hp) (Q:VK),Inv X pins σ H s→t σ H Q→wpAny (model X.prog X.w) X.A (eval e X.env) (EP X pins σ Q) X.xe s
def PT (X:Cx) (e:Expr) (t:TT):Prop :=
 ∀ (pins:List (Addr×Obj)) (s:Shared) (σ:St) (H:Hp) (Q:Bool→Hp→Prop),Inv X pins σ H s→t σ H Q→wpAny (model X.prog X.w) X.A (isTrue e X.env (eval e X.env)) (TP X pins σ Q) X.xe s
def PW (X:Cx) (e:Expr) (t:TT):Prop :=
 ∀ (whole:Sem Value) (pins:List (Addr×Obj)) (s:Shared) (σ:St) (H:Hp) (Q:Bool→Hp→Prop),Inv X pins σ H s→t σ H Q→wpAny (model X.prog X.w) X.A (isTrue e X.env whole) (TP X pins σ Q) X.xe s
theorem PW.pt {X:Cx} {e:Expr} {t:TT} (h:PW X e t):PT X e t:=h _
def PA (X:Cx) (es:List Expr) (t:TA):Prop :=
 ∀ (pos:Pos) (pins:List (Addr×Obj)) (s:Shared) (σ:St) (H:Hp) (Q:List V→Hp→Prop),Inv X pins σ H s→t σ H Q→wpAny (model X.prog X.w) X.A (spliced (backTo pos (starEach es X.env))) (AP X pins σ Q) X.xe s
def PS (X:Cx) (st:Stmt) (t:TS):Prop :=
 ∀ (pins:List (Addr×Obj)) (s:Shared) (σ:St) (H:Hp) (D:Ends),Inv X pins σ H s→t D σ H→wpAny (model X.prog X.w) X.A (exec st X.env) (SP X pins D) X.xe s
def PSs (X:Cx) (st:List Stmt) (t:TS):Prop :=
 ∀ (pins:List (Addr×Obj)) (s:Shared) (σ:St) (H:Hp) (D:Ends),Inv X pins σ H s→t D σ H→wpAny (model X.prog X.w) X.A (execs st X.env) (SP X pins D) X.xe s
theorem thn {α:Type} {t:Sem α} {Q Q':α→Shared→Prop} {M:Model} {A:Around} {E:Value→Shared→Prop} {s:Shared} (h:wpAny M A t Q E s) (hQ:∀ a s,Q a s→Q' a s):wpAny M A t Q' E s:=wpAny_mono h hQ fun _ _ x=>x
section
variable {X:Cx}
inductive IVar (i:Nat) (σ:St) (H:Hp) (Q:VK):Prop
 | mk (v:V):(σ[i]?=some (some v))→(Q v H)→IVar i σ H Q
def fU (i:Nat):TE:=fun σ H Q=>IVar i σ H Q
def tC (v:V):TE:=fun _ H Q=>Q v H
theorem rf {i:Nat} {x:Str} {pos:Pos} (hN:X.N[i]?=some x) (hv:Vis X.env.scope x) (hd:(x == ("__debug__" : Str))=false:=by decide) (hcd:(x == ("__classdict__" : Str))=false:=by decide):PE X (.Name x pos) (fU i):=by
 intro pins s σ H Q I h;obtain ⟨v,e,h⟩:=h;obtain ⟨m,hn,hl⟩:=I.loc;obtain ⟨u,r,l⟩:=hl i x v hN e hv;have fin:EP X pins σ Q u s:=⟨v,H,I,r,h⟩;rcases l with ⟨hk,hm⟩ | ⟨hk,c,hc,hcell⟩
 ·exact wpAny_Name (wpAny_loadName_local I.ok.kind hk hn hm fin) hd
 ·rcases hk with hk | hk
  ·exact wpAny_Name (wpAny_loadName_cell I.ok.kind hk hc hcell fin) hd
  ·exact wpAny_Name (wpAny_loadName_free I.ok.kind hk hc hcell fin hcd) hd
theorem pe_int {i j pos}:PE X (.Constant (.int i) j pos) (tC (.int i)):=fun _ _ _ H _ I h=>wpAny_Constant_int ⟨.int i,H,I.tok _,⟨_,rfl⟩,h⟩
theorem pe_bl {b j pos}:PE X (.Constant (.bool b) j pos) (tC (.bl b)):=fun _ _ _ H _ I h=>Constant_bool ⟨.bl b,H,I,rfl,h⟩
theorem pe_non {j pos}:PE X (.Constant .none j pos) (tC .non):=fun _ _ _ H _ I h=>Constant_none ⟨.non,H,I,rfl,h⟩
theorem pe_str {x j pos}:PE X (.Constant (.str x) j pos) (tC (.str x)):=fun _ _ _ H _ I h=>Calls.Constant_str ⟨.str x,H,I.tok _,⟨_,rfl⟩,h⟩
def Gl (X:Cx) (x:Str):Prop:=X.env.kindOf x=some .globalImplicit
theorem bd {E:Value→Shared→Prop} {pins:List (Addr×Obj)} {s:Shared} {σ:St} {H:Hp} {x:Str} {u:Value} {pos:Pos} {Q:Value→Shared→Prop} (I:Inv X pins σ H s) (hg:Gl X x) (hm:X.mg x=some u) (h:Q u s)
  (hd:(x == ("__debug__" : Str))=false:=by decide):wpAny (model X.prog X.w) X.A (eval (.Name x pos) X.env) Q E s :=
 Calls.Name_function_global I.ok.kind hg (Calls.loadGlobal_global (by rw [I.ok.glob];exact I.mod.glob.keeps I.bk) hm h) hd
theorem cI {E:Value→Shared→Prop} {pins:List (Addr×Obj)} {s:Shared} {σ:St} {H:Hp} {x:Str} {u:Value} {pos:Pos} {Q:Value→Shared→Prop} (I:Inv X pins σ H s) (hg:Gl X x) (hm:X.mg x=none) (hv:bootBuiltins x=some u) (h:Q u s)
  (hn:x≠ "__name__" :=by decide) (hd:(x == ("__debug__" : Str))=false:=by decide):wpAny (model X.prog X.w) X.A (eval (.Name x pos) X.env) Q E s:=by
 obtain ⟨mb,h1,h2⟩:=I.mod.blt;exact Calls.Name_function_global I.ok.kind hg (Calls.loadGlobal_builtin (by rw [I.ok.glob];exact I.mod.glob.keeps I.bk) hm (by rw [I.ok.blt];exact h1.keeps I.bk) ((h2 x hn).trans hv) h) hd
theorem iD {x:Str} {v:V} {u:Value} {pos:Pos} (hg:Gl X x) (hm:X.mg x=some u) (r:RelV v u) (hd:(x == ("__debug__" : Str))=false:=by decide):PE X (.Name x pos) (tC v) :=
 fun _ _ _ H _ I h=>bd I hg hm ⟨v,H,I,r,h⟩ hd
theorem pC {x:Str} {v:V} {u:Value} {pos:Pos} (hg:Gl X x) (hm:X.mg x=none) (hv:bootBuiltins x=some u) (r:RelV v u) (hn:x≠ "__name__" :=by decide) (hd:(x == ("__debug__" : Str))=false:=by decide):PE X (.Name x pos) (tC v) :=
 fun _ _ _ H _ I h=>cI I hg hm hv ⟨v,H,I,r,h⟩ hn hd
variable {a b:Expr} {ta tb:TE} {pos:Pos}
def tB (t:TE):TT:=fun σ H Q=>t σ H fun x H1=>∃ c,x=.bl c∧Q c H1
theorem pt_val {e:Expr} {t:TE} (h:PE X e t) (he:∀ whole,isTrue e X.env whole=(do let v ← whole;standAt e.pos;holding [v] (truthy v)):=by intro _;rfl):PT X e (tB t):=by
 intro pins s σ H Q I hw;refine isTrue_plain (thn (h pins s σ H _ I hw) fun v s1 ⟨x,H1,I1,r1,q1⟩=>?_) (he _);obtain ⟨d,rfl,q⟩:=q1
 cases r1
 exact wpAny_truthy_bool ⟨H1,I1,q⟩
variable {tA tB':TT} {rest:List Expr}
def uc (t u:TT):TT:=fun σ H Q=>t σ H fun c H1=>if c=true then u σ H1 Q else Q false H1
def tOr (t u:TT):TT:=fun σ H Q=>t σ H fun c H1=>if c=true then Q true H1 else u σ H1 Q
def ud (t:TT):TT:=fun σ H Q=>t σ H fun c H1=>Q (!c) H1
theorem pD (ha:PT X a tA):PW X (.BoolOp .And [a] pos) tA:=by
 intro wh pins s σ H Q I h;refine isTrue_and (thn (ha pins s σ H Q I h) fun c s1 e=>?_)
 cases c with
 | true=>exact isTrue_and_nil e
 | false=>exact e
theorem pw_or1 (ha:PT X a tA):PW X (.BoolOp .Or [a] pos) tA:=by
 intro wh pins s σ H Q I h;refine isTrue_or (thn (ha pins s σ H Q I h) fun c s1 e=>?_)
 cases c with
 | false=>exact isTrue_or_nil e
 | true=>exact e
theorem rg (ha:PT X a tA) (hb:PW X (.BoolOp .And (b :: rest) pos) tB'):PW X (.BoolOp .And (a :: b :: rest) pos) (uc tA tB'):=by
 intro wh pins s σ H Q I h;refine isTrue_and (thn (ha pins s σ H _ I h) fun c s1 ⟨H1,I1,q1⟩=>?_)
 cases c with
 | true=>exact hb wh pins s1 σ H1 Q I1 q1
 | false=>exact ⟨H1,I1,q1⟩
theorem pw_or (ha:PT X a tA) (hb:PW X (.BoolOp .Or (b :: rest) pos) tB'):PW X (.BoolOp .Or (a :: b :: rest) pos) (tOr tA tB'):=by
 intro wh pins s σ H Q I h;refine isTrue_or (thn (ha pins s σ H _ I h) fun c s1 ⟨H1,I1,q1⟩=>?_)
 cases c with
 | true=>exact ⟨H1,I1,q1⟩
 | false=>exact hb wh pins s1 σ H1 Q I1 q1
theorem pt_not (ha:PT X a tA):PT X (.UnaryOp .Not a pos) (ud tA):=by
 intro pins s σ H Q I h;exact isTrue_not (ha pins s σ H (fun c H1=>Q (!c) H1) I h)
def sF (ta tb:TE):TE:=fun σ H Q=>ta σ H fun x H1=>∃ c,x=.bl c∧if c=true then tb σ H1 Q else Q (.bl false) H1
def sG (ta:TE):TE:=fun σ H Q=>ta σ H fun x H1=>∃ c,x=.bl c∧Q (.bl (!c)) H1
theorem pe_one {op} {t:TE} (h:PE X a t):PE X (.BoolOp op [a] pos) t:=fun pins s σ H Q I hw=>BoolOp_one (h pins s σ H Q I hw)
theorem pe_and (ha:PE X a ta) (hb:PE X (.BoolOp .And (b :: rest) pos) tb):PE X (.BoolOp .And (a :: b :: rest) pos) (sF ta tb):=by
 intro pins s σ H Q I h;refine BoolOp_and (thn (ha pins s σ H _ I h) fun v s1 ⟨x,H1,I1,r1,q1⟩=>?_);obtain ⟨c,rfl,q1⟩:=q1
 cases r1
 refine wpAny_truthy_bool ?_
 cases c with
 | true=>exact hb pins s1 σ H1 Q I1 q1
 | false=>exact ⟨.bl false,H1,I1,rfl,q1⟩
theorem rh (ha:PE X a ta):PE X (.UnaryOp .Not a pos) (sG ta):=by
 intro pins s σ H Q I h;refine UnaryOp_ (thn (ha pins s σ H _ I h) fun v s1 ⟨x,H1,I1,r1,q1⟩=>?_);obtain ⟨c,rfl,q1⟩:=q1
 cases r1
 exact not_of (wpAny_truthy_bool ⟨.bl (!c),H1,I1,rfl,q1⟩)
def tIf (t:TT) (ta tb:TE):TE:=fun σ H Q=>t σ H fun c H1=>if c=true then ta σ H1 Q else tb σ H1 Q
theorem nE {c:Expr} (hc:PT X c tA) (ha:PE X a ta) (hb:PE X b tb):PE X (.IfExp c a b pos) (tIf tA ta tb):=by
 intro pins s σ H Q I h;refine wpAny_IfExp (thn (hc pins s σ H _ I h) fun d s1 ⟨H1,I1,q1⟩=>?_)
 cases d with
 | true=>exact ha pins s1 σ H1 Q I1 q1
 | false=>exact hb pins s1 σ H1 Q I1 q1
end
def SqL (K:PySem.W.Frag) (H:Hp) (a:Addr) (xs:List V):Prop :=
 Rd H a (.lst xs) ∨
  ∃ (o:Obj) (its:Array Value) (n:Nat),K.lookup a=some o∧o.cls=.type "list" ∧o.dict=none∧o.data=.seq its n∧its.size≤sizeLine∧Vals xs its.toList
def SqT (K:PySem.W.Frag) (H:Hp) (a:Addr) (xs:List V):Prop :=
 Rd H a (.tup xs) ∨
  ∃ (o:Obj) (its:Array Value) (n:Nat),K.lookup a=some o∧o.cls=.type "tuple" ∧o.data=.seq its n∧its.size≤sizeLine∧Vals xs its.toList
def ue:Value→Option V
 | .none=>some .non
 | .bool b=>some (.bl b)
 | .int i _=>some (.int i)
 | .str x _=>some (.str x)
 | .bytes b _=>some (.byt b)
 | .float b _=>some (.flt b)
 | .ref a=>some (.ref a)
 | .type n=>some (.ty n)
 | _=>none
theorem RelV.abs {x:V} {u:Value} (r:RelV x u):ue u=some x:=by
 cases x with
 | non=>cases r;rfl
 | bl _=>cases r;rfl
 | int _=>obtain ⟨t,rfl⟩:=r;rfl
 | str _=>obtain ⟨t,rfl⟩:=r;rfl
 | byt _=>obtain ⟨t,rfl⟩:=r;rfl
 | flt _=>obtain ⟨t,rfl⟩:=r;rfl
 | ref _=>cases r;rfl
 | ty _=>cases r;rfl
theorem RelV.inj {x y:V} {u:Value} (r:RelV x u) (q:RelV y u):x=y:=Option.some.inj (r.abs.symm.trans q.abs)
theorem Vals.inj:∀ {xs ys:List V} {us:List Value},Vals xs us→Vals ys us→xs=ys
 | _,_,_,.nil,.nil=>rfl
 | _,_,_,.cons r t,.cons r' t'=>by rw [r.inj r',Vals.inj t t']
section
variable {X:Cx} {pins:List (Addr×Obj)} {σ:St} {H:Hp} {s:Shared} {a:Addr} {xs ys:List V}
theorem SqL.of {K:PySem.W.Frag} (h:H a=some (.lst xs)):SqL K H a xs:=.inl (.inl h)
theorem Inv.list (I:Inv X pins σ H s) (h:SqL X.K H a xs):∃ its:List Value,Vals xs its∧PlainL s.heap a its.toArray∧xs.length≤sizeLine:=by
 rcases h with h | ⟨o,its,n,hk,hc,hd,hs,hz,r⟩
 ·obtain ⟨z,its,n,r,e⟩:=h.ok I.hok;exact ⟨its,r,⟨_,n,e,rfl,rfl,rfl⟩,z⟩
 ·refine ⟨its.toList,r,⟨o,n,I.kIn a o hk,hc,hd,by simpa using hs⟩,?_⟩;have e:=r.length;simp only [Array.length_toList] at e;lia
theorem Inv.tuple (I:Inv X pins σ H s) (h:SqT X.K H a xs):∃ its:List Value,Vals xs its∧IsTup s.heap a its.toArray∧xs.length≤sizeLine:=by
 rcases h with h | ⟨o,its,n,hk,hc,hs,hz,r⟩
 ·obtain ⟨z,its,r,p⟩:=h.ok I.hok;exact ⟨its,r,p,z⟩
 ·refine ⟨its.toList,r,⟨o,I.kIn a o hk,hc,n,by simpa using hs⟩,?_⟩;have e:=r.length;simp only [Array.length_toList] at e;lia
theorem Inv.list_inj (I:Inv X pins σ H s) (h:SqL X.K H a xs) (h':SqL X.K H a ys):xs=ys:=by
 obtain ⟨its,r,⟨o,n,e,_,_,d⟩,_⟩:=I.list h;obtain ⟨its',r',⟨o',n',e',_,_,d'⟩,_⟩:=I.list h';rw [e] at e';cases e';rw [d] at d';injection d' with d1 _
 have:its=its':=by simpa using congrArg Array.toList d1
 subst this;exact r.inj r'
theorem Inv.tuple_inj (I:Inv X pins σ H s) (h:SqT X.K H a xs) (h':SqT X.K H a ys):xs=ys:=by
 obtain ⟨its,r,⟨o,e,_,n,d⟩,_⟩:=I.tuple h;obtain ⟨its',r',⟨o',e',_,n',d'⟩,_⟩:=I.tuple h';rw [e] at e';cases e';rw [d] at d';injection d' with d1 _
 have:its=its':=by simpa using congrArg Array.toList d1
 subst this;exact r.inj r'
end
abbrev Cx.wish (X:Cx) (E:Value→Shared→Prop):Cx:={ X with xe:=E }
abbrev Cx.nox (X:Cx):Cx:=X.wish fun _ _=>False
theorem Cx.Ok.wish {X:Cx} (ok:X.Ok) (E:Value→Shared→Prop):(X.wish E).Ok :=
 ⟨ok.mod,ok.kind,ok.glob,ok.blt,ok.above,ok.inj,ok.has,ok.cab,ok.hd,ok.frames,ok.stk,ok.exf,ok.bs,ok.bsz,ok.noex,ok.exfs,ok.funs,ok.frf⟩
theorem Cx.Ok.unwish {X:Cx} {E:Value→Shared→Prop} (ok:(X.wish E).Ok):X.Ok :=
 ⟨ok.mod,ok.kind,ok.glob,ok.blt,ok.above,ok.inj,ok.has,ok.cab,ok.hd,ok.frames,ok.stk,ok.exf,ok.bs,ok.bsz,ok.noex,ok.exfs,ok.funs,ok.frf⟩
section
variable {X:Cx} {pins:List (Addr×Obj)} {σ:St} {H:Hp} {s:Shared} {E:Value→Shared→Prop}
theorem Inv.wish (I:Inv X pins σ H s) (E:Value→Shared→Prop):Inv (X.wish E) pins σ H s:=⟨I.ok.wish E,I.os,I.bare,I.base,I.loc,I.cell,I.free,I.freeC,I.pin,I.hok,I.len⟩
theorem Inv.unwish (I:Inv (X.wish E) pins σ H s):Inv X pins σ H s:=⟨I.ok.unwish,I.os,I.bare,I.base,I.loc,I.cell,I.free,I.freeC,I.pin,I.hok,I.len⟩
theorem SP.unwish {D:Ends} {f:Flow} {s':Shared} (h:SP (X.wish E) pins D f s'):SP X pins D f s':=by
 cases f with
 | next=>obtain ⟨σ',H',I,q⟩:=h;exact ⟨σ',H',I.unwish,q⟩
 | brk=>obtain ⟨σ',H',I,q⟩:=h;exact ⟨σ',H',I.unwish,q⟩
 | cont=>obtain ⟨σ',H',I,q⟩:=h;exact ⟨σ',H',I.unwish,q⟩
 | ret u=>obtain ⟨v,σ',H',I,r,q⟩:=h;exact ⟨v,σ',H',I.unwish,r,q⟩
theorem PSs.nox {st:List Stmt} {t:TS} (h:PSs X.nox st t):PSs X st t:=fun pins s σ H D I hw =>
 wpAny_mono (h pins s σ H D (I.wish _) hw) (fun _ _ q=>q.unwish) fun _ _ z=>False.elim z
end
section
variable {X:Cx} {st:Stmt} {rest:List Stmt} {t u:TS} {e:Expr} {te:TE} {pos:Pos}
def sH:TS:=fun D σ H=>D.nx σ H
def rj (t u:TS):TS:=fun D σ H=>t { D with nx:=u D } σ H
theorem pss_nil:PSs X [] sH:=fun _ _ σ H _ I h=>wpAny_execs_nil ⟨σ,H,I,h⟩
theorem pss_cons (h1:PS X st t) (h2:PSs X rest u):PSs X (st :: rest) (rj t u):=by
 intro pins s σ H D I h;refine wpAny_execs_cons (thn (h1 pins s σ H { D with nx:=u D } I h) fun f s1 q=>?_)
 cases f with
 | next =>
  obtain ⟨σ',H',I',q⟩:=q;exact h2 pins s1 σ' H' D I' q
 | ret v=>exact q
 | brk=>exact q
 | cont=>exact q
theorem pss_one (h1:PS X st t):PSs X [st] t:=by
 intro pins s σ H D I h;refine wpAny_execs_cons (thn (h1 pins s σ H D I h) fun f s1 q=>?_)
 cases f with
 | next=>exact wpAny_execs_nil q
 | ret v=>exact q
 | brk=>exact q
 | cont=>exact q
theorem Inv.quiet {pins:List (Addr×Obj)} {σ:St} {H:Hp} {s:Shared} (I:Inv X pins σ H s):interactive X.env=false:=by simp [interactive,I.ok.kind]
def sI (te:TE):TS:=fun D σ H=>te σ H fun _ H1=>D.nx σ H1
theorem iE (he:PE X e te) (hs:swapsWith e none pos.line X.env=pure false:=by rfl):PS X (.Expr e pos) (sI te):=by
 intro pins s σ H D I h;exact wpAny_Expr_any (thn (he pins s σ H _ I h) fun v s1 ⟨x,H1,I1,r1,q1⟩=>⟨σ,H1,I1,q1⟩) I.quiet hs
def rl (te:TE):TS:=fun D σ H=>te σ H D.rt
theorem ps_ret (he:PE X e te):PS X (.Return (some e) pos) (rl te):=by
 intro pins s σ H D I h;exact wpAny_Return_some (thn (he pins s σ H _ I h) fun v s1 ⟨x,H1,I1,r1,q1⟩=>⟨x,σ,H1,I1,r1,q1⟩)
def uf (c:TT) (t u:TS):TS:=fun D σ H=>c σ H fun b H1=>if b=true then t D σ H1 else u D σ H1
theorem ps_if {c:Expr} {a b:List Stmt} {tc:TT} (hc:PT X c tc) (ha:PSs X a t) (hb:PSs X b u):PS X (.If c a b pos) (uf tc t u):=by
 intro pins s σ H D I h;refine wpAny_If (thn (hc pins s σ H _ I h) fun d s1 ⟨H1,I1,q1⟩=>?_)
 cases d with
 | true=>exact ha pins s1 σ H1 D I1 q1
 | false=>exact hb pins s1 σ H1 D I1 q1
end
abbrev TG:=V→St→Hp→(St→Hp→Prop)→Prop
abbrev TGs:=List V→St→Hp→(St→Hp→Prop)→Prop
def PG (X:Cx) (target:Expr) (t:TG):Prop :=
 ∀ (pins:List (Addr×Obj)) (s:Shared) (σ:St) (H:Hp) (v:V) (u:Value) (Q:St→Hp→Prop),Inv X pins σ H s→RelV v u→t v σ H Q →
  wpAny (model X.prog X.w) X.A (assign target X.env u) (fun _ s'=>∃ σ' H',Inv X pins σ' H' s'∧Q σ' H') X.xe s
def PGs (X:Cx) (ts:List Expr) (t:TGs):Prop :=
 ∀ (pins:List (Addr×Obj)) (s:Shared) (σ:St) (H:Hp) (vs:List V) (us:List Value) (Q:St→Hp→Prop),Inv X pins σ H s→Vals vs us→t vs σ H Q →
  wpAny (model X.prog X.w) X.A (assignInOrder ((assignEach ts X.env).map (·.2)) us) (fun _ s'=>∃ σ' H',Inv X pins σ' H' s'∧Q σ' H') X.xe s
abbrev rm:=V→V→V→Hp→(Hp→Prop)→Prop
def sJ (X:Cx) (t:rm):Prop :=
 ∀ (pins:List (Addr×Obj)) (s:Shared) (σ:St) (H:Hp) (o i v:V) (ov iv u:Value) (Q:Hp→Prop),Inv X pins σ H s→RelV o ov→RelV i iv→RelV v u→t o i v H Q →
  wpAny (model X.prog X.w) X.A (setItem ov iv u) (fun _ s'=>∃ H',Inv X pins σ H' s'∧Q H') X.xe s
section
variable {X:Cx} {pos:Pos}
def eQ (i:Nat):TG:=fun v σ H Q=>Q (σ.set i (some v)) H
theorem pg_name {i:Nat} {x:Str} (hN:X.N.Nodup) (hi:X.N[i]?=some x) (hx:Loc X.env.scope x) (hf:X.fn x=true∨X.env.scope.names.lookup x=some .local:=by first | exact .inl rfl | exact .inr rfl | assumption):PG X (.Name x pos) (eQ i):=by
 intro pins s σ H v u Q I r h;exact wpAny_assign_Name (fT I hN hi hx r (fun s' I'=>⟨_,H,I',h⟩) hf)
def ug:TGs:=fun vs σ H Q=>vs=[]∧Q σ H
def sK (t:TG) (u:TGs):TGs:=fun vs σ H Q=>∃ v r,vs=v :: r∧t v σ H fun σ' H'=>u r σ' H' Q
theorem bG:PGs X [] ug:=by
 intro pins s σ H vs us Q I r h;obtain ⟨e,h⟩:=h;subst e
 cases r
 exact assignInOrder_nil ⟨σ,H,I,h⟩
theorem pgs_cons {e:Expr} {es:List Expr} {t:TG} {u:TGs} (h1:PG X e t) (h2:PGs X es u)
  (hs:(assignEach (e :: es) X.env).map (·.2)=assign e X.env :: (assignEach es X.env).map (·.2):=by rfl):PGs X (e :: es) (sK t u):=by
 intro pins s σ H vs us Q I r h;obtain ⟨v,vr,e1,h⟩:=h;subst e1
 cases r with
 | cons r rr =>
  rw [hs];refine assignInOrder_cons (thn (h1 pins s σ H _ _ _ I r h) fun _ s1 ⟨σ1,H1,I1,q1⟩=>?_);exact h2 pins s1 σ1 H1 _ _ Q I1 rr q1
def sL (K:PySem.W.Frag) (n:Nat) (t:TGs):TG:=fun v σ H Q=>∃ a xs,v=.ref a∧SqT K H a xs∧xs.length=n∧t xs σ H Q
theorem pg_tup {es:List Expr} {k:Nat} {t:TGs} {n:Nat} (hc:X.calm=true) (h:PGs X es t)
  (hn:(assignEach es X.env).length=n:=by rfl) (hst:(assignEach es X.env).findIdx? (·.1)=none:=by rfl):PG X (.Tuple es k pos) (sL X.K n t):=by
 intro pins s σ H v u Q I r hw;obtain ⟨a,xs,e1,hq,hl,hw⟩:=hw;subst e1
 cases r
 obtain ⟨its,rv,ht,hz⟩:=I.tuple hq;refine assign_Tuple_tuple (I.ok.hd hc) ht (by simp [hn,← hl,rv.length]) hst fun h' hx=>?_;have I1:Inv X pins σ H { s with heap:=h' }:=I.kept (t':=s.toks) fun b o e=>hx b o (Nat.ne_of_lt (Heap.lt_size e)) e;exact h pins _ σ H xs _ Q I1 (by simpa using rv) hw
def gSub (to ti:TE) (t:rm):TG:=fun v σ H Q=>to σ H fun o H1=>ti σ H1 fun i H2=>t o i v H2 fun H3=>Q σ H3
theorem rn {o i:Expr} {to ti:TE} {t:rm} (ho:PE X o to) (hi:PE X i ti) (hs:sJ X t)
  (ha:∀ v,assign (.Subscript o i pos) X.env v=(do
   let ov ← holding [v] (eval o X.env)
   let iv ← holding [v,ov] (eval i X.env)
   standAt pos
   holding [v,ov,iv] (setItem ov iv v)
   release [v,ov,iv] []):=by intro _;rfl):PG X (.Subscript o i pos) (gSub to ti t):=by
 intro pins s σ H v u Q I r h;rw [ha];refine wpAny_bind (wpAny_holding (thn (ho pins s σ H _ I h) fun ov s1 ⟨x,H1,I1,r1,q1⟩=>?_));refine wpAny_bind (wpAny_holding (thn (hi pins s1 σ H1 _ I1 q1) fun iv s2 ⟨y,H2,I2,r2,q2⟩=>?_));refine wpAny_bind (wpAny_standAt (wpAny_bind (wpAny_holding (thn (hs pins s2 σ H2 x y v ov iv u _ I2 r1 r2 r q2) fun _ s3 ⟨H3,I3,q3⟩=>?_))));exact wpAny_release ⟨σ,H3,I3,q3⟩
def mK (te:TE) (g:TG):TS:=fun D σ H=>te σ H fun x H1=>g x σ H1 D.nx
theorem ps_asg {tg e:Expr} {te:TE} {g:TG} (he:PE X e te) (hg:PG X tg g) (hs:swapsWithSole [tg] e pos.line X.env=pure false:=by rfl) (hw:swappedStores [tg] e X.env=pure none:=by rfl)
  (h1:(assignEach [tg] X.env).map (·.2)=[assign tg X.env]:=by rfl):PS X (.Assign [tg] e pos) (mK te g):=by
 intro pins s σ H D I h;refine wpAny_Assign_stores (thn (he pins s σ H _ I h) fun v s1 ⟨x,H1,I1,r1,q1⟩=>?_) hs hw;rw [h1];exact thn (hg pins s1 σ H1 x v _ I1 r1 q1) fun _ s2 q=>q
theorem ps_set {i:Nat} {x:Str} {e:Expr} {te:TE} {pos':Pos} (hN:X.N.Nodup) (hi:X.N[i]?=some x) (hx:Loc X.env.scope x) (he:PE X e te) (hs:swapsWith e (some (.Name x pos')) pos.line X.env=pure false:=by rfl) (hf:X.fn x=true∨X.env.scope.names.lookup x=some .local:=by first | exact .inl rfl | exact .inr rfl | assumption) :
  PS X (.Assign [.Name x pos'] e pos) (mK te (eQ i)):=by
 intro pins s σ H D I h;refine wpAny_Assign_Name (thn (he pins s σ H _ I h) fun v s1 ⟨y,H1,I1,r1,q1⟩=>?_) hs;exact fT I1 hN hi hx r1 (fun s2 I2=>⟨_,H1,I2,q1⟩) hf
end
section
variable {X:Cx} {pos:Pos}
end
structure It where
 go:Nat→Hp→Prop
 yld:Nat→Hp→V→Hp→Prop
 stop:Nat→Hp→Prop
def dv (X:Cx) (pins:List (Addr×Obj)) (H:Hp) (b:Addr):Prop :=
 H b=none∧b≠X.env.locals∧b∉X.fs∧(b∈X.ex∨X.s₀.heap.objs.size≤b)∧(∀ x c,X.env.cells.lookup x=some c→c≠b)∧∀ p∈X.pn++pins,p.1≠b
theorem Inv.fpOk {X:Cx} {pins:List (Addr×Obj)} {σ:St} {H H':Hp} {s:Shared} {b:Addr} (I:Inv X pins σ H s) (hb:s.heap.objs.size≤b) (hn:H' b=none):dv X pins H' b:=by
 refine ⟨hn,Nat.ne_of_gt (Nat.lt_of_lt_of_le I.lt hb),I.nofs hb,.inr (Nat.le_trans I.sz hb),fun x c e z=>?_,fun p hp z=>?_⟩
 ·obtain ⟨v,q⟩:=I.cell x c e;exact absurd (Nat.lt_of_lt_of_le q.lt (by rw [z];exact hb)) (Nat.lt_irrefl _)
 ·exact absurd (Nat.lt_of_lt_of_le (Heap.lt_size (I.pin p hp).1) (by rw [z];exact hb)) (Nat.lt_irrefl _)
structure Turn (P:Program) (w:World) (K:PySem.W.Frag) (tg:Expr) (J:It) (fp:List Addr) (it:Addr) (tn:Nat→Heap→Prop):Prop where
 mem:it∈fp
 obj:∀ i h,tn i h→∀ b∈fp,∃ o,h.get? b=some o∧∀ v,o.data≠.cell v
 keep:∀ i h h',tn i h→(∀ b∈fp,∀ o,h.get? b=some o→h'.get? b=some o)→tn i h'
 item:∀ (X:Cx),X.prog=P→X.w=w→X.K=K→X.calm=true→∀ (i:Nat) (pins:List (Addr×Obj)) (s:Shared) (σ:St) (H:Hp) (E:Value→Shared→Prop),Inv X pins σ H s→(∀ b∈fp,dv X pins H b)→tn i s.heap→J.go i H →
  wpAny (model P w) X.A (pyNext (.ref it)) (fun r s1=>∃ u,r=some u ∧
   wpAny (model P w) X.A (letOwnedTupleGo tg (.ref it) u) (fun _ s2=>∃ x H',Inv X pins σ H' s2∧RelV x u∧J.yld i H x H'∧tn (i+1) s2.heap∧∀ b∈fp,H' b=none) E s1) E s
 done:∀ (X:Cx),X.prog=P→X.w=w→X.K=K→X.calm=true→∀ (i:Nat) (pins:List (Addr×Obj)) (s:Shared) (σ:St) (H:Hp) (E:Value→Shared→Prop),Inv X pins σ H s→(∀ b∈fp,dv X pins H b)→tn i s.heap→J.stop i H →
  wpAny (model P w) X.A (pyNext (.ref it)) (fun r s1=>r=none∧Inv X pins σ H s1) E s
 self:∀ (A:Around) (i:Nat) (s:Shared) (Q:Value→Shared→Prop) (E:Value→Shared→Prop),tn i s.heap→Q (.ref it) s→wpAny (model P w) A (pyIter (.ref it)) Q E s
abbrev TI:=St→Hp→(It→Hp→Prop)→Prop
def PIE (X:Cx) (pins:List (Addr×Obj)) (σ:St) (tg:Expr) (R:It→Hp→Prop) (itv:Value) (s2:Shared):Prop :=
 ∃ (it:Addr) (fp:List Addr) (tn:Nat→Heap→Prop) (J:It) (H':Hp),itv=.ref it∧Inv X pins σ H' s2∧Turn X.prog X.w X.K tg J fp it tn∧tn 0 s2.heap∧(∀ b∈fp,dv X pins H' b)∧R J H'
def PI (X:Cx) (tg iter:Expr) (wi:TI):Prop :=
 ∀ (pins:List (Addr×Obj)) (s:Shared) (σ:St) (H:Hp) (R:It→Hp→Prop),Inv X pins σ H s→wi σ H R →
  wpAny (model X.prog X.w) X.A (eval iter X.env) (fun v s1=>wpAny (model X.prog X.w) X.A (pyIter v) (PIE X pins σ tg R) X.xe s1) X.xe s
theorem jM {M:Model} {A:Around} {E:Value→Shared→Prop} {s:Shared} {tg:Expr} {it:Addr} {u:Value} {o:Obj} {n:String} {vs:Array Value} {Q:Unit→Shared→Prop} (ho:s.heap.get? it=some o) (hc:o.cls=.type n) (hd:o.data=.fields vs)
    (hn:["enumerate","zip","dict_itemiterator","dict_reverseitemiterator","odict_iterator","itertools.zip_longest","itertools.pairwise"].contains n=false) (hQ:Q () s):wpAny M A (letOwnedTupleGo tg (.ref it) u) Q E s:=by
  unfold letOwnedTupleGo
  cases tg <;> first
    | exact wpAny_pure hQ
    | (cases u <;> first
        | exact wpAny_pure hQ
        | (refine wpAny_bind (wpAny_load ho ?_)
           rw [hc,hd];show wpAny M A (if (["enumerate","zip","dict_itemiterator","dict_reverseitemiterator","odict_iterator","itertools.zip_longest","itertools.pairwise"].contains n && vs[0]? == some (rawInt _))=true then _ else _) Q E s;rw [if_neg (by intro h;rw [hn,Bool.false_and] at h;cases h)];exact wpAny_pure hQ))
def Itl (K:PySem.W.Frag) (a:Addr):It :=
 ⟨fun i H=>∃ xs x,SqL K H a xs∧xs[i]?=some x,fun i H x H'=>H'=H∧∀ xs,SqL K H a xs→xs[i]?=some x,fun i H=>∃ xs,SqL K H a xs∧xs.length≤i⟩
def Itt (K:PySem.W.Frag) (a:Addr):It :=
 ⟨fun i H=>∃ xs x,SqT K H a xs∧xs[i]?=some x,fun i H x H'=>H'=H∧∀ xs,SqT K H a xs→xs[i]?=some x,fun i H=>∃ xs,SqT K H a xs∧xs.length≤i⟩
def Itr (lo:Int) (n:Nat):It:=⟨fun i _=>i < n,fun i H x H'=>H'=H∧x=.int (lo+i),fun i _=>n≤i⟩
theorem mL {P:Program} {w:World} {K:PySem.W.Frag} {tg:Expr} (a it:Addr):Turn P w K tg (Itl K a) [it] it (fun i h=>h.IsListIter it a i) where
 mem:=by simp
 obj:=fun i h st b hb=>by
  have e:b=it:=by simpa using hb
  subst e;obtain ⟨o,e,c,d⟩:=st;exact ⟨o,e,fun v z=>by rw [d] at z;cases z⟩
 keep:=fun i h h' st k=>st.at fun o e=>k it (by simp) o e
 item:=by
  intro X hP hw hK hc i pins s σ H E I hf st hg;subst hP hw hK;obtain ⟨xs,x,hq,hx⟩:=hg;obtain ⟨its,rv,p,hz⟩:=I.list hq;obtain ⟨u,hu,ru⟩:=rv.get hx;obtain ⟨f0,f1,f2,f3,f4,f5⟩:=hf it (by simp);refine wpAny_pyNext_list_item st p.isList (x:=u) (by simpa using hu) fun h' st' sb=>?_;have I1:Inv X pins σ H { s with heap:=h' }:=I.turned (t':=s.toks) (fun b o hb e=>(sb.2 b hb).trans e) f0 f1 f3 f4 f5;obtain ⟨o,e,c,d⟩:=id st';exact ⟨u,rfl,jM (s:={ s with heap:=h' }) e c d (by decide) ⟨x,H,I1,ru,⟨rfl,fun ys hy=>by rw [I.list_inj hy hq];exact hx⟩,st',fun b hb=>(hf b hb).1⟩⟩
 done:=by
  intro X hP hw hK hc i pins s σ H E I hf st hg;subst hP hw hK;obtain ⟨xs,hq,hx⟩:=hg;obtain ⟨its,rv,p,hz⟩:=I.list hq;obtain ⟨f0,f1,f2,f3,f4,f5⟩:=hf it (by simp);have hl:=rv.length;exact wpAny_pyNext_list_end (I.ok.hd hc) st p.isList (by simp;lia) fun h' eb=>⟨rfl,I.turned (t':=s.toks) (fun b o hb e=>eb b o hb e) f0 f1 f3 f4 f5⟩
 self:=fun _ _ _ _ _ st h=>wpAny_pyIter_listiter st h
theorem kZ {P:Program} {w:World} {K:PySem.W.Frag} {tg:Expr} (a it:Addr):Turn P w K tg (Itt K a) [it] it (fun i h=>h.IsTupleIter it a i) where
 mem:=by simp
 obj:=fun i h st b hb=>by
  have e:b=it:=by simpa using hb
  subst e;obtain ⟨o,e,c,d⟩:=st;exact ⟨o,e,fun v z=>by rw [d] at z;cases z⟩
 keep:=fun i h h' st k=>st.at fun o e=>k it (by simp) o e
 item:=by
  intro X hP hw hK hc i pins s σ H E I hf st hg;subst hP hw hK;obtain ⟨xs,x,hq,hx⟩:=hg;obtain ⟨its,rv,p,hz⟩:=I.tuple hq;obtain ⟨u,hu,ru⟩:=rv.get hx;obtain ⟨f0,f1,f2,f3,f4,f5⟩:=hf it (by simp);refine wpAny_pyNext_tuple_item st (show s.heap.IsTuple a its.toArray from p) (x:=u) (by simpa using hu) fun h' st' sb=>?_;have I1:Inv X pins σ H { s with heap:=h' }:=I.turned (t':=s.toks) (fun b o hb e=>(sb.2 b hb).trans e) f0 f1 f3 f4 f5;obtain ⟨o,e,c,d⟩:=id st';exact ⟨u,rfl,jM (s:={ s with heap:=h' }) e c d (by decide) ⟨x,H,I1,ru,⟨rfl,fun ys hy=>by rw [I.tuple_inj hy hq];exact hx⟩,st',fun b hb=>(hf b hb).1⟩⟩
 done:=by
  intro X hP hw hK hc i pins s σ H E I hf st hg;subst hP hw hK;obtain ⟨xs,hq,hx⟩:=hg;obtain ⟨its,rv,p,hz⟩:=I.tuple hq;obtain ⟨f0,f1,f2,f3,f4,f5⟩:=hf it (by simp);have hl:=rv.length;exact wpAny_pyNext_tuple_end (I.ok.hd hc) st (show s.heap.IsTuple a its.toArray from p) (by simp;lia) fun h' eb=>⟨rfl,I.turned (t':=s.toks) (fun b o hb e=>eb b o hb e) f0 f1 f3 f4 f5⟩
 self:=fun _ _ _ _ _ st h=>wpAny_pyIter_tupleiter st h
theorem lg {P:Program} {w:World} {K:PySem.W.Frag} {tg:Expr} (it:Addr) (lo:Int) (n:Nat):Turn P w K tg (Itr lo n) [it] it (fun i h=>IsRangeIter h it (lo+(i:Nat)*1) ((n:Int) - (i:Nat)) 1) where
 mem:=by simp
 obj:=fun i h st b hb=>by
  have e:b=it:=by simpa using hb
  subst e;exact ⟨_,st,fun v z=>by
   have z':Data.fields _=Data.cell v:=z
   cases z'⟩
 keep:=fun i h h' st k=>k it (by simp) _ st
 item:=by
  intro X hP hw hK hc i pins s σ H E I hf st hg;subst hP hw hK;obtain ⟨f0,f1,f2,f3,f4,f5⟩:=hf it (by simp);have W:=Walks.range (prog:=X.prog) (w:=X.w) (I.ok.hd hc) it lo 1 n;refine W.item i s _ _ hg st fun v h' tk hv st' kk=>?_;obtain ⟨t,rfl⟩:=hv;have I1:Inv X pins σ H { s with heap:=h',toks:=tk }:=I.turned (fun b o hb e=>kk b o (by simpa using hb) e) f0 f1 f3 f4 f5;refine ⟨_,rfl,jM (s:={ s with heap:=h',toks:=tk }) (n:= "range_iterator") st' rfl rfl (by decide) ⟨.int (lo+i),H,I1,⟨t,?_⟩,⟨rfl,rfl⟩,st',fun b hb=>(hf b hb).1⟩⟩;rw [Int.mul_one]
 done:=by
  intro X hP hw hK hc i pins s σ H E I hf st hg;subst hP hw hK;obtain ⟨f0,f1,f2,f3,f4,f5⟩:=hf it (by simp);exact wpAny_pyNext_range_end (I.ok.hd hc) st (by have:n≤i:=hg;lia) fun h' eb=>⟨rfl,I.turned (t':=s.toks) (fun b o hb e=>eb b o hb e) f0 f1 f3 f4 f5⟩
 self:=fun _ _ _ _ _ st h=>wpAny_pyIter_rangeiter st h
section
variable {X:Cx} {tg:Expr}
def qK (K:PySem.W.Frag) (tl:TE):TI:=fun σ H R=>tl σ H fun x H1=>∃ a,x=.ref a∧(∃ xs,SqL K H1 a xs)∧R (Itl K a) H1
def sM (K:PySem.W.Frag) (tl:TE):TI:=fun σ H R=>tl σ H fun x H1=>∃ a,x=.ref a∧(∃ xs,SqT K H1 a xs)∧R (Itt K a) H1
theorem pE {l:Expr} {tl:TE} (hl:PE X l tl):PI X tg l (qK X.K tl):=by
 intro pins s σ H R I h;refine thn (hl pins s σ H _ I h) fun v s1 ⟨x,H1,I1,r1,q1⟩=>?_;obtain ⟨a,e,⟨xs,hq⟩,q⟩:=q1;subst e
 cases r1
 obtain ⟨its,rv,p,hz⟩:=I1.list hq;refine wpAny_pyIter_list p.isList ?_;refine ⟨s1.heap.objs.size,[s1.heap.objs.size],_,_,H1,rfl,I1.kept (t':=s1.toks) fun b o e=>Heap.get?_push_of_some _ e,mL a _,⟨_,Heap.get?_push_size _ rfl,rfl,rfl⟩,fun b hb=>?_,q⟩;have e:b=s1.heap.objs.size:=by simpa using hb
 subst e;exact I1.fpOk (Nat.le_refl _) (I1.hok.fresh (Nat.le_refl _))
theorem rp {l:Expr} {tl:TE} (hl:PE X l tl):PI X tg l (sM X.K tl):=by
 intro pins s σ H R I h;refine thn (hl pins s σ H _ I h) fun v s1 ⟨x,H1,I1,r1,q1⟩=>?_;obtain ⟨a,e,⟨xs,hq⟩,q⟩:=q1;subst e
 cases r1
 obtain ⟨its,rv,p,hz⟩:=I1.tuple hq;refine wpAny_pyIter_tuple (show s1.heap.IsTuple a its.toArray from p) ?_;refine ⟨s1.heap.objs.size,[s1.heap.objs.size],_,_,H1,rfl,I1.kept (t':=s1.toks) fun b o e=>Heap.get?_push_of_some _ e,kZ a _,⟨_,Heap.get?_push_size _ rfl,rfl,rfl⟩,fun b hb=>?_,q⟩;have e:b=s1.heap.objs.size:=by simpa using hb
 subst e;exact I1.fpOk (Nat.le_refl _) (I1.hok.fresh (Nat.le_refl _))
theorem nF {pins:List (Addr×Obj)} {σ:St} {H:Hp} {s:Shared} {R:It→Hp→Prop} {E:Value→Shared→Prop} {lo hi:Int} {t u v:Tok} {tk:Nat} (I:Inv X pins σ H s) (h1:-(2 ^ 62)≤lo) (h2:lo < 2 ^ 62) (h3:-(2 ^ 62)≤hi) (h4:hi < 2 ^ 62)
  (q:R (Itr lo (hi - lo).toNat) H):wpAny (model X.prog X.w) X.A (pyIter (.ref s.heap.objs.size)) (PIE X pins σ tg R) E { s with heap:=s.heap.push { cls:=.type "range",data:=.fields #[.int lo t,.int hi u,.int 1 v] },toks:=tk }:=by
 refine wpAny_pyIter_range (IsRange.new ..) (small_one h1 h2 h3 h4) ?_;have I1:Inv X pins σ H { s with heap:=s.heap.push { cls:=.type "range",data:=.fields #[.int lo t,.int hi u,.int 1 v] },toks:=tk }:=I.kept fun b o e=>Heap.get?_push_of_some _ e;refine ⟨(s.heap.push { cls:=.type "range",data:=.fields #[.int lo t,.int hi u,.int 1 v] }).objs.size,[(s.heap.push { cls:=.type "range",data:=.fields #[.int lo t,.int hi u,.int 1 v] }).objs.size],_,_,H,rfl,
  I1.kept (t':=tk) fun b o e=>Heap.get?_push_of_some _ e,lg _ lo (hi - lo).toNat,?_,fun b hb=>?_,q⟩
 ·have e1:lo+((0:Nat):Int)*1=lo:=by simp
  have e2:(((hi - lo).toNat:Nat):Int) - ((0:Nat):Int)=Builtin.Range.rangeSize lo hi 1:=by rw [rangeSize_one];split <;> lia
  show IsRangeIter _ _ (lo+((0:Nat):Int)*1) ((((hi - lo).toNat:Nat):Int) - ((0:Nat):Int)) 1;rw [e1,e2];exact Heap.get?_push_size _ rfl
 ·have e:b=(s.heap.push { cls:=.type "range",data:=.fields #[.int lo t,.int hi u,.int 1 v] }).objs.size:=by simpa using hb
  subst e;exact I1.fpOk (Nat.le_refl _) (I1.hok.fresh (Nat.le_refl _))
def sN (ta:TA):TI:=fun σ H R=>ta σ H fun vs H1=>∃ j:Int,vs=[.int j]∧-(2 ^ 62)≤j∧j < 2 ^ 62∧R (Itr 0 j.toNat) H1
theorem eB {a:Expr} {ta:TA} {p pos:Pos} (hg:Gl X "range") (hm:X.mg "range" = none) (ha:PA X [a] ta) (hs:starEach [a] X.env=[(false,eval a X.env)]:=by rfl):PI X tg (.Call (.Name "range" p) [a] [] pos) (sN ta):=by
 intro pins s σ H R I h;refine Call_ (cI I hg hm boot_range (PyProof.Rows.callWith_type1 (thn (ha pos pins s σ H _ I h) fun us s1 ⟨vs,H1,I1,r1,q1⟩=>?_) hs rfl));obtain ⟨j,e,q1,q2,q⟩:=q1;subst e
 cases r1 with
 | cons r rr =>
  cases rr
  obtain ⟨t,rfl⟩:=r;exact call_range_1 (nF I1 (by lia) (by lia) q1 q2 (by simpa using q))
def tFor (wi:TI) (g:TG) (tb:TS):TS:=fun D σ H=>wi σ H fun J H1=>∃ W:Nat→Nat→St→Hp→Prop,(∃ m,W 0 m σ H1)∧∀ i m σ H,W i m σ H →
 (J.stop i H∧D.nx σ H)∨(J.go i H∧∃ N:St→Hp→Prop,(∀ σ' H',N σ' H'→∃ m',m' < m∧W (i+1) m' σ' H')∧∀ x H',J.yld i H x H'→g x σ H' fun σ2 H2=>tb { D with nx:=N,ct:=N,bk:=D.nx } σ2 H2)
def iF (fp:List Addr) (h:Heap):List (Addr×Obj):=fp.filterMap fun b=>(h.get? b).map fun o=>(b,o)
theorem bw {fp:List Addr} {h:Heap} {b:Addr} {o:Obj} (hb:b∈fp) (e:h.get? b=some o):(b,o)∈iF fp h:=List.mem_filterMap.mpr ⟨b,hb,by rw [e];rfl⟩
theorem mM {fp:List Addr} {h:Heap} {p:Addr×Obj} (hp:p∈iF fp h):p.1∈fp∧h.get? p.1=some p.2:=by
 obtain ⟨b,hb,e⟩:=List.mem_filterMap.mp hp
 cases q:h.get? b with
 | none=>rw [q] at e;cases e
 | some o =>
  rw [q] at e;have e':(b,o)=p:=Option.some.inj e;subst e';exact ⟨hb,q⟩
theorem Inv.pinned {pins:List (Addr×Obj)} {σ:St} {H:Hp} {s:Shared} {fp:List Addr} (I:Inv X pins σ H s) (hf:∀ b∈fp,dv X pins H b) (ho:∀ b∈fp,∃ o,s.heap.get? b=some o∧∀ v,o.data≠.cell v):Inv X (pins++iF fp s.heap) σ H s :=
 I.pins_of fun p hp=>(List.mem_append.mp hp).elim (fun z=>I.pin p (List.mem_append_right _ z)) fun z=>by
  obtain ⟨hb,e⟩:=mM z;obtain ⟨f0,f1,f2,_⟩:=hf p.1 hb;obtain ⟨o,e',d⟩:=ho p.1 hb;rw [e] at e';cases e';exact ⟨e,f0,f1,f2,d⟩
theorem Inv.unpinned {pins pl:List (Addr×Obj)} {σ:St} {H:Hp} {s:Shared} (I:Inv X (pins++pl) σ H s):Inv X pins σ H s:=I.pins_of fun p hp=>I.pin p (List.mem_append_right _ (List.mem_append_left _ hp))
theorem eC {iter:Expr} {body:List Stmt} {wi:TI} {g:TG} {tb:TS} {pos:Pos} (hp:PassesOwn (model X.prog X.w) X.A X.env X.xe) (hc:X.calm=true) (hi:PI X tg iter wi) (hg:PG X tg g) (hb:PSs X body tb)
  (hs:∀ x,foldedSetIterable iter X.env x=pure x:=by intro _;rfl):PS X (.For tg iter body [] pos) (tFor wi g tb):=by
 intro pins s σ H D I h;refine wpAny_For (thn (hi pins s σ H _ I h) fun v s1 h1=>thn h1 fun itv s2 h2=>?_) hs;obtain ⟨it,fp,tn,J,H2,e,I2,T,st2,f2,W,⟨m0,w0⟩,turn⟩:=h2;subst e;have stat:∀ {H':Hp},(∀ b∈fp,H' b=none)→∀ b∈fp,dv X pins H' b:=fun hn b hb=>⟨hn b hb,(f2 b hb).2⟩;refine codeAny_forLoop_any (fun n s'=>∃ i σ' H',Inv X pins σ' H' s'∧tn i s'.heap∧(∀ b∈fp,H' b=none)∧W i n σ' H') ?_ m0 ⟨0,σ,H2,I2,st2,fun b hb=>(f2 b hb).1,w0⟩;rintro n s3 ⟨i,σ3,H3,I3,st3,fr3,w3⟩;rcases turn i n σ3 H3 w3 with ⟨stop,qn⟩ | ⟨go,N,hN,step⟩
 ·refine wpAny_passesOwn hp (thn (T.done X rfl rfl rfl hc i pins s3 σ3 H3 X.xe I3 (stat fr3) st3 stop) fun r s4 ⟨hr,I4⟩=>?_);subst hr;exact wpAny_execs_nil ⟨σ3,H3,I4,qn⟩
 ·refine wpAny_passesOwn hp (thn (T.item X rfl rfl rfl hc i pins s3 σ3 H3 X.xe I3 (stat fr3) st3 go) fun r s4 ⟨u,hr,h4⟩=>?_);subst hr;refine wpAny_passesOwn hp (thn h4 fun _ s5 ⟨x,H5,I5,r5,y5,st5,fr5⟩=>?_);have I5':=I5.pinned (stat fr5) (T.obj _ _ st5);refine wpAny_passesOwn hp (thn (hg _ s5 σ3 H5 x u _ I5' r5 (step x H5 y5)) fun _ s6 ⟨σ6,H6,I6,q6⟩=>?_);refine wpAny_passesOwn hp (thn (hb _ s6 σ6 H6 _ I6 q6) fun f s7 q7=>?_);have again:∀ {σ7:St} {H7:Hp},Inv X (pins++iF fp s5.heap) σ7 H7 s7→N σ7 H7→∃ m,m < n∧∃ i σ' H',Inv X pins σ' H' s7∧tn i s7.heap∧(∀ b∈fp,H' b=none)∧W i m σ' H':=fun {σ7 H7} I7 n7=>by
   obtain ⟨m',hm,w7⟩:=hN σ7 H7 n7;refine ⟨m',hm,i+1,σ7,H7,I7.unpinned,T.keep _ _ _ st5 fun b hb o e=>(I7.pin (b,o) (List.mem_append_right _ (List.mem_append_right _ (bw hb e)))).1,fun b hb=>?_,w7⟩;obtain ⟨o,e,d⟩:=T.obj _ _ st5 b hb;exact (I7.pin (b,o) (List.mem_append_right _ (List.mem_append_right _ (bw hb e)))).2.1
  cases f with
  | next=>obtain ⟨σ7,H7,I7,n7⟩:=q7;exact again I7 n7
  | cont=>obtain ⟨σ7,H7,I7,n7⟩:=q7;exact again I7 n7
  | brk=>obtain ⟨σ7,H7,I7,q7⟩:=q7;exact ⟨σ7,H7,I7.unpinned,q7⟩
  | ret v=>obtain ⟨x7,σ7,H7,I7,r7,q7⟩:=q7;exact ⟨x7,σ7,H7,I7.unpinned,r7,q7⟩
end
theorem nG {K:PySem.W.Frag} {a:Addr} {xs:List V} {g:TG} {tb:TS} {D:Ends} {σ:St} {H:Hp} (Pv:Nat→St→Hp→Prop) (h0:Pv 0 σ H) (hl:∀ i σ H,i≤xs.length→Pv i σ H→SqL K H a xs)
  (hs:∀ i x σ H,xs[i]?=some x→Pv i σ H→g x σ H fun σ2 H2=>tb { D with nx:=Pv (i+1),ct:=Pv (i+1),bk:=D.nx } σ2 H2) (hd:∀ σ H,Pv xs.length σ H→D.nx σ H) :
  ∃ W:Nat→Nat→St→Hp→Prop,(∃ m,W 0 m σ H)∧∀ i m σ H,W i m σ H →
   ((Itl K a).stop i H∧D.nx σ H)∨((Itl K a).go i H∧∃ N:St→Hp→Prop,(∀ σ' H',N σ' H'→∃ m',m' < m∧W (i+1) m' σ' H')∧∀ x H',(Itl K a).yld i H x H'→g x σ H' fun σ2 H2=>tb { D with nx:=N,ct:=N,bk:=D.nx } σ2 H2):=by
 refine ⟨fun i m σ H=>m=xs.length - i∧i≤xs.length∧Pv i σ H,⟨xs.length,by simp,Nat.zero_le _,h0⟩,?_⟩;rintro i m σ H ⟨rfl,hi,p⟩;have q:=hl i σ H hi p
 by_cases hlt:i < xs.length
 ·refine .inr ⟨⟨xs,xs[i],q,by simp [hlt]⟩,Pv (i+1),fun σ' H' p'=>⟨xs.length - (i+1),by lia,rfl,hlt,p'⟩,fun x H' y=>?_⟩;obtain ⟨e,y⟩:=y;subst e;exact hs i x σ _ (y xs q) p
 ·have e:i=xs.length:=by lia
  subst e;exact .inl ⟨⟨xs,q,Nat.le_refl _⟩,hd σ H p⟩
theorem pF {K:PySem.W.Frag} {a:Addr} {xs:List V} {g:TG} {tb:TS} {D:Ends} {σ:St} {H:Hp} (Pv:Nat→St→Hp→Prop) (h0:Pv 0 σ H) (hl:∀ i σ H,i≤xs.length→Pv i σ H→SqT K H a xs)
  (hs:∀ i x σ H,xs[i]?=some x→Pv i σ H→g x σ H fun σ2 H2=>tb { D with nx:=Pv (i+1),ct:=Pv (i+1),bk:=D.nx } σ2 H2) (hd:∀ σ H,Pv xs.length σ H→D.nx σ H) :
  ∃ W:Nat→Nat→St→Hp→Prop,(∃ m,W 0 m σ H)∧∀ i m σ H,W i m σ H →
   ((Itt K a).stop i H∧D.nx σ H)∨((Itt K a).go i H∧∃ N:St→Hp→Prop,(∀ σ' H',N σ' H'→∃ m',m' < m∧W (i+1) m' σ' H')∧∀ x H',(Itt K a).yld i H x H'→g x σ H' fun σ2 H2=>tb { D with nx:=N,ct:=N,bk:=D.nx } σ2 H2):=by
 refine ⟨fun i m σ H=>m=xs.length - i∧i≤xs.length∧Pv i σ H,⟨xs.length,by simp,Nat.zero_le _,h0⟩,?_⟩;rintro i m σ H ⟨rfl,hi,p⟩;have q:=hl i σ H hi p
 by_cases hlt:i < xs.length
 ·refine .inr ⟨⟨xs,xs[i],q,by simp [hlt]⟩,Pv (i+1),fun σ' H' p'=>⟨xs.length - (i+1),by lia,rfl,hlt,p'⟩,fun x H' y=>?_⟩;obtain ⟨e,y⟩:=y;subst e;exact hs i x σ _ (y xs q) p
 ·have e:i=xs.length:=by lia
  subst e;exact .inl ⟨⟨xs,q,Nat.le_refl _⟩,hd σ H p⟩
theorem eD {lo:Int} {n:Nat} {g:TG} {tb:TS} {D:Ends} {σ:St} {H:Hp} (Pv:Nat→St→Hp→Prop) (h0:Pv 0 σ H)
  (hs:∀ i σ H,i < n→Pv i σ H→g (.int (lo+i)) σ H fun σ2 H2=>tb { D with nx:=Pv (i+1),ct:=Pv (i+1),bk:=D.nx } σ2 H2) (hd:∀ σ H,Pv n σ H→D.nx σ H) :
  ∃ W:Nat→Nat→St→Hp→Prop,(∃ m,W 0 m σ H)∧∀ i m σ H,W i m σ H →
   ((Itr lo n).stop i H∧D.nx σ H)∨((Itr lo n).go i H∧∃ N:St→Hp→Prop,(∀ σ' H',N σ' H'→∃ m',m' < m∧W (i+1) m' σ' H')∧∀ x H',(Itr lo n).yld i H x H'→g x σ H' fun σ2 H2=>tb { D with nx:=N,ct:=N,bk:=D.nx } σ2 H2):=by
 refine ⟨fun i m σ H=>m=n - i∧i≤n∧Pv i σ H,⟨n,by simp,Nat.zero_le _,h0⟩,?_⟩;rintro i m σ H ⟨rfl,hi,p⟩
 by_cases hlt:i < n
 ·refine .inr ⟨hlt,Pv (i+1),fun σ' H' p'=>⟨n - (i+1),by lia,rfl,hlt,p'⟩,fun x H' y=>?_⟩;obtain ⟨e,y⟩:=y;subst e y;exact hs i σ _ hlt p
 ·have e:i=n:=by lia
  subst e;exact .inl ⟨Nat.le_refl _,hd σ H p⟩
abbrev R2:=V→V→Hp→VK→Prop
def OpR (X:Cx) (f:Value→Value→Sem Value) (r:R2):Prop :=
 ∀ (pins:List (Addr×Obj)) (s:Shared) (σ:St) (H:Hp) (x y:V) (v u:Value) (Q:VK),Inv X pins σ H s→RelV x v→RelV y u→r x y H Q →
  wpAny (model X.prog X.w) X.A (f v u) (EP X pins σ Q) X.xe s
def UnR (X:Cx) (f:Value→Sem Value) (r:V→Hp→VK→Prop):Prop :=
 ∀ (pins:List (Addr×Obj)) (s:Shared) (σ:St) (H:Hp) (x:V) (v:Value) (Q:VK),Inv X pins σ H s→RelV x v→r x H Q →
  wpAny (model X.prog X.w) X.A (f v) (EP X pins σ Q) X.xe s
def aW (X:Cx) (f:Value) (r:List V→Hp→VK→Prop):Prop :=
 ∀ (pins:List (Addr×Obj)) (s:Shared) (σ:St) (H:Hp) (xs:List V) (us:List Value) (Q:VK),Inv X pins σ H s→Vals xs us→r xs H Q →
  wpAny (model X.prog X.w) X.A (call f us) (EP X pins σ Q) X.xe s
def tOp (r:R2) (ta tb:TE):TE:=fun σ H Q=>ta σ H fun x H1=>tb σ H1 fun y H2=>r x y H2 Q
def tUn (r:V→Hp→VK→Prop) (ta:TE):TE:=fun σ H Q=>ta σ H fun x H1=>r x H1 Q
inductive IRI (C:Int→Int→Prop) (g:Int→Int→V) (x y:V) (H:Hp) (Q:VK):Prop
 | mk (i j:Int):(x=.int i)→(y=.int j)→(C i j)→(Q (g i j) H)→IRI C g x y H Q
def rI (C:Int→Int→Prop) (g:Int→Int→V):R2:=fun x y H Q=>IRI C g x y H Q
inductive IRI0 (g:Int→Int→V) (x y:V) (H:Hp) (Q:VK):Prop
 | mk (i j:Int):(x=.int i)→(y=.int j)→(Q (g i j) H)→IRI0 g x y H Q
def rI0 (g:Int→Int→V):R2:=fun x y H Q=>IRI0 g x y H Q
def rU (g:Int→V):V→Hp→VK→Prop:=fun x H Q=>∃ i,x=.int i∧Q (g i) H
section
variable {X:Cx} {a b c:Expr} {ta tb tc:TE} {pos:Pos}
theorem rq (ha:PE X a ta) (hb:PE X b tb) {pins:List (Addr×Obj)} {s:Shared} {σ:St} {H:Hp} {R:V→V→Hp→Prop} (I:Inv X pins σ H s)
  (h:ta σ H fun x H1=>tb σ H1 fun y H2=>R x y H2) {Q:Value→Shared→Prop} {f:Value→Value→Sem Value}
  (hf:∀ v u s2 x y H2,Inv X pins σ H2 s2→RelV x v→RelV y u→R x y H2→wpAny (model X.prog X.w) X.A (f v u) Q X.xe s2) :
  wpAny (model X.prog X.w) X.A (eval a X.env) (fun v s₁=>wpAny (model X.prog X.w) X.A (eval b X.env) (fun u s₂=>wpAny (model X.prog X.w) X.A (f v u) Q X.xe s₂) X.xe s₁) X.xe s:=by
 refine thn (ha pins s σ H _ I h) fun v s1 ⟨x,H1,I1,r1,q1⟩=>?_;refine thn (hb pins s1 σ H1 _ I1 q1) fun u s2 ⟨y,H2,I2,r2,q2⟩=>?_;exact hf v u s2 x y H2 I2 r1 r2 q2
theorem pe_op {op:Operator} {r:R2} (ho:OpR X (binaryOp op) r) (ha:PE X a ta) (hb:PE X b tb):PE X (.BinOp a op b pos) (tOp r ta tb):=by
 intro pins s σ H Q I h;exact wpAny_BinOp (rq ha hb I h fun v u s2 x y H2 I2 rx ry q=>ho pins s2 σ H2 x y v u Q I2 rx ry q)
theorem pe_un {op:UnaryOp} {r:V→Hp→VK→Prop} (ho:UnR X (unaryOp op) r) (ha:PE X a ta):PE X (.UnaryOp op a pos) (tUn r ta):=by
 intro pins s σ H Q I h;exact UnaryOp_ (thn (ha pins s σ H _ I h) fun v s1 ⟨x,H1,I1,r1,q1⟩=>ho pins s1 σ H1 x v Q I1 r1 q1)
theorem opI {f:Value→Value→Sem Value} {C:Int→Int→Prop} {g:Int→Int→Int}
  (rule:∀ (i j:Int) (t u:Tok) (s:Shared) (Q:Value→Shared→Prop) (E:Value→Shared→Prop),C i j→Q (.int (g i j) s.toks) { s with toks:=s.toks+1 }→wpAny (model X.prog X.w) X.A (f (.int i t) (.int j u)) Q E s) :
  OpR X f (rI C fun i j=>.int (g i j)):=by
 intro pins s σ H x y v u Q I rx ry h;obtain ⟨i,j,rfl,rfl,hc,q⟩:=h;obtain ⟨t,rfl⟩:=rx;obtain ⟨t',rfl⟩:=ry;exact rule i j t t' s _ _ hc ⟨.int (g i j),H,I.tok _,⟨_,rfl⟩,q⟩
theorem sO {f:Value→Value→Sem Value} {g:Int→Int→Int}
  (rule:∀ (i j:Int) (t u:Tok) (s:Shared) (Q:Value→Shared→Prop) (E:Value→Shared→Prop),Q (.int (g i j) s.toks) { s with toks:=s.toks+1 }→wpAny (model X.prog X.w) X.A (f (.int i t) (.int j u)) Q E s) :
  OpR X f (rI0 fun i j=>.int (g i j)):=by
 intro pins s σ H x y v u Q I rx ry h;obtain ⟨i,j,rfl,rfl,q⟩:=h;obtain ⟨t,rfl⟩:=rx;obtain ⟨t',rfl⟩:=ry;exact rule i j t t' s _ _ ⟨.int (g i j),H,I.tok _,⟨_,rfl⟩,q⟩
theorem pG {f:Value→Value→Sem Value} {g:Int→Int→Bool}
  (rule:∀ (i j:Int) (t u:Tok) (s:Shared) (Q:Value→Shared→Prop) (E:Value→Shared→Prop),Q (.bool (g i j)) s→wpAny (model X.prog X.w) X.A (f (.int i t) (.int j u)) Q E s) :
  OpR X f (rI0 fun i j=>.bl (g i j)):=by
 intro pins s σ H x y v u Q I rx ry h;obtain ⟨i,j,rfl,rfl,q⟩:=h;obtain ⟨t,rfl⟩:=rx;obtain ⟨t',rfl⟩:=ry;exact rule i j t t' s _ _ ⟨.bl (g i j),H,I,rfl,q⟩
def uh (i j:Int):Prop:=0≤j∧j≤1000000∧i.natAbs < 2 ^ 64
def CMul (i j:Int):Prop:=(-(2 ^ 64) < i∧i < 2 ^ 64)∨(-(2 ^ 64) < j∧j < 2 ^ 64)
theorem CMul.ok {i j:Int} (h:CMul i j):IntMulOk i j:=by
 rcases h with ⟨h1,h2⟩ | ⟨h1,h2⟩
 ·exact .of_left (intBits_le_64 h1 h2)
 ·exact .of_right (intBits_le_64 h1 h2)
theorem bx:OpR X (binaryOp .Add) (rI0 fun i j=>.int (i+j)):=sO fun _ _ _ _ _ _ _ q=>add_int q
theorem op_sub:OpR X (binaryOp .Sub) (rI0 fun i j=>.int (i - j)):=sO fun _ _ _ _ _ _ _ q=>sub_int q
theorem cm:OpR X (binaryOp .Mult) (rI CMul fun i j=>.int (i*j)):=opI fun _ _ _ _ _ _ _ hc q=>mul_int q hc.ok
theorem cJ:OpR X (binaryOp .Mod) (rI (fun _ j=>0 < j) fun i j=>.int (i % j)):=opI fun i j _ _ _ _ _ hc q=>by
 have h1:(0:Int) < j:=hc;exact mod_int' (by lia) (by rw [Int.fmod_eq_emod_of_nonneg i (by lia)];exact q)
theorem op_pow:OpR X (binaryOp .Pow) (rI uh fun i j=>.int (i ^ j.toNat)):=opI fun _ _ _ _ _ _ _ hc q=>pow_int_small hc.1 hc.2.1 hc.2.2 q
theorem unI {f:Value→Sem Value} {g:Int→Int}
  (rule:∀ (i:Int) (t:Tok) (s:Shared) (Q:Value→Shared→Prop) (E:Value→Shared→Prop),Q (.int (g i) s.toks) { s with toks:=s.toks+1 }→wpAny (model X.prog X.w) X.A (f (.int i t)) Q E s) :
  UnR X f (rU fun i=>.int (g i)):=by
 intro pins s σ H x v Q I rx h;obtain ⟨i,rfl,q⟩:=h;obtain ⟨t,rfl⟩:=rx;exact rule i t s _ _ ⟨.int (g i),H,I.tok _,⟨_,rfl⟩,q⟩
theorem un_neg:UnR X (unaryOp .USub) (rU fun i=>.int (-i)):=unI fun _ _ _ _ _ q=>neg_int q
end
def rs:V→V→Bool
 | .non,.non=>true | .non,.int _=>true | .int _,.non=>true | .non,.bl _=>true | .bl _,.non=>true | .non,.str _=>true | .str _,.non=>true
 | .int _,.int _=>true | .bl _,.bl _=>true | .str _,.str _=>true | .byt _,.byt _=>true
 | .int _,.str _=>true | .str _,.int _=>true | .bl _,.str _=>true | .str _,.bl _=>true
 | _,_=>false
def rEq:R2:=fun x y H Q=>rs x y=true∧Q (.bl (decide (x=y))) H
def rNe:R2:=fun x y H Q=>rs x y=true∧Q (.bl (!decide (x=y))) H
theorem l6 {i j:Int}:decide (V.int i=V.int j)=(i == j):=by
 rw [Bool.eq_iff_iff];simp
theorem nI {i j:Bool}:decide (V.bl i=V.bl j)=(i == j):=by
 rw [Bool.eq_iff_iff];simp
theorem dJ {i j:Str}:decide (V.str i=V.str j)=(i == j):=by
 rw [Bool.eq_iff_iff];simp
theorem l7 {i j:Array UInt8}:decide (V.byt i=V.byt j)=(i.toList == j.toList):=by
 rw [Bool.eq_iff_iff]
 cases i
 cases j
 simp
section
variable {X:Cx} {a b c:Expr} {ta tb tc:TE} {pos:Pos}
theorem au {pins:List (Addr×Obj)} {σ:St} {H:Hp} {s:Shared} {Q:VK} {k k':Bool} (I:Inv X pins σ H s) (q:Q (.bl k) H) (e:k=k'):EP X pins σ Q (.bool k') s:=by
 subst e;exact ⟨.bl k,H,I,rfl,q⟩
theorem op_eq:OpR X (compareOp .Eq) rEq:=by
 intro pins s σ H x y v u Q I rx ry h;obtain ⟨hs,q⟩:=h
 cases x with
 | non =>
  cases rx
  cases y with
  | non=>cases ry;exact PySem.EqNone.eq_none_none (au I q (by simp))
  | bl j=>cases ry;exact PySem.EqNone.eq_none_bool (au I q (by simp))
  | int j=>obtain ⟨t',rfl⟩:=ry;exact PySem.EqNone.eq_none_int (au I q (by simp))
  | str j=>obtain ⟨t',rfl⟩:=ry;exact PySem.EqNone.eq_none_str (au I q (by simp))
  | _=>exact absurd (show false=true from hs) Bool.false_ne_true
 | bl i =>
  cases rx
  cases y with
  | non=>cases ry;exact PySem.EqNone.eq_bool_none (au I q (by simp))
  | bl j=>cases ry;exact eq_bool (au I q nI)
  | str j=>obtain ⟨t',rfl⟩:=ry;exact PySem.EqMixed.eq_bool_str (au I q (by simp))
  | _=>exact absurd (show false=true from hs) Bool.false_ne_true
 | int i =>
  obtain ⟨t,rfl⟩:=rx
  cases y with
  | non=>cases ry;exact PySem.EqNone.eq_int_none (au I q (by simp))
  | int j=>obtain ⟨t',rfl⟩:=ry;exact eq_int (au I q l6)
  | str j=>obtain ⟨t',rfl⟩:=ry;exact PySem.EqMixed.eq_int_str (au I q (by simp))
  | _=>exact absurd (show false=true from hs) Bool.false_ne_true
 | str i =>
  obtain ⟨t,rfl⟩:=rx
  cases y with
  | non=>cases ry;exact PySem.EqNone.eq_str_none (au I q (by simp))
  | bl j=>cases ry;exact PySem.EqMixed.eq_str_bool (au I q (by simp))
  | int j=>obtain ⟨t',rfl⟩:=ry;exact PySem.EqMixed.eq_str_int (au I q (by simp))
  | str j=>obtain ⟨t',rfl⟩:=ry;exact eq_str (au I q dJ)
  | _=>exact absurd (show false=true from hs) Bool.false_ne_true
 | byt i =>
  obtain ⟨t,rfl⟩:=rx
  cases y with
  | byt j=>obtain ⟨t',rfl⟩:=ry;exact PySem.W.eq_bytes (au I q l7)
  | _=>exact absurd (show false=true from hs) Bool.false_ne_true
 | _=>cases y <;> exact absurd (show false=true from hs) Bool.false_ne_true
theorem op_ne:OpR X (compareOp .NotEq) rNe:=by
 intro pins s σ H x y v u Q I rx ry h;obtain ⟨hs,q⟩:=h
 cases x with
 | non =>
  cases rx
  cases y with
  | non=>cases ry;exact PySem.EqNone.ne_none_none (au I q (by simp))
  | bl j=>cases ry;exact PySem.EqNone.ne_none_bool (au I q (by simp))
  | int j=>obtain ⟨t',rfl⟩:=ry;exact PySem.EqNone.ne_none_int (au I q (by simp))
  | str j=>obtain ⟨t',rfl⟩:=ry;exact PySem.EqNone.ne_none_str (au I q (by simp))
  | _=>exact absurd (show false=true from hs) Bool.false_ne_true
 | bl i =>
  cases rx
  cases y with
  | non=>cases ry;exact PySem.EqNone.ne_bool_none (au I q (by simp))
  | bl j=>cases ry;exact ne_bool (au I q (congrArg not nI))
  | str j=>obtain ⟨t',rfl⟩:=ry;exact PySem.EqMixed.ne_bool_str (au I q (by simp))
  | _=>exact absurd (show false=true from hs) Bool.false_ne_true
 | int i =>
  obtain ⟨t,rfl⟩:=rx
  cases y with
  | non=>cases ry;exact PySem.EqNone.ne_int_none (au I q (by simp))
  | int j=>obtain ⟨t',rfl⟩:=ry;exact ne_int (au I q (congrArg not l6))
  | str j=>obtain ⟨t',rfl⟩:=ry;exact PySem.EqMixed.ne_int_str (au I q (by simp))
  | _=>exact absurd (show false=true from hs) Bool.false_ne_true
 | str i =>
  obtain ⟨t,rfl⟩:=rx
  cases y with
  | non=>cases ry;exact PySem.EqNone.ne_str_none (au I q (by simp))
  | bl j=>cases ry;exact PySem.EqMixed.ne_str_bool (au I q (by simp))
  | int j=>obtain ⟨t',rfl⟩:=ry;exact PySem.EqMixed.ne_str_int (au I q (by simp))
  | str j=>obtain ⟨t',rfl⟩:=ry;exact ne_str (au I q (congrArg not dJ))
  | _=>exact absurd (show false=true from hs) Bool.false_ne_true
 | byt i =>
  obtain ⟨t,rfl⟩:=rx
  cases y with
  | byt j=>obtain ⟨t',rfl⟩:=ry;exact PySem.W.ne_bytes (au I q (congrArg not l7))
  | _=>exact absurd (show false=true from hs) Bool.false_ne_true
 | _=>cases y <;> exact absurd (show false=true from hs) Bool.false_ne_true
theorem sP:OpR X (compareOp .Lt) (rI0 fun i j=>.bl (decide (i < j))):=pG fun _ _ _ _ _ _ _ q=>lt_int q
theorem op_le:OpR X (compareOp .LtE) (rI0 fun i j=>.bl (decide (i≤j))):=pG fun _ _ _ _ _ _ _ q=>le_int q
theorem op_gt:OpR X (compareOp .Gt) (rI0 fun i j=>.bl (decide (j < i))):=pG fun _ _ _ _ _ _ _ q=>gt_int q
theorem nJ:OpR X (compareOp .GtE) (rI0 fun i j=>.bl (decide (j≤i))):=pG fun _ _ _ _ _ _ _ q=>ge_int q
theorem mO:OpR X (compareOp .Lt) (fun x y H Q=>∃ i j,x=.str i∧y=.str j∧Q (.bl (decide (i.cps.toList < j.cps.toList))) H):=by
 intro pins s σ H x y v u Q I rx ry h;obtain ⟨i,j,rfl,rfl,q⟩:=h;obtain ⟨t,rfl⟩:=rx;obtain ⟨t',rfl⟩:=ry;exact lt_str (au I q rfl)
theorem mP:OpR X (compareOp .In) (fun x y H Q=>∃ i j,x=.str i∧y=.str j∧Q (.bl (!(Builtin.Str.occurrences j i 0 j.length 1).isEmpty)) H):=by
 intro pins s σ H x y v u Q I rx ry h;obtain ⟨i,j,rfl,rfl,q⟩:=h;obtain ⟨t,rfl⟩:=rx;obtain ⟨t',rfl⟩:=ry;exact in_str (au I q rfl)
theorem rA:OpR X (compareOp .Is) (fun x y H Q=>y=.non∧Q (.bl (decide (x=.non))) H):=by
 intro pins s σ H x y v u Q I rx ry h;obtain ⟨rfl,q⟩:=h
 cases ry
 refine is_none_gen (au I q ?_)
 cases x <;> first
  | (cases rx;rfl)
  | (obtain ⟨t,rfl⟩:=rx;rfl)
theorem op_notN:OpR X (compareOp .IsNot) (fun x y H Q=>y=.non∧Q (.bl (!decide (x=.non))) H):=by
 intro pins s σ H x y v u Q I rx ry h;obtain ⟨rfl,q⟩:=h
 cases ry
 refine isnot_none_gen (au I q ?_)
 cases x <;> first
  | (cases rx;rfl)
  | (obtain ⟨t,rfl⟩:=rx;rfl)
theorem nomark (b:Expr) {op:CmpOp} (h:op≠.In:=by decide) (h2:op≠.NotIn:=by decide):behindInMarks op b=false:=by
 have e1:(op == CmpOp.In)=false:=by cases op <;> first | rfl | exact absurd rfl h
 have e2:(op == CmpOp.NotIn)=false:=by cases op <;> first | rfl | exact absurd rfl h2
 cases b <;> simp [behindInMarks,e1,e2]
theorem pe_cmpR {op:CmpOp} {r:R2} (ho:OpR X (compareOp op) r) (ha:PE X a ta) (hb:PE X b tb) (hm:behindInMarks op b=false):PE X (.Compare a [op] [b] pos) (tOp r ta tb):=by
 intro pins s σ H Q I h;exact wpAny_Compare1 (rq ha hb I h fun v u s2 x y H2 I2 rx ry q=>ho pins s2 σ H2 x y v u Q I2 rx ry q) hm
inductive IBl (x:V) (H':Hp) (Q:Bool→Hp→Prop):Prop
 | mk (k:Bool):(x=.bl k)→(Q k H')→IBl x H' Q
def qL (t:TE):TT:=fun σ H Q=>t σ H fun x H'=>IBl x H' Q
theorem pt_cmpR {op:CmpOp} {r:R2} (ho:OpR X (compareOp op) r) (ha:PE X a ta) (hb:PE X b tb) (hm:behindInMarks op b=false):PT X (.Compare a [op] [b] pos) (qL (tOp r ta tb)):=by
 intro pins s σ H Q I h;refine wpAny_isTrue_Compare1 (thn (ha pins s σ H _ I h) fun v s1 ⟨x,H1,I1,r1,q1⟩=>thn (hb pins s1 σ H1 _ I1 q1) fun u s2 ⟨y,H2,I2,r2,q2⟩ =>
  thn (ho pins s2 σ H2 x y v u _ I2 r1 r2 q2) fun c s3 ⟨z,H3,I3,r3,k,e,q3⟩=>?_) hm
 subst e
 cases r3
 exact wpAny_truthy_bool ⟨H3,I3,q3⟩
def nK (r r':R2) (ta tb tc:TE):TE:=fun σ H Q=>ta σ H fun x H1=>tb σ H1 fun y H2=>r x y H2 fun z H3=>∃ k,z=.bl k ∧
 (if k=true then tc σ H3 fun w' H4=>r' y w' H4 Q else Q (.bl false) H3)
theorem nL {op op':CmpOp} {r r':R2} (ho:OpR X (compareOp op) r) (ho':OpR X (compareOp op') r') (ha:PE X a ta) (hb:PE X b tb) (hc:PE X c tc)
  (hm:lastMarks [op,op'] [b,c]=false:=by with_unfolding_all rfl):PE X (.Compare a [op,op'] [b,c] pos) (nK r r' ta tb tc):=by
 intro pins s σ H Q I h;refine Compare_chain (thn (ha pins s σ H _ I h) fun v s1 ⟨x,H1,I1,r1,q1⟩=>chain_link (thn (hb pins s1 σ H1 _ I1 q1) fun u s2 ⟨y,H2,I2,r2,q2⟩ =>
  thn (ho pins s2 σ H2 x y v u _ I2 r1 r2 q2) fun d s3 ⟨z,H3,I3,r3,k,e,q3⟩=>?_)) hm
 subst e
 cases r3
 refine wpAny_truthy_bool ?_
 cases k with
 | false=>exact ite_ff ⟨.bl false,H3,I3,rfl,q3⟩
 | true=>exact ite_tt (chain_last (thn (hc pins s3 σ H3 _ I3 q3) fun w' s4 ⟨z',H4,I4,r4,q4⟩=>ho' pins s4 σ H4 y z' u w' Q I4 r2 r4 q4))
theorem pt_chain {op op':CmpOp} {r r':R2} (ho:OpR X (compareOp op) r) (ho':OpR X (compareOp op') r') (ha:PE X a ta) (hb:PE X b tb) (hc:PE X c tc)
  (hm:lastMarks [op,op'] [b,c]=false:=by with_unfolding_all rfl):PT X (.Compare a [op,op'] [b,c] pos) (qL (nK r r' ta tb tc)):=by
 intro pins s σ H Q I h;refine isTrue_chain (thn (ha pins s σ H _ I h) fun v s1 ⟨x,H1,I1,r1,q1⟩=>test_link (thn (hb pins s1 σ H1 _ I1 q1) fun u s2 ⟨y,H2,I2,r2,q2⟩ =>
  thn (ho pins s2 σ H2 x y v u _ I2 r1 r2 q2) fun d s3 ⟨z,H3,I3,r3,k,e,q3⟩=>?_)) hm
 subst e
 cases r3
 refine wpAny_truthy_bool ?_
 cases k with
 | false =>
  obtain ⟨k',e',q'⟩:=q3
  cases e'
  exact ite_ff ⟨H3,I3,q'⟩
 | true =>
  refine ite_tt (test_last (thn (hc pins s3 σ H3 _ I3 q3) fun w' s4 ⟨z',H4,I4,r4,q4⟩=>thn (ho' pins s4 σ H4 y z' u w' _ I4 r2 r4 q4) fun d' s5 ⟨z2,H5,I5,r5,k2,e2,q5⟩=>?_));subst e2
  cases r5
  exact wpAny_truthy_bool ⟨H5,I5,q5⟩
theorem fV:(sizeLine:Nat) < 2 ^ 63:=by rw [sizeLine_eq];decide
theorem dh {x:V} {us:List Value} (r:Vals [x] us):∃ u,us=[u]∧RelV x u:=by
 cases r with
 | cons r1 r2=>cases r2;exact ⟨_,rfl,r1⟩
theorem jN {x y:V} {us:List Value} (r:Vals [x,y] us):∃ u w',us=[u,w']∧RelV x u∧RelV y w':=by
 cases r with
 | cons r1 r2 =>
  cases r2 with
  | cons r3 r4=>cases r4;exact ⟨_,_,rfl,r1,r3⟩
theorem h9 (hc:X.calm=true):aW X (.builtin "max") (fun xs H Q=>∃ i j,xs=[.int i,.int j]∧Q (.int (if j > i then j else i)) H):=by
 intro pins s σ H xs us Q I r h;obtain ⟨i,j,rfl,q⟩:=h;obtain ⟨u,w',rfl,⟨t,rfl⟩,⟨t',rfl⟩⟩:=jN r;refine max_two_ints (I.ok.hd hc) fun h' tk k=>⟨_,H,I.kept k,?_,q⟩
 by_cases hj:j > i
 ·rw [if_pos hj,if_pos hj];exact ⟨_,rfl⟩
 ·rw [if_neg hj,if_neg hj];exact ⟨_,rfl⟩
theorem ia (hc:X.calm=true):aW X (.builtin "min") (fun xs H Q=>∃ i j,xs=[.int i,.int j]∧Q (.int (if j < i then j else i)) H):=by
 intro pins s σ H xs us Q I r h;obtain ⟨i,j,rfl,q⟩:=h;obtain ⟨u,w',rfl,⟨t,rfl⟩,⟨t',rfl⟩⟩:=jN r;refine min_two_ints (I.ok.hd hc) fun h' tk k=>⟨_,H,I.kept k,?_,q⟩
 by_cases hj:j < i
 ·rw [if_pos hj,if_pos hj];exact ⟨_,rfl⟩
 ·rw [if_neg hj,if_neg hj];exact ⟨_,rfl⟩
theorem iG:aW X (.type "str") (fun xs H Q=>∃ i,xs=[.int i]∧i.natAbs.log2 < 1920∧Q (.str (toString i)) H):=by
 intro pins s σ H xs us Q I r h;obtain ⟨i,rfl,hz,q⟩:=h;obtain ⟨u,rfl,t,rfl⟩:=dh r;exact PySem.P.str_of_int hz ⟨.str _,H,I.tok _,⟨_,rfl⟩,q⟩
end
structure ObjM (h:Heap) (x dx C:Addr) (mA:Str→Option Value):Prop where
 obj:h.get? x=some (PySem.W.instObj C dx)
 ns:h.Ns1 dx mA
 ne:dx≠x
section
variable {prog:Program} {w:World} {A:Around} {E:Value→Shared→Prop} {s:Shared} {K:PySem.W.Frag} {x dx C f:Addr} {mA:Str→Option Value} {name:Str} {v:Value}
end
theorem RelO.some_of {v:V} {o:Option Value} (r:RelO (some v) o):∃ u,o=some u∧RelV v u:=by
 cases o with
 | none=>exact (show False from r).elim
 | some u=>exact ⟨u,rfl,r⟩
section
variable {P:Program} {w:World} {H H':Hp} {h h':Heap} {a C dx:Addr} {fs fs':List (Str×V)}
end
structure Cls (K:PySem.W.Frag) (C:Addr):Prop where
 pg:PySem.W.plainGet K C Str.empty=true
 hd:PySem.W.hasDictIn K C=true
 po:PySem.W.plainOver K C=true
 sa:PySem.W.findIn K (.ref C) "__setattr__" = some (some (.builtin "object.__setattr__"))
section
variable {X:Cx} {pins:List (Addr×Obj)} {σ:St} {H:Hp} {s:Shared} {a C dx:Addr} {fs:List (Str×V)} {f:Str} {v:V} {A:Around} {E:Value→Shared→Prop}
end
def ui (X:Cx) (op:Operator) (rd:V→V→Hp→VK→Prop):Prop :=
 ∀ (pins:List (Addr×Obj)) (s:Shared) (σ:St) (H:Hp) (x y:V) (u v:Value) (Q:VK),Inv X pins σ H s→RelV x u→RelV y v→rd x y H Q→wpAny (model X.prog X.w) X.A (inplaceOp op u v) (EP X pins σ Q) X.xe s
section
variable {X:Cx} {o e value:Expr} {f:Str} {pos pos' tpos:Pos} {ta tv:TE}
def uj:V→V→Hp→VK→Prop:=fun x y H Q=>∃ i j,x=.int i∧y=.int j∧Q (.int (i+j)) H
theorem nM:ui X .Add uj:=by
 rintro pins s σ H x y u v Q I rx ry ⟨i,j,rfl,rfl,q⟩;obtain ⟨t,rfl⟩:=(show ∃ t,u=Value.int i t from rx);obtain ⟨t',rfl⟩:=(show ∃ t',v=Value.int j t' from ry);exact PyProof.Rows.iadd_int ⟨.int (i+j),H,I.tok _,⟨_,rfl⟩,q⟩
end
section
variable {X:Cx} {pins:List (Addr×Obj)} {σ:St} {H:Hp} {s:Shared} {A:Around} {E:Value→Shared→Prop} {Q:Value→Shared→Prop} {c:Value} {b:Bool}
end
structure Room (k:Nat) (A:Around):Prop where
 hd:A.handled=none
 dp:A.depth+3*k+5 < recursionLimit
 un:A.units+16*k+200 < cLine
theorem Room.mono {j k:Nat} {A:Around} (r:Room k A) (h:j≤k):Room j A:=⟨r.hd,by have:=r.dp;lia,by have:=r.un;lia⟩
theorem Room.deeper {k:Nat} {A:Around} (r:Room (k+1) A) (env:Env):Room k (A.deeper env) :=
 ⟨r.hd,by have:=r.dp;show A.depth+1+3*k+5 < _;lia,by have:=r.un;show A.units+3+16*k+200 < _;lia⟩
theorem Room.depth {k:Nat} {A:Around} (r:Room k A):A.depth < recursionLimit:=by have:=r.dp;lia
theorem Room.units {k:Nat} {A:Around} (r:Room k A):A.units+64 < cLine:=by have:=r.un;lia
def jO:TA:=fun _ H Q=>Q [] H
def ce (ta:TE) (tr:TA):TA:=fun σ H Q=>ta σ H fun x H1=>tr σ H1 fun xs H2=>Q (x :: xs) H2
section
variable {X:Cx} {e:Expr} {es:List Expr} {te:TE} {t:TA} {pos:Pos}
theorem bX:PA X [] jO:=fun _ _ _ _ H Q I h=>Calls.spliced_nil ⟨[],H,I,.nil,h⟩
theorem al (ha:PE X e te) (hr:PA X es t) (hs:starEach (e :: es) X.env=(false,eval e X.env) :: starEach es X.env:=by rfl):PA X (e :: es) (ce te t):=by
 intro pos pins s σ H Q I h;rw [hs];show wpAny _ _ (spliced ((false,eval e X.env) :: backTo pos (starEach es X.env))) _ _ s;refine Calls.spliced_cons (thn (ha pins s σ H _ I h) fun u s1 ⟨x,H1,I1,r1,q1⟩=>?_);exact thn (hr pos pins s1 σ H1 _ I1 q1) fun us s2 ⟨xs,H2,I2,r2,q2⟩=>⟨x :: xs,H2,I2,.cons r1 r2,q2⟩
def gD (t:TA):TE:=fun σ H Q=>t σ H fun xs H1=>xs.length≤sizeLine∧∀ p,H1 p=none→Q (.ref p) (upd H1 p (.lst xs))
theorem ar (h:PA X es t):PE X (.List es pos) (gD t):=by
 intro pins s σ H Q I hq;refine wpAny_List_spliced (thn (h pos pins s σ H _ I hq) fun us s1 ⟨xs,H1,I1,r,z,q⟩=>⟨by rw [← r.length];exact z,?_⟩);have hf:H1 s1.heap.objs.size=none:=I1.hok.fresh (Nat.le_refl _);refine ⟨.ref s1.heap.objs.size,upd H1 s1.heap.objs.size (.lst xs),I1.laid (t':=s1.toks) (fun b u e=>Heap.get?_push_of_some _ e) (Nat.le_refl _) ?_,rfl,q _ hf⟩;exact ⟨z,us,0,r,Heap.get?_push_size _ rfl⟩
end
abbrev Sp:=List V→Hp→VK→XK→Prop
abbrev CXT:=List Env→Hp→Shared→XK→Value→Shared→Prop
structure Env0 (P:Program) (w:World) (K:PySem.W.Frag) (mg:Str→Option Value) (base:Heap) (A:Around) (outer:List Env) (s:Shared) (H:Hp):Prop where
 frames:A.frames=some outer
 mod:Mod K mg base
 bs:∀ b o,base.get? b=some o→s.heap.get? b=some o∧H b=none
 bsz:base.objs.size≤s.heap.objs.size
 funs:s.heap.FunFrames base outer
 frf:∀ b∈frs outer,H b=none
 hok:HOk P w H s.heap
 bare:AllBare s.gens
def CE (outer:List Env) (P:Program) (w:World) (H:Hp) (s:Shared) (Q:VK) (u:Value) (s':Shared):Prop :=
 ∃ v H',s'.os=s.os∧AllBare s'.gens∧Un (frs outer) [] H H' s.heap s'.heap∧HOk P w H' s'.heap∧RelV v u∧Q v H'
def CR (CX:CXT) (outer:List Env) (P:Program) (w:World) (H:Hp) (s:Shared) (Q:VK) (E:XK) (r:Result) (s':Shared):Prop :=
 match r with
 | .ok (.ret u)=>CE outer P w H s Q u s'
 | .ok _=>False
 | .error e=>CX outer H s E e s'
structure FnOk (P:Program) (w:World) (K:PySem.W.Frag) (mg:Str→Option Value) (base:Heap) (CX:CXT) (k:Nat) (f:Addr) (fd:FuncData) (ps:List Str) (sp:Sp):Prop where
 len:∀ vs H Q E,sp vs H Q E→vs.length=ps.length
 run:∀ (A:Around) (outer:List Env) (s:Shared) (H:Hp) (args:Args) (us:List Value) (vs:List V) (Q:VK) (E:XK),Room k A→Env0 P w K mg base A outer s H→BindsTo s fd args (ps.zip us)→Vals vs us→sp vs H Q E →
  codeAny (model P w) A (.call (.ref f) args) (CR CX outer P w H s Q E) s
section
variable {X:Cx} {pins:List (Addr×Obj)} {σ:St} {H:Hp} {s s':Shared}
theorem Inv.env0 (I:Inv X pins σ H s):Env0 X.prog X.w X.K X.mg X.base X.A X.stack s H :=
 ⟨I.ok.frames,I.ok.mod,I.bs,Nat.le_trans I.ok.bsz I.sz,I.stack,I.stkFree,I.hok,I.bare⟩
theorem Inv.after {Q:VK} {u:Value} (I:Inv X pins σ H s) (h:CE X.stack X.prog X.w H s Q u s'):EP X pins σ Q u s':=by
 obtain ⟨v,H',os,bare,un,hok,r,q⟩:=h;obtain ⟨hh,g,d,t,os'⟩:=s';obtain rfl:os'=s.os:=os;exact ⟨v,H',I.call (h':=hh) (g':=g) (d':=d) (t':=t) (ch:=[]) un hok bare (fun b z=>absurd z (by simp)),r,q⟩
end
def l8 (sp:Sp) (dvs:List V) (E:XK) (t:TA):TE:=fun σ H Q=>t σ H fun vs H1=>sp (vs++dvs) H1 Q E
def Binds (K:PySem.W.Frag) (fd:FuncData) (ps:List Str) (ds:List Value):Prop :=
 ∀ (s:Shared) (us:List Value),K.In s.heap→(us++ds).length=ps.length→BindsTo s fd ⟨us,[]⟩ (ps.zip (us++ds))
theorem Binds.all {K:PySem.W.Frag} {fd:FuncData} {ps:List Str} (h:∀ us:List Value,us.length=ps.length→bindArgs fd ⟨us,[]⟩=pure (ps.zip us)):Binds K fd ps []:=fun s us _ hl=>by
 rw [List.append_nil] at hl ⊢;exact .of_eq (h us hl)
def fW (CX:CXT) (X:Cx) (E:XK):Prop:=∀ (pins:List (Addr×Obj)) (σ:St) (H:Hp) (s:Shared) (e:Value) (s':Shared),Inv X pins σ H s→CX X.stack H s E e s'→X.xe e s'
section
variable {X:Cx} {CX:CXT} {k:Nat} {f C:Addr} {fd:FuncData} {ps:List Str} {sp:Sp} {dvs:List V} {ds:List Value} {E:XK} {x m:Str} {p pos apos:Pos} {e o:Expr} {es:List Expr} {ta:TE} {t:TA}
theorem nN {pins:List (Addr×Obj)} {σ:St} {H:Hp} {s:Shared} {Q:VK} {us:List Value} {vs:List V} (F:FnOk X.prog X.w X.K X.mg X.base CX k f fd ps sp) (hr:Room k X.A) (hb:Binds X.K fd ps ds) (hd:Vals dvs ds) (hx:fW CX X E)
  (I:Inv X pins σ H s) (r:Vals vs us) (h:sp (vs++dvs) H Q E):wpAny (model X.prog X.w) X.A (call (.ref f) us) (EP X pins σ Q) X.xe s:=by
 have r2:Vals (vs++dvs) (us++ds):=r.append hd;have hl:(us++ds).length=ps.length:=by rw [← r2.length];exact F.len _ _ _ _ h
 refine wpAny_call (codeAny_mono (F.run X.A X.stack s H ⟨us,[]⟩ (us++ds) (vs++dvs) Q E hr I.env0 (hb s us I.kIn hl) r2 h) fun r s' hq=>?_)
 cases r with
 | error e=>exact hx pins σ H s e s' I hq
 | ok fl =>
  cases fl with
  | ret u=>exact I.after hq
  | next=>exact False.elim hq
  | brk=>exact False.elim hq
  | cont=>exact False.elim hq
theorem bT (F:FnOk X.prog X.w X.K X.mg X.base CX k f fd ps sp) (hr:Room k X.A) (hg:Gl X x) (hm:X.mg x=some (.ref f)) (hk:PySem.W.keepIn X.K (.ref f)=true) (hb:Binds X.K fd ps ds) (hd:Vals dvs ds) (hx:fW CX X E)
  (ha:PA X (e :: es) t) (hdb:(x == ("__debug__" : Str))=false:=by decide) (he:starEach (e :: es) X.env=(false,eval e X.env) :: starEach es X.env:=by rfl) (hpl:(backTo pos (starEach es X.env)).any (·.1)=false:=by rfl) :
  PE X (.Call (.Name x p) (e :: es) [] pos) (l8 sp dvs E t):=by
 intro pins s σ H Q I h;refine wpAny_Call_Name_kw (bd I hg hm ?_ hdb);refine PySem.W.callWith_K (h₀:=X.base) I.ok.mod.kin hk (thn (ha pos pins s σ H _ I h) fun us s1 ⟨vs,H1,I1,r,q⟩=>⟨I1.kIn,?_⟩) he hpl;exact nN F hr hb hd hx I1 r q
theorem nO (F:FnOk X.prog X.w X.K X.mg X.base CX k f fd ps sp) (hr:Room k X.A) (hg:Gl X x) (hm:X.mg x=some (.ref f)) (hk:PySem.W.keepIn X.K (.ref f)=true) (hb:Binds X.K fd ps ds) (hd:Vals dvs ds) (hx:fW CX X E)
  (hdb:(x == ("__debug__" : Str))=false:=by decide):PE X (.Call (.Name x p) [] [] pos) (l8 sp dvs E jO):=by
 intro pins s σ H Q I h;refine wpAny_Call_Name_kw (bd I hg hm ?_ hdb);exact PySem.W.callWith_K0 I.kIn hk (nN (us:=[]) F hr hb hd hx I .nil h)
end
section
variable {X:Cx} {CX:CXT} {k:Nat} {f C:Addr} {fd:FuncData} {ps ks:List Str} {sp:Sp} {E:XK} {x m:Str} {p pos apos kpos:Pos} {e o:Expr} {es:List Expr} {kws:List Keyword} {te ta:TE} {t tk:TA} {nm:Option Str}
variable {g:List Value→List Value→List Value} {gV:List V→List V→List V}
end
structure FnScope (N P:List Str) (sc:Scope):Prop where
 kind:sc.kind=.function
 co:sc.isCoroutine=false
 gen:sc.isGenerator=false
 nd:N.Nodup
 pre:N.take P.length=P
 par:∀ x∈P,sc.names.lookup x=some .local∨sc.names.lookup x=some .cell
 nofree:∀ y∈sc.names,y.2≠.free
theorem ib {kindOf:Str→Option NameKind} {x:Str}:∀ {binds:List (Str×Value)} {m:Str→Option Value},(∀ v,(x,v)∉binds)→bindL kindOf binds m x=m x
 | [],_,_=>rfl
 | (n,v) :: r,m,h=>by
  unfold bindL;rw [ib fun w hw=>h w (List.mem_cons_of_mem _ hw)]
  split
  ·have:x≠n:=by rintro rfl;exact h v List.mem_cons_self
   simp [this]
  ·rfl
theorem ic {kindOf:Str→Option NameKind} {x:Str}:∀ {binds:List (Str×Value)} {m:Str→Option Value},(∀ v,(x,v)∉binds)→bindC kindOf binds m x=m x
 | [],_,_=>rfl
 | (n,v) :: r,m,h=>by
  unfold bindC;rw [ic fun w hw=>h w (List.mem_cons_of_mem _ hw)]
  split
  ·rfl
  ·have:x≠n:=by rintro rfl;exact h v List.mem_cons_self
   simp [this]
theorem ie {kindOf:Str→Option NameKind} {x:Str} {v:Value}:∀ {P:List Str} {vs:List Value} {i:Nat} {m:Str→Option Value},P.Nodup→P[i]?=some x→vs[i]?=some v→kindOf x=some .local →
  bindL kindOf (P.zip vs) m x=some v
 | [],_,_,_,_,h,_,_=>by simp at h
 | _ :: _,[],_,_,_,_,h,_=>by simp at h
 | p :: P,w :: vs,0,m,nd,h1,h2,hk=>by
  simp at h1 h2;subst h1;subst h2;show bindL kindOf ((p,w) :: P.zip vs) m p=_;unfold bindL;rw [ib fun v hv=>(List.nodup_cons.mp nd).1 (List.of_mem_zip hv).1,if_pos hk];simp
 | p :: P,w :: vs,i+1,m,nd,h1,h2,hk=>by
  show bindL kindOf ((p,w) :: P.zip vs) m x=_;unfold bindL;exact ie (i:=i) (List.nodup_cons.mp nd).2 (by simpa using h1) (by simpa using h2) hk
theorem ig {kindOf:Str→Option NameKind} {x:Str} {v:Value}:∀ {P:List Str} {vs:List Value} {i:Nat} {m:Str→Option Value},P.Nodup→P[i]?=some x→vs[i]?=some v→kindOf x≠some .local →
  bindC kindOf (P.zip vs) m x=some v
 | [],_,_,_,_,h,_,_=>by simp at h
 | _ :: _,[],_,_,_,_,h,_=>by simp at h
 | p :: P,w :: vs,0,m,nd,h1,h2,hk=>by
  simp at h1 h2;subst h1;subst h2;show bindC kindOf ((p,w) :: P.zip vs) m p=_;unfold bindC;rw [ic fun v hv=>(List.nodup_cons.mp nd).1 (List.of_mem_zip hv).1,if_neg hk];simp
 | p :: P,w :: vs,i+1,m,nd,h1,h2,hk=>by
  show bindC kindOf ((p,w) :: P.zip vs) m x=_;unfold bindC;exact ig (i:=i) (List.nodup_cons.mp nd).2 (by simpa using h1) (by simpa using h2) hk
def cK (N:List Str) (vs:List V):St:=vs.map some++List.replicate (N.length - vs.length) none
def eW (CX:CXT) (P:Program) (w:World) (K:PySem.W.Frag) (mg:Str→Option Value) (base:Heap) (N:List Str) (qual:Str) (scope:Scope) (f:Addr) (cd:Value) (A:Around) (outer:List Env) (s:Shared) (H:Hp) (E:XK):Cx where
 prog:=P
 w:=w
 K:=K
 mg:=mg
 base:=base
 A:=A.deeper (envOfC qual scope s.heap.objs.size f cd)
 N:=N
 s₀:=s
 H₀:=H
 env:=envOfC qual scope s.heap.objs.size f cd
 outer:=outer
 stack:=envOfC qual scope s.heap.objs.size f cd :: outer
 ex:=[]
 calm:=true
 fn:=fun _=>true
 pn:=[]
 xe:=fun e s'=>wpAny (model P w) (A.deeper (envOfC qual scope s.heap.objs.size f cd)) (leaving (envOfC qual scope s.heap.objs.size f cd) e) (fun _ s''=>CX outer H s E e s'') (fun e' s''=>CX outer H s E e' s'') s'
theorem jP {sc:Scope} {n:Nat} {x:Str} (h:sc.names.lookup x=some .cell):∃ c,(cellsFrom n sc.names []).lookup x=some c:=by
 have q:=PySem.W.cellsFrom_some sc.names n [] (.inl h);exact Option.isSome_iff_exists.mp q
theorem mQ {CX:CXT} {P:Program} {w:World} {K:PySem.W.Frag} {mg:Str→Option Value} {base:Heap} {N ps:List Str} {qual:Str} {scope:Scope} {f:Addr} {cd:Value} {A:Around} {outer:List Env} {s s1:Shared} {H:Hp} {E:XK} {us:List Value} {vs:List V}
  (S:FnScope N ps scope) (hd:A.handled=none) (e0:Env0 P w K mg base A outer s H) (hl:vs.length=ps.length) (r:Vals vs us)
  (x:InCallC s s.heap.objs.size (bindL (envOfC qual scope s.heap.objs.size f cd).kindOf (ps.zip us) fun _=>none) (cellsFrom (s.heap.objs.size+1) scope.names []) (bindC (envOfC qual scope s.heap.objs.size f cd).kindOf (ps.zip us) fun _=>none) s1) :
  Inv (eW CX P w K mg base N qual scope f cd A outer s H E) [] (cK N vs) H s1:=by
 have hpl:ps.length≤N.length:=by have:=congrArg List.length S.pre;rw [List.length_take] at this;lia
 obtain ⟨h1,tk,rfl,hk⟩:=x.done;have noA:∀ b:Addr,b∉(eW CX P w K mg base N qual scope f cd A outer s H E).ex:=fun b z=>absurd (show b∈([]:List Addr) from z) (by simp);refine ⟨⟨e0.mod,S.kind,rfl,rfl,Nat.le_refl _,fun y z c h1 h2=>?_,fun y hy=>?_,fun y c _ h=>?_,fun _=>hd,Around.frames_deeper e0.frames,.inr ⟨rfl,rfl⟩,fun b z=>absurd z (noA b),e0.bs,e0.bsz,fun b _ _=>noA b,fun b z=>absurd z (noA b),e0.funs,e0.frf⟩,
  rfl,e0.bare,Un.kept hk,⟨_,x.toInCall.ns,fun i y v h1 h2 h3=>?_⟩,fun y c h=>⟨_,x.cell y c h⟩,e0.hok.fresh (Nat.le_refl _),fun y c h=>?_,fun p hp=>absurd (show p∈([]:List (Addr×Obj)) from hp) (by simp),e0.hok.kept hk,?_⟩
 ·exact name_of_addr x.apart (PySem.mem_of_lookup h1) (PySem.mem_of_lookup h2)
 ·have hy:scope.names.lookup y=some .cell∨scope.names.lookup y=some .free:=hy;rcases hy with hy | hy
  ·exact jP hy
  ·exact absurd rfl (S.nofree _ (PySem.mem_of_lookup hy))
 ·exact Nat.le_of_lt (x.above y c (PySem.mem_of_lookup h))
 ·have hi:i < vs.length:=by
   unfold cK at h2
   by_cases hi:i < vs.length
   ·exact hi
   ·rw [List.getElem?_append_right (by simpa using hi)] at h2;rw [List.getElem?_replicate] at h2
    split at h2 <;> cases h2
  have ha:vs[i]?=some v:=by
   unfold cK at h2;rw [List.getElem?_append_left (by simpa using hi),List.getElem?_map] at h2
   cases e:vs[i]? with
   | none=>rw [e] at h2;cases h2
   | some a=>rw [e] at h2;cases h2;rfl
  obtain ⟨u,hu,rv⟩:=r.get ha;have hp:ps[i]?=some y:=by
   rw [← S.pre,List.getElem?_take_of_lt (by lia)];exact h1
  have ndP:ps.Nodup:=by rw [← S.pre];exact S.nd.sublist (List.take_sublist _ _)
  refine ⟨u,rv,?_⟩;rcases S.par y (List.mem_of_getElem? hp) with k | k
  ·exact .inl ⟨k,ie ndP hp hu k⟩
  ·obtain ⟨c,e⟩:=jP (n:=s.heap.objs.size+1) k;refine .inr ⟨.inl k,c,e,?_⟩;have q:=x.cell y c e;rw [ig ndP hp hu (by show scope.names.lookup y≠_;rw [k];decide)] at q;exact q
 ·exact e0.hok.fresh (Nat.le_of_lt (x.above y c (PySem.mem_of_lookup h)))
 ·unfold cK;show _=N.length;rw [List.length_append,List.length_map,List.length_replicate];lia
theorem ma {CX:CXT} {P:Program} {w:World} {K:PySem.W.Frag} {mg:Str→Option Value} {base:Heap} {k:Nat} {f:Addr} {name qual:Str} {params:Arguments} {body:List Stmt} {scope:Scope} {dV kV doc pm cdv ct oc:Value} {an od:Option Addr}
  {osl:Array (Option Value)} {N ps:List Str} {sp:Sp} (lk:K.lookup f=some ⟨oc,od,.func (PySem.W.fnOf name qual params body scope dV kV doc pm an cdv ct),osl⟩) (hcd:PySem.W.codeIn K cdv qual=true) (S:FnScope N ps scope)
  (len:∀ vs H Q E,sp vs H Q E→vs.length=ps.length)
  (hbody:∀ (A:Around) (outer:List Env) (s:Shared) (H:Hp) (vs:List V) (Q:VK) (E:XK),Room k (A.deeper (envOfC qual scope s.heap.objs.size f cdv))→sp vs H Q E →
   ∃ t,PSs (eW CX P w K mg base N qual scope f cdv A outer s H E) body t∧t { nx:=fun _ H'=>Q .non H',rt:=Q } (cK N vs) H) :
  FnOk P w K mg base CX (k+1) f (PySem.W.fnOf name qual params body scope dV kV doc pm an cdv ct) ps sp:=by
 refine ⟨len,fun A outer s H args us vs Q E hr e0 hb r hsp=>?_⟩;have hl:=len _ _ _ _ hsp;have KX:K.In s.heap:=e0.mod.kin.keeps fun b o e=>(e0.bs b o e).1;have lim:s.heap.NoLimit:=e0.mod.nolimit.keeps fun b o e=>(e0.bs b o e).1;have hkind:∀ y∈ps.zip us,scope.names.lookup y.1=some .local∨(scope.names.lookup y.1=some .cell∧((cellsFrom (s.heap.objs.size+1) scope.names []).lookup y.1).isSome=true):=fun ⟨n,v⟩ hy=>by
  rcases S.par n (List.of_mem_zip hy).1 with q | q
  ·exact .inl q
  ·exact .inr ⟨q,PySem.W.cellsFrom_some _ _ _ (.inl q)⟩
 refine codeAny_call_function hr.depth (KX _ _ lk) rfl S.co S.gen rfl (PySem.W.codeRec_of KX hcd) (hb _ _ _ _ ?_);refine wpAny_newFunctionEnv_cells S.kind hkind fun env he s1 x=>?_;subst he;refine ⟨lim.keeps x.toInCall.keep,codeAny_func ?_⟩;obtain ⟨t,ht,hq⟩:=hbody A outer s H vs Q E (hr.deeper _) hsp;have I:Inv (eW CX P w K mg base N qual scope f cdv A outer s H E) [] (cK N vs) H s1:=mQ S hr.hd e0 hl r x;refine wpAny_mono (ht [] s1 (cK N vs) H _ I hq) (fun fl s' hs=>?_) fun e s' hs=>hs;have fin:∀ {σ':St} {H':Hp} {v:V} {u:Value},Inv (eW CX P w K mg base N qual scope f cdv A outer s H E) [] σ' H' s'→RelV v u→Q v H'→CE outer P w H s Q u s' :=
  fun {σ' H' v u} J rv q=>⟨v,H',J.os,J.bare,J.base,J.hok,rv,q⟩
 cases fl with
 | ret u =>
  obtain ⟨v,σ',H',J,rv,q⟩:=hs;exact fin J rv q
 | next =>
  obtain ⟨σ',H',J,q⟩:=hs;exact fin (v:=V.non) (u:=Value.none) J rfl q
 | brk =>
  obtain ⟨_,_,_,q⟩:=hs;exact False.elim q
 | cont =>
  obtain ⟨_,_,_,q⟩:=hs;exact False.elim q
section
variable {X:Cx} {x:Str} {p pos:Pos} {e:Expr} {es:List Expr} {t:TA} {id T:String} {r:List V→Hp→VK→Prop}
def tCB (r:List V→Hp→VK→Prop) (t:TA):TE:=fun σ H Q=>t σ H fun vs H1=>r vs H1 Q
theorem pe_callB (hc:aW X (.builtin id) r) (hg:Gl X x) (hm:X.mg x=none) (hv:bootBuiltins x=some (.builtin id)) (ha:PA X (e :: es) t) (hn:x≠ "__name__" :=by decide) (hdb:(x == ("__debug__" : Str))=false:=by decide)
  (he:starEach (e :: es) X.env=(false,eval e X.env) :: starEach es X.env:=by rfl) (hpl:(backTo pos (starEach es X.env)).any (·.1)=false:=by rfl):PE X (.Call (.Name x p) (e :: es) [] pos) (tCB r t):=by
 intro pins s σ H Q I h;refine wpAny_Call_Name_kw (cI I hg hm hv ?_ hn hdb);exact PyProof.Rows.callWith_builtin1 (thn (ha pos pins s σ H _ I h) fun us s1 ⟨vs,H1,I1,r1,q1⟩=>hc pins s1 σ H1 vs us Q I1 r1 q1) he hpl
theorem pe_callTy (hc:aW X (.type T) r) (hg:Gl X x) (hm:X.mg x=none) (hv:bootBuiltins x=some (.type T)) (ha:PA X (e :: es) t) (hn:x≠ "__name__" :=by decide) (hdb:(x == ("__debug__" : Str))=false:=by decide)
  (he:starEach (e :: es) X.env=(false,eval e X.env) :: starEach es X.env:=by rfl) (hpl:(backTo pos (starEach es X.env)).any (·.1)=false:=by rfl):PE X (.Call (.Name x p) (e :: es) [] pos) (tCB r t):=by
 intro pins s σ H Q I h;refine wpAny_Call_Name_kw (cI I hg hm hv ?_ hn hdb);exact PyProof.Rows.callWith_type1 (thn (ha pos pins s σ H _ I h) fun us s1 ⟨vs,H1,I1,r1,q1⟩=>hc pins s1 σ H1 vs us Q I1 r1 q1) he hpl
end
end L2
namespace HT
open PySem PyProof.Rows
section
open PySem.SeqAt
open PySem.AutoSeq1 (wpAny_loadPart')
open PySem.MeetsSeq PySem.MeetsSeq2 PySem.MeetsSeq3
end
section
variable {prog:Program} {w:World} {A:Around} {E:Value→Shared→Prop} {s:Shared}
theorem cat_tup {t b:Addr} {vs ws:List Value} {Q:Value→Shared→Prop} (ht:IsTup s.heap t vs.toArray) (hb:IsTup s.heap b ws.toArray) (hv:vs≠[])
  (h1:ws=[]→Q (.ref t) s) (h2:ws≠[]→Q (.ref s.heap.objs.size) { s with heap:=s.heap.push { cls:=.type "tuple",data:=.seq (vs++ws).toArray } })
  (hsz:vs.length+ws.length≤sizeLine):wpAny (model prog w) A (binaryOp .Add (.ref t) (.ref b)) Q E s:=by
 obtain ⟨⟨cls,dd,data,sl⟩,ho,hc,n,hd⟩:=id ht;obtain ⟨⟨cls2,dd2,data2,sl2⟩,ho2,hc2,n2,hd2⟩:=id hb;simp only at hc hd hc2 hd2;subst hc hd hc2 hd2;have e:vs.toArray++ws.toArray=(vs++ws).toArray:=by simp
 by_cases hw:ws=[]
 ·exact concat_meets ⟨_,ho,rfl⟩ ⟨_,ho2,rfl⟩ noFill_tuple_add seq_tuple_add PySem.F.slot_tuple_add PySem.F.entry_tuple_add (PySem.F.args_tuple_add_2 _ _)
   (tuple_addW1 t b vs.toArray ws.toArray n n2 dd dd2 sl sl2 (by simpa using hv) (by simp [hw])) ⟨ho,ho2,h1 hw⟩
 ·refine concat_meets ⟨_,ho,rfl⟩ ⟨_,ho2,rfl⟩ noFill_tuple_add seq_tuple_add PySem.F.slot_tuple_add PySem.F.entry_tuple_add (PySem.F.args_tuple_add_2 _ _)
   (tuple_addW2 t b vs.toArray ws.toArray n n2 dd dd2 sl sl2 (by simpa using hv) (by simpa using hw) (by rw [List.size_toArray,List.size_toArray];exact hsz)) ⟨ho,ho2,?_⟩
  rw [e];exact h2 hw
def sIx (n d:Nat):Option Int→Nat
 | none=>d
 | some v=>if v < 0 then (v+(n:Int)).toNat else min v.toNat n
theorem sIx_nat (n d k:Nat):sIx n d (some (k:Int))=min k n:=by
 show (if (k:Int) < 0 then ((k:Int)+(n:Int)).toNat else min (k:Int).toNat n)=min k n;rw [if_neg (by lia),Int.toNat_natCast]
theorem rB (n d:Nat) (hd:d≤n) (o:Option Int):sIx n d o≤n:=by
 cases o with
 | none=>exact hd
 | some v =>
  show (if v < 0 then (v+(n:Int)).toNat else min v.toNat n)≤n
  by_cases hv:v < 0
  ·rw [if_pos hv];lia
  ·rw [if_neg hv];exact Nat.min_le_right _ _
theorem md (v:Int) (n d:Nat):(if v < 0 then max (v+(n:Int)) 0 else min v (n:Int))=((sIx n d (some v):Nat):Int):=by
 show (if v < 0 then max (v+(n:Int)) 0 else min v (n:Int))=(((if v < 0 then (v+(n:Int)).toNat else min v.toNat n):Nat):Int)
 by_cases hv:v < 0
 ·simp only [if_pos hv];lia
 ·simp only [if_neg hv];lia
theorem lh (lo hi:Option Int) (n:Nat):Builtin.Slice.sliceAdjust lo hi 1 (n:Int)=(((sIx n 0 lo:Nat):Int),((sIx n n hi:Nat):Int)):=by
 have h1:¬ ((1:Int) < 0):=by lia
 unfold Builtin.Slice.sliceAdjust;simp only [h1,if_false];refine Prod.ext ?_ ?_
 ·cases lo with
  | none=>rfl
  | some v=>exact md v n 0
 ·cases hi with
  | none=>rfl
  | some v=>exact md v n n
theorem ll (i j:Nat):Builtin.Slice.slicePlaces (i:Int) (j:Int) 1=j - i:=by
 unfold Builtin.Slice.slicePlaces;have h1:(1:Int) > 0:=by lia
 simp only [h1,if_true,Int.ediv_one]
 split <;> lia
theorem fX {v:Value} {o:Option Int} {Q:Option Int→Shared→Prop} (p:IsPart v o) (h:Q o s):wpAny (model prog w) A (Builtin.Slice.slicePartIndex v) Q E s:=by
 cases p with
 | none=>exact slicePart_none h
 | int i t=>exact slicePart_int h
theorem cf {sl:Addr} {vl vu:Value} {lo hi:Option Int} {n:Nat} {Q:Int×Int×Nat→Shared→Prop} (hs:s.heap.IsSliceOf sl vl vu .none) (pl:IsPart vl lo) (pu:IsPart vu hi)
  (h:Q (((sIx n 0 lo:Nat):Int),1,sIx n n hi - sIx n 0 lo) s):wpAny (model prog w) A (Builtin.Slice.sliceApplied (.ref sl) (pure (n:Int))) Q E s:=by
 obtain ⟨os,hos,hcs,hds⟩:=id hs;unfold Builtin.Slice.sliceApplied Builtin.Slice.sliceFields;refine wpAny_bind (wpAny_bind (wpAny_field hos hds (x:=vl) rfl (wpAny_bind (wpAny_field hos hds (x:=vu) rfl (wpAny_bind (wpAny_field hos hds (x:=.none) rfl (wpAny_pure ?_)))))));refine wpAny_bind (slicePart_none ?_);show wpAny _ _ (if ((1:Int) == 0)=true then _ else _) _ _ s;rw [if_neg (by decide)];refine wpAny_bind (fX pl (wpAny_bind (fX pu (wpAny_bind (wpAny_pure ?_)))));show wpAny _ _ (match Builtin.Slice.sliceAdjust lo hi 1 (n:Int) with | (lo,hi)=>pure (lo,(1:Int),Builtin.Slice.slicePlaces lo hi 1)) _ _ s;rw [lh lo hi n];show wpAny _ _ (pure (((sIx n 0 lo:Nat):Int),(1:Int),Builtin.Slice.slicePlaces ((sIx n 0 lo:Nat):Int) ((sIx n n hi:Nat):Int) 1)) _ _ s;rw [ll];exact wpAny_pure h
theorem nP (xs:Array Value) (i k:Nat):((List.range k).filterMap fun (m:Nat)=>xs[((i:Int)+(m:Int)*1).toNat]?).toArray=((xs.toList.drop i).take k).toArray:=by
 have e:(fun (m:Nat)=>xs[((i:Int)+(m:Int)*1).toNat]?)=fun m=>xs[i+m]?:=by
  funext m
  have:((i:Int)+(m:Int)*1).toNat=i+m:=by lia
  rw [this]
 rw [e];have:=pick_run xs i k;rw [List.filterMap_map] at this;have e2:((fun x=>xs[x]?) ∘ fun x=>i+x)=fun m=>xs[i+m]?:=rfl;rw [e2] at this;rw [this]
theorem getItem_tuple_cut {t sl:Addr} {items:Array Value} {vl vu:Value} {lo hi:Option Int} {Q:Value→Shared→Prop} (ht:IsTup s.heap t items) (hs:s.heap.IsSliceOf sl vl vu .none) (pl:IsPart vl lo) (pu:IsPart vu hi)
  (hw:¬ (sIx items.size 0 lo=0∧sIx items.size items.size hi=items.size))
  (h:Q (.ref s.heap.objs.size) { s with heap:=s.heap.push { cls:=.type "tuple",data:=.seq ((items.toList.drop (sIx items.size 0 lo)).take (sIx items.size items.size hi - sIx items.size 0 lo)).toArray } })
  (hsz:items.size≤sizeLine):wpAny (model prog w) A (getItem (.ref t) (.ref sl)) Q E s:=by
 have htake:sizeOk (.seq ((items.toList.drop (sIx items.size 0 lo)).take (sIx items.size items.size hi - sIx items.size 0 lo)).toArray):=by
  show ((items.toList.drop (sIx items.size 0 lo)).take (sIx items.size items.size hi - sIx items.size 0 lo)).toArray.size≤sizeLine;rw [List.size_toArray,List.length_take,List.length_drop,Array.length_toList];lia
 have hj:sIx items.size items.size hi≤items.size:=rB _ _ (Nat.le_refl _) hi;obtain ⟨os,hos,hcs,hds⟩:=id hs;have hTs:s.TypeIs (.ref sl) "slice" :=⟨os,hos,hcs⟩;unfold getItem
 try with_reducible refine wpAny_holding ?_
 first | refine wpAny_bind (wpAny_pure ?_) | skip
 refine wpAny_bind (wpAny_sequenceKey ht.typeIs (by decide) ?_);refine wpAny_bind (wpAny_callSpecial?_slot (name:=Str.ofString "__getitem__") ht.typeIs PyProof.Rows.slot_tuple_getitem
  (wpAny_call_entry PyProof.Rows.slot_tuple_getitem ht.typeIs entry_tuple_getitem ?_ (args_tuple_getitem _ _)))
 show wpAny _ _ (Builtin.Tuple.tupleItemsOf (.ref t) >>= _) _ _ s;refine wpAny_bind (tupleItemsOf_ ht ?_);refine wpAny_bind (wpAny_typeOf hTs ?_);rw [if_pos (by decide)];refine wpAny_bind (cf hs pl pu ?_);have hno:¬ ((((sIx items.size 0 lo:Nat):Int) == 0 && (1:Int) == 1 && (sIx items.size items.size hi - sIx items.size 0 lo) == items.size)=true):=by
  intro q;rw [Bool.and_eq_true,Bool.and_eq_true] at q;have q1:((sIx items.size 0 lo:Nat):Int)=0:=eq_of_beq q.1.1;have q2:sIx items.size items.size hi - sIx items.size 0 lo=items.size:=eq_of_beq q.2;exact hw ⟨by lia,by lia⟩
 show wpAny _ _ (if (((sIx items.size 0 lo:Nat):Int) == 0 && (1:Int) == 1 && (sIx items.size items.size hi - sIx items.size 0 lo) == items.size)=true then _ else _) _ _ s;rw [if_neg hno,nP]
 first
  | exact wpAny_bind (m:=Builtin.Tuple.tupleExact _) (wpAny_newObj_type (wpAny_pure ⟨_,rfl,wpAny_pure h⟩) htake)
  | exact wpAny_bind (m:=Builtin.Tuple.tupleExact _) (wpAny_newObj_type (wpAny_bind (wpAny_pure (wpAny_pure ⟨_,rfl,wpAny_pure h⟩))) htake)
  | exact wpAny_bind (wpAny_bind (m:=Builtin.Tuple.tupleExact _) (wpAny_newObj_type (wpAny_pure (wpAny_pure ⟨_,rfl,wpAny_pure h⟩)) htake))
  | exact wpAny_bind (wpAny_bind (m:=Builtin.Tuple.tupleExact _) (wpAny_newObj_type (wpAny_pure ⟨_,rfl,wpAny_pure h⟩) htake))
end
end HT
namespace L2
open PySem PySem.Spec PyProof.Rows
abbrev TO:=St→Hp→(Option Int→Hp→Prop)→Prop
def PO (X:Cx) (e:Option Expr) (t:TO):Prop :=
 ∀ (pins:List (Addr×Obj)) (s:Shared) (σ:St) (H:Hp) (Q:Option Int→Hp→Prop),Inv X pins σ H s→t σ H Q →
  wpAny (model X.prog X.w) X.A (evalPart e X.env) (fun u s'=>∃ o H',Inv X pins σ H' s'∧IsPart u o∧Q o H') X.xe s
def pH:TO:=fun _ H Q=>Q none H
inductive IPrt (x:V) (H1:Hp) (Q:Option Int→Hp→Prop):Prop
 | mk (i:Int):(x=.int i)→(Q (some i) H1)→IPrt x H1 Q
def sQ (t:TE):TO:=fun σ H Q=>t σ H fun x H1=>IPrt x H1 Q
section
variable {X:Cx} {e:Expr} {te:TE} {lo hi:Option Expr} {tl th:TO} {pos p2:Pos}
theorem iH:PO X none pH:=by
 intro pins s σ H Q I h;rw [evalPart_none];exact wpAny_pure ⟨none,H,I,.none,h⟩
theorem dM (h:PE X e te):PO X (some e) (sQ te):=by
 intro pins s σ H Q I hw;rw [evalPart_some];refine thn (h pins s σ H _ I hw) fun u s1 ⟨x,H1,I1,r1,q1⟩=>?_;obtain ⟨i,rfl,q⟩:=q1;obtain ⟨t,rfl⟩:=r1;exact ⟨some i,H1,I1,.int i t,q⟩
def SlR (X:Cx) (r:V→Option Int→Option Int→Hp→VK→Prop):Prop :=
 ∀ (pins:List (Addr×Obj)) (s:Shared) (σ:St) (H:Hp) (x:V) (v vl vu:Value) (lo hi:Option Int) (sl:Addr) (Q:VK),Inv X pins σ H s→RelV x v→s.heap.IsSliceOf sl vl vu .none→IsPart vl lo→IsPart vu hi→r x lo hi H Q →
  ∃ T id,typeLookup (.type T) "__getitem__" = pure (some (.builtin id))∧s.TypeIs v T∧wpAny (model X.prog X.w) X.A (getItem v (.ref sl)) (EP X pins σ Q) X.xe s
def tSl (r:V→Option Int→Option Int→Hp→VK→Prop) (te:TE) (tl th:TO):TE:=fun σ H Q=>te σ H fun x H1=>tl σ H1 fun l H2=>th σ H2 fun u H3=>r x l u H3 Q
theorem dN {r:V→Option Int→Option Int→Hp→VK→Prop} (hr:SlR X r) (he:PE X e te) (hl:PO X lo tl) (hu:PO X hi th):PE X (.Subscript e (.Slice lo hi none p2) pos) (tSl r te tl th):=by
 intro pins s σ H Q I h;refine Subscript_ (thn (he pins s σ H _ I h) fun v s1 ⟨x,H1,I1,r1,q1⟩=>?_);refine wpAny_Slice (thn (hl pins s1 σ H1 _ I1 q1) fun vl s2 ⟨l,H2,I2,pl,q2⟩=>thn (hu pins s2 σ H2 _ I2 q2) fun vu s3 ⟨u,H3,I3,pu,q3⟩=>?_);rw [evalPart_none];refine wpAny_pure ?_;have I4:Inv X pins σ H3 { s3 with heap:=s3.heap.push { cls:=.type "slice",data:=.fields #[vl,vu,.none] } }:=I3.kept (t':=s3.toks) fun b ob q=>Heap.get?_push_of_some _ q;obtain ⟨T,id,hT,ht,hg⟩:=hr pins { s3 with heap:=s3.heap.push { cls:=.type "slice",data:=.fields #[vl,vu,.none] } } σ H3 x v vl vu l u s3.heap.objs.size Q I4 r1 (Heap.IsSliceOf.new ..) pl pu q3;show wpAny (model X.prog X.w) X.A (subscriptTail e (.Slice lo hi none p2) v (.ref s3.heap.objs.size)) (EP X pins σ Q) X.xe { s3 with heap:=s3.heap.push { cls:=.type "slice",data:=.fields #[vl,vu,.none] } };exact tail_any (ops:=[.ref s3.heap.objs.size,v]) ht hT hg (by with_unfolding_all rfl)
def eX (xs:List V) (lo hi:Option Int):List V:=(xs.drop (HT.sIx xs.length 0 lo)).take (HT.sIx xs.length xs.length hi - HT.sIx xs.length 0 lo)
theorem eR (xs:List V) (lo hi:Option Int):(eX xs lo hi).length≤xs.length:=by
 unfold eX;rw [List.length_take,List.length_drop];lia
theorem Vals.nil_iff {xs:List V} {us:List Value} (r:Vals xs us):us=[]↔xs=[]:=by
 cases r with
 | nil=>simp
 | cons _ _=>simp
end
def ixN (n:Nat) (i:Int):Option Nat:=if 0≤i then (if i < n then some i.toNat else none) else if -(n:Int)≤i then some (i+n).toNat else none
def atI {α:Type} (xs:List α) (i:Int):Option α:=(ixN xs.length i).bind fun j=>xs[j]?
theorem iI {n:Nat} {i:Int} {j:Nat} (h:ixN n i=some j):seqIndex? i n=some j∧j < n∧-(n:Int)≤i∧i < n:=by
 unfold ixN at h
 by_cases h0:0≤i
 ·rw [if_pos h0] at h
  by_cases h1:i < n
  ·rw [if_pos h1] at h;have e:i.toNat=j:=Option.some.inj h;exact ⟨by rw [seqIndex_of h0 h1,e],by lia,by lia,h1⟩
  ·rw [if_neg h1] at h;cases h
 ·rw [if_neg h0] at h
  by_cases h1:-(n:Int)≤i
  ·rw [if_pos h1] at h;have e:(i+n).toNat=j:=Option.some.inj h;exact ⟨by rw [seqIndex_neg (by lia) h1,e],by lia,h1,by lia⟩
  ·rw [if_neg h1] at h;cases h
theorem iJ {α:Type} {xs:List α} {i:Int} {v:α} (h:atI xs i=some v):∃ j,seqIndex? i xs.length=some j∧xs[j]?=some v∧j < xs.length∧-(xs.length:Int)≤i∧i < xs.length:=by
 unfold atI at h
 cases e:ixN xs.length i with
 | none=>rw [e] at h;cases h
 | some j =>
  rw [e] at h;obtain ⟨h1,h2,h3,h4⟩:=iI e;exact ⟨j,h1,h,h2,h3,h4⟩
theorem dO {α:Type} {xs:List α} {j:Nat} {v:α} (h:xs[j]?=some v):atI xs (j:Int)=some v:=by
 have hj:j < xs.length:=(List.getElem?_eq_some_iff.mp h).1;have e:ixN xs.length (j:Int)=some j:=by
  unfold ixN;rw [if_pos (by lia),if_pos (by lia)];simp
 unfold atI;rw [e];exact h
def pI (b:Expr):Prop:=∀ o i,subscripted b false o i=operate [o,i] (getItem o i)
def IxR (X:Cx) (r:R2):Prop :=
 ∀ (value slice:Expr) (pins:List (Addr×Obj)) (s:Shared) (σ:St) (H:Hp) (x y:V) (v u:Value) (Q:VK),Inv X pins σ H s→RelV x v→RelV y u→r x y H Q →
  subscripted slice false v u=operate [v,u] (getItem v u)→wpAny (model X.prog X.w) X.A (subscriptTail value slice v u) (EP X pins σ Q) X.xe s
def MtR (X:Cx) (id:String) (r:V→List V→Hp→VK→Prop):Prop :=
 ∀ (pins:List (Addr×Obj)) (s:Shared) (σ:St) (H:Hp) (x:V) (xs:List V) (v:Value) (us:List Value) (Q:VK),Inv X pins σ H s→RelV x v→Vals xs us→r x xs H Q →
  wpAny (model X.prog X.w) X.A (call (.builtin id) (v :: us)) (EP X pins σ Q) X.xe s
section
variable {X:Cx} {a b:Expr} {ta tb:TE} {pos:Pos}
theorem cD {r:R2} (hr:IxR X r) (ha:PE X a ta) (hb:PE X b tb) (hs:pI b):PE X (.Subscript a b pos) (tOp r ta tb):=by
 intro pins s σ H Q I h;exact Subscript_ (rq ha hb I h fun v u s2 x y H2 I2 rx ry q=>hr a b pins s2 σ H2 x y v u Q I2 rx ry q (hs _ _))
inductive IIxL (K:PySem.W.Frag) (x y:V) (H:Hp) (Q:VK):Prop
 | mk (p:Addr) (xs:List V) (i:Int) (v:V):(x=.ref p)→(y=.int i)→(SqL K H p xs)→(atI xs i=some v)→(Q v H)→IIxL K x y H Q
def sR (K:PySem.W.Frag):R2:=fun x y H Q=>IIxL K x y H Q
def uk (K:PySem.W.Frag):R2:=fun x y H Q=>∃ p xs i v,x=.ref p∧y=.int i∧SqT K H p xs∧atI xs i=some v∧Q v H
theorem pJ:IxR X (sR X.K):=by
 intro value slice pins s σ H x y v u Q I rx ry h hs;obtain ⟨p,xs,i,z,rfl,rfl,hq,he,q⟩:=h
 cases rx
 obtain ⟨t,rfl⟩:=ry;obtain ⟨its,r,pl,hz⟩:=I.list hq;obtain ⟨j,h1,h2,h3,h4,h5⟩:=iJ he;obtain ⟨w,ew,rw'⟩:=r.get h2;have hl:=r.length;have hn:=fV;have fin:EP X pins σ Q w s:=⟨z,H,I,rw',q⟩
 by_cases h0:0≤i
 ·have hj:i.toNat=j:=by
   rw [seqIndex_of h0 h5] at h1;exact Option.some.inj h1
  exact item_listR pl.isList h0 (by lia) (by rw [hj];simpa using ew) fin hs
 ·have hj:(i+(its.toArray.size:Int)).toNat=j:=by
   rw [seqIndex_neg (by lia) h4] at h1;rw [List.size_toArray,← hl];exact Option.some.inj h1
  exact subscriptTail_builtinR (x:=w) pl.isList.typeIs slot_list_getitem.lookup
   (wpAny_getItem_list_neg (Q:=fun r s'=>r=w∧EP X pins σ Q r s') pl.isList (by lia) (by rw [List.size_toArray] <;> lia) (by lia) (by rw [hj];simpa using ew) ⟨rfl,fin⟩) hs
theorem rC:IxR X (uk X.K):=by
 intro value slice pins s σ H x y v u Q I rx ry h hs;obtain ⟨p,xs,i,z,rfl,rfl,hq,he,q⟩:=h
 cases rx
 obtain ⟨t,rfl⟩:=ry;obtain ⟨its,r,pl,hz⟩:=I.tuple hq;obtain ⟨j,h1,h2,h3,h4,h5⟩:=iJ he;obtain ⟨w,ew,rw'⟩:=r.get h2;have hl:=r.length;have hn:=fV;have fin:EP X pins σ Q w s:=⟨z,H,I,rw',q⟩;exact subscriptTail_builtinR (x:=w) pl.typeIs slot_tuple_getitem.lookup
  (getItem_tuple (j:=j) (Q:=fun r s'=>r=w∧EP X pins σ Q r s') pl (by lia) (by lia) (by rw [List.size_toArray,← hl];exact h1) (by simpa using ew) ⟨rfl,fin⟩) hs
theorem lm (its:List Value) (n j:Nat) (u:Value):Obj.mapSeq (·.setIfInBounds j u) { cls:=.type "list",data:=.seq its.toArray n }={ cls:=.type "list",data:=.seq (its.set j u).toArray n }:=by
 simp [Obj.mapSeq]
theorem Inv.lst {pins:List (Addr×Obj)} {σ:St} {H:Hp} {s:Shared} {p:Addr} {xs:List V} (I:Inv X pins σ H s) (h:H p=some (.lst xs)) :
  ∃ (its:List Value) (n:Nat),Vals xs its∧s.heap.get? p=some { cls:=.type "list",data:=.seq its.toArray n }∧xs.length≤sizeLine:=by
 obtain ⟨z,its,n,r,e⟩:=I.hok p _ h;exact ⟨its,n,r,e,z⟩
theorem Inv.lstUpd {pins:List (Addr×Obj)} {σ:St} {H:Hp} {s:Shared} {p:Addr} {xs ys:List V} {its its':List Value} {n n':Nat} {f:Obj→Obj} (I:Inv X pins σ H s) (h:H p=some (.lst xs))
  (ho:s.heap.get? p=some { cls:=.type "list",data:=.seq its.toArray n }) (hf:f { cls:=.type "list",data:=.seq its.toArray n }={ cls:=.type "list",data:=.seq its'.toArray n' }) (r:Vals ys its') (hz:ys.length≤sizeLine) (t:Nat) :
  Inv X pins σ (upd H p (.lst ys)) { s with heap:=s.heap.update p f,toks:=t }:=by
 have e:(s.heap.update p f).get? p=some { cls:=.type "list",data:=.seq its'.toArray n' }:=by
  rw [Heap.get?_update_self f ho (by rw [hf] <;> rfl),hf]
 refine I.write (x:=p) (e:=p) (by rw [h];trivial) (.inl rfl) (fun b u hb q=>(Heap.get?_update_other _ _ (Ne.symm hb)).trans q) ⟨_,e⟩ ?_;exact ⟨hz,its',n',r,e⟩
inductive ISetL (o i v:V) (H:Hp) (Q:Hp→Prop):Prop
 | mk (p:Addr) (xs:List V) (k:Int) (j:Nat):(o=.ref p)→(i=.int k)→(H p=some (.lst xs))→(ixN xs.length k=some j)→(Q (upd H p (.lst (xs.set j v))))→ISetL o i v H Q
def sS:V→V→V→Hp→(Hp→Prop)→Prop:=fun o i v H Q=>ISetL o i v H Q
theorem nQ:sJ X sS:=by
 intro pins s σ H o i v ov iv u Q I ro ri rv h;obtain ⟨p,xs,k,j,rfl,rfl,hp,hj,q⟩:=h
 cases ro
 obtain ⟨t,rfl⟩:=ri;obtain ⟨its,n,r,ho,hz⟩:=I.lst hp;obtain ⟨h1,h2,h3,h4⟩:=iI hj;have hl:=r.length;have hn:=fV;have I':Inv X pins σ (upd H p (.lst (xs.set j v))) { s with heap:=s.heap.update p (Obj.mapSeq (·.setIfInBounds j u)) } :=
  I.lstUpd hp ho (lm its n j u) (r.set rv j) (by rw [List.length_set];exact hz) s.toks
 by_cases h0:0≤k
 ·have hk:k.toNat=j:=by
   rw [seqIndex_of h0 h4] at h1;exact Option.some.inj h1
  exact PySem.W.ki_setAt ho h0 (by lia) (by rw [List.size_toArray,← hl];exact h4) (by rw [hk];exact ⟨_,I',q⟩)
 ·have hk:(k+(its.toArray.size:Int)).toNat=j:=by
   rw [seqIndex_neg (by lia) h3] at h1;rw [List.size_toArray,← hl];exact Option.some.inj h1
  exact PySem.W.ki_setBack ho (by lia) (by rw [List.size_toArray,← hl];exact h3) (by lia) (by rw [hk];exact ⟨_,I',q⟩)
theorem iK (lo hi:Option Int) (n:Nat):(sliceBounds lo hi none n).1=((HT.sIx n 0 lo:Nat):Int)∧(sliceBounds lo hi none n).2.1=((HT.sIx n n hi:Nat):Int)∧(sliceBounds lo hi none n).2.2=1:=by
 refine ⟨?_,?_,rfl⟩
 ·cases lo with
  | none=>simp [sliceBounds,HT.sIx]
  | some i =>
   simp only [sliceBounds,HT.sIx,Option.getD_none,show (1:Int) > 0 by decide,if_true]
   by_cases h:i < 0
   ·simp only [h,if_true] <;> lia
   ·simp only [h,if_false] <;> lia
 ·cases hi with
  | none=>simp [sliceBounds,HT.sIx]
  | some i =>
   simp only [sliceBounds,HT.sIx,Option.getD_none,show (1:Int) > 0 by decide,if_true]
   by_cases h:i < 0
   ·simp only [h,if_true] <;> lia
   ·simp only [h,if_false] <;> lia
theorem gE (its:List Value) (lo hi:Option Int):slicePick its.toArray lo hi none=((its.drop (HT.sIx its.length 0 lo)).take (HT.sIx its.length its.length hi - HT.sIx its.length 0 lo)).toArray:=by
 obtain ⟨h1,h2,h3⟩:=iK lo hi its.toArray.size;unfold slicePick;rw [h1,h2,h3];simp only [sliceRange_one,pick_run,List.size_toArray] <;> rfl
def sT (K:PySem.W.Frag):V→Option Int→Option Int→Hp→VK→Prop:=fun x lo hi H Q=>∃ a xs,x=.ref a∧SqL K H a xs∧∀ p,H p=none→Q (.ref p) (upd H p (.lst (eX xs lo hi)))
theorem pK:SlR X (sT X.K):=by
 intro pins s σ H x v vl vu lo hi sl Q I rx hs pl pu h;obtain ⟨a,xs,rfl,hx,q⟩:=h
 cases rx
 obtain ⟨its,r,ht,hz⟩:=I.list hx;have hlen:=r.length;refine ⟨"list",_,slot_list_getitem.lookup,ht.isList.typeIs,?_⟩;refine wpAny_getItem_list_slice ht.isList hs pl pu .none (by simp) ?_ (by rw [List.size_toArray] <;> lia);rw [gE,← hlen];refine ⟨.ref s.heap.objs.size,_,I.laid (t':=s.toks) (o:=.lst (eX xs lo hi)) (fun b ob q=>Heap.get?_push_of_some _ q) (Nat.le_refl _) ?_,rfl,q _ (I.hok.fresh (Nat.le_refl _))⟩;exact ⟨Nat.le_trans (eR xs lo hi) hz,_,0,(r.drop (HT.sIx xs.length 0 lo)).take (HT.sIx xs.length xs.length hi - HT.sIx xs.length 0 lo),Heap.get?_push_size _ rfl⟩
def di:V→Bool
 | .non=>true
 | .bl _=>true
 | .int _=>true
 | .str _=>true
 | _=>false
def eqV:V→V→Bool
 | .non,.non=>true
 | .bl a,.bl b=>a == b
 | .bl a,.int b=>(if a then 1 else 0) == b
 | .int a,.bl b=>a == (if b then 1 else 0)
 | .int a,.int b=>a == b
 | .str a,.str b=>a == b
 | _,_=>false
theorem rE {A:Around} {s:Shared} {y x:V} {u v:Value} (ry:RelV y u) (rx:RelV x v) (fy:di y=true) (fx:di x=true):SeqAt.EqAt A s u v (eqV y x):=by
 cases y with
 | non =>
  cases ry
  cases x with
  | non=>cases rx;exact SeqAt.EqAt.same _
  | bl b=>cases rx;exact SeqAt.EqAt.none_bool b
  | int b=>obtain ⟨t,rfl⟩:=rx;exact SeqAt.EqAt.none_int b t
  | str b=>obtain ⟨t,rfl⟩:=rx;exact SeqAt.EqAt.none_str b t
  | _=>exact absurd (show false=true from fx) Bool.false_ne_true
 | bl a =>
  cases ry
  cases x with
  | non=>cases rx;exact SeqAt.EqAt.bool_none a
  | bl b=>cases rx;exact SeqAt.EqAt.bool_bool a b
  | int b=>obtain ⟨t,rfl⟩:=rx;exact SeqAt.EqAt.bool_int a b t
  | str b=>obtain ⟨t,rfl⟩:=rx;exact SeqAt.EqAt.bool_str a b t
  | _=>exact absurd (show false=true from fx) Bool.false_ne_true
 | int a =>
  obtain ⟨t',rfl⟩:=ry
  cases x with
  | non=>cases rx;exact SeqAt.EqAt.int_none a t'
  | bl b=>cases rx;exact SeqAt.EqAt.int_bool a t' b
  | int b=>obtain ⟨t,rfl⟩:=rx;exact SeqAt.EqAt.int_int a t' b t
  | str b=>obtain ⟨t,rfl⟩:=rx;exact SeqAt.EqAt.int_str a t' b t
  | _=>exact absurd (show false=true from fx) Bool.false_ne_true
 | str a =>
  obtain ⟨t',rfl⟩:=ry
  cases x with
  | non=>cases rx;exact SeqAt.EqAt.str_none a t'
  | bl b=>cases rx;exact SeqAt.EqAt.str_bool a t' b
  | int b=>obtain ⟨t,rfl⟩:=rx;exact SeqAt.EqAt.str_int a t' b t
  | str b=>obtain ⟨t,rfl⟩:=rx;exact SeqAt.EqAt.str_str a t' b t
  | _=>exact absurd (show false=true from fx) Bool.false_ne_true
 | _=>exact absurd (show false=true from fy) Bool.false_ne_true
def eqU (x:V) (u:Value):Bool:=match u with
 | .none=>eqV .non x
 | .bool b=>eqV (.bl b) x
 | .int i _=>eqV (.int i) x
 | .str z _=>eqV (.str z) x
 | _=>false
theorem nR {x y:V} {u:Value} (r:RelV y u) (f:di y=true):eqU x u=eqV y x:=by
 cases y with
 | non=>cases r;rfl
 | bl b=>cases r;rfl
 | int i=>obtain ⟨t,rfl⟩:=r;rfl
 | str z=>obtain ⟨t,rfl⟩:=r;rfl
 | _=>exact absurd (show false=true from f) Bool.false_ne_true
theorem dP {x:V}:∀ {xs:List V} {us:List Value},Vals xs us→xs.all di=true→us.any (eqU x)=xs.any fun y=>eqV y x
 | _,_,.nil,_=>rfl
 | y :: xs,u :: us,.cons r t,f=>by
  rw [List.all_cons,Bool.and_eq_true] at f;rw [List.any_cons,List.any_cons,nR r f.1,dP t f.2]
theorem cL {A:Around} {s:Shared} {x:V} {v:Value} (rx:RelV x v) (fx:di x=true):∀ {xs:List V} {us:List Value},Vals xs us→xs.all di=true→∀ u∈us,SeqAt.EqAt A s u v (eqU x u)
 | _,_,.nil,_=>fun u hu=>by cases hu
 | y :: xs,u :: us,.cons r t,f=>fun u' hu=>by
  rw [List.all_cons,Bool.and_eq_true] at f;rcases List.mem_cons.mp hu with rfl | hu
  ·rw [nR r f.1];exact rE r rx f.1 fx
  ·exact cL rx fx t f.2 u' hu
def inV (x:V) (xs:List V):Bool:=xs.any fun y=>eqV y x
def rIn (K:PySem.W.Frag) (neg:Bool):R2:=fun x y H Q=>∃ p xs,y=.ref p∧(SqL K H p xs∨SqT K H p xs)∧di x=true∧xs.all di=true∧Q (.bl (if neg then !inV x xs else inV x xs)) H
theorem mR:OpR X (compareOp .In) (rIn X.K false):=by
 intro pins s σ H x y v u Q I rx ry h;obtain ⟨p,xs,rfl,hq,fx,fs,q⟩:=h
 cases ry
 rcases hq with hq | hq
 ·obtain ⟨its,r,pl,hz⟩:=I.list hq;refine SeqAt.in_listAt (eqU x) pl.isList (fun w hw=>cL rx fx r fs w (by simpa using hw)) ⟨.bl _,H,I,rfl,?_⟩;rw [show its.toArray.any (eqU x)=its.any (eqU x) by simp,dP r fs];exact q
 ·obtain ⟨its,r,pl,hz⟩:=I.tuple hq;refine SeqAt.in_tupleAt (eqU x) pl (fun w hw=>cL rx fx r fs w (by simpa using hw)) ⟨.bl _,H,I,rfl,?_⟩;rw [show its.toArray.any (eqU x)=its.any (eqU x) by simp,dP r fs];exact q
theorem op_notIn_seq:OpR X (compareOp .NotIn) (rIn X.K true):=by
 intro pins s σ H x y v u Q I rx ry h;obtain ⟨p,xs,rfl,hq,fx,fs,q⟩:=h
 cases ry
 rcases hq with hq | hq
 ·obtain ⟨its,r,pl,hz⟩:=I.list hq;refine SeqAt.notIn_listAt (eqU x) pl.isList (fun w hw=>cL rx fx r fs w (by simpa using hw)) ⟨.bl _,H,I,rfl,?_⟩;rw [show its.toArray.any (eqU x)=its.any (eqU x) by simp,dP r fs];exact q
 ·obtain ⟨its,r,pl,hz⟩:=I.tuple hq;refine SeqAt.notIn_tupleAt (eqU x) pl (fun w hw=>cL rx fx r fs w (by simpa using hw)) ⟨.bl _,H,I,rfl,?_⟩;rw [show its.toArray.any (eqU x)=its.any (eqU x) by simp,dP r fs];exact q
theorem dQ:aW X (.builtin "len") (fun xs H Q=>∃ p ys,xs=[.ref p]∧(SqL X.K H p ys∨SqT X.K H p ys)∧Q (.int ys.length) H):=by
 intro pins s σ H xs us Q I r h;obtain ⟨p,ys,rfl,hq,q⟩:=h;obtain ⟨u,rfl,rx⟩:=dh r
 cases rx
 have hn:=fV;rcases hq with hq | hq
 ·obtain ⟨its,r',pl,hz⟩:=I.list hq;have hlen:=r'.length;exact Calls.call_len_list pl.isList (by simp only [List.size_toArray] <;> lia) ⟨.int ys.length,H,I.tok _,⟨s.toks+1,by rw [List.size_toArray,hlen]⟩,q⟩
 ·obtain ⟨its,r',pl,hz⟩:=I.tuple hq;have hlen:=r'.length;exact len_tuple pl (by simp only [List.size_toArray] <;> lia) ⟨.int ys.length,H,I.tok _,⟨s.toks+1,by rw [List.size_toArray,hlen]⟩,q⟩
theorem call_len_str:aW X (.builtin "len") (fun xs H Q=>∃ z,xs=[.str z]∧z.length≤sizeLine∧Q (.int z.length) H):=by
 intro pins s σ H xs us Q I r h;obtain ⟨z,rfl,hz,q⟩:=h;obtain ⟨u,rfl,t,rfl⟩:=dh r;have hn:=fV;exact len_str (by lia) ⟨.int z.length,H,I.tok _,⟨_,rfl⟩,q⟩
def tyV (K:PySem.W.Frag) (T:String) (x:V) (H:Hp):Prop:=match x with
 | .str _=>T= "str"
 | .int _=>T= "int"
 | .ref p=>(T= "list" ∧∃ xs,SqL K H p xs)∨(T= "tuple" ∧∃ o,K.lookup p=some o∧o.cls=.type "tuple" ∧o.dict=none) ∨
   (T= "dict" ∧((∃ kvs,H p=some (.dK kvs))∨∃ kvs,H p=some (.dT kvs)))∨(T= "set" ∧∃ S n,H p=some (.set S n))
 | _=>False
theorem rF {pins:List (Addr×Obj)} {σ:St} {H:Hp} {s:Shared} {T:String} {x:V} {v:Value} (I:Inv X pins σ H s) (r:RelV x v) (ty:tyV X.K T x H) :
  s.TypeIs v T∧∀ a,v=.ref a→∃ ob,s.heap.get? a=some ob∧ob.dict=none:=by
 cases x with
 | str z =>
  obtain ⟨t,rfl⟩:=r
  cases (show T= "str" from ty)
  exact ⟨typeIs_str s z t,fun _ e=>nomatch e⟩
 | int i =>
  obtain ⟨t,rfl⟩:=r
  cases (show T= "int" from ty)
  exact ⟨typeIs_int s i t,fun _ e=>nomatch e⟩
 | ref p =>
  cases r
  rcases ty with ⟨rfl,xs,hq⟩ | ⟨rfl,o,hk,hc,hd⟩ | ⟨rfl,hk⟩ | ⟨rfl,S,n,hk⟩
  ·obtain ⟨its,_,pl,_⟩:=I.list hq;refine ⟨pl.isList.typeIs,fun a e=>?_⟩
   cases e
   obtain ⟨o,n,e,c,hd,_⟩:=pl;exact ⟨o,e,hd⟩
  ·refine ⟨⟨o,I.kIn p o hk,hc⟩,fun a e=>?_⟩
   cases e
   exact ⟨o,I.kIn _ o hk,hd⟩
  ·have z:∃ o,s.heap.get? p=some o∧o.ExactDict:=by
    rcases hk with ⟨kvs,hk⟩ | ⟨kvs,hk⟩
    ·obtain ⟨_,_,_,_,o,_,_,e,ex,_⟩:=I.hok p _ hk;exact ⟨o,e,ex⟩
    ·obtain ⟨_,_,_,_,o,_,_,e,ex,_⟩:=I.hok p _ hk;exact ⟨o,e,ex⟩
   obtain ⟨o,e,ex⟩:=z;refine ⟨⟨o,e,ex.1⟩,fun a e2=>?_⟩
   cases e2
   exact ⟨o,e,ex.2.1⟩
  ·obtain ⟨o,_,_,_,e,ex,_⟩:=I.hok p _ hk;refine ⟨⟨o,e,ex.1⟩,fun a e2=>?_⟩
   cases e2
   exact ⟨o,e,ex.2.1⟩
 | _=>exact False.elim ty
def tBM (K:PySem.W.Frag) (T:String) (r:V→List V→Hp→VK→Prop) (to:TE) (t:TA):TE:=fun σ H Q=>to σ H fun x H1=>tyV K T x H1∧t σ H1 fun xs H2=>r x xs H2 Q
variable {o e:Expr} {es:List Expr} {to:TE} {t:TA} {name:Str} {apos cpos:Pos} {T id:String} {r:V→List V→Hp→VK→Prop}
theorem sU (pa:PlainAttrs T) (slot:Slot T name id) (hty:typeOf (.builtin id)=pure (.type "method_descriptor")) (hm:MtR X id r) (ho:PE X o to) (ha:PA X (e :: es) t)
  (hbase:attributeBase o name X.env (eval o X.env)=eval o X.env:=by rfl)
  (hfew:((backTo cpos (starEach (e :: es) X.env)).all (fun x=>!x.1) && (backToKw cpos (keywordEach [] X.env)).all (fun x=>x.1.isSome)
   && decide ((e :: es).length+([]:List Keyword).length+(if ([]:List Keyword).isEmpty then 0 else 1) < 30))=true:=by rfl)
  (hline:(apos.endLine == cpos.line)=true:=by rfl) (hs:starEach (e :: es) X.env=(false,eval e X.env) :: starEach es X.env:=by rfl) (hplain:(backTo cpos (starEach es X.env)).any (·.1)=false:=by rfl) :
  PE X (.Call (.Attribute o name apos) (e :: es) [] cpos) (tBM X.K T r to t):=by
 intro pins s σ H Q I h;refine wpAny_Call_method_late hbase hfew hline rfl (thn (ho pins s σ H _ I h) fun v s1 ⟨x,H1,I1,r1,ty,q1⟩=>?_);obtain ⟨h1,h2⟩:=rF I1 r1 ty;refine ⟨T,id,pa,slot,hty,h1,h2,?_⟩;have hA:=ha cpos pins s1 σ H1 _ I1 q1;rw [hs] at hA ⊢;refine Calls.callWith_builtin (by show (false || (backTo cpos (starEach es X.env)).any (·.1))=false;rw [hplain] <;> rfl) (Calls.evalArgs_plain ?_);exact thn hA fun us s2 ⟨vs,H2,I2,r2,q2⟩=>hm pins s2 σ H2 x vs v us Q I2 r1 r2 q2
end
def MtM (X:Cx) (id:String) (r:V→List V→Hp→VK→Prop):Prop :=
 ∀ (pins:List (Addr×Obj)) (s:Shared) (σ:St) (H:Hp) (x:V) (xs:List V) (v:Value) (us:List Value) (Q:VK),Inv X pins σ H s→RelV x v→Vals xs us→r x xs H Q →
  wpAny (model X.prog X.w) X.A (call (.builtin id) (v :: us)) (EP X pins σ Q) X.xe s
theorem Vals.one:∀ {x:V} {us:List Value},Vals [x] us→∃ u,us=[u]∧RelV x u:=by
 intro x us h
 cases h with
 | cons r t =>
  cases t
  exact ⟨_,rfl,r⟩
theorem Vals.two:∀ {x y:V} {us:List Value},Vals [x,y] us→∃ u v,us=[u,v]∧RelV x u∧RelV y v:=by
 intro x y us h
 cases h with
 | cons r t =>
  cases t with
  | cons q t =>
   cases t
   exact ⟨_,_,rfl,r,q⟩
section
variable {X:Cx} {pins:List (Addr×Obj)} {σ:St} {H:Hp} {s:Shared} {l b:Addr} {xs ys zs:List V}
theorem Inv.lset {its its':List Value} {n:Nat} {f:Array Value→Array Value} {t':Nat} (I:Inv X pins σ H s) (hH:H l=some (.lst xs))
  (e:s.heap.get? l=some { cls:=.type "list",data:=.seq its.toArray n }) (hf:f its.toArray=its'.toArray) (hv:Vals ys its') (hz:ys.length≤sizeLine) :
  Inv X pins σ (upd H l (.lst ys)) { s with heap:=s.heap.update l (Obj.mapSeq f),toks:=t' }:=by
 have q:=PySem.IsL.update e f;rw [hf] at q;refine I.write (x:=l) (e:=l) (by rw [hH];exact trivial) (.inl rfl) (fun b' u hb hu=>(Heap.get?_update_other s.heap (Obj.mapSeq f) (Ne.symm hb)).trans hu) ⟨_,q⟩ ?_;exact ⟨hz,its',_,hv,q⟩
theorem Inv.lnew {its:List Value} {t':Nat} (I:Inv X pins σ H s) (hv:Vals ys its) (hz:ys.length≤sizeLine) :
  Inv X pins σ (upd H s.heap.objs.size (.lst ys)) { s with heap:=s.heap.push { cls:=.type "list",data:=.seq its.toArray },toks:=t' } :=
 I.laid (fun _ _ q=>Heap.get?_push_of_some _ q) (Nat.le_refl _) ⟨hz,its,0,hv,Heap.get?_push_size _ rfl⟩
theorem Inv.fresh (I:Inv X pins σ H s):H s.heap.objs.size=none:=I.hok.fresh (Nat.le_refl _)
theorem Inv.lstM (I:Inv X pins σ H s) (hH:H l=some (.lst xs)):xs.length≤sizeLine∧∃ (its:List Value) (n:Nat),Vals xs its∧xs.length=its.length∧s.heap.get? l=some { cls:=.type "list",data:=.seq its.toArray n }:=by
 obtain ⟨z,its,n,r,e⟩:=I.hok l _ hH;exact ⟨z,its,n,r,r.length,e⟩
end
section
variable {X:Cx}
inductive IApp (x:V) (vs:List V) (H:Hp) (Q:VK):Prop
 | mk (l:Addr) (xs:List V) (y:V):(x=.ref l)→(vs=[y])→(H l=some (.lst xs))→(xs.length < sizeLine)→(Q .non (upd H l (.lst (xs++[y]))))→IApp x vs H Q
def pL:V→List V→Hp→VK→Prop:=fun x vs H Q=>IApp x vs H Q
theorem ii:MtM X "list.append" pL:=by
 intro pins s σ H x vs v us Q I rx rv h;obtain ⟨l,xs,y,rfl,rfl,hH,hz,q⟩:=h
 cases rx
 obtain ⟨u,rfl,ru⟩:=rv.one;obtain ⟨z,its,n,r,hl,e⟩:=I.lstM hH;refine call_meets F.slot_list_append ⟨_,e,rfl⟩ F.entry_list_append (F.args_list_append_2 _ _) (PySem.list_append l its.toArray n u (by rw [List.size_toArray];lia)) ⟨e,?_⟩;refine ⟨.non,_,I.lset (its':=its++[u]) hH e (by simp) (r.append (.cons ru .nil)) ?_,rfl,q⟩;rw [List.length_append,List.length_singleton];lia
end
section
variable {prog:Program} {w:World} {A:Around} {E:Value→Shared→Prop} {s:Shared}
end
section
variable {X:Cx}
end
end L2
namespace Att
open PySem PySem.W PySem.Calls PyProof.Rows
theorem eY {P:Params} {h:Heap}:∀ (ns:List Int) (vs:List Value),WellAll P h vs (ns.map WData.int)→IntsAre vs ns:=by
 intro ns
 induction ns with
 | nil =>
  intro vs w;rw [List.map_nil] at w
  cases w
  exact .nil
 | cons n ns ih =>
  intro vs w;rw [List.map_cons] at w
  cases w with
  | cons a b =>
   cases a
   exact .cons _ _ (ih _ b)
theorem mS {l:OpenLaw} {n:Nat} (hn:l.most=some n) {P:Params} {h:Heap} {args:List WData} {vals:List Value}
  (hpre:l.row.toRowW.claim.pre args=true) (hwl:WellAll P h vals args) :
  ∃ a vs ns,vals=[Value.ref a]∧args=[WData.list (ns.map WData.int)]∧h.get? a=some { cls:=.type "list",data:=.seq vs.toArray }∧IntsAre vs ns∧ns.length≤n:=by
 have hsh:WShape.hasAll [] args [.list .int]=true:=(pre_splitW hpre).1;have hc:l.pre.holds [] { args:=args }=true:=(pre_splitW hpre).2;obtain ⟨d,r,rfl,h1,h2⟩:=hasAllW_cons hsh;obtain rfl:=hasAllW_nil h2;obtain ⟨xs,rfl,h3⟩:=hasW_list h1;obtain ⟨ns,rfl⟩:=items_int h3;have hlen:ns.length≤n:=by
  unfold OpenLaw.pre at hc;have h4:(WTm.not (.lt (.lit (.int (n:Int))) (.len (.arg 0)))).holds [] { args:=[.list (ns.map .int)] }=true:=by
   have h4:=(holds_andW hc).1;rw [hn] at h4;exact h4
  have h5:=condW_of h4 (w_not (w_lt w_lit (w_len_list (w_arg rfl))));rw [List.length_map] at h5;refine Nat.le_of_not_lt fun q=>?_;have q':(n:Int) < ((ns.length:Nat):Int):=by lia
  first
   | (rw [decide_eq_true q'] at h5;exact absurd h5 (by decide))
   | (simp at h5;lia)
 cases hwl with
 | cons w1 w2 =>
  cases w2
  cases w1 with
  | list ho hall=>exact ⟨_,_,ns,rfl,rfl,ho,eY ns _ hall,hlen⟩
theorem mT (l:OpenLaw) (args:List WData):l.row.toRowW.claim.post args (.bool true) args=true :=
 postW_of (r:=l.row.toRowW) (X:=(true == true))
  (show WShape.has [] (.bool true) .bool=true by first | rfl | decide | simp [WShape.has,WShape.arms,WShape.armsAll])
  (show (WTm.eq .res (.lit (.bool true))).value [] { args:=args,res:=some (.bool true),after:=args }=some (.bool (true == true)) from w_eq_bool (w_res rfl) w_lit) rfl
theorem attach_call {l:OpenLaw} {n:Nat} {q:Program} {loose:List Str} {XP:(Str→Option Value)→Heap→Prop} {YP:World→Heap→Prop} {d:DefRec}
  (hn:l.most=some n) (hdf:d.params.defaults=[])
  (call:∀ (w:World) (s₀ s₁:Shared) (mg mb:Str→Option Value) (fa:Addr) (o:Obj) (pm cd doc:Value) (a:Addr) (vs:List Value) (ns:List Int),
   Ground q loose [] XP w s₀ mg mb s₁.heap→YP w s₁.heap →
   s₁.heap.get? fa=some o→o.data=.func (docDef d.name d.params d.body d.scope pm cd doc)→s₁.heap.CodeRec cd d.name→mg d.name=some (.ref fa) →
   s₁.heap.get? a=some { cls:=.type "list",data:=.seq vs.toArray }→IntsAre vs ns→ns.length≤n→s₁.gens=#[] →
   codeAny (model l.prog w) callerA (.call (.ref fa) ⟨[.ref a],[]⟩) (fun r s'=>r=.ok (.ret (.bool true))∧OldK s₁.heap s'.heap∧s'.os=s₁.os∧AllBare s'.gens) s₁) :
  WalkO q loose XP YP l.row.toRowW d [] (fun f vs=>PySem.call f vs):=by
 intro w s₀ s₁ mg mb G Y fa o pm cd doc dV kV ho hd hcd hD hmg hg args vals as hpre hlay hrd hwl hlo;obtain rfl:dV=.none:=Dflts.none hD hdf;obtain rfl:kV=.none:=Dflts.noKw hD;obtain ⟨a,vs,ns,rfl,rfl,hobj,hints,hlen⟩:=mS hn hpre hwl;refine enter_call (codeAny_mono (call w s₀ s₁ mg mb fa o pm cd doc a vs ns G Y ho (fd_plain hd) hcd hmg hobj hints hlen hg) fun r s' hq=>?_);obtain ⟨rfl,h2,h3,h4⟩:=hq;exact ⟨.inl ⟨.bool true,.bool true,[],rfl,fun _=>rfl,.bool true,mT l _,fun _=>⟨List.Pairwise.nil,fun _ hm=>(nomatch hm)⟩⟩,h2,h3,h4⟩
section
variable {prog:Program} {w:World} {A:Around} {E:Value→Shared→Prop} {s:Shared} {K:Frag}
end
end Att
namespace L2
open PySem PySem.Spec PyProof.Rows
theorem ik:∀ {vs:List Value} {ns:List Int},IntsAre vs ns→Vals (ns.map V.int) vs
 | _,_,.nil=>.nil
 | _,_,.cons n t h=>.cons ⟨t,rfl⟩ (ik h)
def pM (H:Hp):Prop:=∀ b,H b=none∨∃ o xs,H b=some (.frz o (.lst xs))
theorem nU {P:Program} {w:World} {K:PySem.W.Frag} {mg mb:Str→Option Value} {CX:CXT} {k:Nat} {fa a:Addr} {fd:FuncData} {x:Str} {sp:Sp} {s₁:Shared} {vs:List Value} {ns:List Int}
  (KX:K.In s₁.heap) (hns:s₁.heap.Ns mainGlobals mg) (hb:s₁.heap.Ns builtinsNs mb) (hbb:∀ x:Str,x≠ "__name__" →mb x=bootBuiltins x) (hlim:s₁.heap.NoLimit) (hg:s₁.gens=#[])
  (ha:s₁.heap.get? a=some { cls:=.type "list",data:=.seq vs.toArray }) (hi:IntsAre vs ns) (hl:ns.length≤sizeLine) (hr:Room k callerA)
  (F:∀ base:Heap,K.In base→base.Ns mainGlobals mg→FnOk P w K mg base CX k fa fd [x] sp) (hbind:∀ (s:Shared) (u:Value),BindsTo s fd ⟨[u],[]⟩ [(x,u)])
  (hsp:∀ H:Hp,pM H→SqL K H a (ns.map V.int)→sp [.ref a] H (fun v _=>v=.bl true) fun _ _ _=>False)
  (hCX:∀ H e s',CX [] H s₁ (fun _ _ _=>False) e s'→False) :
  codeAny (model P w) callerA (.call (.ref fa) ⟨[.ref a],[]⟩) (fun r s'=>r=.ok (.ret (.bool true))∧OldK s₁.heap s'.heap∧s'.os=s₁.os∧AllBare s'.gens) s₁:=by
 have rv:=ik hi;have lenV:=hi.length;have core:∀ H:Hp,pM H→SqL K H a (ns.map V.int)→HOk P w H s₁.heap→(∀ b,H b≠none→b=a)→(H a≠none→K.lookup a=none) →
   codeAny (model P w) callerA (.call (.ref fa) ⟨[.ref a],[]⟩) (fun r s'=>r=.ok (.ret (.bool true))∧OldK s₁.heap s'.heap∧s'.os=s₁.os∧AllBare s'.gens) s₁:=by
  intro H hO hS hok hA hK;have base_of:∀ {b:Addr} {o:Obj},s₁.heap.get? b=some o→H b=none→(iC s₁.heap H).get? b=some o:=fun e n=>nD e n;have noA:∀ {b:Addr} {o:Obj} {es:Array DictEntry} {ep:Nat},s₁.heap.get? b=some o→o.data=.dict es ep→H b=none:=fun {b o es ep} e d=>by
   cases q:H b with
   | none=>rfl
   | some u =>
    have e':b=a:=hA b (by rw [q];simp);subst e';rw [ha] at e;cases e;have d':Data.seq vs.toArray _=Data.dict es ep:=d
    cases d'
  have nsK:∀ {b:Addr} {m:Str→Option Value},s₁.heap.Ns b m→(iC s₁.heap H).Ns b m:=fun {b m} ⟨o,es,ep,e,d,r⟩=>⟨o,es,ep,base_of e (noA e d),d,r⟩;have hKb:K.In (iC s₁.heap H):=fun b o e=>base_of (KX b o e) (by
   cases q:H b with
   | none=>rfl
   | some u =>
    have e':b=a:=hA b (by rw [q];simp);subst e';rw [hK (by rw [q];simp)] at e;cases e)
  have hM:Mod K mg (iC s₁.heap H):=⟨hKb,nsK hns,⟨mb,nsK hb,hbb⟩,let ⟨mc,h1,h2⟩:=hlim;⟨mc,nsK h1,h2⟩⟩;have e0:Env0 P w K mg (iC s₁.heap H) callerA [] s₁ H:=⟨rfl,hM,fun b o e=>pA e,Nat.le_of_eq (mJ _ _),trivial,fun b hb=>absurd (show b∈([]:List Addr) from hb) (by simp),hok,.of_eq hg⟩;refine codeAny_mono ((F _ hKb (nsK hns)).run callerA [] s₁ H ⟨[.ref a],[]⟩ [.ref a] [.ref a] _ _ hr e0 (hbind s₁ (.ref a)) (.cons rfl .nil) (hsp H hO hS)) fun r s' h=>?_
  cases r with
  | error e=>exact (hCX H e s' h).elim
  | ok fl =>
   cases fl with
   | next=>exact False.elim h
   | brk=>exact False.elim h
   | cont=>exact False.elim h
   | ret u =>
    obtain ⟨v,H',os,bare,un,hok',r',q⟩:=h;have q':v=.bl true:=q;subst q';obtain rfl:u=Value.bool true:=r';refine ⟨rfl,OldK.of_keep fun b o e=>?_,os,bare⟩
    cases q:H b with
    | none=>exact un.keep b o e q (by intro z;exact absurd (show b∈([]:List Addr) from z) (by simp)) (by simp)
    | some u =>
     rcases hO b with z | ⟨ob,xs,z⟩
     ·rw [q] at z;cases z
     ·have z2:=un.frzs b ob _ z;obtain ⟨e1,_⟩:=hok b _ z;obtain ⟨e2,_⟩:=hok' b _ z2;rw [e] at e1;cases e1;exact e2
 cases hk:K.lookup a with
 | some o =>
  have e:=KX a o hk;rw [ha] at e
  cases e
  refine core (fun _=>none) (fun _=>.inl rfl) (.inr ⟨_,vs.toArray,_,hk,rfl,rfl,rfl,by rw [List.size_toArray,lenV];exact hl,by simpa using rv⟩) (fun b u z=>by have z':(none:Option HO)=some u:=z;cases z') (fun b z=>absurd rfl z) fun z=>absurd rfl z
 | none =>
  refine core (fun b=>if b=a then some (.frz { cls:=.type "list",data:=.seq vs.toArray } (.lst (ns.map V.int))) else none) (fun b=>?_) (.inl (.inr ⟨{ cls:=.type "list",data:=.seq vs.toArray },if_pos rfl⟩)) (fun b u z=>?_) (fun b z=>?_) fun _=>hk
  ·by_cases hb:b=a
   ·exact .inr ⟨_,_,if_pos hb⟩
   ·exact .inl (if_neg hb)
  ·by_cases hb:b=a
   ·have z':=(if_pos hb).symm.trans z
    cases z'
    subst hb;exact ⟨ha,by rw [List.length_map];exact hl,vs,_,rv,ha⟩
   ·have z':=(if_neg hb).symm.trans z
    cases z'
  ·by_cases hb:b=a
   ·exact hb
   ·exact absurd (if_neg hb) z
abbrev KOf {K:PySem.W.Frag} {h:Heap} (_:K.In h):PySem.W.Frag:=K
theorem pN {l:PySem.W.OpenLaw} {n k:Nat} {q:Program} {loose:List Str} {XP:(Str→Option Value)→Heap→Prop} {YP:World→Heap→Prop} {d:DefRec} {K:Params→PySem.W.Frag} {CX:World→CXT} {sp:World→Sp} {x:Str}
  (hn:l.most=some n) (hn2:n≤sizeLine) (hdf:d.params.defaults=[]) (hr:Room k callerA)
  (hY:∀ (w:World) (h:Heap),YP w h→(K w.params).In h)
  (F:∀ (w:World) (mg:Str→Option Value) (fa:Addr) (h:Heap),(K w.params).In h→h.Ns mainGlobals mg→mg d.name=some (.ref fa) →
   ∃ fd:FuncData,(∀ (s:Shared) (u:Value),BindsTo s fd ⟨[u],[]⟩ [(x,u)]) ∧
    ∀ base:Heap,(K w.params).In base→base.Ns mainGlobals mg→FnOk l.prog w (K w.params) mg base (CX w) k fa fd [x] (sp w))
  (hsp:∀ (w:World) (H:Hp) (a:Addr) (ns:List Int),ns.length≤n→pM H→SqL (K w.params) H a (ns.map V.int)→sp w [.ref a] H (fun v _=>v=.bl true) fun _ _ _=>False)
  (hCX:∀ (w:World) (H:Hp) (s:Shared) (e:Value) (s':Shared),CX w [] H s (fun _ _ _=>False) e s'→False) :
  PySem.W.WalkO q loose XP YP l.row.toRowW d [] (fun f vs=>PySem.call f vs):=by
 refine Att.attach_call hn hdf fun w s₀ s₁ mg mb fa o pm cd doc a vs ns G Y ho hd hcd hmg hobj hints hlen hg=>?_;have KX:=hY w _ Y;obtain ⟨fd,hb,hF⟩:=F w mg fa _ KX G.T.g hmg;exact nU KX G.T.g G.T.b G.T.builtins G.T.nolimit hg hobj hints (Nat.le_trans hlen hn2) hr hF hb (fun H hO hS=>hsp w H a ns hlen hO hS) fun H e s'=>hCX w H s₁ e s'
theorem sV {l:PySem.W.OpenLaw} {n k:Nat} {q:Program} {loose:List Str} {XP:(Str→Option Value)→Heap→Prop} {YP:World→Heap→Prop} {d:DefRec} {K:Params→PySem.W.Frag} {CX:CXT} {sp:PySem.W.Frag→Sp} {x:Str}
  (hn:l.most=some n) (hn2:n≤sizeLine) (hdf:d.params.defaults=[]) (hr:Room k callerA)
  (hY:∀ (w:World) (h:Heap),YP w h→(K w.params).In h)
  (F:∀ (w:World) (mg:Str→Option Value) (fa:Addr) (h:Heap),(K w.params).In h→h.Ns mainGlobals mg→mg d.name=some (.ref fa) →
   ∃ fd:FuncData,(∀ (s:Shared) (u:Value),BindsTo s fd ⟨[u],[]⟩ [(x,u)]) ∧
    ∀ base:Heap,(K w.params).In base→base.Ns mainGlobals mg→FnOk l.prog w (K w.params) mg base CX k fa fd [x] (sp (K w.params)))
  (hsp:∀ (K:PySem.W.Frag) (H:Hp) (a:Addr) (ns:List Int),ns.length≤n→pM H→SqL K H a (ns.map V.int)→sp K [.ref a] H (fun v _=>v=.bl true) fun _ _ _=>False)
  (hCX:∀ (H:Hp) (s:Shared) (e:Value) (s':Shared),CX [] H s (fun _ _ _=>False) e s'→False) :
  PySem.W.WalkO q loose XP YP l.row.toRowW d [] (fun f vs=>PySem.call f vs) :=
 pN (K:=K) (CX:=fun _=>CX) (sp:=fun w=>sp (K w.params)) hn hn2 hdf hr hY F (fun w H a ns h1 h2 h3=>hsp (K w.params) H a ns h1 h2 h3) fun _ H s e s'=>hCX H s e s'
end L2
namespace L2
open PySem PySem.Spec PyProof.Rows
abbrev CX0:CXT:=fun _ _ _ _ _ _=>False
abbrev E0:XK:=fun _ _ _=>False
theorem qM {X:Cx}:fW CX0 X E0:=fun _ _ _ _ _ _ _ h=>h.elim
structure Fun (K:PySem.W.Frag) (x qual:Str) (st:Stmt) (f:Addr) (fd:FuncData):Prop where
 ex:∃ (oc:Value) (od:Option Addr) (kV doc pm:Value) (an:Option Addr) (cdv ct:Value) (osl:Array (Option Value)),
  fd=PySem.W.fnOf x qual (ck st) (bo st) (ae st) .none kV doc pm an cdv ct∧K.lookup f=some ⟨oc,od,.func fd,osl⟩∧PySem.W.codeIn K cdv qual=true
 kp:PySem.W.keepIn K (.ref f)=true
section
variable {P:Program} {w:World} {K:PySem.W.Frag} {mg:Str→Option Value} {base:Heap}
theorem Fun.ok {x qual:Str} {st:Stmt} {f:Addr} {fd:FuncData} {N ps:List Str} {k:Nat} {sp:Sp} (F:Fun K x qual st f fd) (S:FnScope N ps (ae st)) (len:∀ vs H Q E,sp vs H Q E→vs.length=ps.length)
  (hbody:∀ (cdv:Value) (A:Around) (outer:List Env) (s:Shared) (H:Hp) (vs:List V) (Q:VK) (E:XK),Room k (A.deeper (envOfC qual (ae st) s.heap.objs.size f cdv))→sp vs H Q E →
   ∃ t,PSs (eW CX0 P w K mg base N qual (ae st) f cdv A outer s H E).nox (bo st) t∧t { nx:=fun _ H'=>Q .non H',rt:=Q } (cK N vs) H):FnOk P w K mg base CX0 (k+1) f fd ps sp:=by
 obtain ⟨oc,od,kV,doc,pm,an,cdv,ct,osl,rfl,lk,hcd⟩:=F.ex;refine ma lk hcd S len fun A outer s H vs Q E hr hsp=>?_;obtain ⟨t,h,q⟩:=hbody cdv A outer s H vs Q E hr hsp;exact ⟨t,h.nox,q⟩
theorem Fun.binds {x qual:Str} {st:Stmt} {f:Addr} {fd:FuncData} {ps:List Str} (F:Fun K x qual st f fd)
  (h:∀ (kV doc pm:Value) (an:Option Addr) (cdv ct:Value) (us:List Value),us.length=ps.length→bindArgs (PySem.W.fnOf x qual (ck st) (bo st) (ae st) .none kV doc pm an cdv ct) ⟨us,[]⟩=pure (ps.zip us)):Binds K fd ps []:=by
 obtain ⟨oc,od,kV,doc,pm,an,cdv,ct,osl,rfl,lk,hcd⟩:=F.ex;exact .all (h kV doc pm an cdv ct)
theorem nV {x qual:Str} {st:Stmt} {f:Addr} {oc:Value} {od an:Option Addr} {osl:Array (Option Value)} {kV doc pm cdv ct:Value} (l:K.lookup f=some ⟨oc,od,.func (PySem.W.fnOf x qual (ck st) (bo st) (ae st) .none kV doc pm an cdv ct),osl⟩)
  (c:PySem.W.codeIn K cdv qual=true) (k:PySem.W.keepIn K (.ref f)=true):Fun K x qual st f (PySem.W.fnOf x qual (ck st) (bo st) (ae st) .none kV doc pm an cdv ct):=⟨⟨oc,od,kV,doc,pm,an,cdv,ct,osl,rfl,l,c⟩,k⟩
end
theorem ao {n:Nat} (h:n≤1000):n < sizeLine:=Nat.lt_of_le_of_lt h (by decide)
section
variable {X:Cx}
theorem pv (i:Nat) {x:Str} {pos:Pos} (hN:X.N[i]?=some x:=by rfl) (hv:Vis X.env.scope x:=by first | exact Or.inl rfl | exact Or.inr (Or.inl rfl) | exact Or.inr (Or.inr rfl)) (hd:(x == ("__debug__" : Str))=false:=by decide)
  (hcd:(x == ("__classdict__" : Str))=false:=by decide):PE X (.Name x pos) (fU i):=rf hN hv hd hcd
end
theorem aV {A B:Prop} (h:B):if false=true then A else B:=by
 rw [if_neg Bool.false_ne_true];exact h
theorem ax {A B:Prop} (h:A):if true=true then A else B:=by
 rw [if_pos rfl];exact h
theorem aA {c A B:Prop} [Decidable c] (h1:c→A) (h2:¬ c→B):if c then A else B:=by
 by_cases h:c
 ·rw [if_pos h];exact h1 h
 ·rw [if_neg h];exact h2 h
def Same (H H':Hp):Prop:=∀ b o,H b=some o→H' b=some o
theorem Same.refl (H:Hp):Same H H:=fun _ _ h=>h
theorem Same.trans {H H1 H2:Hp} (a:Same H H1) (b:Same H1 H2):Same H H2:=fun c o h=>b c o (a c o h)
theorem Same.free {H H':Hp} (e:Same H H') {l:Addr} (h:H' l=Option.none):H l=Option.none:=by
 cases q:H l with
 | none=>rfl
 | some o =>
  rw [e l o q] at h
  cases h
theorem Same.seq {K:PySem.W.Frag} {H H':Hp} {a:Addr} {xs:List V} (e:Same H H') (h:SqL K H a xs):SqL K H' a xs:=by
 rcases h with (h | ⟨o,h⟩) | h
 ·exact .inl (.inl (e _ _ h))
 ·exact .inl (.inr ⟨o,e _ _ h⟩)
 ·exact .inr h
def bU (env:Env):List (Str×NameKind)→List (Str×Addr)→List (Str×Addr)
 | [],cs=>cs
 | (n,k) :: r,cs=>bU env r (if k == .free then (n,(env.cells.lookup n).getD 0) :: cs else cs)
theorem fY {env:Env} {scope:Scope} (h:∀ x∈scope.names,x.2=.free→∃ c,env.cells.lookup x.1=some c):closureFor scope env=pure (bU env scope.names []):=by
 simp only [closureFor];have go:∀ (l:List (Str×NameKind)) (cs:List (Str×Addr)),(∀ x∈l,x.2=.free→∃ c,env.cells.lookup x.1=some c) →
   (forIn l cs fun (x:Str×NameKind) (r:List (Str×Addr))=>(do
    let (name,kind):=x
    if kind == .free then
     let a ← cellOf env name
     pure (ForInStep.yield ((name,a) :: r))
    else pure (ForInStep.yield r):Sem (ForInStep (List (Str×Addr)))))=pure (bU env l cs):=by
  intro l
  induction l with
  | nil=>intro cs _;rfl
  | cons x r ih =>
   intro cs hx;obtain ⟨n,k⟩:=x;rw [List.forIn_cons]
   by_cases hk:k=.free
   ·obtain ⟨c,hc⟩:=hx (n,k) List.mem_cons_self hk;subst hk;have e:cellOf env n=pure c:=by unfold cellOf;rw [hc]
    simp only [beq_self_eq_true,if_true,e,pure_bind];rw [ih _ fun y hy=>hx y (List.mem_cons_of_mem _ hy)];simp only [bU,beq_self_eq_true,if_true,hc,Option.getD_some]
   ·have hb:(k == NameKind.free)=false:=by simpa using hk
    simp only [hb,Bool.false_eq_true,if_false,pure_bind];rw [ih _ fun y hy=>hx y (List.mem_cons_of_mem _ hy)];simp only [bU,hb,Bool.false_eq_true,if_false]
 have g:=go scope.names [] h
 first
  | exact (by rw [g]:_=_)
  | (rw [← bind_pure (pure (bU env scope.names []))];rw [← g];rfl)
  | (simp only [g,pure_bind])
theorem eE {env:Env}:∀ (l:List (Str×NameKind)) (cs:List (Str×Addr)),(∀ x∈l,x.2=.free→∃ c,env.cells.lookup x.1=some c)→(∀ x c,cs.lookup x=some c→env.cells.lookup x=some c) →
  ∀ x c,(bU env l cs).lookup x=some c→env.cells.lookup x=some c
 | [],_,_,h=>h
 | (n,k) :: r,cs,hx,h=>by
  refine eE r _ (fun y hy=>hx y (List.mem_cons_of_mem _ hy)) ?_;intro x c e
  by_cases hk:k=.free
  ·obtain ⟨c',hc⟩:=hx (n,k) List.mem_cons_self hk;subst hk;simp only [beq_self_eq_true,if_true,hc,Option.getD_some] at e;rw [List.lookup_cons] at e
   cases q:x == n with
   | true =>
    rw [q] at e;have q':x=n:=by simpa using q
    cases e
    rw [q'];exact hc
   | false=>rw [q] at e;exact h x c e
  ·have hb:(k == NameKind.free)=false:=by simpa using hk
   simp only [hb,Bool.false_eq_true,if_false] at e;exact h x c e
theorem eS {env:Env}:∀ (l:List (Str×NameKind)) (cs:List (Str×Addr)) (x:Str),(∃ c,cs.lookup x=some c)→∃ c,(bU env l cs).lookup x=some c
 | [],_,_,h=>h
 | (n,k) :: r,cs,x,h=>by
  refine eS r _ x ?_
  split
  ·rw [List.lookup_cons]
   cases q:x == n with
   | true=>exact ⟨_,rfl⟩
   | false=>exact h
  ·exact h
theorem da {env:Env}:∀ (l:List (Str×NameKind)) (cs:List (Str×Addr)) (x:Str),l.lookup x=some .free→∃ c,(bU env l cs).lookup x=some c
 | [],_,_,h=>by simp at h
 | (n,k) :: r,cs,x,h=>by
  rw [List.lookup_cons] at h
  cases q:x == n with
  | true =>
   rw [q] at h
   cases h
   refine eS r _ x ?_;simp only [beq_self_eq_true,if_true];rw [List.lookup_cons,q];exact ⟨_,rfl⟩
  | false=>rw [q] at h;exact da r _ x h
theorem cn {env:Env}:∀ {names:List (Str×NameKind)} {x:Str} {k':NameKind},
  (names.map fun (n,k)=>if (k == NameKind.free && env.scope.kind == .function && env.kindOf n == some .cell) then (n,NameKind.cell) else (n,k)).lookup x=some k' →
  ∃ k,names.lookup x=some k∧(k'=k∨(k=.free∧k'=.cell))
 | [],_,_,h=>by simp at h
 | (n,k) :: r,x,k',h=>by
  have ih:=@cn env r x k';rw [List.map_cons] at h
  by_cases hc:(k == NameKind.free && env.scope.kind == .function && env.kindOf n == some .cell)=true
  ·have h2:List.lookup x ((n,NameKind.cell) :: r.map fun (n,k)=>if (k == NameKind.free && env.scope.kind == .function && env.kindOf n == some .cell) then (n,NameKind.cell) else (n,k))=some k':=by
    simpa [hc] using h
   rw [List.lookup_cons] at h2;rw [List.lookup_cons]
   cases q:x == n with
   | true =>
    rw [q] at h2
    cases h2
    have hk:k=.free:=by
     simp only [Bool.and_eq_true] at hc
     simpa using hc.1.1
    exact ⟨k,rfl,.inr ⟨hk,rfl⟩⟩
   | false=>rw [q] at h2;exact ih h2
  ·have h2:List.lookup x ((n,k) :: r.map fun (n,k)=>if (k == NameKind.free && env.scope.kind == .function && env.kindOf n == some .cell) then (n,NameKind.cell) else (n,k))=some k':=by
    simpa [hc] using h
   rw [List.lookup_cons] at h2;rw [List.lookup_cons]
   cases q:x == n with
   | true=>rw [q] at h2;cases h2;exact ⟨_,rfl,.inl rfl⟩
   | false=>rw [q] at h2;exact ih h2
def ccx (X:Cx) (scope:Scope) (C:Addr) (N':List Str) (s₀:Shared) (H₀:Hp) (fp:List Addr):Cx :=
 { X with N:=N',s₀:=s₀,H₀:=H₀,env:=compEnvC scope (bU X.env scope.names []) C X.env,outer:=X.stack,stack:=X.stack,ex:=fp,fn:=fun _=>false,pn:=[],xe:=fun _ _=>False }
def cst (k:Nat) (ρ:List Nat) (σ:St):St:=List.replicate k none++ρ.map fun j=>(σ[j]?).join
structure CScope (X:Cx) (scope:Scope) (NL:List Str) (ρ:List Nat) (N':List Str):Prop where
 kind:scope.kind=.function
 nocell:∀ x∈scope.names,x.2≠.cell
 locs:∀ x∈scope.names,x.2=.local→scope.names.lookup x.1=some .local
 frees:∀ x∈scope.names,x.2=.free→X.env.kindOf x.1=some .cell∨X.env.kindOf x.1=some .free
 names:N'=NL++ρ.map fun j=>X.N.getD j ""
 outs:∀ j∈ρ,∃ x,X.N[j]?=some x∧scope.names.lookup x=some .free∧(X.env.scope.names.lookup x=some .cell∨X.env.scope.names.lookup x=some .free)
section
variable {X:Cx}
theorem pO {scope:Scope} {NL N':List Str} {ρ:List Nat} (S:CScope X scope NL ρ N') {pins:List (Addr×Obj)} {σ:St} {H:Hp} {s:Shared} {fp:List Addr} {C:Addr} (I:Inv X pins σ H s) (hf:∀ b∈fp,dv X pins H b)
  (hfo:∀ b∈fp,∃ o,s.heap.get? b=some o) (hC:s.heap.objs.size≤C):(ccx X scope C N' s H fp).Ok:=by
 have free_in:∀ x∈scope.names,x.2=.free→∃ c,X.env.cells.lookup x.1=some c:=fun x hx hk=>I.ok.has x.1 (S.frees x hx hk);have sub:=eE (env:=X.env) scope.names [] free_in (fun x c e=>by simp at e);refine ⟨I.ok.mod,S.kind,I.ok.glob,I.ok.blt,hC,?_,?_,?_,I.ok.hd,I.ok.frames,.inl rfl,?_,I.bs,?_,?_,?_,I.stack,I.stkFree⟩
 ·exact fun x y c e1 e2=>I.ok.inj x y c (sub x c e1) (sub y c e2)
 ·intro x hx;have hx':(relabel scope X.env).names.lookup x=some .cell∨(relabel scope X.env).names.lookup x=some .free:=hx;have look:∀ k',(relabel scope X.env).names.lookup x=some k'→(k'=.cell∨k'=.free)→scope.names.lookup x=some .free:=fun k' e hk=>by
   obtain ⟨k,e1,z⟩:=cn e;rcases z with z | ⟨z,_⟩
   ·subst z;rcases hk with z | z
    ·subst z;have hm:(x,NameKind.cell)∈scope.names:=mem_of_lookup e1;exact absurd rfl (S.nocell _ hm)
    ·subst z;exact e1
   ·subst z;exact e1
  rcases hx' with e | e
  ·exact da scope.names [] x (look _ e (.inl rfl))
  ·exact da scope.names [] x (look _ e (.inr rfl))
 ·intro x c e;exact absurd e (by show ¬ (false=true);decide)
 ·intro b hb;obtain ⟨f0,f1,f2,f3,f4,f5⟩:=hf b hb;refine ⟨?_,fun x c e=>f4 x c (sub x c e)⟩;obtain ⟨o,ho⟩:=hfo b hb;exact Nat.ne_of_lt (Nat.lt_of_lt_of_le (Heap.lt_size ho) hC)
 ·exact Nat.le_trans I.ok.bsz I.sz
 ·intro b o e hb;obtain ⟨f0,f1,f2,f3,f4,f5⟩:=hf b hb;rcases f3 with z | z
  ·exact I.ok.noex b o e z
  ·exact absurd (Nat.lt_of_lt_of_le (Heap.lt_size e) (Nat.le_trans I.ok.bsz z)) (Nat.lt_irrefl _)
 ·intro b hb z;obtain ⟨f0,f1,f2,f3,f4,f5⟩:=hf b hb;rcases List.mem_cons.mp (I.stkSub b z) with e | e
  ·exact f1 e
  ·exact f2 e
end
section
variable {X:Cx}
theorem Inv.comp {scope:Scope} {NL N':List Str} {ρ:List Nat} (S:CScope X scope NL ρ N') {pins:List (Addr×Obj)} {σ:St} {H:Hp} {s:Shared} {fp:List Addr} {C D:Addr} {h':Heap} {t':Nat} (I:Inv X pins σ H s) (hf:∀ b∈fp,dv X pins H b)
  (hfo:∀ b∈fp,∃ o,s.heap.get? b=some o) (hC:s.heap.objs.size≤C) (hD:s.heap.objs.size≤D) (hDC:D≠C) (k:∀ b u,s.heap.get? b=some u→h'.get? b=some u)
  (hd:h'.get? D=some { cls:=.type "list",data:=.seq #[] 0 }) (hn:h'.Ns C fun _=>none) :
  Inv (ccx X scope C N' s H fp) (X.pn++pins) (cst NL.length ρ σ) (upd H D (.lst [])) { s with heap:=h',toks:=t' }:=by
 have ok:=pO S I hf hfo hC;have free_in:∀ x∈scope.names,x.2=.free→∃ c,X.env.cells.lookup x.1=some c:=fun x hx hk=>I.ok.has x.1 (S.frees x hx hk);have sub:=eE (env:=X.env) scope.names [] free_in (fun x c e=>by simp at e);have fresh:∀ b,s.heap.objs.size≤b→H b=none:=fun b hb=>I.hok.fresh hb;have neD:∀ b o,s.heap.get? b=some o→b≠D:=fun b o e=>Nat.ne_of_lt (Nat.lt_of_lt_of_le (Heap.lt_size e) hD);have neH:∀ b u,H b=some u→b≠D:=fun b u e=>aj e (fresh D hD);refine ⟨ok,rfl,I.bare,⟨fun b o e _ _ _=>k b o e,fun b o e _ _ _=>⟨o.slots,k b o e⟩,fun b o e n _=>?_,fun b o e _=>⟨o,k b o e⟩,fun b xs e=>?_,fun b o u e=>?_,fun b ps e=>⟨#[],?_⟩⟩,⟨_,hn,?_⟩,?_,?_,?_,?_,?_,?_⟩
 ·show upd H D _ b=none;rw [ah (neD b o e)];exact n
 ·show upd H D _ b=_;rw [ah (neH b _ e)];exact e
 ·show upd H D _ b=_;rw [ah (neH b _ e)];exact e
 ·show upd H D _ b=_;rw [ah (neH b _ e)];have e':H b=some (.tbl ps):=e;rw [e'];simp
 ·-- the names around
  intro i x v e1 e2 hv;obtain ⟨m,hm,hl⟩:=I.loc;have eN:(NL++ρ.map fun j=>X.N.getD j "")[i]?=some x:=by
   have e1':N'[i]?=some x:=e1;rw [S.names] at e1';exact e1'
  have eσ:(List.replicate NL.length (none:Option V)++ρ.map fun j=>(σ[j]?).join)[i]?=some (some v):=e2
  by_cases hi:i < NL.length
  ·rw [List.getElem?_append_left (by simpa using hi)] at eσ;rw [List.getElem?_replicate] at eσ
   split at eσ <;> cases eσ
  ·have hi':NL.length≤i:=Nat.le_of_not_lt hi;rw [List.getElem?_append_right (by simpa using hi'),List.length_replicate,List.getElem?_map] at eσ;rw [List.getElem?_append_right hi',List.getElem?_map] at eN
   cases q:ρ[i - NL.length]? with
   | none=>rw [q] at eN;cases eN
   | some j =>
    rw [q] at eN eσ;obtain ⟨y,ey,f1,f2⟩:=S.outs j (List.mem_of_getElem? q);have exy:X.N.getD j "" = y:=by rw [List.getD_eq_getElem?_getD,ey];rfl
    have exx:X.N.getD j "" = x:=Option.some.inj eN;have xy:x=y:=exx.symm.trans exy;subst xy;have eσ':(σ[j]?).join=some v:=Option.some.inj eσ;have eσ2:σ[j]?=some (some v):=by
     cases z:σ[j]? with
     | none=>rw [z] at eσ';cases eσ'
     | some w=>rw [z] at eσ';exact congrArg some eσ'
    have vis:Vis X.env.scope x:=by
     rcases f2 with z | z
     ·exact .inr (.inl z)
     ·exact .inr (.inr z)
    obtain ⟨u,r,l⟩:=hl j x v ey eσ2 vis;refine ⟨u,r,?_⟩;obtain ⟨c,hc⟩:=da (env:=X.env) scope.names [] x f1;rcases l with ⟨kl,_⟩ | ⟨_,c',hc',z⟩
    ·have kl':X.env.scope.names.lookup x=some .local:=kl;rcases f2 with z | z
     ·rw [z] at kl';cases kl'
     ·rw [z] at kl';cases kl'
    ·have e3:=sub x c hc;rw [hc'] at e3;obtain rfl:=Option.some.inj e3;obtain ⟨oc,hoc,hcd⟩:=z;have hv':(relabel scope X.env).names.lookup x=some .local∨(relabel scope X.env).names.lookup x=some .cell∨(relabel scope X.env).names.lookup x=some .free:=hv;refine .inr ⟨?_,c',hc,oc,k _ _ hoc,hcd⟩;rcases hv' with z | z | z
     ·obtain ⟨k0,e4,z2⟩:=cn z;rw [f1] at e4
      cases e4
      rcases z2 with z2 | ⟨_,z2⟩ <;> cases z2
     ·exact .inl z
     ·exact .inr z
 ·intro x c e;obtain ⟨v,oc,hoc,hcd⟩:=I.cell x c (sub x c e);exact ⟨v,oc,k _ _ hoc,hcd⟩
 ·show upd H D _ C=none;rw [ah (Ne.symm hDC)];exact fresh C hC
 ·intro x c e;obtain ⟨v,oc,hoc,hcd⟩:=I.cell x c (sub x c e);rw [ah (neD c oc hoc)];exact I.freeC x c (sub x c e)
 ·intro p hp;have hp':p∈X.pn++pins:=hp;obtain ⟨e,n,ne,nf,d⟩:=I.pin p hp';refine ⟨k _ _ e,?_,?_,?_,d⟩
  ·rw [ah (neD p.1 p.2 e)];exact n
  ·exact Nat.ne_of_lt (Nat.lt_of_lt_of_le (Heap.lt_size e) hC)
  ·intro z;rcases List.mem_cons.mp (I.stkSub p.1 z) with q | q
   ·exact ne q
   ·exact nf q
 ·exact I.hok.laid k hD ⟨Nat.zero_le _,[],0,.nil,hd⟩
 ·show (List.replicate NL.length (none:Option V)++ρ.map fun j=>(σ[j]?).join).length=N'.length;rw [S.names];simp
theorem Inv.compEnd {scope:Scope} {N':List Str} {pins:List (Addr×Obj)} {σ σ':St} {H H':Hp} {s s':Shared} {fp:List Addr} {C:Addr} {h':Heap} {pins':List (Addr×Obj)} (I:Inv X pins σ H s) (hf:∀ b∈fp,dv X pins H b) (hC:s.heap.objs.size≤C)
  (J:Inv (ccx X scope C N' s H fp) pins' σ' H' s') (hs:Heap.SameBut C s'.heap h'):Inv X pins σ H' { s' with heap:=h' }:=by
 have hn:H' C=none:=J.free;have nC:∀ b o,s.heap.get? b=some o→b≠C:=fun b o e=>Nat.ne_of_lt (Nat.lt_of_lt_of_le (Heap.lt_size e) hC);have B:Un (frs X.stack) fp H H' s.heap s'.heap:=J.base;have U:Un (frs X.stack) fp H H' s.heap h':=⟨fun b o e n hb hx=>(hs.2 b (nC b o e)).trans (B.keep b o e n hb hx),fun b o e n hb hx=>by
   obtain ⟨sl,q⟩:=B.slot b o e n hb hx;exact ⟨sl,(hs.2 b (nC b o e)).trans q⟩,B.free,fun b o e hx=>by
   obtain ⟨o',q⟩:=B.there b o e hx;exact ⟨o',(hs.2 b (nC b o e)).trans q⟩,B.tups,B.frzs,B.tbls⟩
 have hok:HOk X.prog X.w H' h':=fun b u e=>by
  refine (J.hok b u e).stay (fun c v hc q=>(hs.2 c ?_).trans q) (fun _ q=>q) fun _ _ q=>q;rintro rfl;rcases hc with rfl | hc
  ·rw [hn] at e;cases e
  ·rw [hn] at hc;cases hc
 refine Inv.call' (s':={ s' with heap:=h' }) I J.os U hok J.bare fun b hb=>?_;obtain ⟨f0,f1,f2,f3,f4,f5⟩:=hf b hb;exact ⟨f3,f1,f4,f5⟩
def me (k:Nat) (ρ:List Nat) (wi:TI) (g:TG) (tb:List V→Addr→St→Hp→(List V→St→Hp→Prop)→Prop):TE:=fun σ H Q =>
 wi σ H fun J H1=>∀ l,H1 l=none→∃ W:Nat→Nat→List V→St→Hp→Prop,(∃ m,W 0 m [] (cst k ρ σ) (upd H1 l (.lst []))) ∧
  ∀ i m ys σ' H',W i m ys σ' H'→(J.stop i H'∧Q (.ref l) H')∨(J.go i H'∧∀ x H'',J.yld i H' x H''→g x σ' H'' fun σ2 H2=>tb ys l σ2 H2 fun ys' σ3 H3=>∃ m',m' < m∧W (i+1) m' ys' σ3 H3)
def cEl (te:TE):List V→Addr→St→Hp→(List V→St→Hp→Prop)→Prop:=fun ys l σ H N=>te σ H fun y H1=>H1 l=some (.lst ys)∧ys.length < sizeLine∧N (ys++[y]) σ (upd H1 l (.lst (ys++[y])))
def PB (X:Cx) (body:Value→Sem Unit) (tb:List V→Addr→St→Hp→(List V→St→Hp→Prop)→Prop):Prop :=
 ∀ (pins:List (Addr×Obj)) (s:Shared) (σ:St) (H:Hp) (l:Addr) (ys:List V) (N:List V→St→Hp→Prop),Inv X pins σ H s→tb ys l σ H N →
  wpAny (model X.prog X.w) X.A (body (.ref l)) (fun _ s'=>∃ ys' σ' H',Inv X pins σ' H' s'∧N ys' σ' H') X.xe s
theorem qN {elt:Expr} {te:TE} (he:PE X elt te):PB X (fun acc=>do let x ← eval elt X.env;let _ ← call (.builtin "list.append") [acc,x];pure ()) (cEl te):=by
 intro pins s σ H l ys N I h;refine wpAny_bind (thn (he pins s σ H _ I h) fun u s1 ⟨y,H1,I1,r1,q0,q1,q2⟩=>wpAny_bind ?_);refine thn (ii pins s1 σ H1 (.ref l) [y] (.ref l) [u] (fun v H'=>v=.non∧N (ys++[y]) σ H') I1 rfl (.cons r1 .nil) ⟨l,ys,y,rfl,rfl,q0,q1,rfl,q2⟩) fun _ s2 ⟨v,H2,I2,_,_,n2⟩=>wpAny_pure ⟨_,σ,H2,I2,n2⟩
theorem jQ (elt target iter:Expr) (scope:Scope) (pos:Pos) (it acc:Value) (env:Env) :
  compTurn (.ListComp elt [⟨target,iter,[],0⟩] scope pos) 0 it acc env=(standAt iter.pos >>= fun _=>pyNext it >>= fun r=>match r with
   | none=>pure (.done .next)
   | some v=>letOwnedTupleGo target it v >>= fun _=>assign target env v >>= fun _ =>
    (do let x ← eval elt env;let _ ← call (.builtin "list.append") [acc,x];pure ():Sem Unit) >>= fun _=>again (.compLoop (.ListComp elt [⟨target,iter,[],0⟩] scope pos) 0 it acc env)):=by rfl
end
section
variable {X:Cx}
theorem nW {elt tgt iter:Expr} {ifs:List Expr} {scope:Scope} {pos:Pos} {NL N':List Str} {ρ:List Nat} {wi:TI} {g:TG} {tb:List V→Addr→St→Hp→(List V→St→Hp→Prop)→Prop} {body:Value→Env→Sem Unit}
  (hc:X.calm=true) (S:CScope X scope NL ρ N') (hi:PI X tgt iter wi)
  (hg:∀ C s₀ H₀ fp,PG (ccx X scope C N' s₀ H₀ fp) tgt g) (hb:∀ C s₀ H₀ fp,PB (ccx X scope C N' s₀ H₀ fp) (fun acc=>body acc (ccx X scope C N' s₀ H₀ fp).env) tb)
  (he:∀ (it acc:Value) (env:Env),compTurn (.ListComp elt [⟨tgt,iter,ifs,0⟩] scope pos) 0 it acc env=(standAt iter.pos >>= fun _=>pyNext it >>= fun r=>match r with
   | none=>pure (.done .next)
   | some v=>letOwnedTupleGo tgt it v >>= fun _=>assign tgt env v >>= fun _=>body acc env >>= fun _=>again (.compLoop (.ListComp elt [⟨tgt,iter,ifs,0⟩] scope pos) 0 it acc env)))
  (hs:∀ x,foldedSetIterable iter X.env x=pure x:=by intro _;rfl):PE X (.ListComp elt [⟨tgt,iter,ifs,0⟩] scope pos) (me NL.length ρ wi g tb):=by
 intro pins s σ H Q I h;have free_in:∀ x∈scope.names,x.2=.free→∃ c,X.env.cells.lookup x.1=some c:=fun x hx hk=>I.ok.has x.1 (S.frees x hx hk);rw [eval_ListComp];refine wpAny_comprehension_free (use:=none) rfl hs (fY free_in) S.kind S.locs ?_;refine thn (hi pins s σ H _ I h) fun v s1 h1=>thn h1 fun itv s2 h2=>?_;obtain ⟨it,fp,tn,J,H2,e,I2,T,st2,f2,w⟩:=h2;subst e;refine wpAny_newObj_type (wpAny_newFunctionEnv S.nocell (by intro y hy;simp at hy) (fun h₁ hns₁ hsb₁=>?_) S.kind);dsimp only at hns₁ hsb₁ ⊢
 generalize hH2:s2.heap.push { cls:=.type "list",dict:=none,data:=.seq ([]:List Value).toArray }=h2' at hns₁ hsb₁ ⊢
 have hCs:h2'.objs.size=s2.heap.objs.size+1:=by rw [← hH2,Heap.size_push]
 have hDC:s2.heap.objs.size≠h2'.objs.size:=by rw [hCs];exact Nat.ne_of_lt (Nat.lt_succ_self _)
 have hC:s2.heap.objs.size≤h2'.objs.size:=by rw [hCs];exact Nat.le_succ _
 have old:∀ b o,s2.heap.get? b=some o→h₁.get? b=some o:=fun b o e=>hsb₁.extBut b o (Nat.ne_of_lt (Nat.lt_of_lt_of_le (Heap.lt_size e) hC)) (Heap.get?_push_of_some _ (hH2 ▸ Heap.get?_push_of_some _ e));have hd:h₁.get? s2.heap.objs.size=some { cls:=.type "list",data:=.seq #[] 0 }:=hsb₁.extBut _ _ hDC (Heap.get?_push_of_some _ (hH2 ▸ Heap.get?_push_size _ rfl));have hfo:∀ b∈fp,∃ o,s2.heap.get? b=some o:=fun b hb=>let ⟨o,e,_⟩:=T.obj _ _ st2 b hb;⟨o,e⟩;have I4:Inv (ccx X scope h2'.objs.size N' s2 H2 fp) (X.pn++pins) (cst NL.length ρ σ) (upd H2 s2.heap.objs.size (.lst [])) { s2 with heap:=h₁,toks:=s2.toks+([]:List (Str×Value)).length } :=
  Inv.comp S I2 f2 hfo hC (Nat.le_refl _) hDC old hd (by simpa using hns₁)
 have hD0:H2 s2.heap.objs.size=none:=I2.hok.fresh (Nat.le_refl _);have nfp:s2.heap.objs.size∉fp:=fun z=>by
  obtain ⟨o,e⟩:=hfo _ z;exact absurd (Heap.lt_size e) (Nat.lt_irrefl _)
 obtain ⟨W,⟨m0,w0⟩,turn⟩:=w s2.heap.objs.size hD0;have stat:∀ {H':Hp},(∀ b∈fp,H' b=none)→∀ b∈fp,dv (ccx X scope h2'.objs.size N' s2 H2 fp) (X.pn++pins) H' b:=fun {H'} hn b hb=>by
  obtain ⟨f0,f1,f2',f3,f4,f5⟩:=f2 b hb;have ok:=I4.ok;refine ⟨hn b hb,(ok.exf b hb).1,ok.exfs b hb,.inl hb,(ok.exf b hb).2,fun p hp=>f5 p hp⟩
 have loop:∀ s₃:Shared,s₃={ s2 with heap:=h₁,toks:=s2.toks+([]:List (Str×Value)).length } →
   codeAny (model X.prog X.w) X.A (.compLoop (.ListComp elt [⟨tgt,iter,ifs,0⟩] scope pos) 0 (.ref it) (.ref s2.heap.objs.size) (compEnvC scope (bU X.env scope.names []) h2'.objs.size X.env))
    (compPost (model X.prog X.w) X.A X.xe none (EP X pins σ Q) (.ref s2.heap.objs.size) h2'.objs.size) s₃:=by
  rintro s₃ rfl;refine codeAny_loop rfl (fun n s'=>∃ i ys σ' H',Inv (ccx X scope h2'.objs.size N' s2 H2 fp) (X.pn++pins) σ' H' s'∧tn i s'.heap∧(∀ b∈fp,H' b=none)∧W i n ys σ' H') (fun n s3 hI=>?_) m0
   ⟨0,[],_,_,I4,T.keep _ _ _ st2 (fun b _ o e=>old b o e),fun b hb=>?_,w0⟩
  ·obtain ⟨i,ys,σ3,H3,I3,st3,fr3,w3⟩:=hI;show wpAny _ _ ((compTurn (.ListComp elt [⟨tgt,iter,ifs,0⟩] scope pos) 0 (.ref it) (.ref s2.heap.objs.size) (compEnvC scope (bU X.env scope.names []) h2'.objs.size X.env)).onRaise (fun x=>do noteFrame x _;theTreesLotGoes x)) _ _ s3;refine wpAny_noted ?_;rw [he];refine wpAny_bind (wpAny_standAt (wpAny_bind ?_));rcases turn i n ys σ3 H3 w3 with ⟨stop,qn⟩ | ⟨go,step⟩
   ·refine thn (T.done (ccx X scope h2'.objs.size N' s2 H2 fp) rfl rfl rfl hc i _ s3 σ3 H3 _ I3 (stat fr3) st3 stop) fun r s4 ⟨hr,I5⟩=>?_;subst hr;refine wpAny_pure ?_;obtain ⟨m,hm,_⟩:=id I5.loc;exact ⟨m,hm,fun h' hs'=>⟨.ref s2.heap.objs.size,H3,Inv.compEnd I2 f2 hC I5 hs',rfl,qn⟩⟩
   ·refine thn (T.item (ccx X scope h2'.objs.size N' s2 H2 fp) rfl rfl rfl hc i _ s3 σ3 H3 _ I3 (stat fr3) st3 go) fun r s4 ⟨u,hr,h4⟩=>?_;subst hr;refine wpAny_bind (thn h4 fun _ s5 ⟨x,H5,I5,r5,y5,st5,fr5⟩=>?_);have I5':=I5.pinned (stat fr5) (T.obj _ _ st5);refine wpAny_bind (wpAny_mono (hg h2'.objs.size s2 H2 fp _ s5 σ3 H5 x u _ I5' r5 (step x H5 y5)) (fun _ s6 ⟨σ6,H6,I6,q6⟩=>?_) fun _ _ z=>z.elim);refine wpAny_bind (wpAny_mono (hb h2'.objs.size s2 H2 fp _ s6 σ6 H6 s2.heap.objs.size ys _ I6 q6) (fun _ s7 ⟨ys7,σ7,H7,I7,m',hm,w7⟩=>?_) fun _ _ z=>z.elim);refine wpAny_pure ⟨rfl,m',hm,i+1,ys7,σ7,H7,I7.unpinned,T.keep _ _ _ st5 fun b hb o e=>(I7.pin (b,o) (List.mem_append_right _ (List.mem_append_right _ (bw hb e)))).1,fun b hb=>?_,w7⟩;obtain ⟨o,e,d⟩:=T.obj _ _ st5 b hb;exact (I7.pin (b,o) (List.mem_append_right _ (List.mem_append_right _ (bw hb e)))).2.1
  ·rw [ah (show b≠s2.heap.objs.size from fun z=>nfp (by rw [← z];exact hb))];exact (f2 b hb).1
 refine codeAny_compStart_list (loop _ rfl) (T.self _ 0 _ _ _ ?_ (loop _ rfl));exact T.keep _ _ _ st2 fun b _ o e=>old b o e
theorem a7 {elt tgt iter:Expr} {scope:Scope} {pos:Pos} {NL N':List Str} {ρ:List Nat} {wi:TI} {g:TG} {te:TE} (hc:X.calm=true) (S:CScope X scope NL ρ N') (hi:PI X tgt iter wi)
  (hg:∀ C s₀ H₀ fp,PG (ccx X scope C N' s₀ H₀ fp) tgt g) (he:∀ C s₀ H₀ fp,PE (ccx X scope C N' s₀ H₀ fp) elt te)
  (hs:∀ x,foldedSetIterable iter X.env x=pure x:=by intro _;rfl):PE X (.ListComp elt [⟨tgt,iter,[],0⟩] scope pos) (me NL.length ρ wi g (cEl te)) :=
 nW (body:=fun acc env=>do let x ← eval elt env;let _ ← call (.builtin "list.append") [acc,x];pure ()) hc S hi hg (fun C s₀ H₀ fp=>qN (he C s₀ H₀ fp)) (fun it acc env=>jQ elt tgt iter scope pos it acc env) hs
end
section
variable {X:Cx}
inductive IsiB (K:PySem.W.Frag) (H:Hp):V→String→Bool→Prop
 | int_int {i}:IsiB K H (.int i) "int" true
 | int_str {i}:IsiB K H (.int i) "str" false
 | int_bool {i}:IsiB K H (.int i) "bool" false
 | int_tuple {i}:IsiB K H (.int i) "tuple" false
 | int_list {i}:IsiB K H (.int i) "list" false
 | str_int {x}:IsiB K H (.str x) "int" false
 | str_str {x}:IsiB K H (.str x) "str" true
 | str_bool {x}:IsiB K H (.str x) "bool" false
 | str_tuple {x}:IsiB K H (.str x) "tuple" false
 | str_list {x}:IsiB K H (.str x) "list" false
 | bl_int {b}:IsiB K H (.bl b) "int" true
 | bl_bool {b}:IsiB K H (.bl b) "bool" true
 | bl_str {b}:IsiB K H (.bl b) "str" false
 | bl_tuple {b}:IsiB K H (.bl b) "tuple" false
 | tup_int {a xs}:SqT K H a xs→IsiB K H (.ref a) "int" false
 | tup_str {a xs}:SqT K H a xs→IsiB K H (.ref a) "str" false
 | tup_bool {a xs}:SqT K H a xs→IsiB K H (.ref a) "bool" false
 | tup_tuple {a xs}:SqT K H a xs→IsiB K H (.ref a) "tuple" true
 | tup_list {a xs}:SqT K H a xs→IsiB K H (.ref a) "list" false
 | lst_int {a xs}:SqL K H a xs→IsiB K H (.ref a) "int" false
 | lst_str {a xs}:SqL K H a xs→IsiB K H (.ref a) "str" false
 | lst_tuple {a xs}:SqL K H a xs→IsiB K H (.ref a) "tuple" false
 | lst_list {a xs}:SqL K H a xs→IsiB K H (.ref a) "list" true
theorem cq (a b:String) (h:isSubtype (.type a) (.type b)=pure false:=by rw [isSubtype_type];kernel_rfl):isSubtype (.type a) (.type b)=pure false:=h
theorem mU (a b:String) (h:isSubtype (.type a) (.type b)=pure true:=by rw [isSubtype_type];kernel_rfl):isSubtype (.type a) (.type b)=pure true:=h
theorem mV:isSubtype (.type "int") (.type "str")=pure false:=cq _ _
theorem ln:isSubtype (.type "int") (.type "bool")=pure false:=cq _ _
theorem jR:isSubtype (.type "int") (.type "tuple")=pure false:=cq _ _
theorem lp:isSubtype (.type "int") (.type "list")=pure false:=cq _ _
theorem mW:isSubtype (.type "str") (.type "int")=pure false:=cq _ _
theorem lq:isSubtype (.type "str") (.type "bool")=pure false:=cq _ _
theorem jS:isSubtype (.type "str") (.type "tuple")=pure false:=cq _ _
theorem lr:isSubtype (.type "str") (.type "list")=pure false:=cq _ _
theorem ls:isSubtype (.type "bool") (.type "str")=pure false:=cq _ _
theorem iL:isSubtype (.type "bool") (.type "tuple")=pure false:=cq _ _
theorem jT:isSubtype (.type "tuple") (.type "int")=pure false:=cq _ _
theorem jU:isSubtype (.type "tuple") (.type "str")=pure false:=cq _ _
theorem iM:isSubtype (.type "tuple") (.type "bool")=pure false:=cq _ _
theorem iN:isSubtype (.type "tuple") (.type "list")=pure false:=cq _ _
theorem lw:isSubtype (.type "list") (.type "int")=pure false:=cq _ _
theorem lx:isSubtype (.type "list") (.type "str")=pure false:=cq _ _
theorem iO:isSubtype (.type "list") (.type "tuple")=pure false:=cq _ _
theorem sW:isSubtype (.type "int") (.type "int")=pure true:=mU _ _
theorem sX:isSubtype (.type "str") (.type "str")=pure true:=mU _ _
theorem rG:isSubtype (.type "bool") (.type "bool")=pure true:=mU _ _
theorem lA:isSubtype (.type "bool") (.type "int")=pure true:=mU _ _
theorem pP:isSubtype (.type "tuple") (.type "tuple")=pure true:=mU _ _
theorem rH:isSubtype (.type "list") (.type "list")=pure true:=mU _ _
theorem jV:typeOf (.type "int")=pure (.type "type"):=by kernel_rfl
theorem jW:typeOf (.type "str")=pure (.type "type"):=by kernel_rfl
theorem iP:typeOf (.type "bool")=pure (.type "type"):=by kernel_rfl
theorem dR:typeOf (.type "tuple")=pure (.type "type"):=by kernel_rfl
theorem iQ:typeOf (.type "list")=pure (.type "type"):=by kernel_rfl
theorem nX:aW X (.builtin "isinstance") (fun xs H Q=>∃ x T b,xs=[x,.ty T]∧IsiB X.K H x T b∧Q (.bl b) H):=by
 intro pins s σ H xs us Q I r h;obtain ⟨x,T,b,rfl,hb,q⟩:=h;obtain ⟨u,w',rfl,rx,rT⟩:=jN r
 cases rT
 have fin:∀ t,EP X pins σ Q (.bool b) { s with toks:=t }:=fun t=>⟨.bl b,H,I.tok t,rfl,q⟩;have fin0:EP X pins σ Q (.bool b) s:=⟨.bl b,H,I,rfl,q⟩;have tup:∀ {a xs},SqT X.K H a xs→∃ o,s.heap.get? a=some o∧o.cls=.type "tuple" :=fun hq=>by
  obtain ⟨its,_,p,_⟩:=I.tuple hq;obtain ⟨o,e,c,_⟩:=p;exact ⟨o,e,c⟩
 have lst:∀ {a xs},SqL X.K H a xs→∃ o,s.heap.get? a=some o∧o.cls=.type "list" :=fun hq=>by
  obtain ⟨its,_,p,_⟩:=I.list hq;obtain ⟨o,e,c,_⟩:=p.isList;exact ⟨o,e,c⟩
 cases hb with
 | int_int=>obtain ⟨t,rfl⟩:=rx;exact call_isinstance (isinstance_true (Tx:= "int") jV sW) ⟨rfl,fin0⟩
 | int_str=>obtain ⟨t,rfl⟩:=rx;exact call_isinstance (isinstance_false_int (by decide) jW mV) (fin _)
 | int_bool=>obtain ⟨t,rfl⟩:=rx;exact call_isinstance (isinstance_false_int (by decide) iP ln) (fin _)
 | int_tuple=>obtain ⟨t,rfl⟩:=rx;exact call_isinstance (isinstance_false_int (by decide) dR jR) (fin _)
 | int_list=>obtain ⟨t,rfl⟩:=rx;exact call_isinstance (isinstance_false_int (by decide) iQ lp) (fin _)
 | str_int=>obtain ⟨t,rfl⟩:=rx;exact call_isinstance (isinstance_false_str (by decide) jV mW) (fin _)
 | str_str=>obtain ⟨t,rfl⟩:=rx;exact call_isinstance (isinstance_true (Tx:= "str") jW sX) ⟨rfl,fin0⟩
 | str_bool=>obtain ⟨t,rfl⟩:=rx;exact call_isinstance (isinstance_false_str (by decide) iP lq) (fin _)
 | str_tuple=>obtain ⟨t,rfl⟩:=rx;exact call_isinstance (isinstance_false_str (by decide) dR jS) (fin _)
 | str_list=>obtain ⟨t,rfl⟩:=rx;exact call_isinstance (isinstance_false_str (by decide) iQ lr) (fin _)
 | bl_int=>cases rx;exact call_isinstance (isinstance_true (Tx:= "bool") jV lA) ⟨rfl,fin0⟩
 | bl_bool=>cases rx;exact call_isinstance (isinstance_true (Tx:= "bool") iP rG) ⟨rfl,fin0⟩
 | bl_str=>cases rx;exact call_isinstance (isinstance_false_bool (by decide) jW ls) (fin _)
 | bl_tuple=>cases rx;exact call_isinstance (isinstance_false_bool (by decide) dR iL) (fin _)
 | tup_int hq=>cases rx;exact call_isinstance (isinstance_false_tuple (by decide) jV jT) ⟨tup hq,fin _⟩
 | tup_str hq=>cases rx;exact call_isinstance (isinstance_false_tuple (by decide) jW jU) ⟨tup hq,fin _⟩
 | tup_bool hq=>cases rx;exact call_isinstance (isinstance_false_tuple (by decide) iP iM) ⟨tup hq,fin _⟩
 | tup_tuple hq=>cases rx;exact call_isinstance (isinstance_true (Tx:= "tuple") dR pP) ⟨tup hq,fin0⟩
 | tup_list hq=>cases rx;exact call_isinstance (isinstance_false_tuple (by decide) iQ iN) ⟨tup hq,fin _⟩
 | lst_int hq=>cases rx;exact call_isinstance (isinstance_false_list (by decide) jV lw) ⟨lst hq,fin _⟩
 | lst_str hq=>cases rx;exact call_isinstance (isinstance_false_list (by decide) jW lx) ⟨lst hq,fin _⟩
 | lst_tuple hq=>cases rx;exact call_isinstance (isinstance_false_list (by decide) dR iO) ⟨lst hq,fin _⟩
 | lst_list hq=>cases rx;exact call_isinstance (isinstance_true (Tx:= "list") iQ rH) ⟨lst hq,fin0⟩
def Its (z:Str):It:=⟨fun i _=>i < z.cps.size,fun i H x H'=>H'=H∧∃ c,z.cps[i]?=some c∧x=.str ⟨#[c]⟩,fun i _=>i=z.cps.size⟩
def ul (te:TE):TI:=fun σ H R=>te σ H fun x H1=>∃ z,x=.str z∧R (Its z) H1
theorem jX {P:Program} {w:World} {K:PySem.W.Frag} {tg:Expr} (T:String) (it:Addr) (z:Str) (t:Tok)
  (W:∀ A:Around,A.handled=none→Walks P w A it [it] [it] z.cps.size (SignAt z) (fun i h=>h.IsStrIter it T z t i))
  (hT:["enumerate","zip","dict_itemiterator","dict_reverseitemiterator","odict_iterator","itertools.zip_longest","itertools.pairwise"].contains T=false)
  (hs:∀ (A:Around) (i:Nat) (s:Shared) (Q:Value→Shared→Prop) (E:Value→Shared→Prop),s.heap.IsStrIter it T z t i→Q (.ref it) s→wpAny (model P w) A (pyIter (.ref it)) Q E s) :
  Turn P w K tg (Its z) [it] it (fun i h=>h.IsStrIter it T z t i) where
 mem:=by simp
 obj:=fun i h st b hb=>by
  have e:b=it:=by simpa using hb
  subst e;obtain ⟨o,e,c,d⟩:=st;exact ⟨o,e,fun v z=>by rw [d] at z;cases z⟩
 keep:=fun i h h' st k=>by
  obtain ⟨o,e,c,d⟩:=st;exact ⟨o,k it (by simp) o e,c,d⟩
 item:=by
  intro X hP hw hK hc i pins s σ H E I hf st hg;subst hP hw hK;obtain ⟨f0,f1,f2,f3,f4,f5⟩:=hf it (by simp);refine (W X.A (I.ok.hd hc)).item i s _ _ hg st fun v h' tk hv st' kk=>?_;obtain ⟨c,u,hcz,rfl⟩:=hv;have I1:Inv X pins σ H { s with heap:=h',toks:=tk }:=I.turned (fun b o hb e=>kk b o (by simpa using hb) e) f0 f1 f3 f4 f5;obtain ⟨o,e,cl,d⟩:=id st';exact ⟨_,rfl,jM (s:={ s with heap:=h',toks:=tk }) e cl d hT ⟨.str ⟨#[c]⟩,H,I1,⟨u,rfl⟩,⟨rfl,c,hcz,rfl⟩,st',fun b hb=>(hf b hb).1⟩⟩
 done:=by
  intro X hP hw hK hc i pins s σ H E I hf st hg;subst hP hw hK;obtain ⟨f0,f1,f2,f3,f4,f5⟩:=hf it (by simp);have hi:i=z.cps.size:=hg;subst hi;exact (W X.A (I.ok.hd hc)).done s _ _ st fun h' tk kk=>⟨rfl,I.turned (fun b o hb e=>kk b o (by simpa using hb) e) f0 f1 f3 f4 f5⟩
 self:=hs
theorem rJ {tg l:Expr} {tl:TE} (hl:PE X l tl):PI X tg l (ul tl):=by
 intro pins s σ H R I h;refine thn (hl pins s σ H _ I h) fun v s1 ⟨x,H1,I1,r1,q1⟩=>?_;obtain ⟨z,rfl,q⟩:=q1;obtain ⟨t,rfl⟩:=r1;have fp:∀ (o:Obj),∀ b∈[s1.heap.objs.size],dv X pins H1 b:=fun o b hb=>by
  have e:b=s1.heap.objs.size:=by simpa using hb
  subst e;exact I1.fpOk (Nat.le_refl _) (I1.hok.fresh (Nat.le_refl _))
 cases ha:z.cps.all (· < 128)
 ·refine wpAny_pyIter_wide ha ?_;exact ⟨s1.heap.objs.size,[s1.heap.objs.size],_,_,H1,rfl,I1.kept (t':=s1.toks) fun b o e=>Heap.get?_push_of_some _ e,
   jX "str_iterator" _ z t (fun A hA=>Walks.strWide hA _ z t) (by decide) (fun _ _ _ _ _ st h=>wpAny_pyIter_striter_wide st h),⟨_,Heap.get?_push_size _ rfl,rfl,rfl⟩,fp default,q⟩
 ·refine wpAny_pyIter_ascii ha ?_;exact ⟨s1.heap.objs.size,[s1.heap.objs.size],_,_,H1,rfl,I1.kept (t':=s1.toks) fun b o e=>Heap.get?_push_of_some _ e,
   jX "str_ascii_iterator" _ z t (fun A hA=>Walks.strAscii hA _ z t) (by decide) (fun _ _ _ _ _ st h=>wpAny_pyIter_striter_ascii st h),⟨_,Heap.get?_push_size _ rfl,rfl,rfl⟩,fp default,q⟩
def bls:List Bool→List V:=List.map V.bl
theorem nY:aW X (.builtin "all") (fun xs H Q=>∃ p ys,xs=[.ref p]∧X.calm=true∧SqL X.K H p (bls ys)∧Q (.bl (ys.all id)) H):=by
 intro pins s σ H xs us Q I r h;obtain ⟨p,ys,rfl,hcm,hq,q⟩:=h;obtain ⟨u,rfl,rx⟩:=dh r
 cases rx
 obtain ⟨its,r',pl,hz⟩:=I.list hq;have hh:X.A.in1.handled=none:=I.ok.hd hcm;have hne:p≠s.heap.objs.size:=by
  obtain ⟨o,e,_⟩:=pl.isList;exact Nat.ne_of_lt (Heap.lt_size e)
 have hlen:its.length=ys.length:=by rw [← r'.length];simp [bls]
 refine call_all_walk (wpAny_pyIter_list pl.isList ⟨s.heap.objs.size,_,_,_,_,_,fun i=>ys.getD i true,rfl,Walks.list hh _ p hne its.toArray,⟨⟨_,Heap.get?_push_size _ rfl,rfl,rfl⟩,pl.isList.at fun o e=>Heap.get?_push_of_some _ e⟩,?_,?_⟩)
 ·intro i v s' Q' E' hv hQ;have hv':its[i]?=some v:=by simpa using hv
  have hi:i < ys.length:=by
   rw [← hlen];exact (List.getElem?_eq_some_iff.mp hv').1
  have e1:(bls ys)[i]?=some (V.bl ys[i]):=by simp [bls,hi]
  obtain ⟨u,hu,ru⟩:=r'.get e1;rw [hv'] at hu;obtain rfl:=Option.some.inj hu
  cases ru
  refine wpAny_truthy_bool ?_;have e2:ys.getD i true=ys[i]:=by simp [List.getD_eq_getElem?_getD,hi]
  have hQ':Q' (ys.getD i true) s':=hQ;rw [e2] at hQ';exact hQ'
 ·intro h' tk kk;have e3:(List.range its.toArray.size).all (fun i=>ys.getD i true)=ys.all id:=by
   rw [List.size_toArray,hlen];rw [Bool.eq_iff_iff,List.all_eq_true,List.all_eq_true]
   constructor
   ·intro g x hx;obtain ⟨i,hi,rfl⟩:=List.mem_iff_getElem.mp hx;have:=g i (List.mem_range.mpr hi)
    simpa [List.getD_eq_getElem?_getD,hi] using this
   ·intro g i hi;have hi':=List.mem_range.mp hi;have:=g ys[i] (List.getElem_mem hi')
    simpa [List.getD_eq_getElem?_getD,hi'] using this
  rw [e3];refine ⟨.bl _,H,?_,rfl,q⟩;have I1:Inv X pins σ H { s with heap:=s.heap.push { cls:=.type "list_iterator",data:=.fields #[.ref p,.int 0 0] } }:=I.kept (t':=s.toks) fun b o e=>Heap.get?_push_of_some _ e;exact I.kept (t':=tk) fun b o e=>kk b o (by
   intro z;have z':b=s.heap.objs.size:=by simpa using z
   exact absurd (Heap.lt_size e) (by rw [z'];exact Nat.lt_irrefl _)) (Heap.get?_push_of_some _ e)
end
section
variable {X:Cx}
theorem eT (ns:List Int):∀ n,n≤ns.length→preSum (fun i=>ns.getD i 0) n=(ns.take n).sum
 | 0,_=>by simp [preSum]
 | n+1,h=>by
  have hn:n < ns.length:=h;rw [preSum,eT ns n (Nat.le_of_lt hn),List.take_add_one,List.sum_append];simp [List.getD_eq_getElem?_getD,hn]
theorem nZ:aW X (.builtin "sum") (fun xs H Q=>∃ (p:Addr) (ns:List Int),xs=[.ref p]∧X.calm=true∧SqL X.K H p (ns.map V.int)∧Q (.int ns.sum) H):=by
 intro pins s σ H xs us Q I r h;obtain ⟨p,ns,rfl,hcm,hq,q⟩:=h;obtain ⟨u,rfl,rx⟩:=dh r
 cases rx
 obtain ⟨its,r',pl,hz⟩:=I.list hq;have hh:X.A.in1.handled=none:=I.ok.hd hcm;have hlt:p < s.heap.objs.size:=by
  obtain ⟨o,e,_⟩:=pl.isList;exact Heap.lt_size e
 have hne:p≠s.heap.objs.size:=Nat.ne_of_lt hlt;have hlen:its.length=ns.length:=by rw [← r'.length];simp
 refine call_sum_walkG (wpAny_pyIter_list pl.isList ⟨s.heap.objs.size,_,_,_,_,_,fun i=>ns.getD i 0,rfl,Walks.list hh _ p hne its.toArray,⟨⟨_,Heap.get?_push_size _ rfl,rfl,rfl⟩,pl.isList.at fun o e=>Heap.get?_push_of_some _ e⟩,?_,?_,?_⟩)
 ·intro b hb;have hb':b=s.heap.objs.size∨b=p:=by simpa using hb
  show b < (s.heap.push _).objs.size;rw [Heap.size_push];rcases hb' with e | e
  ·exact e ▸ Nat.lt_succ_self _
  ·exact Nat.lt_succ_of_lt (e ▸ hlt)
 ·intro i v hv;have hv':its[i]?=some v:=by simpa using hv
  have hi:i < ns.length:=by
   rw [← hlen];exact (List.getElem?_eq_some_iff.mp hv').1
  have e1:(ns.map V.int)[i]?=some (V.int ns[i]):=by simp [hi]
  obtain ⟨u,hu,ru⟩:=r'.get e1;rw [hv'] at hu;obtain rfl:=Option.some.inj hu;obtain ⟨t,rfl⟩:=ru;exact ⟨t,by simp [List.getD_eq_getElem?_getD,hi]⟩
 ·intro h' tk t' kk;have e3:preSum (fun i=>ns.getD i 0) its.toArray.size=ns.sum:=by
   rw [List.size_toArray,hlen,eT ns _ (Nat.le_refl _),List.take_length]
  rw [e3];refine ⟨.int _,H,?_,⟨_,rfl⟩,q⟩;exact I.kept (t':=tk) fun b o e=>kk b o (by
   intro z;have z':b=s.heap.objs.size:=by simpa using z
   exact absurd (Heap.lt_size e) (by rw [z'];exact Nat.lt_irrefl _)) (Heap.get?_push_of_some _ e)
end
theorem ag {H:Hp} {p:Addr} (h:H p=none) (o:HO):Same H (upd H p o):=fun b u q=>by rw [ah (aj q h)];exact q
def But (r:Addr) (H H':Hp):Prop:=∀ b o,b≠r→H b=some o→H' b=some o
theorem But.trans {r:Addr} {H H1 H2:Hp} (a:But r H H1) (b:But r H1 H2):But r H H2:=fun c o n h=>b c o n (a c o n h)
theorem But.same {r:Addr} {H H1:Hp} (a:Same H H1):But r H H1:=fun c o _ h=>a c o h
theorem But.put {r:Addr} {H:Hp} {o:HO}:But r H (upd H r o):=fun c u n h=>by rw [ah n];exact h
theorem But.tup {K:PySem.W.Frag} {r:Addr} {H H':Hp} {a:Addr} {xs:List V} (e:But r H H') (n:a≠r) (h:SqT K H a xs):SqT K H' a xs:=by
 rcases h with (h | ⟨o,h⟩) | h
 ·exact .inl (.inl (e _ _ n h))
 ·exact .inl (.inr ⟨o,e _ _ n h⟩)
 ·exact .inr h
theorem Same.tup {K:PySem.W.Frag} {H H':Hp} {a:Addr} {xs:List V} (e:Same H H') (h:SqT K H a xs):SqT K H' a xs:=by
 rcases h with (h | ⟨o,h⟩) | h
 ·exact .inl (.inl (e _ _ h))
 ·exact .inl (.inr ⟨o,e _ _ h⟩)
 ·exact .inr h
theorem cs0 {X:Cx} {scope:Scope} {NL:List Str} (h1:scope.kind=.function) (h2:(scope.names.all fun x=>x.2 != .cell && x.2 != .free)=true)
  (h3:∀ x∈scope.names,x.2=.local→scope.names.lookup x.1=some .local):CScope X scope NL [] NL:=by
 rw [List.all_eq_true] at h2;refine ⟨h1,fun x hx e=>?_,h3,fun x hx e=>?_,by simp,fun j hj=>by simp at hj⟩
 ·have:=h2 x hx;rw [e] at this;exact absurd this (by decide)
 ·have:=h2 x hx;rw [e] at this;exact absurd this (by decide)
theorem og {z:Str} {l:Addr} {g:TG} {tb:List V→Addr→St→Hp→(List V→St→Hp→Prop)→Prop} {Q:VK} {σ0:St} {H0:Hp} (Pv:Nat→List V→St→Hp→Prop) (h0:Pv 0 [] σ0 H0)
  (hs:∀ i c ys σ H (N:List V→St→Hp→Prop),z.cps[i]?=some c→Pv i ys σ H→(∀ ys' σ' H',Pv (i+1) ys' σ' H'→N ys' σ' H')→g (.str ⟨#[c]⟩) σ H fun σ2 H2=>tb ys l σ2 H2 N)
  (hd:∀ ys σ H,Pv z.cps.size ys σ H→Q (.ref l) H) :
  ∃ W:Nat→Nat→List V→St→Hp→Prop,(∃ m,W 0 m [] σ0 H0)∧∀ i m ys σ' H',W i m ys σ' H'→((Its z).stop i H'∧Q (.ref l) H') ∨
   ((Its z).go i H'∧∀ x H'',(Its z).yld i H' x H''→g x σ' H'' fun σ2 H2=>tb ys l σ2 H2 fun ys' σ3 H3=>∃ m',m' < m∧W (i+1) m' ys' σ3 H3):=by
 refine ⟨fun i m ys σ H=>m=z.cps.size - i∧i≤z.cps.size∧Pv i ys σ H,⟨z.cps.size,by simp,Nat.zero_le _,h0⟩,?_⟩;rintro i m ys σ H ⟨rfl,hi,p⟩
 by_cases hlt:i < z.cps.size
 ·refine .inr ⟨hlt,fun x H' y=>?_⟩;obtain ⟨e,c,hc,rfl⟩:=y;subst e;exact hs i c ys σ _ _ hc p fun ys' σ' H' q=>⟨_,by lia,rfl,hlt,q⟩
 ·have e:i=z.cps.size:=by lia
  subst e;exact .inl ⟨rfl,hd ys σ H p⟩
theorem mX {K:PySem.W.Frag} {a:Addr} {xs:List V} {l:Addr} {g:TG} {tb:List V→Addr→St→Hp→(List V→St→Hp→Prop)→Prop} {Q:VK} {σ0:St} {H0:Hp} (Pv:Nat→List V→St→Hp→Prop) (h0:Pv 0 [] σ0 H0) (hl:∀ i ys σ H,i≤xs.length→Pv i ys σ H→SqL K H a xs)
  (hs:∀ i x ys σ H (N:List V→St→Hp→Prop),xs[i]?=some x→Pv i ys σ H→(∀ ys' σ' H',Pv (i+1) ys' σ' H'→N ys' σ' H')→g x σ H fun σ2 H2=>tb ys l σ2 H2 N)
  (hd:∀ ys σ H,Pv xs.length ys σ H→Q (.ref l) H) :
  ∃ W:Nat→Nat→List V→St→Hp→Prop,(∃ m,W 0 m [] σ0 H0)∧∀ i m ys σ' H',W i m ys σ' H'→((Itl K a).stop i H'∧Q (.ref l) H') ∨
   ((Itl K a).go i H'∧∀ x H'',(Itl K a).yld i H' x H''→g x σ' H'' fun σ2 H2=>tb ys l σ2 H2 fun ys' σ3 H3=>∃ m',m' < m∧W (i+1) m' ys' σ3 H3):=by
 refine ⟨fun i m ys σ H=>m=xs.length - i∧i≤xs.length∧Pv i ys σ H,⟨xs.length,by simp,Nat.zero_le _,h0⟩,?_⟩;rintro i m ys σ H ⟨rfl,hi,p⟩;have q:=hl i ys σ H hi p
 by_cases hlt:i < xs.length
 ·refine .inr ⟨⟨xs,xs[i],q,by simp [hlt]⟩,fun x H' y=>?_⟩;obtain ⟨e,y⟩:=y;subst e;exact hs i x ys σ _ _ (y xs q) p fun ys' σ' H' q=>⟨_,by lia,rfl,hlt,q⟩
 ·have e:i=xs.length:=by lia
  subst e;exact .inl ⟨⟨xs,q,Nat.le_refl _⟩,hd ys σ H p⟩
theorem oh {K:PySem.W.Frag} {a:Addr} {xs:List V} {l:Addr} {g:TG} {tb:List V→Addr→St→Hp→(List V→St→Hp→Prop)→Prop} {Q:VK} {σ0:St} {H0:Hp} (Pv:Nat→List V→St→Hp→Prop) (h0:Pv 0 [] σ0 H0) (hl:∀ i ys σ H,i≤xs.length→Pv i ys σ H→SqT K H a xs)
  (hs:∀ i x ys σ H (N:List V→St→Hp→Prop),xs[i]?=some x→Pv i ys σ H→(∀ ys' σ' H',Pv (i+1) ys' σ' H'→N ys' σ' H')→g x σ H fun σ2 H2=>tb ys l σ2 H2 N)
  (hd:∀ ys σ H,Pv xs.length ys σ H→Q (.ref l) H) :
  ∃ W:Nat→Nat→List V→St→Hp→Prop,(∃ m,W 0 m [] σ0 H0)∧∀ i m ys σ' H',W i m ys σ' H'→((Itt K a).stop i H'∧Q (.ref l) H') ∨
   ((Itt K a).go i H'∧∀ x H'',(Itt K a).yld i H' x H''→g x σ' H'' fun σ2 H2=>tb ys l σ2 H2 fun ys' σ3 H3=>∃ m',m' < m∧W (i+1) m' ys' σ3 H3):=by
 refine ⟨fun i m ys σ H=>m=xs.length - i∧i≤xs.length∧Pv i ys σ H,⟨xs.length,by simp,Nat.zero_le _,h0⟩,?_⟩;rintro i m ys σ H ⟨rfl,hi,p⟩;have q:=hl i ys σ H hi p
 by_cases hlt:i < xs.length
 ·refine .inr ⟨⟨xs,xs[i],q,by simp [hlt]⟩,fun x H' y=>?_⟩;obtain ⟨e,y⟩:=y;subst e;exact hs i x ys σ _ _ (y xs q) p fun ys' σ' H' q=>⟨_,by lia,rfl,hlt,q⟩
 ·have e:i=xs.length:=by lia
  subst e;exact .inl ⟨⟨xs,q,Nat.le_refl _⟩,hd ys σ H p⟩
theorem pe_gint {X:Cx} {x:Str} {i:Int} {t:Tok} {pos:Pos} (hg:Gl X x) (hm:X.mg x=some (.int i t)) (hd:(x == ("__debug__" : Str))=false:=by decide):PE X (.Name x pos) (tC (.int i)):=iD hg hm ⟨_,rfl⟩ hd
theorem pe_gstr {X:Cx} {x z:Str} {t:Tok} {pos:Pos} (hg:Gl X x) (hm:X.mg x=some (.str z t)) (hd:(x == ("__debug__" : Str))=false:=by decide):PE X (.Name x pos) (tC (.str z)):=iD hg hm ⟨_,rfl⟩ hd
theorem iR {X:Cx} {x:Str} {a:Addr} {pos:Pos} (hg:Gl X x) (hm:X.mg x=some (.ref a)) (hd:(x == ("__debug__" : Str))=false:=by decide):PE X (.Name x pos) (tC (.ref a)):=iD hg hm rfl hd
theorem bp {X:Cx} {x:Str} {n:String} {pos:Pos} (hg:Gl X x) (hm:X.mg x=none) (hv:bootBuiltins x=some (.type n)) (hn:x≠ "__name__" :=by decide) (hd:(x == ("__debug__" : Str))=false:=by decide):PE X (.Name x pos) (tC (.ty n)):=pC hg hm hv rfl hn hd
structure Gn (K:PySem.W.Frag) (mg:Str→Option Value) (x:Str) (st:Stmt) (ps:List Str) (f:Addr) (fd:FuncData):Prop where
 F:Fun K x x st f fd
 b:Binds K fd ps []
 m:mg x=some (.ref f)
inductive Dt where
 | non | bl (b:Bool) | int (i:Int) | str (z:Str) | tup (l:List Dt)
mutual
inductive IsD (K:PySem.W.Frag) (H:Hp):Dt→V→Prop
 | non:IsD K H .non .non
 | bl {b}:IsD K H (.bl b) (.bl b)
 | int {i}:IsD K H (.int i) (.int i)
 | str {z}:IsD K H (.str z) (.str z)
 | tup {l:List Dt} {a:Addr} {xs:List V}:SqT K H a xs→IsDs K H l xs→IsD K H (.tup l) (.ref a)
inductive IsDs (K:PySem.W.Frag) (H:Hp):List Dt→List V→Prop
 | nil:IsDs K H [] []
 | cons {d:Dt} {l:List Dt} {x:V} {xs:List V}:IsD K H d x→IsDs K H l xs→IsDs K H (d :: l) (x :: xs)
end
mutual
def Dt.dep:Dt→Nat
 | .tup l=>jY l+1
 | _=>0
def jY:List Dt→Nat
 | []=>0
 | d :: l=>max d.dep (jY l)
end
mutual
def eqD:Dt→Dt→Bool
 | .non,.non=>true
 | .bl a,.bl b=>a == b
 | .bl a,.int i=>(if a then 1 else 0) == i
 | .int i,.bl a=>i == (if a then 1 else 0)
 | .int i,.int j=>i == j
 | .str x,.str y=>x == y
 | .tup l,.tup m=>cM l m
 | _,_=>false
def cM:List Dt→List Dt→Bool
 | [],[]=>true
 | d :: l,e :: m=>eqD d e && cM l m
 | _,_=>false
end
mutual
def Dt.plain:Dt→Bool
 | .bl _=>false
 | .tup l=>fZ l
 | _=>true
def fZ:List Dt→Bool
 | []=>true
 | d :: l=>d.plain && fZ l
end
mutual
theorem f8:∀ d:Dt,eqD d d=true
 | .non=>rfl
 | .bl a=>by simp [eqD]
 | .int i=>by simp [eqD]
 | .str z=>by simp [eqD]
 | .tup l=>by simp only [eqD];exact il l
theorem il:∀ l:List Dt,cM l l=true
 | []=>rfl
 | d :: l=>by simp only [cM,f8 d,il l,Bool.and_self]
end
mutual
theorem rK:∀ d e:Dt,d.plain=true→e.plain=true→eqD d e=true→d=e
 | .non,e,_,_,h=>by cases e <;> simp_all [eqD]
 | .bl _,_,h,_,_=>by simp [Dt.plain] at h
 | .int i,e,_,he,h=>by cases e <;> simp_all [eqD,Dt.plain]
 | .str z,e,_,_,h=>by cases e <;> simp_all [eqD]
 | .tup l,e,hd,he,h=>by
  cases e with
  | tup m=>rw [mf l m (by simpa [Dt.plain] using hd) (by simpa [Dt.plain] using he) (by simpa [eqD] using h)]
  | _=>simp [eqD] at h
theorem mf:∀ l m:List Dt,fZ l=true→fZ m=true→cM l m=true→l=m
 | [],[],_,_,_=>rfl
 | [],_ :: _,_,_,h=>by simp [cM] at h
 | _ :: _,[],_,_,h=>by simp [cM] at h
 | d :: l,e :: m,hl,hm,h=>by
  simp only [fZ,Bool.and_eq_true] at hl hm;simp only [cM,Bool.and_eq_true] at h;rw [rK d e hl.1 hm.1 h.1,mf l m hl.2 hm.2 h.2]
end
section
variable {K:PySem.W.Frag} {H H':Hp}
mutual
theorem IsD.same (g:Same H H'):∀ {d:Dt} {v:V},IsD K H d v→IsD K H' d v
 | _,_,.non=>.non
 | _,_,.bl=>.bl
 | _,_,.int=>.int
 | _,_,.str=>.str
 | _,_,.tup h r=>.tup (g.tup h) (IsDs.same g r)
theorem IsDs.same (g:Same H H'):∀ {l:List Dt} {xs:List V},IsDs K H l xs→IsDs K H' l xs
 | _,_,.nil=>.nil
 | _,_,.cons h r=>.cons (IsD.same g h) (IsDs.same g r)
end
theorem oi {a r:Addr} {xs ys:List V} (hr:H r=some (.lst ys)) (h:SqT K H a xs):a≠r∨∀ H'',SqT K H'' a xs:=by
 rcases h with (h | ⟨o,h⟩) | h
 ·exact .inl (l5 h hr (by intro z;cases z))
 ·exact .inl (l5 h hr (by intro z;cases z))
 ·exact .inr fun _=>.inr h
mutual
theorem IsD.but {r:Addr} {ys:List V} (hr:H r=some (.lst ys)) (g:But r H H'):∀ {d:Dt} {v:V},IsD K H d v→IsD K H' d v
 | _,_,.non=>.non
 | _,_,.bl=>.bl
 | _,_,.int=>.int
 | _,_,.str=>.str
 | _,_,.tup h q=>.tup (by
   rcases oi hr h with n | n
   ·exact g.tup n h
   ·exact n _) (IsDs.but hr g q)
theorem IsDs.but {r:Addr} {ys:List V} (hr:H r=some (.lst ys)) (g:But r H H'):∀ {l:List Dt} {xs:List V},IsDs K H l xs→IsDs K H' l xs
 | _,_,.nil=>.nil
 | _,_,.cons h q=>.cons (IsD.but hr g h) (IsDs.but hr g q)
end
theorem IsDs.length {l:List Dt} {xs:List V} (h:IsDs K H l xs):l.length=xs.length:=by
 induction l generalizing xs with
 | nil=>cases h;rfl
 | cons d l ih=>cases h with | cons _ r=>simp [ih r]
theorem IsDs.get {l:List Dt} {xs:List V} (h:IsDs K H l xs) {i:Nat} {d:Dt} (e:l[i]?=some d):∃ x,xs[i]?=some x∧IsD K H d x:=by
 induction l generalizing xs i with
 | nil=>simp at e
 | cons c l ih =>
  cases h with
  | cons h r =>
   cases i with
   | zero=>simp at e;subst e;exact ⟨_,rfl,h⟩
   | succ i=>exact ih r (by simpa using e)
end
section
variable {X:Cx} {pins:List (Addr×Obj)} {σ:St} {H:Hp} {s:Shared}
mutual
theorem IsD.inj (I:Inv X pins σ H s):∀ {d e:Dt} {v:V},IsD X.K H d v→IsD X.K H e v→d=e
 | _,_,_,.non,.non=>rfl
 | _,_,_,.bl,.bl=>rfl
 | _,_,_,.int,.int=>rfl
 | _,_,_,.str,.str=>rfl
 | _,_,_,.tup h r,.tup h' r'=>by
  have e:=I.tuple_inj h h';subst e;rw [IsDs.inj I r r']
theorem IsDs.inj (I:Inv X pins σ H s):∀ {l m:List Dt} {xs:List V},IsDs X.K H l xs→IsDs X.K H m xs→l=m
 | _,_,_,.nil,.nil=>rfl
 | _,_,_,.cons h r,.cons h' r'=>by rw [IsD.inj I h h',IsDs.inj I r r']
end
theorem cr:∀ (l m:List Dt),cM l m=((List.range (min l.length m.length)).all (fun j=>eqD (l.getD j .non) (m.getD j .non)) && l.length == m.length)
 | [],[]=>rfl
 | [],_ :: _=>by simp [cM]
 | _ :: _,[]=>by simp [cM]
 | d :: l,e :: m=>by
  simp only [cM,List.length_cons];rw [cr l m,Nat.succ_min_succ,List.range_succ_eq_map,List.all_cons,List.all_map];have e1:(l.length+1 == m.length+1)=(l.length == m.length):=by
   rw [Bool.eq_iff_iff];simp
  rw [e1,Bool.and_assoc]
  rfl
theorem f9:∀ {l:List Dt} {j:Nat},j < l.length→(l.getD j .non).dep≤jY l
 | [],_,h=>by simp at h
 | d :: l,0,_=>by simp only [List.getD_cons_zero,jY];lia
 | d :: l,j+1,h=>by
  have q:=@f9 l j (by simpa using h);simp only [List.getD_cons_succ,jY];lia
theorem Inv.tup' (I:Inv X pins σ H s) {a:Addr} {xs:List V} (h:SqT X.K H a xs):∃ its:List Value,Vals xs its∧s.heap.IsTuple a its.toArray:=by
 obtain ⟨its,r,p,_⟩:=I.tuple h;exact ⟨its,r,p⟩
theorem im (A:Around):A.in1.units=A.units+1:=by
 first | rfl | simp [Around.in1]
theorem sY (I:Inv X pins σ H s):∀ (n:Nat) (d e:Dt) (x y:V) (u v:Value) (A:Around),d.dep≤n→IsD X.K H d x→IsD X.K H e y→RelV x u→RelV y v→A.units+n < cLine →
  SeqAt.EqAt A s u v (eqD d e)∧SeqAt.RcAt A s u v (eqD d e)∧SeqAt.RcNeAt A s u v (!eqD d e):=by
 intro n
 induction n with
 | zero =>
  intro d e x y u v A hd hx hy rx ry hu;have hu0:A.units < cLine:=by lia
  cases hx with
  | tup h r=>simp [Dt.dep] at hd
  | non =>
   cases rx
   cases hy with
   | non=>cases ry;exact ⟨.same _,.none_none,.none_none⟩
   | bl=>cases ry;exact ⟨.none_bool _,.none_bool _,.none_bool _⟩
   | int=>obtain ⟨t,rfl⟩:=ry;exact ⟨.none_int _ _,.none_int _ _,.none_int _ _⟩
   | str=>obtain ⟨t,rfl⟩:=ry;exact ⟨.none_str _ _,.none_str _ _,.none_str _ _⟩
   | tup h r=>cases ry;obtain ⟨its,_,p⟩:=I.tup' h;exact ⟨.none_tuple p hu0,.none_tuple p hu0,.none_tuple p hu0⟩
  | bl =>
   cases rx
   cases hy with
   | non=>cases ry;exact ⟨.bool_none _,.bool_none _,.bool_none _⟩
   | bl=>cases ry;exact ⟨.bool_bool _ _,.bool_bool _ _,.bool_bool _ _⟩
   | int=>obtain ⟨t,rfl⟩:=ry;exact ⟨.bool_int _ _ _,.bool_int _ _ _,.bool_int _ _ _⟩
   | str=>obtain ⟨t,rfl⟩:=ry;exact ⟨.bool_str _ _ _,.bool_str _ _ _,.bool_str _ _ _⟩
   | tup h r=>cases ry;obtain ⟨its,_,p⟩:=I.tup' h;exact ⟨.bool_tuple _ p hu0,.bool_tuple _ p hu0,.bool_tuple _ p hu0⟩
  | int =>
   obtain ⟨t0,rfl⟩:=rx
   cases hy with
   | non=>cases ry;exact ⟨.int_none _ _,.int_none _ _,.int_none _ _⟩
   | bl=>cases ry;exact ⟨.int_bool _ _ _,.int_bool _ _ _,.int_bool _ _ _⟩
   | int=>obtain ⟨t,rfl⟩:=ry;exact ⟨.int_int _ _ _ _,.int_int _ _ _ _,.int_int _ _ _ _⟩
   | str=>obtain ⟨t,rfl⟩:=ry;exact ⟨.int_str _ _ _ _,.int_str _ _ _ _,.int_str _ _ _ _⟩
   | tup h r=>cases ry;obtain ⟨its,_,p⟩:=I.tup' h;exact ⟨.int_tuple _ _ p hu0,.int_tuple _ _ p hu0,.int_tuple _ _ p hu0⟩
  | str =>
   obtain ⟨t0,rfl⟩:=rx
   cases hy with
   | non=>cases ry;exact ⟨.str_none _ _,.str_none _ _,.str_none _ _⟩
   | bl=>cases ry;exact ⟨.str_bool _ _ _,.str_bool _ _ _,.str_bool _ _ _⟩
   | int=>obtain ⟨t,rfl⟩:=ry;exact ⟨.str_int _ _ _ _,.str_int _ _ _ _,.str_int _ _ _ _⟩
   | str=>obtain ⟨t,rfl⟩:=ry;exact ⟨.str_str _ _ _ _,.str_str _ _ _ _,.str_str _ _ _ _⟩
   | tup h r=>cases ry;obtain ⟨its,_,p⟩:=I.tup' h;exact ⟨.str_tuple _ _ p hu0,.str_tuple _ _ p hu0,.str_tuple _ _ p hu0⟩
 | succ n ih =>
  intro d e x y u v A hd hx hy rx ry hu;have hu0:A.units < cLine:=by lia
  cases hx with
  | tup h r =>
   rename_i l a xs
   cases rx
   cases hy with
   | non=>cases ry;obtain ⟨its,_,p⟩:=I.tup' h;exact ⟨.tuple_none p hu0,.tuple_none p hu0,.tuple_none p hu0⟩
   | bl=>cases ry;obtain ⟨its,_,p⟩:=I.tup' h;exact ⟨.tuple_bool _ p hu0,.tuple_bool _ p hu0,.tuple_bool _ p hu0⟩
   | int=>obtain ⟨t,rfl⟩:=ry;obtain ⟨its,_,p⟩:=I.tup' h;exact ⟨.tuple_int _ _ p hu0,.tuple_int _ _ p hu0,.tuple_int _ _ p hu0⟩
   | str=>obtain ⟨t,rfl⟩:=ry;obtain ⟨its,_,p⟩:=I.tup' h;exact ⟨.tuple_str _ _ p hu0,.tuple_str _ _ p hu0,.tuple_str _ _ p hu0⟩
   | tup h' r' =>
    rename_i m b ys
    cases ry
    obtain ⟨its,q,p⟩:=I.tup' h;obtain ⟨its',q',p'⟩:=I.tup' h';have l1:its.length=l.length:=by rw [← q.length,← r.length]
    have l2:its'.length=m.length:=by rw [← q'.length,← r'.length]
    have he:∀ j (h1:j < its.toArray.size) (h2:j < its'.toArray.size),SeqAt.EqAt A.in1 s its.toArray[j] its'.toArray[j] (eqD (l.getD j .non) (m.getD j .non)):=by
     intro j h1 h2;have j1:j < l.length:=by simpa [l1] using h1
     have j2:j < m.length:=by simpa [l2] using h2
     obtain ⟨x1,ex,dx⟩:=r.get (i:=j) (d:=l.getD j .non) (by simp [List.getD_eq_getElem?_getD,j1]);obtain ⟨y1,ey,dy⟩:=r'.get (i:=j) (d:=m.getD j .non) (by simp [List.getD_eq_getElem?_getD,j2]);obtain ⟨u1,eu,ru⟩:=q.get ex;obtain ⟨v1,ev,rv⟩:=q'.get ey;have e1:its.toArray[j]=u1:=by
      have:its[j]?=some its[j]:=by simp [l1,j1]
      rw [this] at eu
      simpa using Option.some.inj eu
     have e2:its'.toArray[j]=v1:=by
      have:its'[j]?=some its'[j]:=by simp [l2,j2]
      rw [this] at ev
      simpa using Option.some.inj ev
     rw [e1,e2];have hdl:jY l≤n:=by simp only [Dt.dep] at hd;lia
     exact (ih _ _ _ _ _ _ A.in1 (Nat.le_trans (f9 j1) hdl) dx dy ru rv (by rw [im];lia)).1
    have ev:eqD (.tup l) (.tup m)=((List.range (min its.toArray.size its'.toArray.size)).all (fun j=>eqD (l.getD j .non) (m.getD j .non)) && its.toArray.size == its'.toArray.size):=by
     simp only [eqD,List.size_toArray,l1,l2];exact cr l m
    rw [ev];refine ⟨?_,SeqAt.RcAt.tuples p p' hu0 he,SeqAt.RcNeAt.tuples p p' hu0 he⟩
    by_cases hab:a=b
    ·subst hab;have e3:=I.tuple_inj h h';subst e3;have e4:=IsDs.inj I r r';subst e4;rw [← ev,f8];exact .same _
    ·exact .of_refs hab (SeqAt.RcAt.tuples p p' hu0 he)
  | non=>exact ih _ _ _ _ _ _ A (by simp [Dt.dep]) .non hy rx ry (by lia)
  | bl=>exact ih _ _ _ _ _ _ A (by simp [Dt.dep]) .bl hy rx ry (by lia)
  | int=>exact ih _ _ _ _ _ _ A (by simp [Dt.dep]) .int hy rx ry (by lia)
  | str=>exact ih _ _ _ _ _ _ A (by simp [Dt.dep]) .str hy rx ry (by lia)
def sZ (K:PySem.W.Frag):R2:=fun x y H Q=>∃ d e,IsD K H d x∧IsD K H e y∧d.dep≤60∧Q (.bl (eqD d e)) H
theorem rM (hu:X.A.units+64 < cLine):OpR X (compareOp .Eq) (sZ X.K):=by
 intro pins s σ H x y v u Q I rx ry h;obtain ⟨d,e,hd,he,hn,q⟩:=h;exact (sY I 60 d e x y v u X.A hn hd he rx ry (by lia)).2.1 _ _ _ _ ⟨.bl _,H,I,rfl,q⟩
def um (K:PySem.W.Frag) (neg:Bool):R2:=fun x y H Q=>∃ p b xs ys l m,x=.ref p∧y=.ref b∧SqL K H p xs∧SqL K H b ys∧IsDs K H l xs∧IsDs K H m ys∧jY l≤60∧Q (.bl (if neg then !cM l m else cM l m)) H
theorem mY (hu:X.A.units+64 < cLine) (I:Inv X pins σ H s) {l m:List Dt} {xs ys:List V} {its its':List Value} (r:IsDs X.K H l xs) (r':IsDs X.K H m ys) (q:Vals xs its) (q':Vals ys its') (hd:jY l≤60) :
  ∀ j (h1:j < its.toArray.size) (h2:j < its'.toArray.size),SeqAt.EqAt X.A.in1 s its.toArray[j] its'.toArray[j] (eqD (l.getD j .non) (m.getD j .non)):=by
 have l1:its.length=l.length:=by rw [← q.length,← r.length]
 have l2:its'.length=m.length:=by rw [← q'.length,← r'.length]
 intro j h1 h2;have j1:j < l.length:=by simpa [l1] using h1
 have j2:j < m.length:=by simpa [l2] using h2
 obtain ⟨x1,ex,dx⟩:=r.get (i:=j) (d:=l.getD j .non) (by simp [List.getD_eq_getElem?_getD,j1]);obtain ⟨y1,ey,dy⟩:=r'.get (i:=j) (d:=m.getD j .non) (by simp [List.getD_eq_getElem?_getD,j2]);obtain ⟨u1,eu,ru⟩:=q.get ex;obtain ⟨v1,ev,rv⟩:=q'.get ey;have e1:its.toArray[j]=u1:=by
  have:its[j]?=some its[j]:=by simp [l1,j1]
  rw [this] at eu
  simpa using Option.some.inj eu
 have e2:its'.toArray[j]=v1:=by
  have:its'[j]?=some its'[j]:=by simp [l2,j2]
  rw [this] at ev
  simpa using Option.some.inj ev
 rw [e1,e2];exact (sY I 60 _ _ _ _ _ _ X.A.in1 (Nat.le_trans (f9 j1) hd) dx dy ru rv (by rw [im];lia)).1
theorem rN (hu:X.A.units+64 < cLine):OpR X (compareOp .NotEq) (um X.K true):=by
 intro pins s σ H x y v u Q I rx ry h;obtain ⟨p,b,xs,ys,l,m,rfl,rfl,hp,hb,r,r',hd,q⟩:=h
 cases rx
 cases ry
 obtain ⟨its,r1,p1,_⟩:=I.list hp;obtain ⟨its',r2,p2,_⟩:=I.list hb;have l1:its.length=l.length:=by rw [← r1.length,← r.length]
 have l2:its'.length=m.length:=by rw [← r2.length,← r'.length]
 have he:=mY hu I r r' r1 r2 hd;have hu0:X.A.units < cLine:=by lia
 by_cases hs:its.length=its'.length
 ·have ev:cM l m=(List.range its.toArray.size).all (fun j=>eqD (l.getD j .non) (m.getD j .non)):=by
   rw [cr l m,List.size_toArray,l1];have e3:l.length=m.length:=by lia
   rw [← e3,Nat.min_self,beq_self_eq_true,Bool.and_true]
  refine SeqAt.RcNeAt.lists p1.isList p2.isList (by simpa using hs) hu0 he _ _ _ _ ?_;rw [← ev];exact ⟨.bl _,H,I,rfl,q⟩
 ·have ev:cM l m=false:=by
   have e3:(l.length == m.length)=false:=by simpa using (show ¬ l.length=m.length by lia)
   rw [cr l m,e3,Bool.and_false]
  refine SeqAt.RcNeAt.lists_lengths p1.isList p2.isList (by simpa using hs) hu0 _ _ _ _ ?_;have q':Q (.bl (!cM l m)) H:=q;rw [ev] at q';exact ⟨.bl _,H,I,rfl,q'⟩
end
end L2
namespace PySem.W
open PySem PySem.Spec PyProof.Rows PySem.Calls
structure ExcK (K:Frag) (C:Addr):Prop where
 ga:findIn K (.ref C) "__getattribute__" = some (some (.builtin "BaseException.__getattribute__"))
 gt:findIn K (.ref C) "__getattr__" = some none
 cl:findIn K (.ref C) "__class__" = some (some (.builtin "object.__class__"))
 sb:mroIn K C (.type "BaseException")=some true
 so:mroIn K C (.type "object")=some true
 cd:∃ c,clsIn K C=some c
section
variable {prog:Program} {w:World} {A:Around} {E:Value→Shared→Prop} {h:Heap} {g:Array GenState} {d:Drawn} {t:Nat} {os:OsState} {a C:Addr} {o:Obj} {K:Frag}
theorem xlk {M:Model} {n:Str} {y:Option Value} {Q:Option Value→Shared→Prop} (X:K.In h) (e:findIn K (.ref C) n=some y) (hq:Q y ⟨h,g,d,t,os⟩):wpAny M A (typeLookup (.ref C) n) Q E ⟨h,g,d,t,os⟩ :=
 (looks_findIn X e).at hq
theorem tj {M:Model} {T:Value} {y:Bool} {Q:Bool→Shared→Prop} (X:K.In h) (e:mroIn K C T=some y) (hq:Q y ⟨h,g,d,t,os⟩):wpAny M A (isSubtype (.ref C) T) Q E ⟨h,g,d,t,os⟩ :=
 (looks_mroIn X e).at hq
theorem lB {R:Result→Shared→Prop} (X:K.In h) (G:ExcK K C) (hx:h.get? a=some o) (hc:o.cls=.ref C) (hq:R (.ok (.ret (.ref C))) ⟨h,g,d,t,os⟩) :
  codeAny (model prog w) A (.call (.builtin "getset_descriptor.__get__") ⟨[.builtin "object.__class__",.ref a,.ref C],[]⟩) R ⟨h,g,d,t,os⟩:=by
 have hT5:(⟨h,g,d,t,os⟩:Shared).TypeIs (.builtin "object.__class__") "getset_descriptor" :=F.typeOf_object_class;have hso:mroIn K C (.type (".".intercalate ("object.__class__".cutAt '.').dropLast))=some true:=by rw [F.owner_object_class];exact G.so
 refine codeAny_call_builtin F.slot_gs_get.plain F.entry_gs_get (F.slot_gs_get.check _ _ _ _ _ _ _ _ hT5 (F.args_gs_get _ _ _) ?_)
 repeat (any_goals (first | assumption | (with_reducible refine wpAny_loadPart_at hx ?_;rw [hc]) | (with_reducible refine tj X hso ?_) | wp_step))
 refine ⟨Code.quiet_builtin _ (by decide +kernel),codeAny_builtin F.entry_object_class ?_⟩
 repeat (any_goals (first | assumption | (with_reducible refine wpAny_loadPart_at hx ?_;rw [hc]) | wp_step))
theorem iS {tk:Tok} {Q:Fin→Shared→Prop} (X:K.In h) (G:ExcK K C) (hx:h.get? a=some o) (hc:o.cls=.ref C) (hq:Q (.done (.ret (.ref C))) ⟨h,g,d,t,os⟩) :
  wpAny (model prog w) A (Builtin.«object.__getattribute__» ⟨[.ref a,.str "__class__" tk],[]⟩) Q E ⟨h,g,d,t,os⟩:=by
 have hT5:(⟨h,g,d,t,os⟩:Shared).TypeIs (.builtin "object.__class__") "getset_descriptor" :=F.typeOf_object_class;have f5:=F.typeOf_object_class;have f6:=F.slot_gs_get.lookup;have f7:=F.slot_gs_set.lookup
 repeat (any_goals (first | assumption | (with_reducible refine wpAny_loadPart_at hx ?_;rw [hc]) | with_reducible refine xlk X G.cl ?_ | wp_step))
 refine lB X G hx hc ?_
 repeat (any_goals (first | assumption | wp_step))
theorem mZ {M:Model} {nameV:Value} {Q:Unit→Shared→Prop} (X:K.In h) (G:ExcK K C) (hx:h.get? a=some o) (hc:o.cls=.ref C) (hq:Q () ⟨h,g,d,t,os⟩) :
  wpAny M A (checkBuiltinCall "BaseException.__getattribute__" ⟨[.ref a,nameV],[]⟩) Q E ⟨h,g,d,t,os⟩:=by
 have hk:builtinKind "BaseException.__getattribute__" = some .slot:=by decide +kernel
 have hsplit:splitId "BaseException.__getattribute__" = some ("BaseException","__getattribute__"):=by decide +kernel
 have ha:=F.args_bexc_ga (.ref a) nameV;simp only [checkBuiltinCall,hk,hsplit];refine wpAny_bind ?_
 ·unfold isInstance
  repeat (first | (with_reducible refine wpAny_loadPart_at hx ?_;rw [hc]) | (with_reducible refine tj X G.sb ?_) | wp_step)
  exact hq
theorem jZ {tk:Tok} {R:Result→Shared→Prop} (X:K.In h) (G:ExcK K C) (hx:h.get? a=some o) (hc:o.cls=.ref C) (hq:R (.ok (.ret (.ref C))) ⟨h,g,d,t,os⟩) :
  codeAny (model prog w) A (.call (.builtin "BaseException.__getattribute__") ⟨[.ref a,.str "__class__" tk],[]⟩) R ⟨h,g,d,t,os⟩ :=
 codeAny_call_builtin F.attr_ValueError.ga.plain F.entry_bexc_ga (mZ X G hx hc (iS X G hx hc hq))
theorem m5 {tk:Tok} {fill expr:Bool} {Q:Value→Shared→Prop} (X:K.In h) (G:ExcK K C) (hx:h.get? a=some o) (hc:o.cls=.ref C) (hq:Q (.ref C) ⟨h,g,d,t,os⟩) :
  wpAny (model prog w) A (getAttrBy (.ref a) (.str "__class__" tk) fill expr) Q E ⟨h,g,d,t,os⟩:=by
 have f3:=F.attr_ValueError.ga.bind (.ref a);have hx0:(expr && onTheHeap (Value.builtin "BaseException.__getattribute__"))=false:=by cases expr <;> rfl
 have hx2:(Value.builtin "BaseException.__getattribute__" == Value.builtin "object.__getattribute__")=false:=by decide +kernel
 have hx1:(onTheHeap (Value.ref C) && Value.builtin "BaseException.__getattribute__" == Value.builtin "object.__getattribute__")=false:=by rw [hx2];rfl
 repeat (any_goals (first | assumption | (with_reducible refine wpAny_loadPart_at hx ?_;rw [hc]) | with_reducible refine xlk X G.ga ?_ | with_reducible refine xlk X G.gt ?_ | wp_step))
 refine jZ X G hx hc ?_
 repeat (any_goals (first | assumption | wp_step))
theorem j0 {Q:Option Value→Shared→Prop} (X:K.In h) (G:ExcK K C) (hx:h.get? a=some o) (hc:o.cls=.ref C) (hq:Q (some (.ref C)) ⟨h,g,d,t+1,os⟩) :
  wpAny (model prog w) A (getAttr? (.ref a) "__class__") Q E ⟨h,g,d,t,os⟩:=by
 unfold getAttr? getAttrBy?
 repeat (any_goals (first | assumption | with_reducible apply m5 X G hx hc | wp_step))
theorem kitx_exc (G:ExcK K C):KitX K (.ref a) (.ref C) (fun h=>∃ o,h.get? a=some o∧o.cls=.ref C) where
 ty:=fun M h _ ⟨o,e,c⟩=>by
  have L:Looks M h (typeOf (.ref a)) o.cls:=(Looks.ld e).andThen .now;rw [c] at L;exact L
 it:=fun _ _ X _=>by
  obtain ⟨cdD,hcD⟩:=G.cd;unfold clsIn at hcD
  split at hcD
  ·rename_i c' d' cd' sl' ho
   intro A' Q' E' s' k q;unfold isType loadHead;exact wpAny_bind (wpAny_loadPart (k _ _ (X _ _ ho)) (wpAny_pure q))
  ·cases hcD
 ne:=fun h tp dd its n sl X htp=>by
  obtain ⟨cdD,hcD⟩:=G.cd;refine Bool.eq_false_iff.mpr fun q=>?_;have e:C=tp:=Value.ref.inj (beq_iff_eq.mp q);subst e;unfold clsIn at hcD
  split at hcD
  ·rename_i c' d' cd' sl' ho
   have z:=X _ _ ho;rw [htp] at z
   cases z
  ·cases hcD
 ca:=fun {_ _ _ _ _ s} X ⟨o,e,c⟩ q=>by
  obtain ⟨h,g,d,t,os⟩:=s;exact j0 X G e c q
end
end PySem.W
namespace L2
open PySem PySem.Spec PyProof.Rows
def xO (a C:Addr):HO:=.ext fun h=>∃ o,h.get? a=some o∧o.cls=.ref C
theorem tq {P:Program} {w:World} {H:Hp} {h:Heap} {a C:Addr} (e:∃ o,h.get? a=some o∧o.cls=.ref C):ObjOk P w H h a (xO a C) :=
 ⟨e,e.imp fun _ q=>q.1,fun _ _ ⟨o,q,c⟩ k=>⟨o,k o q,c⟩⟩
theorem Inv.exc {X:Cx} {pins:List (Addr×Obj)} {σ:St} {H:Hp} {s:Shared} {a C:Addr} (I:Inv X pins σ H s) (e:H a=some (xO a C)):∃ o,s.heap.get? a=some o∧o.cls=.ref C :=
 (show ObjOk X.prog X.w H s.heap a (xO a C) from I.hok a _ e).1
abbrev bmV:List Value:=[.type "ValueError",.type "Exception",.type "BaseException",.type "object"]
structure ExC (K:PySem.W.Frag) (mg:Str→Option Value) (x:Str) (C:Addr):Prop where
 m:mg x=some (.ref C)
 q:PySem.W.excIn K C bmV "ValueError.__new__" = true
 k:PySem.W.ExcK K C
 kp:PySem.W.keepIn K (.ref C)=true
theorem iT {K:PySem.W.Frag} {h:Heap} {C:Addr} {bmB:List Value} {newId:String} (X:K.In h) (q:PySem.W.excIn K C bmB newId=true) :
  ∃ bm N nm qn bs hd sn sub ab col dd k0 k1 k2 k3 k5 mN,h.get? C=some (excClassObj nm qn C N bs bm hd sn sub ab col dd k0 k1 k2 k3 k5 newId)∧h.Ns N mN∧mN "__init__" = none∧OwnTail h bmB bm:=by
 unfold PySem.W.excIn at q
 split at q
 case h_2=>cases q
 case h_1 dd cd sl ho =>
  split at q
  case h_2=>cases q
  case h_1 C' bm k0 k1 k2 k3 n k5 hm hs =>
   simp only [Bool.and_eq_true,beq_iff_eq,Bool.not_eq_true'] at q;obtain ⟨⟨⟨⟨⟨q1,q2⟩,q3⟩,q4⟩,q5⟩,q6⟩:=q;subst q1 q2;obtain ⟨nm,bs,mro,ns,qn,hd,sn,sub,ab,col,del⟩:=cd;dsimp only at hm q3 q5 q6;subst hm q3;obtain ⟨l⟩:=sl;dsimp only at hs;subst hs;exact ⟨bm,ns,nm,qn,bs,hd,sn,sub,ab,col,dd,k0,k1,k2,k3,k5,_,X _ _ ho,.of_isNs (PySem.W.isNs_of_in X q5),PySem.W.nsMap_none_of_in X q5 q6,PySem.W.tail_of_in X q4⟩
section
variable {X:Cx} {pins:List (Addr×Obj)} {σ:St} {H:Hp} {s:Shared}
theorem oj:aW X (.builtin "isinstance") (fun xs H Q=>∃ a C D b,xs=[.ref a,.ref D]∧H a=some (xO a C)∧PySem.W.ExcK X.K C∧PySem.W.kitOne X.K (.ref C) (.ref D)=some b∧Q (.bl b) H):=by
 intro pins s σ H xs us Q I r h;obtain ⟨a,C,D,b,rfl,ha,G,hk,q⟩:=h;obtain ⟨u,w',rfl,rx,rD⟩:=jN r
 cases rx
 cases rD
 exact PySem.W.kia_one (PySem.W.kitx_exc G) I.kIn (I.exc ha) hk (fun z=>nomatch z) fun tk=>⟨.bl b,H,I.tok tk,rfl,q⟩
theorem m6:aW X (.builtin "isinstance") (fun xs H Q=>∃ a C T b,xs=[.ref a,.ty T]∧H a=some (xO a C)∧PySem.W.ExcK X.K C∧PySem.W.kitOne X.K (.ref C) (.type T)=some b∧Q (.bl b) H):=by
 intro pins s σ H xs us Q I r h;obtain ⟨a,C,T,b,rfl,ha,G,hk,q⟩:=h;obtain ⟨u,w',rfl,rx,rD⟩:=jN r
 cases rx
 cases rD
 exact PySem.W.kia_one (PySem.W.kitx_exc G) I.kIn (I.exc ha) hk (fun z=>nomatch z) fun tk=>⟨.bl b,H,I.tok tk,rfl,q⟩
end
def CXE (P:Program) (w:World):CXT:=fun outer H s E e s'=>∃ (ea C:Addr) (a0:Value) (B:Heap) (H':Hp),e=.ref ea∧Heap.FlyingW B outer ea (.ref C) a0 s'.heap∧s'.os=s.os∧AllBare s'.gens∧Un (frs outer) [] H H' s.heap s'.heap∧HOk P w H' B ∧
 (∀ b o,s.heap.get? b=some o→H b=none→b∉frs outer→B.get? b=some o)∧(∀ b o,s.heap.get? b=some o→b∉frs outer→∃ o',B.get? b=some o')∧E (.ref C) none H'
theorem dA {fs:List Addr} {H H1:Hp} {h h1 h' B:Heap} (u:Un fs [] H H1 h h1) (c1:∀ b o,h.get? b=some o→H b=none→b∉fs→B.get? b=some o) (c2:∀ b o,h.get? b=some o→b∉fs→∃ o',B.get? b=some o')
  (st:B.StaysIn h') (c3:∀ b o,h.get? b=some o→b∈fs→∃ sl,h'.get? b=some { o with slots:=sl }):Un fs [] H H1 h h' where
 keep:=fun b o q n hb _=>st b o (c1 b o q n hb)
 slot:=fun b o q n hb _=>c3 b o q hb
 free:=u.free
 there:=fun b o q hx=>by
  by_cases hb:b∈fs
  ·obtain ⟨sl,e⟩:=c3 b o q hb;exact ⟨_,e⟩
  ·obtain ⟨o',e⟩:=c2 b o q hb;exact ⟨o',st b o' e⟩
 tups:=u.tups
 frzs:=u.frzs
 tbls:=u.tbls
def ol (X:Cx) (E:XK):Prop:=X.xe=fun e s'=>wpAny (model X.prog X.w) X.A (leaving X.env e) (fun _ s''=>CXE X.prog X.w X.outer X.H₀ X.s₀ E e s'') (fun e' s''=>CXE X.prog X.w X.outer X.H₀ X.s₀ E e' s'') s'
section
variable {X:Cx} {pins:List (Addr×Obj)} {σ:St} {H:Hp} {s:Shared}
theorem bK {base h:Heap} {l:List Env} {b:Addr} (f:h.FunFrames base l) (hb:b∈frs l):∃ o,h.get? b=some o∧∀ vs,o.data≠.fields vs:=by
 obtain ⟨_,o,ho,hn⟩:=f.mem hb;exact ⟨o,ho,hn⟩
theorem om {E:XK} {C:Addr} {ea:Addr} {vs:List Value} {h':Heap} {tk:Nat} (hx:ol X E) (hstk:X.stack=X.env :: X.outer) (hfr:X.env.frame=some X.env.locals) (hex:X.ex=[]) (I:Inv X pins σ H s) (hm:Heap.MadeExcOf s.heap h' ea (.ref C) vs)
  (q:E (.ref C) none H):X.xe (.ref ea) { s with heap:=h',toks:=tk }:=by
 rw [hx];have F0:s.heap.FunFrames X.base (X.env :: X.outer):=by rw [← hstk];exact I.stack
 have fr0:X.A.frames=some (X.env :: X.outer):=by rw [← hstk];exact I.ok.frames
 have mem:∀ b∈frs X.outer,b∈frs (X.env :: X.outer):=fun b hb=>by
  obtain ⟨env,he,hf⟩:=List.mem_filterMap.mp hb;exact List.mem_filterMap.mpr ⟨env,List.mem_cons_of_mem _ he,hf⟩
 have inv:∀ b,b∈frs (X.env :: X.outer)→b=X.env.locals∨b∈frs X.outer:=fun b hb=>by
  obtain ⟨env,he,hf⟩:=List.mem_filterMap.mp hb;rcases List.mem_cons.mp he with rfl | he
  ·rw [hfr] at hf;exact .inl (Option.some.inj hf).symm
  ·exact .inr (List.mem_filterMap.mpr ⟨env,he,hf⟩)
 have hin:∀ env∈(X.env :: X.outer),∀ b,env.frame=some b→b∈frs (X.env :: X.outer):=fun env he b hb=>List.mem_filterMap.mpr ⟨env,he,hb⟩;have stayB:∀ b o,s.heap.get? b=some o→b∉frs (X.env :: X.outer)→(PySem.W.hideAll s.heap (frs (X.env :: X.outer))).get? b=some o:=fun b o e n=>PySem.W.hideAll_get _ e n;have old:∀ b o,X.s₀.heap.get? b=some o→b∉frs X.outer→b∉frs (X.env :: X.outer):=fun b o e n z=>by
  rcases inv b z with rfl | z
  ·exact absurd (Nat.lt_of_lt_of_le (Heap.lt_size e) I.ok.above) (Nat.lt_irrefl _)
  ·exact n z
 refine wpAny_leaves_madeW (s:={ s with heap:=h',toks:=tk }) fr0 hfr (fun b o e=>PySem.W.of_hideAll _ e) (PySem.W.funFrames_hide F0 hin) hm fun h2 t fl _ _ up=>?_;have B0:Un X.fs [] X.H₀ H X.s₀.heap s.heap:=by have z:=I.base;rw [hex] at z;exact z
 have c1:∀ b o,X.s₀.heap.get? b=some o→X.H₀ b=none→b∉frs X.outer→(PySem.W.hideAll s.heap (frs (X.env :: X.outer))).get? b=some o:=fun b o e n hb=>stayB b o (B0.keep b o e n hb (by simp)) (old b o e hb);have c2:∀ b o,X.s₀.heap.get? b=some o→b∉frs X.outer→∃ o',(PySem.W.hideAll s.heap (frs (X.env :: X.outer))).get? b=some o':=fun b o e hb=>by
  obtain ⟨o',e'⟩:=B0.there b o e (by simp);exact ⟨o',stayB b o' e' (old b o e hb)⟩
 refine ⟨ea,C,_,_,H,rfl,fl,I.os,I.bare,dA B0 c1 c2 fl.1 fun b o e hb=>?_,fun b u e=>?_,c1,c2,q⟩
 ·obtain ⟨sl,e1⟩:=B0.slot b o e (I.ok.frf b hb) hb (by simp);obtain ⟨o2,e2,nf⟩:=bK F0 (mem b hb);rw [e1] at e2;obtain rfl:=Option.some.inj e2;obtain ⟨sl2,e3⟩:=up b _ (hm.keeps b _ e1) nf;exact ⟨sl2,e3⟩
 ·refine (I.hok b u e).stay (fun c v hc z=>stayB c v z fun hf=>?_) (fun _ z=>z) fun _ _ z=>z;have n0:H c=none:=by rw [← hstk] at hf;exact I.stkFree c hf
  rcases hc with rfl | hc
  ·rw [e] at n0;cases n0
  ·rw [hc] at n0;cases n0
def on (C:Addr) (E:XK) (t:TA):TS:=fun _ σ H=>t σ H fun xs H1=>xs.length≤sizeLine∧E (.ref C) none H1
theorem ps_raise {E:XK} {x:Str} {C:Addr} {e:Expr} {es:List Expr} {t:TA} {np cpos pos:Pos} (hx:ol X E) (hstk:X.stack=X.env :: X.outer) (hfr:X.env.frame=some X.env.locals) (hex:X.ex=[]) (hc:X.calm=true) (G:ExC X.K X.mg x C) (hg:Gl X x) (ha:PA X (e :: es) t)
  (hdb:(x == ("__debug__" : Str))=false:=by decide) (he:starEach (e :: es) X.env=(false,eval e X.env) :: starEach es X.env:=by rfl) (hpl:(backTo cpos (starEach es X.env)).any (·.1)=false:=by rfl) :
  PS X (.Raise (some (.Call (.Name x np) (e :: es) [] cpos)) none pos) (on C E t):=by
 intro pins s σ H D I h;obtain ⟨bm,N,nm,qn,bs,hd,sn,sub,ab,col,dd,k0,k1,k2,k3,k5,mN,hC,hN,hni,T⟩:=iT I.ok.mod.kin G.q;refine wpAny_Raise_call_subT (C:=C) (nm:=nm) (q:=qn) (N:=N) (bs:=bs) (bm:=bm) (hdct:=hd) (sn:=sn) (sub:=sub) (ab:=ab) (col:=col) (dd:=dd) (k0:=k0) (k1:=k1) (k2:=k2) (k3:=k3) (k5:=k5) F.excBase_ValueError (mN:=mN) (T.hasType F.excBase_ValueError.hasBase) (I.ok.hd hc)
  (by rw [he];show (false || (backTo cpos (starEach es X.env)).any (·.1))=false;rw [hpl];rfl) hni (bd I hg G.m ⟨rfl,?_⟩ hdb)
 have z:=ha cpos pins s σ H _ I h;rw [he] at z ⊢;refine Calls.evalArgs_plain (wpAny_mono z (fun us s2 ⟨vs,H2,I2,r,hz,q⟩=>?_) fun _ _ y=>y);refine ⟨rfl,by show us.length≤sizeLine;rw [← r.length];exact hz,I2.bk _ _ hC,hN.keeps I2.bk,T.keeps I2.bk,fun h' ea hm=>?_⟩;exact om (tk:=s2.toks) hx hstk hfr hex I2 hm q
end
theorem Fun.okE {P:Program} {w:World} {K:PySem.W.Frag} {mg:Str→Option Value} {base:Heap} {x qual:Str} {st:Stmt} {f:Addr} {fd:FuncData} {N ps:List Str} {k:Nat} {sp:Sp} (F:Fun K x qual st f fd) (S:FnScope N ps (ae st)) (len:∀ vs H Q E,sp vs H Q E→vs.length=ps.length)
  (hbody:∀ (cdv:Value) (A:Around) (outer:List Env) (s:Shared) (H:Hp) (vs:List V) (Q:VK) (E:XK),Room k (A.deeper (envOfC qual (ae st) s.heap.objs.size f cdv))→sp vs H Q E →
   ∃ t,PSs (eW (CXE P w) P w K mg base N qual (ae st) f cdv A outer s H E) (bo st) t∧t { nx:=fun _ H'=>Q .non H',rt:=Q } (cK N vs) H):FnOk P w K mg base (CXE P w) (k+1) f fd ps sp:=by
 obtain ⟨oc,od,kV,doc,pm,an,cdv,ct,osl,rfl,lk,hcd⟩:=F.ex;exact ma lk hcd S len fun A outer s H vs Q E hr hsp=>hbody cdv A outer s H vs Q E hr hsp
theorem xeOf {P:Program} {w:World} {K:PySem.W.Frag} {mg:Str→Option Value} {base:Heap} {N:List Str} {qual:Str} {scope:Scope} {f:Addr} {cd:Value} {A:Around} {outer:List Env} {s:Shared} {H:Hp} {E:XK} :
  ol (eW (CXE P w) P w K mg base N qual scope f cd A outer s H E) E:=rfl
theorem kb {P:Program} {w:World} {H:Hp} {h:Heap} {a:Addr} (hok:HOk P w H h) (hp:h.get? a=none):H a=none:=by
 cases q:H a with
 | none=>rfl
 | some u =>
  have w':=hok a u q
  exfalso
  cases u with
  | lst xs=>obtain ⟨_,its,n,_,e⟩:=w';rw [hp] at e;cases e
  | tup xs=>obtain ⟨_,its,_,ob,e,_⟩:=w';rw [hp] at e;cases e
  | dK kvs=>obtain ⟨_,_,vs,_,ob,es,ep,e,_⟩:=w';rw [hp] at e;cases e
  | dT kvs=>obtain ⟨_,_,xs,_,ob,es,ep,e,_⟩:=w';rw [hp] at e;cases e
  | set S n=>obtain ⟨ob,es,ep,t,e,_⟩:=w';rw [hp] at e;cases e
  | ins C dx fs=>obtain ⟨_,_,_,e,_⟩:=w';rw [hp] at e;cases e
  | own y=>obtain ⟨ob,e⟩:=w';rw [hp] at e;cases e
  | xd fs=>obtain ⟨mA,⟨od,es,ep,e,_⟩,_⟩:=w';rw [hp] at e;cases e
  | rng lo hi=>obtain ⟨t,u,v,e⟩:=w';rw [hp] at e;cases e
  | frz ob u=>obtain ⟨e,_⟩:=w';rw [hp] at e;cases e
  | tbl ps=>have e:h.get? a=some { cls:=.none,data:=.fields ps }:=w';rw [hp] at e;cases e
  | met f y=>have e:h.get? a=some (PySem.W.methodObj (.ref f) (.ref y)):=w';rw [hp] at e;cases e
  | ext φ=>obtain ⟨_,⟨o,e⟩,_⟩:=w';rw [hp] at e;cases e
def hcx (X:Cx) (ea:Addr):Cx:={ X with A:=X.A.mark (some (.ref ea)),calm:=false,xe:=fun _ _=>False }
section
variable {X:Cx} {pins:List (Addr×Obj)} {σ:St} {H:Hp} {s:Shared}
theorem Cx.Ok.hcx (ok:X.Ok) (ea:Addr):(hcx X ea).Ok :=
 ⟨ok.mod,ok.kind,ok.glob,ok.blt,ok.above,ok.inj,ok.has,ok.cab,fun z=>absurd z (by show ¬ (false=true);decide),ok.frames,ok.stk,ok.exf,ok.bs,ok.bsz,ok.noex,ok.exfs,ok.funs,ok.frf⟩
theorem Inv.hcx (I:Inv X pins σ H s) (ea:Addr):Inv (hcx X ea) pins σ H s:=⟨I.ok.hcx ea,I.os,I.bare,I.base,I.loc,I.cell,I.free,I.freeC,I.pin,I.hok,I.len⟩
theorem Inv.unhcx {ea:Addr} (I:Inv (L2.hcx X ea) pins σ H s) (ok:X.Ok):Inv X pins σ H s:=⟨ok,I.os,I.bare,I.base,I.loc,I.cell,I.free,I.freeC,I.pin,I.hok,I.len⟩
theorem Inv.goes {i:Nat} {n:Str} {pos:Pos} {M:Model} {A:Around} {E:Value→Shared→Prop} {Q:Unit→Shared→Prop} (I:Inv X pins σ H s) (hN:X.N.Nodup) (hi:X.N[i]?=some n) (hl:X.env.scope.names.lookup n=some .local)
  (h:∀ s',Inv X pins (σ.set i none) H s'→Q () s'):wpAny M A (do bindName X.env n .none;unbindBehindTheSuite X.env n pos) Q E s:=by
 obtain ⟨m,hn,hlk⟩:=id I.loc;have hcls:(X.env.scope.kind == .class || (X.env.scope.kind == .module && X.env.locals != X.env.globals))=false:=by rw [I.ok.kind];rfl
 have hiσ:i < σ.length:=by rw [I.len];exact (List.getElem?_eq_some_iff.mp hi).1
 have cne:=I.cne;refine wpAny_nameGoes_keeps hl hn hcls fun h' v hn' hs=>?_;have neL:∀ b o,X.s₀.heap.get? b=some o→b≠X.env.locals:=fun b o e=>Nat.ne_of_lt (Nat.lt_of_lt_of_le (Heap.lt_size e) I.ok.above);refine h _ ⟨I.ok,I.os,I.bare,⟨fun b o e n hb hx=>?_,fun b o e n hb hx=>?_,I.base.free,fun b o e hx=>?_,I.base.tups,I.base.frzs,I.base.tbls⟩,⟨_,hn',fun j y v' e1 e2 e3=>?_⟩,fun y c e=>?_,I.free,I.freeC,fun p hp=>?_,fun b u e=>?_,by simpa using I.len⟩
 ·exact (hs.2 b (neL b o e)).trans (I.base.keep b o e n hb hx)
 ·obtain ⟨sl,e1⟩:=I.base.slot b o e n hb hx;exact ⟨sl,(hs.2 b (neL b o e)).trans e1⟩
 ·obtain ⟨o',e1⟩:=I.base.there b o e hx;exact ⟨o',(hs.2 b (neL b o e)).trans e1⟩
 ·by_cases hj:j=i
  ·subst hj;rw [List.getElem?_set_self hiσ] at e2
   cases e2
  ·rw [List.getElem?_set_ne (Ne.symm hj)] at e2;obtain ⟨u',r',q⟩:=hlk j y v' e1 e2 e3;refine ⟨u',r',?_⟩;rcases q with ⟨k,e⟩ | ⟨k,c,e,z⟩
   ·refine .inl ⟨k,?_⟩;have:y≠n:=fun e=>hj (fS hN e1 (e ▸ hi));simp [this,e]
   ·exact .inr ⟨k,c,e,z.sameBut hs (cne y c e)⟩
 ·obtain ⟨w',z⟩:=I.cell y c e;exact ⟨w',z.sameBut hs (cne y c e)⟩
 ·obtain ⟨e,n,ne,nf,d⟩:=I.pin p hp;exact ⟨(hs.2 p.1 ne).trans e,n,ne,nf,d⟩
 ·refine (I.hok b u e).stay (fun c w' hc q=>(hs.2 c ?_).trans q) (fun _ q=>q) fun _ _ q=>q;rintro rfl;rcases hc with rfl | hc
  ·rw [I.free] at e;cases e
  ·rw [I.free] at hc;cases hc
abbrev TX:=St→Hp→VK→XK→Prop
def PX (X:Cx) (e:Expr) (t:TX):Prop :=
 ∀ (pins:List (Addr×Obj)) (s:Shared) (σ:St) (H:Hp) (Q:VK) (E:XK),Inv X pins σ H s→t σ H Q E →
  wpAny (model X.prog X.w) X.A (eval e X.env) (EP X pins σ Q) (fun ex s'=>∃ H1 s1,Inv X pins σ H1 s1∧CXE X.prog X.w X.stack H1 s1 E ex s') s
theorem pQ {k:Nat} {f:Addr} {fd:FuncData} {ps:List Str} {sp:Sp} {x:Str} {p pos:Pos} {e:Expr} {es:List Expr} {t:TA} (F:FnOk X.prog X.w X.K X.mg X.base (CXE X.prog X.w) k f fd ps sp) (hr:Room k X.A) (hg:Gl X x) (hm:X.mg x=some (.ref f))
  (hk:PySem.W.keepIn X.K (.ref f)=true) (hb:Binds X.K fd ps []) (ha:PA X.nox (e :: es) t) (hdb:(x == ("__debug__" : Str))=false:=by decide) (he:starEach (e :: es) X.env=(false,eval e X.env) :: starEach es X.env:=by rfl)
  (hpl:(backTo pos (starEach es X.env)).any (·.1)=false:=by rfl):PX X (.Call (.Name x p) (e :: es) [] pos) (fun σ H Q E=>t σ H fun vs H1=>sp vs H1 Q E):=by
 intro pins s σ H Q E I h;refine wpAny_Call_Name_kw (bd I hg hm ?_ hdb);refine PySem.W.callWith_K (h₀:=X.base) I.ok.mod.kin hk (wpAny_mono (ha pos pins s σ H _ (I.wish _) h) (fun us s1 ⟨vs,H1,I1',r,q⟩=>?_) fun _ _ z=>z.elim) he hpl;have I1:Inv X pins σ H1 s1:=Inv.unwish I1';refine ⟨I1.kIn,?_⟩;have hl:us.length=ps.length:=by rw [← r.length];exact F.len _ _ _ _ q
 have hb':BindsTo s1 fd ⟨us,[]⟩ (ps.zip us):=by
  have z:=hb s1 us I1.kIn (by rw [List.append_nil];exact hl)
  rwa [List.append_nil] at z
 refine wpAny_call (codeAny_mono (F.run X.A X.stack s1 H1 ⟨us,[]⟩ us vs Q E hr I1.env0 hb' r q) fun rr s' hq=>?_)
 cases rr with
 | error ex=>exact ⟨H1,s1,I1,hq⟩
 | ok fl =>
  cases fl with
  | ret u=>exact I1.after hq
  | next=>exact False.elim hq
  | brk=>exact False.elim hq
  | cont=>exact False.elim hq
def uo (K:PySem.W.Frag) (HC:Addr) (i:Nat) (te:TX) (ts:TS):TS:=fun D σ H=>te σ H (fun _ H1=>D.nx σ H1) fun cls _ H'=>∃ C,cls=.ref C∧PySem.W.exmOne K (.ref C) (.ref HC)=some true ∧
 ∀ ea,H' ea=none→ts { nx:=fun σ' H''=>D.nx (σ'.set i none) H'',rt:=D.rt,bk:=fun σ' H''=>D.bk (σ'.set i none) H'',ct:=fun σ' H''=>D.ct (σ'.set i none) H'' } (σ.set i (some (.ref ea))) (upd H' ea (xO ea C))
theorem pR {e:Expr} {x n:Str} {i:Nat} {b₀:Stmt} {suite:List Stmt} {np p1 hpos pos:Pos} {te:TX} {HC:Addr} {ts:TS} (hstk:X.stack=X.env :: X.outer) (hfr:X.env.frame=some X.env.locals) (he:PX X e te) (hm:X.mg x=some (.ref HC)) (hg:Gl X x)
  (hN:X.N.Nodup) (hi:X.N[i]?=some n) (hlo:X.env.scope.names.lookup n=some .local) (hb:∀ ea,PSs (hcx X ea) (b₀ :: suite) ts) (hs:swapsWith e none p1.line X.env=pure false:=by rfl) (hdb:(x == ("__debug__" : Str))=false:=by decide) :
  PS X (.Try [.Expr e p1] [.ExceptHandler (some (.Name x np)) (some n) (b₀ :: suite) hpos] [] [] pos) (uo X.K HC i te ts):=by
 intro pins s σ H D I h;have fr0:X.A.frames=some (X.env :: X.outer):=by rw [← hstk];exact I.ok.frames
 refine wpAny_Try_except (wpAny_execs_cons (wpAny_Expr_any (wpAny_mono (he pins s σ H _ _ I h) (fun v s1 ⟨y,H1,I1,r1,q1⟩=>?_) (fun ex s1 ⟨H1,s0,I0,fl0⟩=>?_)) I.quiet hs))
 ·exact wpAny_execs_nil (wpAny_execs_nil ⟨σ,H1,I1,q1⟩)
 obtain ⟨ea,C,a0,B,H',rfl,fl,os,bare,un,hok,c1,c2,C',e',hx,q⟩:=fl0
 cases e'
 have flS:=fl;rw [hstk] at fl;refine wpAny_looks_onW fr0 hfr fl fun h4 held4 up4=>?_;refine wpAny_landsW held4 fun h5 held5 up5=>?_;have frames:∀ {h2:Heap},s1.heap.UpToSlots h2→∀ b o,s0.heap.get? b=some o→b∈frs X.stack→∃ sl,h2.get? b=some { o with slots:=sl }:=fun {h2} up b o e hb=>by
  obtain ⟨sl,e1⟩:=un.slot b o e (I0.stkFree b hb) hb (by simp);obtain ⟨o2,e2,nf⟩:=bK flS.2.2.1 hb;rw [e1] at e2;obtain rfl:=Option.some.inj e2;obtain ⟨sl2,e3⟩:=up b _ e1 nf;exact ⟨sl2,e3⟩
 have I5:Inv X pins σ H' { s1 with heap:=h5 }:=I0.call' (s':={ s1 with heap:=h5 }) os (dA un c1 c2 held5.1 (frames (up4.trans up5))) (hok.kept held5.1) bare (ch:=[]) (fun _ z=>nomatch z);have ea0:H' ea=none:=kb hok fl.2.1;obtain ⟨ob,hob,hobc⟩:=held5.there;have LT:PySem.W.Looks (model X.prog X.w) h5 (typeOf (.ref ea)) (.ref C):=by
  have L:PySem.W.Looks (model X.prog X.w) h5 (typeOf (.ref ea)) ob.cls:=(PySem.W.Looks.ld hob).andThen .now;rw [hobc] at L;exact L
 refine wpAny_handleBy_cons (codeAny_handlers_test (bd (X:=hcx X ea) (I5.hcx ea) hg hm ?_ hdb)) (by intro z;cases z);refine (PySem.W.exm_one (h:=h5) I5.kIn LT hx).here ?_;refine codeAny_handlers_suite_as ?_;refine lands_againW held5 fun h6 fl6 up6=>?_;have up16:s1.heap.UpToSlots h6:=(up4.trans up5).trans up6;obtain ⟨oe,ws,hoe,hoec,hoed,_⟩:=fl6.first
 have neF:ea∉frs X.stack:=fun hb=>by
  have f6:=fl6.2.2.1;rw [← hstk] at f6;obtain ⟨o2,e2,nf⟩:=bK f6 hb;rw [hoe] at e2;obtain rfl:=Option.some.inj e2;exact nf _ hoed
 have un6:Un (frs X.stack) [] H1 H' s0.heap h6:=dA un c1 c2 fl6.1 (frames up16);have un7:Un (frs X.stack) [] H1 (upd H' ea (xO ea C)) s0.heap h6:=by
  refine ⟨un6.keep,un6.slot,fun b o e n z=>?_,un6.there,fun b xs e=>?_,fun b o u e=>?_,fun b ps e=>?_⟩
  ·have hne:b≠ea:=by
    rintro rfl
    by_cases hb:b∈frs X.stack
    ·exact neF hb
    ·have z:=c1 b o e n hb;rw [fl.2.1] at z
     cases z
   rw [ah hne];exact un6.free b o e n z
  ·rw [ah (aj (un6.tups b xs e) ea0)];exact un6.tups b xs e
  ·rw [ah (aj (un6.frzs b o u e) ea0)];exact un6.frzs b o u e
  ·obtain ⟨m1,e1⟩:=un6.tbls b ps e;exact ⟨m1,by rw [ah (aj e1 ea0)];exact e1⟩
 have hok6:HOk X.prog X.w (upd H' ea (xO ea C)) h6:=fun b u e=>by
  by_cases hb:b=ea
  ·subst hb;rw [ac] at e
   cases e
   exact tq ⟨oe,hoe,hoec⟩
  ·rw [ah hb] at e;exact (hok b u e).stay (fun c v _ z=>fl6.1 c v z) (fun c z=>by rw [ah (aj z ea0)];exact z) fun c xs z=>by rw [ah (aj z ea0)];exact z
 have I6:Inv X pins σ (upd H' ea (xO ea C)) { s1 with heap:=h6 }:=I0.call' (s':={ s1 with heap:=h6 }) os un7 hok6 bare (ch:=[]) (fun _ z=>nomatch z);refine fT (X:=hcx X ea) (v:=.ref ea) (I6.hcx ea) hN hi (.inl hlo) rfl (fun s7 I7=>?_) (.inr hlo);refine wpAny_mono (hb ea pins s7 _ _ _ I7 (q ea ea0)) (fun f s8 h8=>?_) fun _ _ z=>z.elim
 cases f with
 | next =>
  obtain ⟨σ8,H8,I8,q8⟩:=h8;exact (I8.unhcx I.ok).goes hN hi hlo fun s9 I9=>⟨_,H8,I9,q8⟩
 | ret v =>
  obtain ⟨v8,σ8,H8,I8,r8,q8⟩:=h8;exact (I8.unhcx I.ok).goes hN hi hlo fun s9 I9=>⟨v8,_,H8,I9,r8,q8⟩
 | brk =>
  obtain ⟨σ8,H8,I8,q8⟩:=h8;exact (I8.unhcx I.ok).goes hN hi hlo fun s9 I9=>⟨_,H8,I9,q8⟩
 | cont =>
  obtain ⟨σ8,H8,I8,q8⟩:=h8;exact (I8.unhcx I.ok).goes hN hi hlo fun s9 I9=>⟨_,H8,I9,q8⟩
end
section
variable {X:Cx} {a b c d:Expr} {ta tb tc td:TE} {pos:Pos}
def pS (r r' r'':R2) (ta tb tc td:TE):TE:=fun σ H Q=>ta σ H fun x H1=>tb σ H1 fun y H2=>r x y H2 fun z H3=>∃ k,z=.bl k ∧
 (if k=true then tc σ H3 fun y' H4=>r' y y' H4 fun z' H5=>∃ k',z'=.bl k'∧(if k'=true then td σ H5 fun w' H6=>r'' y' w' H6 Q else Q (.bl false) H5) else Q (.bl false) H3)
theorem pe_chain3 {op op' op'':CmpOp} {r r' r'':R2} (ho:OpR X (compareOp op) r) (ho':OpR X (compareOp op') r') (ho'':OpR X (compareOp op'') r'') (ha:PE X a ta) (hb:PE X b tb) (hc:PE X c tc) (hd:PE X d td)
  (hm:lastMarks [op,op',op''] [b,c,d]=false:=by with_unfolding_all rfl):PE X (.Compare a [op,op',op''] [b,c,d] pos) (pS r r' r'' ta tb tc td):=by
 intro pins s σ H Q I h;refine Compare_chain (thn (ha pins s σ H _ I h) fun v s1 ⟨x,H1,I1,r1,q1⟩=>chain_link (thn (hb pins s1 σ H1 _ I1 q1) fun u s2 ⟨y,H2,I2,r2,q2⟩ =>
  thn (ho pins s2 σ H2 x y v u _ I2 r1 r2 q2) fun d' s3 ⟨z,H3,I3,r3,k,e,q3⟩=>?_)) hm
 subst e
 cases r3
 refine wpAny_truthy_bool ?_
 cases k with
 | false=>exact ite_ff ⟨.bl false,H3,I3,rfl,q3⟩
 | true =>
  refine ite_tt (chain_link (thn (hc pins s3 σ H3 _ I3 q3) fun w' s4 ⟨z',H4,I4,r4,q4⟩=>thn (ho' pins s4 σ H4 y z' u w' _ I4 r2 r4 q4) fun d2 s5 ⟨z2,H5,I5,r5,k2,e2,q5⟩=>?_));subst e2
  cases r5
  refine wpAny_truthy_bool ?_
  cases k2 with
  | false=>exact ite_ff ⟨.bl false,H5,I5,rfl,q5⟩
  | true=>exact ite_tt (chain_last (thn (hd pins s5 σ H5 _ I5 q5) fun w2 s6 ⟨z3,H6,I6,r6,q6⟩=>ho'' pins s6 σ H6 z' z3 w' w2 Q I6 r4 r6 q6))
end
def gF (D:List (Str×Int)):List (Str×KTD.Dat):=D.map fun p=>(p.1,.flat (.int p.2))
def ke (K:PySem.W.Frag) (a:Addr) (D:List (Str×Int)):Prop:=∀ h,K.In h→KTD.TextTab h a (gF D)
theorem oo {K:PySem.W.Frag} {a:Addr} {D:List (Str×Int)} (e:KTD.tabLook (KTD.datLooks fun b=>K.lookup b) (fun b=>K.lookup b) a (gF D)=true):ke K a D:=fun h X=>KTD.text_of_look (fun b o q=>X b o q) e
def bv (k:Str):List (Str×Int)→V
 | []=>.non
 | (x,i) :: D=>if k=x then .int i else bv k D
theorem io {k:Str}:∀ {D:List (Str×Int)} {d:KTD.Dat},KTD.datumAt k (gF D)=some d→∃ i,d=.flat (.int i)∧bv k D=.int i
 | [],_,h=>by simp [gF,KTD.datumAt] at h
 | (x,i) :: D,d,h=>by
  simp only [gF,List.map_cons,KTD.datumAt,decide_eq_true_eq] at h
  by_cases hk:k=x
  ·rw [if_pos hk] at h;exact ⟨i,(Option.some.inj h).symm,by simp [bv,hk]⟩
  ·rw [if_neg hk] at h;obtain ⟨j,e1,e2⟩:=io (D:=D) h;exact ⟨j,e1,by simp [bv,hk,e2]⟩
theorem ip {k:Str}:∀ {D:List (Str×Int)},KTD.datumAt k (gF D)=none→bv k D=.non
 | [],_=>rfl
 | (x,i) :: D,h=>by
  simp only [gF,List.map_cons,KTD.datumAt,decide_eq_true_eq] at h
  by_cases hk:k=x
  ·rw [if_pos hk] at h;cases h
  ·rw [if_neg hk] at h;simp [bv,hk,ip (D:=D) h]
section
variable {X:Cx}
def tu (D:List (Str×Int)) (t:TA):TE:=fun σ H Q=>t σ H fun vs H1=>∃ k,vs=[.str k]∧Q (bv k D) H1
theorem pe_kget {x:Str} {ad:Addr} {D:List (Str×Int)} {e:Expr} {t:TA} {p apos cpos:Pos} (hD:ke X.K ad D) (hg:Gl X x) (hm:X.mg x=some (.ref ad)) (ha:PA X [e] t) (hdb:(x == ("__debug__" : Str))=false:=by decide)
  (hbase:attributeBase (.Name x p) "get" X.env (eval (.Name x p) X.env)=eval (.Name x p) X.env:=by rfl)
  (hfew:((backTo cpos (starEach [e] X.env)).all (fun x=>!x.1) && (backToKw cpos (keywordEach [] X.env)).all (fun x=>x.1.isSome)
   && decide (([e]:List Expr).length+([]:List Keyword).length+(if ([]:List Keyword).isEmpty then 0 else 1) < 30))=true:=by rfl)
  (hline:(apos.endLine == cpos.line)=true:=by rfl) (hs:starEach [e] X.env=(false,eval e X.env) :: starEach [] X.env:=by rfl) :
  PE X (.Call (.Attribute (.Name x p) "get" apos) [e] [] cpos) (tu D t):=by
 intro pins s σ H Q I h;refine wpAny_Call_method_late hbase hfew hline rfl (bd I hg hm ?_ hdb);have T:∀ {s':Shared} {σ':St} {H':Hp} {pins':List (Addr×Obj)},Inv X pins' σ' H' s'→KTD.Here X.base s'.heap ad (gF D):=fun J=>⟨hD _ J.ok.mod.kin,J.bk⟩;refine ⟨"dict","dict.get",PySem.F.plainAttrs_dict,PySem.F.slot_dict_get,PySem.F.type_dict_get,(T I).typeIs,(T I).noDict,?_⟩;have hA:=ha cpos pins s σ H _ I h;rw [hs] at hA ⊢;refine Calls.callWith_builtin (by rfl) (Calls.evalArgs_plain ?_);refine thn hA fun us s2 ⟨vs,H2,I2,r2,k,e2,q2⟩=>?_;subst e2;obtain ⟨u,rfl,ru⟩:=dh r2;obtain ⟨tk,rfl⟩:=ru;refine call_meetsIn PySem.F.slot_dict_get (T I2).typeIs PySem.F.entry_dict_get (PySem.F.args_dict_get_2 _ _) (KTD.meets_get1 (h₀:=X.base) (D:=gF D)) ⟨T I2,fun dd v hdd hv=>?_,fun hn=>?_⟩
 ·obtain ⟨i,rfl,el⟩:=io hdd;have hv':Reads s2.heap v (.int i) []:=hv s2.heap;obtain ⟨t0,rfl⟩:∃ t0,v=.int i t0:=by cases hv';exact ⟨_,rfl⟩
  rw [el] at q2;exact ⟨.int i,H2,I2.tok _,⟨_,rfl⟩,q2⟩
 ·rw [ip hn] at q2;exact ⟨.non,H2,I2.tok _,rfl,q2⟩
end
theorem csR {X:Cx} {scope sc:Scope} {NL N N':List Str} {ρ:List Nat} (hsc:X.env.scope=sc) (hN:X.N=N) (h1:scope.kind=.function) (h2:(scope.names.all fun x=>x.2 != .cell)=true) (h3:∀ x∈scope.names,x.2=.local→scope.names.lookup x.1=some .local)
  (h4:(scope.names.all fun x=>x.2 != .free || sc.names.lookup x.1 == some .cell)=true) (h5:N'=NL++ρ.map fun j=>N.getD j "")
  (h6:(ρ.all fun j=>match N[j]? with | some x=>scope.names.lookup x == some .free && sc.names.lookup x == some .cell | none=>false)=true):CScope X scope NL ρ N':=by
 rw [List.all_eq_true] at h2 h4 h6;refine ⟨h1,fun x hx e=>?_,h3,fun x hx e=>.inl ?_,by rw [hN];exact h5,fun j hj=>?_⟩
 ·have:=h2 x hx;rw [e] at this;exact absurd this (by decide)
 ·have z:=h4 x hx;rw [e] at z;have z2:(sc.names.lookup x.1 == some NameKind.cell)=true:=by simpa using z
  show X.env.scope.names.lookup x.1=some .cell;rw [hsc];exact beq_iff_eq.mp z2
 ·have z:=h6 j hj
  cases q:N[j]? with
  | none=>rw [q] at z;cases z
  | some x =>
   rw [q] at z;simp only [Bool.and_eq_true,beq_iff_eq] at z;exact ⟨x,by rw [hN];exact q,z.1,.inl (by rw [hsc];exact z.2)⟩
theorem rO:bootBuiltins "ValueError" = some (.type "ValueError"):=by decide +kernel
structure RoomH (k:Nat) (A:Around):Prop where
 dp:A.depth+3*k+5 < recursionLimit
 un:A.units+16*k+200 < cLine
structure FnOkH (P:Program) (w:World) (K:PySem.W.Frag) (mg:Str→Option Value) (base:Heap) (k:Nat) (f:Addr) (fd:FuncData) (ps:List Str) (sp:Sp):Prop where
 len:∀ vs H Q E,sp vs H Q E→vs.length=ps.length
 run:∀ (A:Around) (outer:List Env) (s:Shared) (H:Hp) (args:Args) (us:List Value) (vs:List V) (Q:VK) (E:XK),RoomH k A→Env0 P w K mg base A outer s H→BindsTo s fd args (ps.zip us)→Vals vs us→sp vs H Q E →
  codeAny (model P w) A (.call (.ref f) args) (CR CX0 outer P w H s Q E) s
section
variable {X:Cx}
end
end L2
namespace HT
open PySem PySem.Spec PyProof.Rows
section
variable {prog:Program} {w:World} {A:Around} {E:Value→Shared→Prop} {s:Shared}
theorem cat_nil {t b:Addr} {ws:List Value} {Q:Value→Shared→Prop} (ht:IsTup s.heap t ([]:List Value).toArray) (hb:IsTup s.heap b ws.toArray) (h:Q (.ref b) s):wpAny (model prog w) A (binaryOp .Add (.ref t) (.ref b)) Q E s:=by
 obtain ⟨⟨cls,dd,data,sl⟩,ho,hc,n,hd⟩:=id ht;obtain ⟨⟨cls2,dd2,data2,sl2⟩,ho2,hc2,n2,hd2⟩:=id hb;simp only at hc hd hc2 hd2;subst hc hd hc2 hd2;exact concat_meets ⟨_,ho,rfl⟩ ⟨_,ho2,rfl⟩ noFill_tuple_add seq_tuple_add PySem.F.slot_tuple_add PySem.F.entry_tuple_add (PySem.F.args_tuple_add_2 _ _) (tuple_addW0 t b _ ws.toArray n n2 dd dd2 sl sl2 (by rfl)) ⟨ho,ho2,h⟩
theorem getItem_tuple_all {t sl:Addr} {items:Array Value} {vl vu:Value} {lo hi:Option Int} {Q:Value→Shared→Prop} (ht:IsTup s.heap t items) (hs:s.heap.IsSliceOf sl vl vu .none) (pl:IsPart vl lo) (pu:IsPart vu hi)
  (h1:sIx items.size 0 lo=0) (h2:sIx items.size items.size hi=items.size) (h:Q (.ref t) s):wpAny (model prog w) A (getItem (.ref t) (.ref sl)) Q E s:=by
 obtain ⟨os,hos,hcs,hds⟩:=id hs;have hTs:s.TypeIs (.ref sl) "slice" :=⟨os,hos,hcs⟩;unfold getItem
 try with_reducible refine wpAny_holding ?_
 first | refine wpAny_bind (wpAny_pure ?_) | skip
 refine wpAny_bind (wpAny_sequenceKey ht.typeIs (by decide) ?_);refine wpAny_bind (wpAny_callSpecial?_slot (name:=Str.ofString "__getitem__") ht.typeIs PyProof.Rows.slot_tuple_getitem (wpAny_call_entry PyProof.Rows.slot_tuple_getitem ht.typeIs entry_tuple_getitem ?_ (args_tuple_getitem _ _)));show wpAny _ _ (Builtin.Tuple.tupleItemsOf (.ref t) >>= _) _ _ s;refine wpAny_bind (tupleItemsOf_ ht ?_);refine wpAny_bind (wpAny_typeOf hTs ?_);rw [if_pos (by decide)];refine wpAny_bind (cf hs pl pu ?_);have hyes:(((sIx items.size 0 lo:Nat):Int) == 0 && (1:Int) == 1 && (sIx items.size items.size hi - sIx items.size 0 lo) == items.size)=true:=by
  rw [h1,h2];simp
 show wpAny _ _ (if (((sIx items.size 0 lo:Nat):Int) == 0 && (1:Int) == 1 && (sIx items.size items.size hi - sIx items.size 0 lo) == items.size)=true then _ else _) _ _ s;rw [if_pos hyes];refine wpAny_bind (m:=Builtin.Tuple.tupleIsExact _) (wpAny_bind (wpAny_typeOf ht.typeIs ?_));refine wpAny_pure ?_;rw [if_pos (by decide)];exact wpAny_bind (wpAny_rule (wpAny_pure ⟨_,rfl,wpAny_pure h⟩))
end
end HT
namespace L2
open PySem PySem.Spec PyProof.Rows
section
variable {X:Cx}
theorem IsD.unref {K:PySem.W.Frag} {H:Hp} {l:List Dt} {v:V} (h:IsD K H (.tup l) v):∃ a xs,v=.ref a∧SqT K H a xs∧IsDs K H l xs:=by
 cases h with
 | tup h r=>exact ⟨_,_,rfl,h,r⟩
def gG (l:List Dt) (lo hi:Option Int):List Dt:=(l.drop (HT.sIx l.length 0 lo)).take (HT.sIx l.length l.length hi - HT.sIx l.length 0 lo)
theorem m7:aW X (.builtin "len") (fun xs H Q=>∃ x l,xs=[x]∧IsD X.K H (.tup l) x∧Q (.int l.length) H):=by
 intro pins s σ H xs us Q I r h;obtain ⟨x,l,rfl,dx,q⟩:=h;obtain ⟨a,ys,rfl,hx,ra⟩:=dx.unref;exact dQ pins s σ H [.ref a] us Q I r ⟨a,ys,rfl,.inr hx,by rw [← ra.length];exact q⟩
end
end L2
namespace PySem
open Sem (wp)
section
variable {M:Model} {A:Around} {E:Value→Shared→Prop} {s:Shared}
def Heap.MadeB (base:Heap) (l:List Env) (e:Addr) (cls a0:Value) (h:Heap):Prop :=
 base.StaysIn h∧base.get? e=none∧h.FunFrames base l∧∃ oe vs,h.get? e=some oe∧oe.cls=cls∧oe.data=.fields vs∧vs[0]?=some a0∧vs[1]?=some .none
theorem lC {base:Heap} {env:Env} {outer:List Env} {L e:Addr} {cls a0:Value} {Q:Unit→Shared→Prop} (hfr:A.frames=some (env :: outer)) (hf:env.frame=some L) (hm:Heap.MadeB base (env :: outer) e cls a0 s.heap)
  (h:∀ h',Heap.FlyingW base outer e cls a0 h'→s.heap.UpToSlots h'→Q () { s with heap:=h' }):wpAny M A (leaving env (.ref e)) Q E s:=by
 obtain ⟨hkb,hen,hl,oe,vs,he,hc,hd,h0,h1⟩:=hm;subst hc;refine wpAny_leaving_firstW hfr hl hf he hkb hen hd h1 h0 fun h' hL=>?_;obtain ⟨k1,⟨_,_,k2⟩,k3,k4⟩:=hL;exact h h' ⟨k1,hen,k2,k3⟩ k4
end
end PySem
namespace L2
open PySem PySem.Spec PyProof.Rows
def oq (X:Cx) (E:XK):Value→Shared→Prop:=fun e s'=>∃ (ea C:Addr) (a0:Value) (B:Heap) (H':Hp),e=.ref ea ∧
 (Heap.FlyingW B (X.env :: X.outer) ea (.ref C) a0 s'.heap∨Heap.HeldW B (X.env :: X.outer) ea (.ref C) a0 X.env.locals s'.heap∨Heap.MadeB B (X.env :: X.outer) ea (.ref C) a0 s'.heap)∧s'.os=X.s₀.os∧AllBare s'.gens ∧
 Un (frs X.outer) [] X.H₀ H' X.s₀.heap s'.heap∧HOk X.prog X.w H' B∧(∀ b o,X.s₀.heap.get? b=some o→X.H₀ b=none→b∉frs X.outer→B.get? b=some o) ∧
 (∀ b o,X.s₀.heap.get? b=some o→b∉frs X.outer→∃ o',B.get? b=some o')∧E (.ref C) none H'
section
variable {X:Cx} {E:XK}
theorem pT {H':Hp} {B h h2:Heap} (frf:∀ b∈frs X.outer,X.H₀ b=none) (u:Un (frs X.outer) [] X.H₀ H' X.s₀.heap h) (F:h.FunFrames B (X.env :: X.outer)) (up:h.UpToSlots h2) (st:B.StaysIn h2)
  (c1:∀ b o,X.s₀.heap.get? b=some o→X.H₀ b=none→b∉frs X.outer→B.get? b=some o) (c2:∀ b o,X.s₀.heap.get? b=some o→b∉frs X.outer→∃ o',B.get? b=some o'):Un (frs X.outer) [] X.H₀ H' X.s₀.heap h2:=by
 refine dA u c1 c2 st fun b o e hb=>?_;obtain ⟨sl,e1⟩:=u.slot b o e (frf b hb) hb (by simp);have mem:b∈frs (X.env :: X.outer):=by
  obtain ⟨env,he,hf⟩:=List.mem_filterMap.mp hb;exact List.mem_filterMap.mpr ⟨env,List.mem_cons_of_mem _ he,hf⟩
 obtain ⟨o2,e2,nf⟩:=bK F mem;rw [e1] at e2;obtain rfl:=Option.some.inj e2;obtain ⟨sl2,e3⟩:=up b _ e1 nf;exact ⟨sl2,e3⟩
theorem kf {A:Around} (hA:A.frames=some (X.env :: X.outer)) (hfr:X.env.frame=some X.env.locals) (frf:∀ b∈frs X.outer,X.H₀ b=none) {e:Value} {s':Shared} (h:oq X E e s') :
  wpAny (model X.prog X.w) A (leaving X.env e) (fun _ s''=>CXE X.prog X.w X.outer X.H₀ X.s₀ E e s'') (fun e' s''=>CXE X.prog X.w X.outer X.H₀ X.s₀ E e' s'') s':=by
 obtain ⟨ea,C,a0,B,H',rfl,st,os,bare,un,hok,c1,c2,q⟩:=h;have fin:∀ {h':Heap},s'.heap.FunFrames B (X.env :: X.outer)→Heap.FlyingW B X.outer ea (.ref C) a0 h'→s'.heap.UpToSlots h'→CXE X.prog X.w X.outer X.H₀ X.s₀ E (.ref ea) { s' with heap:=h' }:=fun {h'} F fl up =>
  ⟨ea,C,a0,B,H',rfl,fl,os,bare,pT frf un F up fl.1 c1 c2,hok,c1,c2,q⟩
 rcases st with fl | hh | hm
 ·exact wpAny_leaves_onW hA hfr fl fun h' fl' up=>fin fl.2.2.1 fl' up
 ·unfold leaving;refine wpAny_bind (wpAny_noteFrame_againW hfr hh.2.2.2 ?_);refine wpAny_landsW hh fun h' hfl up=>?_;obtain ⟨k1,k2,⟨_,_,k3⟩,k4⟩:=hfl;exact fin hh.2.2.1 ⟨k1,k2,k3,k4⟩ up
 ·exact lC hA hfr hm fun h' fl' up=>fin hm.2.2.1 fl' up
variable {pins:List (Addr×Obj)} {σ:St} {H:Hp} {s:Shared}
theorem cu (hstk:X.stack=X.env :: X.outer) (hfr:X.env.frame=some X.env.locals) (hex:X.ex=[]):fW (CXE X.prog X.w) (X.wish (oq X E)) E:=by
 intro pins σ H s e s' I' h;have I:Inv X pins σ H s:=Inv.unwish I';obtain ⟨ea,C,a0,B,H',rfl,fl,os,bare,un,hok,c1,c2,q⟩:=h;have hstk':(X.wish (oq X E)).stack=X.env :: X.outer:=hstk;rw [hstk'] at fl un c1 c2;have inv:∀ b,b∈frs (X.env :: X.outer)→b=X.env.locals∨b∈frs X.outer:=fun b hb=>by
  obtain ⟨env,he,hf⟩:=List.mem_filterMap.mp hb;rcases List.mem_cons.mp he with rfl | he
  ·rw [hfr] at hf;exact .inl (Option.some.inj hf).symm
  ·exact .inr (List.mem_filterMap.mpr ⟨env,he,hf⟩)
 have mem:∀ b∈frs X.outer,b∈frs (X.env :: X.outer):=fun b hb=>by
  obtain ⟨env,he,hf⟩:=List.mem_filterMap.mp hb;exact List.mem_filterMap.mpr ⟨env,List.mem_cons_of_mem _ he,hf⟩
 have old:∀ b o,X.s₀.heap.get? b=some o→b∉frs X.outer→b∉frs (X.env :: X.outer):=fun b o e n z=>by
  rcases inv b z with rfl | z
  ·exact absurd (Nat.lt_of_lt_of_le (Heap.lt_size e) I.ok.above) (Nat.lt_irrefl _)
  ·exact n z
 have B0:Un X.fs [] X.H₀ H X.s₀.heap s.heap:=by have z:=I.base;rw [hex] at z;exact z
 have d1:∀ b o,X.s₀.heap.get? b=some o→X.H₀ b=none→b∉frs X.outer→B.get? b=some o:=fun b o e n hb=>c1 b o (B0.keep b o e n hb (by simp)) (B0.free b o e n (by simp)) (old b o e hb);have d2:∀ b o,X.s₀.heap.get? b=some o→b∉frs X.outer→∃ o',B.get? b=some o':=fun b o e hb=>by
  obtain ⟨o',e'⟩:=B0.there b o e (by simp);exact c2 b o' e' (old b o e hb)
 refine ⟨ea,C,a0,B,H',rfl,.inl fl,os.trans I.os,bare,?_,hok,d1,d2,q⟩;refine ⟨fun b o e n hb _=>?_,fun b o e n hb _=>?_,fun b o e n _=>?_,fun b o e _=>?_,fun b xs e=>un.tups b xs (B0.tups b xs e),fun b o u e=>un.frzs b o u (B0.frzs b o u e),fun b ps e=>?_⟩
 ·exact un.keep b o (B0.keep b o e n hb (by simp)) (B0.free b o e n (by simp)) (old b o e hb) (by simp)
 ·obtain ⟨sl,e1⟩:=B0.slot b o e n hb (by simp);obtain ⟨sl2,e2⟩:=un.slot b _ e1 (B0.free b o e n (by simp)) (mem b hb) (by simp);exact ⟨sl2,e2⟩
 ·obtain ⟨o',e'⟩:=B0.there b o e (by simp);exact un.free b o' e' (B0.free b o e n (by simp)) (by simp)
 ·obtain ⟨o',e'⟩:=B0.there b o e (by simp);exact un.there b o' e' (by simp)
 ·obtain ⟨m1,e1⟩:=B0.tbls b ps e;obtain ⟨m2,e2⟩:=un.tbls b _ e1;exact ⟨m1++m2,by rw [e2,Array.append_assoc]⟩
end
theorem PSs.wing {X:Cx} {E:XK} {st:List Stmt} {t:TS} (hstk:X.stack=X.env :: X.outer) (hfr:X.env.frame=some X.env.locals) (hxe:X.xe=fun e s'=>wpAny (model X.prog X.w) X.A (leaving X.env e) (fun _ s''=>CXE X.prog X.w X.outer X.H₀ X.s₀ E e s'') (fun e' s''=>CXE X.prog X.w X.outer X.H₀ X.s₀ E e' s'') s')
  (h:PSs (X.wish (oq X E)) st t):PSs X st t:=fun pins s σ H D I hw =>
 wpAny_mono (h pins s σ H D (I.wish _) hw) (fun _ _ q=>q.unwish) fun e s' z=>by
  rw [hxe];exact kf (by rw [I.ok.frames,hstk]) hfr I.ok.frf z
theorem Fun.okW {P:Program} {w:World} {K:PySem.W.Frag} {mg:Str→Option Value} {base:Heap} {x qual:Str} {st:Stmt} {f:Addr} {fd:FuncData} {N ps:List Str} {k:Nat} {sp:Sp} (F:Fun K x qual st f fd) (S:FnScope N ps (ae st)) (len:∀ vs H Q E,sp vs H Q E→vs.length=ps.length)
  (hbody:∀ (cdv:Value) (A:Around) (outer:List Env) (s:Shared) (H:Hp) (vs:List V) (Q:VK) (E:XK),Room k (A.deeper (envOfC qual (ae st) s.heap.objs.size f cdv))→sp vs H Q E →
   ∃ t,PSs ((eW (CXE P w) P w K mg base N qual (ae st) f cdv A outer s H E).wish (oq (eW (CXE P w) P w K mg base N qual (ae st) f cdv A outer s H E) E)) (bo st) t∧t { nx:=fun _ H'=>Q .non H',rt:=Q } (cK N vs) H):FnOk P w K mg base (CXE P w) (k+1) f fd ps sp:=by
 obtain ⟨oc,od,kV,doc,pm,an,cdv,ct,osl,rfl,lk,hcd⟩:=F.ex;refine ma lk hcd S len fun A outer s H vs Q E hr hsp=>?_;obtain ⟨t,h,q⟩:=hbody cdv A outer s H vs Q E hr hsp;exact ⟨t,PSs.wing rfl rfl rfl h,q⟩
section
variable {κ:Type} [DecidableEq κ]
def bn (kvs:List (κ×V)) (k:κ):Option V:=(kvs.find? fun kv=>decide (kv.1=k)).map (·.2)
def pU (kvs:List (κ×V)) (k:κ) (v:V):List (κ×V) :=
 if (kvs.any fun kv=>decide (kv.1=k))=true then kvs.map (fun kv=>if kv.1=k then (kv.1,v) else kv) else kvs++[(k,v)]
def uA (kvs:List (κ×V)) (k:κ):List (κ×V):=kvs.filter fun kv=>decide (kv.1≠k)
theorem kg {p:κ×V} {r:List (κ×V)} {k:κ} (e:p.1=k):bn (p :: r) k=some p.2:=by simp [bn,List.find?_cons,e]
theorem kh {p:κ×V} {r:List (κ×V)} {k:κ} (e:¬ p.1=k):bn (p :: r) k=bn r k:=by simp [bn,List.find?_cons,e]
theorem KV.val {kvs:List (κ×V)} {vs:List (κ×Value)} (r:KV kvs vs) (k:κ):RelO (bn kvs k) (valueAt vs k):=by
 unfold KV at r
 induction r with
 | nil=>exact True.intro
 | @cons p q ps qs h t ih =>
  obtain ⟨h1,h2⟩:=h
  by_cases e:p.1=k
  ·have e':q.1=k:=h1.symm.trans e;have b:valueAt (q :: qs) k=some q.2:=by simp [valueAt,List.find?_cons,e']
   rw [kg e,b];exact h2
  ·have e':¬ q.1=k:=fun z=>e (h1.trans z);have b:valueAt (q :: qs) k=valueAt qs k:=by simp [valueAt,List.find?_cons,e']
   rw [kh e,b];exact ih
theorem KV.keys {kvs:List (κ×V)} {vs:List (κ×Value)} (r:KV kvs vs):kvs.map (·.1)=vs.map (·.1):=by
 unfold KV at r
 induction r with
 | nil=>rfl
 | cons h t ih=>rw [List.map_cons,List.map_cons,ih,h.1]
theorem KV.length {kvs:List (κ×V)} {vs:List (κ×Value)} (r:KV kvs vs):kvs.length=vs.length:=Paired.length r
end
theorem ki {P:Program} {w:World} {k:Key} {u:Value} (r:RelV (kV k) u):(az P w).is k u=true:=by
 cases k with
 | inl i=>obtain ⟨t,e⟩:=(show ∃ t,u=Value.int i t from r);subst e;exact jK P w i t
 | inr x=>obtain ⟨t,e⟩:=(show ∃ t,u=Value.str x t from r);subst e;exact jL P w x t
theorem iq {P:Program} {w:World}:∀ {ks:List Key} {us:List Value},Vals (ks.map kV) us→ItemsAre (az P w) ks us
 | [],_,r=>by rw [List.map_nil] at r;cases r;exact .nil
 | k :: ks,_,r=>by
  rw [List.map_cons] at r
  cases r with
  | cons h t=>exact .cons (ki h) (iq t)
abbrev KT (H:Hp):List (List Key×V)→List (List Key×Addr×Value)→Prop:=Paired fun p q=>p.1=q.1∧H q.2.1=some (.tup (p.1.map kV))∧RelV p.2 q.2.2
theorem KT.val {H:Hp} {kvs:List (List Key×V)} {xs:List (List Key×Addr×Value)} (r:KT H kvs xs) (k:List Key):RelO (bn kvs k) ((atKey xs k).map (·.2)):=by
 induction r with
 | nil=>exact True.intro
 | @cons p q ps qs h t ih =>
  obtain ⟨h1,_,h2⟩:=h
  by_cases e:p.1=k
  ·have e':q.1=k:=h1.symm.trans e;have b:atKey (q :: qs) k=some q.2:=by simp [atKey,List.find?_cons,e']
   rw [kg e,b];exact h2
  ·have e':¬ q.1=k:=fun z=>e (h1.trans z);have b:atKey (q :: qs) k=atKey qs k:=by simp [atKey,List.find?_cons,e']
   rw [kh e,b];exact ih
section
variable {P:Program} {w:World} {H:Hp} {h:Heap} {a:Addr}
theorem qO {u:HO} (ok:HOk P w H h) (e:Rd H a u):ObjOk P w H h a u:=e.ok ok
theorem qP {kvs:List (Key×V)} (ok:HOk P w H h) (e:Rd H a (.dK kvs)):kvs.length≤sizeLine∧(a == sysModules)=false∧∃ vs,KV kvs vs∧h.DictOf (az P w) a vs :=
 show ObjOk P w H h a (.dK kvs) from qO ok e
theorem or {ks:List Key} (ok:HOk P w H h) (e:H a=some (.tup (ks.map kV))):(tupleKind (az P w)).is h ks a:=by
 obtain ⟨_,its,r,o,h1,h2,n,h3⟩:=(show ObjOk P w H h a (.tup (ks.map kV)) from ok a _ e);exact ⟨o,its.toArray,n,h1,h2,h3,by simpa using iq r⟩
theorem qQ {kvs:List (List Key×V)} (ok:HOk P w H h) (e:Rd H a (.dT kvs)):kvs.length≤sizeLine∧(a == sysModules)=false ∧
  ∃ xs,KT H kvs xs∧h.DictOfH (tupleKind (az P w)) a xs:=by
 obtain ⟨z,y,xs,r,o,es,ep,h1,h2,h3,h4,h5⟩:=(show ObjOk P w H h a (.dT kvs) from qO ok e);refine ⟨z,y,xs,r,o,es,ep,h1,h2,h3,h4,fun x hx=>?_,h5⟩;have all:∀ {l:List (List Key×V)} {m:List (List Key×Addr×Value)},KT H l m→∀ x∈m,(tupleKind (az P w)).is h x.1 x.2.1:=by
  intro l m q
  induction q with
  | nil=>intro x hx;exact nomatch hx
  | @cons p q ps qs hq t ih =>
   intro x hx;rcases List.mem_cons.mp hx with e | hx
   ·subst e;exact or ok (by rw [← hq.1];exact hq.2.1)
   ·exact ih x hx
 exact all r x hx
end
def DGet (H:Hp) (a:Addr) (y:V) (r:Option V):Prop :=
 (∃ kvs k,Rd H a (.dK kvs)∧y=kV k∧r=bn kvs k)∨∃ kvs k b,Rd H a (.dT kvs)∧y=.ref b∧H b=some (.tup (k.map kV))∧r=bn kvs k
def DPut (H:Hp) (a:Addr) (y v:V) (H':Hp):Prop :=
 (∃ kvs k,H a=some (.dK kvs)∧y=kV k∧kvs.length < sizeLine∧H'=upd H a (.dK (pU kvs k v))) ∨
 ∃ kvs k b,H a=some (.dT kvs)∧y=.ref b∧H b=some (.tup (k.map kV))∧kvs.length < sizeLine∧H'=upd H a (.dT (pU kvs k v))
theorem DGet.k {H:Hp} {a:Addr} {kvs:List (Key×V)} {k:Key} (e:H a=some (.dK kvs)):DGet H a (kV k) (bn kvs k):=.inl ⟨kvs,k,.inl e,rfl,rfl⟩
theorem DGet.t {H:Hp} {a b:Addr} {kvs:List (List Key×V)} {k:List Key} (e:H a=some (.dT kvs)) (eb:H b=some (.tup (k.map kV))):DGet H a (.ref b) (bn kvs k):=.inr ⟨kvs,k,b,.inl e,rfl,eb,rfl⟩
theorem DPut.k {H:Hp} {a:Addr} {kvs:List (Key×V)} {k:Key} {v:V} (e:H a=some (.dK kvs)) (hl:kvs.length < sizeLine):DPut H a (kV k) v (upd H a (.dK (pU kvs k v))):=.inl ⟨kvs,k,e,rfl,hl,rfl⟩
theorem DPut.t {H:Hp} {a b:Addr} {kvs:List (List Key×V)} {k:List Key} {v:V} (e:H a=some (.dT kvs)) (eb:H b=some (.tup (k.map kV))) (hl:kvs.length < sizeLine) :
  DPut H a (.ref b) v (upd H a (.dT (pU kvs k v))):=.inr ⟨kvs,k,b,e,rfl,eb,hl,rfl⟩
section
variable {X:Cx} {pins:List (Addr×Obj)} {σ:St} {H:Hp} {s:Shared} {a:Addr} {y v:V} {u r:Value} {o:Option V} {A:Around} {E:Value→Shared→Prop}
theorem Inv.big (I:Inv X pins σ H s):sysModules < s.heap.objs.size:=by
 have h:mainGlobals < s.heap.objs.size:=(I.mod.glob.keeps I.bk).lt;exact Nat.lt_trans (by decide) h
theorem m8 {Q:Value→Shared→Prop} (hu:A.units+1 < cLine) (I:Inv X pins σ H s) (g:DGet H a y (some v)) (ry:RelV y u) (h:∀ w' s',Inv X pins σ H s'→RelV v w'→Q w' s') :
  wpAny (model X.prog X.w) A (getItem (.ref a) u) Q E s:=by
 rcases g with ⟨kvs,k,e,ey,l⟩ | ⟨kvs,k,b,e,ey,eb,l⟩
 ·subst ey;obtain ⟨z,hd,vs,rel,dd⟩:=qP I.hok e;obtain ⟨w',hw,rw'⟩:=RelO.some_of (v:=v) (o:=valueAt vs k) (by rw [l];exact rel.val k);exact wpAny_getItem_of (ki ry) dd.mapOf hw (h w' _ (I.tok _) rw')
 ·subst ey
  cases (show u=Value.ref b from ry)
  obtain ⟨z,hd,xs,rel,dd⟩:=qQ I.hok e;obtain ⟨w',hw,rw'⟩:=RelO.some_of (v:=v) (o:=(atKey xs k).map (·.2)) (by rw [l];exact rel.val k);obtain ⟨p,hp,hp2⟩:=Option.map_eq_some_iff.mp hw;refine wpAny_getItem_heap (tupleKind_room_in1 hu) (or I.hok eb) dd hp ?_;rw [hp2];exact h w' _ (I.tok _) rw'
theorem ou {P:Program} {w:World} {H':Hp} {h':Heap} {kvs:List (Key×V)} {vs:List (Key×Value)} (z:kvs.length≤sizeLine) (hd:(a == sysModules)=false) (rel:KV kvs vs) (dd:h'.DictOf (az P w) a vs) :
  ObjOk P w H' h' a (.dK kvs):=⟨z,hd,vs,rel,dd⟩
end
section
variable {X:Cx} {pins:List (Addr×Obj)} {σ:St} {H:Hp} {s:Shared} {a:Addr} {kvs:List (Key×V)} {k:Key} {u:Value} {A:Around} {E:Value→Shared→Prop}
end
def tw (i:Expr):Prop:=∀ ov iv,subscripted i false ov iv=operate [ov,iv] (getItem ov iv)
theorem pV {prog:Program} {w:World} {A:Around} {E:Value→Shared→Prop} {s:Shared} {env:Env} {value slice:Expr} {pos:Pos} {T id:String} {Q:Value→Shared→Prop}
  (hl:typeLookup (.type T) "__getitem__" = pure (some (.builtin id))) (hs:tw slice)
  (h:wpAny (model prog w) A (eval value env) (fun o s₁=>wpAny (model prog w) A (eval slice env) (fun i s₂=>s₂.TypeIs o T∧wpAny (model prog w) A (getItem o i) Q E s₂) E s₁) E s) :
  wpAny (model prog w) A (eval (.Subscript value slice pos) env) Q E s:=by
 refine Subscript_ (wpAny_mono h (fun o s₁ h₁=>wpAny_mono h₁ (fun i s₂ h₂=>?_) fun _ _ x=>x) fun _ _ x=>x);obtain ⟨hT,h₂⟩:=h₂;unfold subscriptTail;refine wpAny_bind ?_;rw [getitemInPython_of_ne hT.not_modules];refine wpAny_bind (wpAny_specialOf hT hl ?_);have fin:wpAny (model prog w) A (subscripted slice false o i) (fun r s₃=>wpAny (model prog w) A (letTemporaryGo value o r >>= fun _=>pure r) Q E s₃) E s₂:=by
  rw [hs o i];exact wpAny_operating (wpAny_mono h₂ (fun r s₃ h₃=>wpAny_bind (wpAny_letTemporaryGo (wpAny_pure h₃))) fun _ _ x=>x)
 first
  | exact wpAny_pure (wpAny_bind fin)
  | exact wpAny_bind (wpAny_pure (wpAny_bind fin))
  | exact wpAny_bind fin
theorem kj {X:Cx} {pins:List (Addr×Obj)} {σ:St} {H:Hp} {s:Shared} {a:Addr} {y:V} {o:Option V} (I:Inv X pins σ H s) (g:DGet H a y o):s.TypeIs (.ref a) "dict" :=by
 rcases g with ⟨kvs,k,e,_,_⟩ | ⟨kvs,k,b,e,_,_,_⟩
 ·obtain ⟨_,_,vs,_,dd⟩:=qP I.hok e;exact dd.typeIs
 ·obtain ⟨_,_,xs,_,dd⟩:=qQ I.hok e;exact dd.typeIs
def tz (td ty:TE):TE:=fun σ H Q=>td σ H fun x H1=>ty σ H1 fun y H2=>∃ a v,x=.ref a∧DGet H2 a y (some v)∧Q v H2
section
variable {X:Cx} {o i e value:Expr} {pos pos' tpos:Pos} {td ty tv:TE}
theorem fu (hu:X.A.units+1 < cLine) (ho:PE X o td) (hi:PE X i ty) (hs:tw i):PE X (.Subscript o i pos) (tz td ty):=by
 intro pins s σ H Q I h;refine pV PySem.F.slot_dict_getitem.lookup hs (thn (ho pins s σ H _ I h) fun u s1 ⟨x,H1,I1,rx,q1⟩=>thn (hi pins s1 σ H1 _ I1 q1) fun iv s2 ⟨y,H2,I2,ry,a,v,ex,g,q2⟩=>?_);subst ex;obtain rfl:u=Value.ref a:=rx;exact ⟨kj I2 g,m8 hu I2 g ry fun w' s3 I3 rw'=>⟨v,H2,I3,rw',q2⟩⟩
end
section
variable {X:Cx} {pos:Pos}
end
structure M2 (X:Cx) (o:Expr) (m:Str) (apos:Pos) (e f:Expr) (cpos:Pos):Prop where
 base:attributeBase o m X.env (eval o X.env)=eval o X.env
 few:((backTo cpos (starEach [e,f] X.env)).all (fun x=>!x.1) && (backToKw cpos (keywordEach [] X.env)).all (fun x=>x.1.isSome)
  && decide (([e,f]:List Expr).length+([]:List Keyword).length+(if ([]:List Keyword).isEmpty then 0 else 1) < 30))=true
 line:(apos.endLine == cpos.line)=true
 trees:backTo cpos (starEach [e,f] X.env)=[(false,eval e X.env),(false,eval f X.env)]
section
variable {X:Cx} {pins:List (Addr×Obj)} {σ:St} {H:Hp} {s:Shared} {a:Addr} {y d:V} {u r:Value} {o:Option V} {A:Around} {E:Value→Shared→Prop}
end
section
variable {X:Cx} {o e f:Expr} {apos cpos:Pos} {td ty tx:TE}
end
section
variable {X:Cx} {pins:List (Addr×Obj)} {σ:St} {H:Hp} {s:Shared} {a:Addr} {kvs:List (Key×V)} {A:Around} {E:Value→Shared→Prop}
end
section
variable {X:Cx} {pins:List (Addr×Obj)} {σ:St} {H:Hp} {s:Shared} {a:Addr} {y:V} {u:Value} {A:Around} {E:Value→Shared→Prop}
end
end L2
namespace PySem
open Sem (wp)
namespace F
theorem entry_dict_update_loop:entryFor table "dict.update.loop" = some Builtin.«dict.update.loop»:=entryFor_of_tree (by kernel_rfl)
theorem plain_dict_update_loop:plainId "dict.update.loop" = true:=by decide +kernel
theorem miss_keys_tuple:typeLookup (.type "tuple") "keys" = pure none:=by rw [typeLookup_type,builtinLookup_eq_fast];kernel_rfl
end F
theorem eZ {prog:Program} {w:World} {A:Around} {E:Value→Shared→Prop} {s:Shared} {a:Addr} {o:Obj} {xs:Array Value} {k:Nat} {Q:Option Value→Shared→Prop}
  (hx:s.heap.get? a=some o) (hc:o.cls=.type "tuple") (hdat:o.data=.seq xs k) (hd:o.dict=none) (hA:A.handled=none)
  (h:∀ h' tk e,Heap.NewExcOf s.heap h' e "AttributeError" →Q none { s with heap:=h',toks:=tk }) :
  wpAny (model prog w) A (getAttr? (.ref a) "keys") Q E s:=by
 obtain ⟨c,dct,dat,sl⟩:=o;simp only at hc hdat hd;subst hc hdat hd;obtain ⟨hp,g,d,tk,os⟩:=s;have hT:∀ tk',(⟨hp,g,d,tk',os⟩:Shared).TypeIs (.ref a) "tuple" :=fun _=>⟨_,hx,rfl⟩;have f1:=sub_AttributeError;have f3:=F.slot_tuple_getattribute.lookup;have f4:=F.slot_tuple_getattribute.bind (.ref a);have f5:=am_tuple_getattr_none;unfold getAttr? getAttrBy? getAttrBy
 repeat (any_goals (first | assumption | exact hT _ | ((with_reducible show wpAny _ _ (call (Value.builtin "tuple.__getattribute__") _ _) _ _ _);refine call_meets F.slot_tuple_getattribute (hT _) am_entry_tuple_getattribute (F.args_tuple_getattribute_2 _ _) (meets_getattribute_miss_tuple a xs k sl "keys" _ F.miss_keys_tuple (by decide)) ⟨hx,hA,fun h' tk' e hx'=>?_⟩) | wp_step))
 obtain ⟨t',u',he⟩:=hx'.there;show wpAny _ _ (getattributeRaised _ _ _ _ _ _ _) _ _ _;unfold getattributeRaised
 repeat (any_goals (first | assumption | wp_step))
 all_goals exact h _ _ _ hx'.of
end PySem
namespace PySem
open Sem (wp)
section
variable {prog:Program} {w:World} {K:Type} [DecidableEq K] {knd:KeyKind prog w K} {A:Around} {E:Value→Shared→Prop}
def Heap.PairItems (h:Heap) (knd:KeyKind prog w K) (items:Array Value) (kvs:List (K×Value)):Prop :=
 items.size=kvs.length∧∀ (i:Nat) (kv:K×Value),kvs[i]?=some kv→∃ (a:Addr) (key:Value),items[i]?=some (.ref a)∧h.IsTuple a #[key,kv.2]∧knd.is kv.1 key=true
theorem Heap.PairItems.stay {h h':Heap} {items:Array Value} {kvs:List (K×Value)} (x:h.PairItems knd items kvs) (k:∀ (i:Nat) (a:Addr) (o:Obj),items[i]?=some (.ref a)→h.get? a=some o→h'.get? a=some o):h'.PairItems knd items kvs :=
 ⟨x.1,fun i kv e=>by
  obtain ⟨a,key,e1,⟨o,e2,r⟩,e3⟩:=x.2 i kv e;exact ⟨a,key,e1,⟨o,k i a o e1 e2,r⟩,e3⟩⟩
theorem dS {t it d:Addr} {items:Array Value} {kvs:List (K×Value)} {R:Result→Shared→Prop} (hh:A.handled=none) (hdt:t≠d) (hit:t≠it) (hdi:d≠it) (hav:∀ (i:Nat) (a:Addr),items[i]?=some (.ref a)→a≠d∧a≠it) (hsz:kvs.length+kvs.length≤sizeLine) :
  ∀ (n i:Nat) (s:Shared) (acc:List (K×Value)),kvs.length - i=n→i≤kvs.length→acc.length≤i→s.heap.IsTuple t items→s.heap.PairItems knd items kvs→s.heap.IsTupleIter it t i→s.heap.DictOf knd d acc →
   (∀ h' tk,h'.DictOf knd d (merged acc (kvs.drop i))→(∀ b o,b≠d→b≠it→s.heap.get? b=some o→h'.get? b=some o)→R (.ok (.ret .none)) { s with heap:=h',toks:=tk }) →
   codeAny (model prog w) A (.builtin "dict.update.loop" ⟨[.ref d,.ref it,rawInt i,.none],[]⟩) R s:=by
 intro n
 induction n with
 | zero =>
  intro i s acc hn hi ha ht hp hs hd hR;have e:i=kvs.length:=by lia
  refine codeAny_builtin F.entry_dict_update_loop ?_;rw [Around.under_plainId F.plain_dict_update_loop _];show wpAny _ A.in1 (pyNext (.ref it) >>= _) _ _ s;refine wpAny_bind (wpAny_pyNext_tuple_end (by first | exact hh | simpa using hh) hs ht (by rw [e,← hp.1];simp) fun h' eb=>?_);show wpAny _ _ (Builtin.Dict.addKeywords d [] >>= _) _ _ _;have hd':h'.DictOf knd d acc:=by
   obtain ⟨o,es,ep,ho,r⟩:=hd;exact ⟨o,es,ep,eb d o hdi ho,r⟩
  have q:=hR h' s.toks (by rw [e,List.drop_length];exact hd') fun b o _ hb z=>eb b o hb z;exact wpAny_bind (wpAny_pure (wpAny_pure q))
 | succ n ih =>
  intro i s acc hn hi ha ht hp hs hd hR;have hlt:i < kvs.length:=by lia
  obtain ⟨kv,hkv⟩:∃ kv,kvs[i]?=some kv:=⟨_,List.getElem?_eq_getElem hlt⟩;obtain ⟨a,key,hx,hpair,hkey⟩:=hp.2 i kv hkv;refine codeAny_builtin F.entry_dict_update_loop ?_;rw [Around.under_plainId F.plain_dict_update_loop _];show wpAny _ A.in1 (pyNext (.ref it) >>= _) _ _ s;refine wpAny_bind (wpAny_pyNext_tuple_item hs ht hx fun h1 hs1 sb=>?_);obtain ⟨av1,av2⟩:=hav i a hx;have keep1:∀ b o,b≠it→s.heap.get? b=some o→h1.get? b=some o:=fun b o hb z=>(sb.2 b hb).trans z;obtain ⟨po,pe,pc,pn,pd⟩:=hpair;have pe1:=keep1 a po av2 pe;have hd1:h1.DictOf knd d acc:=by
   obtain ⟨o,es,ep,ho,r⟩:=hd;exact ⟨o,es,ep,keep1 d o hdi ho,r⟩
  refine wpAny_bind (wpAny_holding ?_);refine wpAny_bind (wpAny_tryCatch ?_);unfold Builtin.Dict.pairItems;refine wpAny_bind (wpAny_typeOf (T:= "tuple") ⟨_,pe1,pc⟩ ?_);rw [if_pos (by decide)];refine wpAny_bind (wpAny_seqItems pe1 pd ?_);refine wpAny_pure ?_;show wpAny _ _ (holding [key,kv.2] (dictSet d key kv.2)) _ _ _;refine wpAny_holding (wpAny_dictSet_pairs (s:={ s with heap:=h1 }) hkey hd1 (fun h2 hd2 sb2=>?_) (by lia));refine wpAny_pure ⟨plainId_quiet F.plain_dict_update_loop _,?_⟩;have keep2:∀ b o,b≠d→b≠it→s.heap.get? b=some o→h2.get? b=some o:=fun b o hb hb' z=>(sb2.2 b hb).trans (keep1 b o hb' z);have hlen:(stored acc kv.1 kv.2).length≤i+1:=by have:=stored_length_le acc kv.1 kv.2;lia
  have ht2:h2.IsTuple t items:=by
   obtain ⟨o,ho,r⟩:=ht;exact ⟨o,keep2 t o hdt hit ho,r⟩
  have hs2:h2.IsTupleIter it t (i+1):=by
   obtain ⟨o,ho,r⟩:=hs1;exact ⟨o,(sb2.2 it (Ne.symm hdi)).trans ho,r⟩
  have e:rawInt ((i:Int)+1)=rawInt ((i+1:Nat):Int):=by rw [Int.natCast_add];rfl
  show codeAny _ _ (.builtin "dict.update.loop" ⟨[.ref d,.ref it,rawInt ((i:Int)+1),.none],[]⟩) _ _;rw [e];refine ih (i+1) { s with heap:=h2,toks:=s.toks+1 } (stored acc kv.1 kv.2) (by lia) hlt hlen ht2 (hp.stay fun j b o z z2=>keep2 b o (hav j b z).1 (hav j b z).2 z2) hs2 hd2 fun h' tk hd' k'=>?_;have q:=hR h' tk (by
   have z:kvs.drop i=kv :: kvs.drop (i+1):=by
    rw [List.drop_eq_getElem_cons hlt];rw [List.getElem?_eq_getElem hlt] at hkv;rw [Option.some.inj hkv]
   rw [z];exact hd') fun b o hb hb' z=>k' b o hb hb' (keep2 b o hb hb' z)
  exact q
theorem fc {s:Shared} {t:Addr} {o:Obj} {items:Array Value} {n:Nat} {kvs:List (K×Value)} {Q:Value→Shared→Prop} (hh:A.handled=none) (ho:s.heap.get? t=some o) (hc:o.cls=.type "tuple") (hdat:o.data=.seq items n) (hd:o.dict=none)
  (hp:s.heap.PairItems knd items kvs) (hsz:kvs.length+kvs.length≤sizeLine)
  (h:∀ h' tk,h'.DictOf knd s.heap.objs.size (merged [] kvs)→(∀ b o,s.heap.get? b=some o→h'.get? b=some o)→Q (.ref s.heap.objs.size) { s with heap:=h',toks:=tk }) :
  wpAny (model prog w) A (call (.type "dict") [.ref t]) Q E s:=by
 refine callType_codes (Q₁:=fun obj s₁=>obj=.ref s.heap.objs.size∧s₁={ s with heap:=s.heap.push { cls:=.type "dict",data:=.dict #[] } }) F.kt_called_dict (F.kt_typeCall_dict_1 _) F.entry_dict_init (kt_code_dict_new _ ⟨rfl,rfl⟩) ?_;rintro obj s₁ ⟨rfl,rfl⟩;have hnew:(s.heap.push { cls:=.type "dict",data:=.dict #[] }).DictOf knd s.heap.objs.size []:=Heap.DictOf.new s.heap;have ho1:(s.heap.push { cls:=.type "dict",data:=.dict #[] }).get? t=some o:=Heap.get?_push_of_some _ ho;have htl:t < s.heap.objs.size:=Heap.lt_size ho;refine ⟨hnew.typeIs,F.args_dict_init_2 _ _,?_⟩;unfold Builtin.«dict.__init__»;refine wpAny_bind ?_;unfold Builtin.Dict.selfAndRest;refine wpAny_bind (wpAny_notOrdered_dict hnew.typeIs ?_);show wpAny _ _ (pure (s.heap.objs.size,[Value.ref t])) _ _ _;refine wpAny_pure ?_;show wpAny _ _ (Builtin.Dict.updateFrom "dict.__init__" s.heap.objs.size (.ref t) [] .none) _ _ _;unfold Builtin.Dict.updateFrom;refine wpAny_bind (wpAny_typeOf (T:= "tuple") ⟨_,ho1,hc⟩ ?_);rw [if_pos (by decide)];refine wpAny_bind (eZ ho1 hc hdat hd (by first | exact hh | simpa using hh) fun h1 tk1 e hx=>?_);rw [if_pos (by rfl)];refine wpAny_bind (wpAny_rule ?_);have kp1:∀ b o,(s.heap.push { cls:=.type "dict",data:=.dict #[] }).get? b=some o→h1.get? b=some o:=fun b o z=>hx.keeps b o z;have ht1:h1.IsTuple t items:=⟨o,kp1 t o ho1,hc,n,hdat⟩;refine wpAny_bind (wpAny_pyIter_tuple ht1 ?_);have hit:s.heap.objs.size < h1.objs.size:=by
  obtain ⟨o2,es,ep,ho2,_⟩:=hnew;exact Heap.lt_size (kp1 _ _ ho2)
 have kp0:∀ b o,s.heap.get? b=some o→h1.get? b=some o:=fun b o z=>kp1 b o (Heap.get?_push_of_some _ z);refine wpAny_pure ⟨plainId_quiet F.plain_dict_update_loop _,?_⟩;refine dS (knd:=knd) (t:=t) (items:=items) (kvs:=kvs) (by first | exact hh | simpa using hh) (Nat.ne_of_lt htl) (Nat.ne_of_lt (Nat.lt_trans htl hit)) (Nat.ne_of_lt hit) (fun i a z=>?_) hsz kvs.length 0 _ [] (by lia) (Nat.zero_le _) (Nat.le_refl _)
  ⟨o,Heap.get?_push_of_some _ (kp1 t o ho1),hc,n,hdat⟩ (hp.stay fun i a o2 _ z=>Heap.get?_push_of_some _ (kp0 a o2 z)) ⟨_,Heap.get?_push_size _ rfl,rfl,rfl⟩ ?_ fun h' tk hd' k'=>⟨rfl,?_⟩
 ·have hi:i < kvs.length:=by
   rw [← hp.1];exact (Array.getElem?_eq_some_iff.mp z).1
  obtain ⟨b,key,e1,⟨ob,e2,_⟩,_⟩:=hp.2 i _ (List.getElem?_eq_getElem hi);rw [z] at e1;have e3:a=b:=by injection (Option.some.inj e1)
  subst e3;have:=Heap.lt_size e2;exact ⟨Nat.ne_of_lt this,Nat.ne_of_lt (Nat.lt_trans this hit)⟩
 ·obtain ⟨o2,es,ep,ho2,r⟩:=hnew;exact ⟨o2,es,ep,Heap.get?_push_of_some _ (kp1 _ _ ho2),r⟩
 ·refine h h' tk hd' fun b ob z=>k' b ob (Nat.ne_of_lt (Heap.lt_size z)) (Nat.ne_of_lt (Nat.lt_trans (Heap.lt_size z) hit)) (Heap.get?_push_of_some _ (kp0 b ob z))
end
end PySem
namespace L2
open PySem PySem.Spec PyProof.Rows
def Pl (H:Hp) (a:Addr):Prop:=∃ o u,H a=some (.frz o u)∧o.dict=none
mutual
inductive IsP (K:PySem.W.Frag) (H:Hp):Dt→V→Prop
 | non:IsP K H .non .non
 | bl {b}:IsP K H (.bl b) (.bl b)
 | int {i}:IsP K H (.int i) (.int i)
 | str {z}:IsP K H (.str z) (.str z)
 | tup {l:List Dt} {a:Addr} {xs:List V}:SqT K H a xs→Pl H a→IsPs K H l xs→IsP K H (.tup l) (.ref a)
inductive IsPs (K:PySem.W.Frag) (H:Hp):List Dt→List V→Prop
 | nil:IsPs K H [] []
 | cons {d:Dt} {l:List Dt} {x:V} {xs:List V}:IsP K H d x→IsPs K H l xs→IsPs K H (d :: l) (x :: xs)
end
section
variable {K:PySem.W.Frag} {H H':Hp}
mutual
theorem IsP.d:∀ {d:Dt} {v:V},IsP K H d v→IsD K H d v
 | _,_,.non=>.non
 | _,_,.bl=>.bl
 | _,_,.int=>.int
 | _,_,.str=>.str
 | _,_,.tup h _ r=>.tup h (IsPs.d r)
theorem IsPs.d:∀ {l:List Dt} {xs:List V},IsPs K H l xs→IsDs K H l xs
 | _,_,.nil=>.nil
 | _,_,.cons h r=>.cons (IsP.d h) (IsPs.d r)
end
theorem Pl.same {a:Addr} (g:Same H H') (h:Pl H a):Pl H' a:=by
 obtain ⟨o,u,e,d⟩:=h;exact ⟨o,u,g _ _ e,d⟩
theorem Pl.but {a r:Addr} {ys:List V} (hr:H r=some (.lst ys)) (g:But r H H') (h:Pl H a):Pl H' a:=by
 obtain ⟨o,u,e,d⟩:=h;exact ⟨o,u,g _ _ (l5 e hr (by intro z;cases z)) e,d⟩
mutual
theorem IsP.same (g:Same H H'):∀ {d:Dt} {v:V},IsP K H d v→IsP K H' d v
 | _,_,.non=>.non
 | _,_,.bl=>.bl
 | _,_,.int=>.int
 | _,_,.str=>.str
 | _,_,.tup h p r=>.tup (g.tup h) (p.same g) (IsPs.same g r)
theorem IsPs.same (g:Same H H'):∀ {l:List Dt} {xs:List V},IsPs K H l xs→IsPs K H' l xs
 | _,_,.nil=>.nil
 | _,_,.cons h r=>.cons (IsP.same g h) (IsPs.same g r)
end
mutual
theorem IsP.but {r:Addr} {ys:List V} (hr:H r=some (.lst ys)) (g:But r H H'):∀ {d:Dt} {v:V},IsP K H d v→IsP K H' d v
 | _,_,.non=>.non
 | _,_,.bl=>.bl
 | _,_,.int=>.int
 | _,_,.str=>.str
 | _,_,.tup h p q=>.tup (by
   rcases oi hr h with n | n
   ·exact g.tup n h
   ·exact n _) (p.but hr g) (IsPs.but hr g q)
theorem IsPs.but {r:Addr} {ys:List V} (hr:H r=some (.lst ys)) (g:But r H H'):∀ {l:List Dt} {xs:List V},IsPs K H l xs→IsPs K H' l xs
 | _,_,.nil=>.nil
 | _,_,.cons h q=>.cons (IsP.but hr g h) (IsPs.but hr g q)
end
theorem IsPs.length {l:List Dt} {xs:List V} (h:IsPs K H l xs):l.length=xs.length:=h.d.length
theorem IsPs.get {l:List Dt} {xs:List V} (h:IsPs K H l xs) {i:Nat} {d:Dt} (e:l[i]?=some d):∃ x,xs[i]?=some x∧IsP K H d x:=by
 induction l generalizing xs i with
 | nil=>simp at e
 | cons c l ih =>
  cases h with
  | cons h r =>
   cases i with
   | zero=>simp at e;subst e;exact ⟨_,rfl,h⟩
   | succ i=>exact ih r (by simpa using e)
theorem IsPs.get' {l:List Dt} {xs:List V} (h:IsPs K H l xs) {i:Nat} {x:V} (e:xs[i]?=some x):∃ d,l[i]?=some d∧IsP K H d x:=by
 induction l generalizing xs i with
 | nil=>cases h;simp at e
 | cons c l ih =>
  cases h with
  | cons h r =>
   cases i with
   | zero=>simp at e;subst e;exact ⟨_,rfl,h⟩
   | succ i=>exact ih r (by simpa using e)
theorem IsPs.append {l m:List Dt} {xs ys:List V} (h:IsPs K H l xs) (h':IsPs K H m ys):IsPs K H (l++m) (xs++ys):=by
 induction l generalizing xs with
 | nil=>cases h;exact h'
 | cons d l ih=>cases h with | cons h r=>exact .cons h (ih r)
theorem IsPs.drop:∀ {l:List Dt} {xs:List V} (n:Nat),IsPs K H l xs→IsPs K H (l.drop n) (xs.drop n)
 | _,_,0,h=>h
 | _,_,_+1,.nil=>.nil
 | _,_,n+1,.cons _ r=>IsPs.drop n r
theorem IsPs.take:∀ {l:List Dt} {xs:List V} (n:Nat),IsPs K H l xs→IsPs K H (l.take n) (xs.take n)
 | _,_,0,_=>.nil
 | _,_,_+1,.nil=>.nil
 | _,_,n+1,.cons h r=>.cons h (IsPs.take n r)
theorem IsP.unref {l:List Dt} {v:V} (h:IsP K H (.tup l) v):∃ a xs,v=.ref a∧SqT K H a xs∧Pl H a∧IsPs K H l xs:=by
 cases h with
 | tup h p r=>exact ⟨_,_,rfl,h,p,r⟩
end
def plO (xs:List V) (us:List Value):HO:=.frz { cls:=.type "tuple",data:=.seq us.toArray } (.tup xs)
section
variable {X:Cx} {pins:List (Addr×Obj)} {σ:St} {H:Hp} {s:Shared}
theorem Inv.plain {xs:List V} {us:List Value} {t':Nat} (I:Inv X pins σ H s) (r:Vals xs us) (z:xs.length≤sizeLine) :
  Inv X pins σ (upd H s.heap.objs.size (plO xs us)) { s with heap:=s.heap.push { cls:=.type "tuple",data:=.seq us.toArray },toks:=t' }∧H s.heap.objs.size=none :=
 ⟨I.laid (t':=t') (fun b ob q=>Heap.get?_push_of_some _ q) (Nat.le_refl _) ⟨Heap.get?_push_size _ rfl,z,us,r,IsTup.new _ _⟩,I.hok.fresh (Nat.le_refl _)⟩
theorem dU {p:Addr} {l:List Dt} {xs:List V} {us:List Value} (hf:H p=none) (d:IsPs X.K H l xs):Same H (upd H p (plO xs us))∧IsP X.K (upd H p (plO xs us)) (.tup l) (.ref p) :=
 ⟨ag hf _,.tup (.inl (.inr ⟨_,ac⟩)) ⟨_,_,ac,rfl⟩ (d.same (ag hf _))⟩
variable {e:Expr} {es:List Expr} {t:TA} {pos:Pos}
inductive ITup (K:PySem.W.Frag) (xs:List V) (H1:Hp) (Q:VK):Prop
 | mk (l:List Dt):(IsPs K H1 l xs)→(xs.length≤sizeLine)→(∀ v H',Same H1 H'→IsP K H' (.tup l) v→Q v H')→ITup K xs H1 Q
def ow (K:PySem.W.Frag) (t:TA):TE:=fun σ H Q=>t σ H fun xs H1=>ITup K xs H1 Q
theorem pW {x1} (h:PA X es t):PE X (.Tuple es x1 pos) (ow X.K t):=by
 intro pins s σ H Q I hq;refine wpAny_Tuple_spliced (thn (h pos pins s σ H _ I hq) fun us s1 ⟨xs,H1,I1,r,l,d,z,q⟩=>⟨by rw [← r.length];exact z,?_⟩);obtain ⟨I2,hf⟩:=I1.plain (t':=s1.toks) r z;obtain ⟨g,dp⟩:=dU (X:=X) (us:=us) hf d;exact ⟨.ref s1.heap.objs.size,_,I2,rfl,q _ _ g dp⟩
theorem km:aW X (.type "tuple") (fun xs H Q=>∃ p ys l,xs=[.ref p]∧SqL X.K H p ys∧IsPs X.K H l ys∧∀ v H',Same H H'→IsP X.K H' (.tup l) v→Q v H'):=by
 intro pins s σ H xs us Q I r h;obtain ⟨p,ys,l,rfl,hq,d,q⟩:=h;obtain ⟨u,rfl,rx⟩:=dh r
 cases rx
 obtain ⟨its,r',pl,hz⟩:=I.list hq;have hlen:=r'.length;refine call_tuple_list pl.isList (fun h' kp=>?_) (by simp only [List.size_toArray] <;> lia);have I1:Inv X pins σ H { s with heap:=h' }:=I.kept (t':=s.toks) kp;obtain ⟨I2,hf⟩:=I1.plain (t':=s.toks) r' hz;obtain ⟨g,dp⟩:=dU (X:=X) (us:=its) hf d;exact ⟨.ref h'.objs.size,_,I2,rfl,q _ _ g dp⟩
theorem pX:OpR X (binaryOp .Add) (fun x y H Q=>∃ l m,IsP X.K H (.tup l) x∧IsP X.K H (.tup m) y∧l.length+m.length≤sizeLine∧∀ v H',Same H H'→IsP X.K H' (.tup (l++m)) v→Q v H'):=by
 intro pins s σ H x y v u Q I rx ry h;obtain ⟨l,m,dx,dy,hz,q⟩:=h;obtain ⟨a,xs,rfl,ha,pa,ra⟩:=dx.unref;obtain ⟨b,ys,rfl,hb,pb,rb⟩:=dy.unref
 cases rx
 cases ry
 obtain ⟨its,r1,p1,_⟩:=I.tuple ha;obtain ⟨its2,r2,p2,_⟩:=I.tuple hb;have e1:=ra.length;have e2:=rb.length
 by_cases hx:xs=[]
 ·subst hx;have hi:its=[]:=r1.nil_iff.mpr rfl;subst hi;have hl:l=[]:=List.length_eq_zero_iff.mp (by rw [e1];rfl);subst hl;exact HT.cat_nil p1 p2 ⟨.ref b,H,I,rfl,q _ H (Same.refl H) dy⟩
 ·refine HT.cat_tup p1 p2 (fun z=>hx (r1.nil_iff.mp z)) (fun z=>?_) (fun z=>?_) (by rw [← r1.length,← r2.length,← e1,← e2];exact hz)
  ·have hy:=r2.nil_iff.mp z;subst hy;have hm:m=[]:=List.length_eq_zero_iff.mp (by rw [e2];rfl);subst hm;exact ⟨.ref a,H,I,rfl,q _ H (Same.refl H) (by rw [List.append_nil];exact dx)⟩
  ·obtain ⟨I2,hf⟩:=I.plain (t':=s.toks) (r1.append r2) (by rw [List.length_append,← e1,← e2];exact hz);obtain ⟨g,dp⟩:=dU (X:=X) (us:=its++its2) hf (ra.append rb);exact ⟨.ref s.heap.objs.size,_,I2,rfl,q _ _ g dp⟩
theorem pY:SlR X (fun x lo hi H Q=>∃ l,IsP X.K H (.tup l) x∧∀ v H',Same H H'→IsP X.K H' (.tup (gG l lo hi)) v→Q v H'):=by
 intro pins s σ H x v vl vu lo hi sl Q I rx hs pl pu h;obtain ⟨l,dx,q⟩:=h;obtain ⟨a,xs,rfl,hx,pa,ra⟩:=id dx.unref
 cases rx
 have e1:=ra.length;obtain ⟨its,r,ht,hz⟩:=I.tuple hx;have hlen:its.toArray.size=xs.length:=by rw [List.size_toArray];exact r.length.symm
 refine ⟨"tuple",_,PyProof.Rows.slot_tuple_getitem.lookup,ht.typeIs,?_⟩
 by_cases hw:HT.sIx xs.length 0 lo=0∧HT.sIx xs.length xs.length hi=xs.length
 ·refine HT.getItem_tuple_all ht hs pl pu (by rw [hlen];exact hw.1) (by rw [hlen];exact hw.2) ⟨.ref a,H,I,rfl,q _ H (Same.refl H) ?_⟩;have e:gG l lo hi=l:=by
   unfold gG;rw [e1,hw.1,hw.2,List.drop_zero,Nat.sub_zero,← e1,List.take_length]
  rw [e];exact dx
 ·refine HT.getItem_tuple_cut ht hs pl pu (by rw [hlen];exact hw) ?_ (by rw [hlen];exact hz);rw [hlen];obtain ⟨I2,hf⟩:=I.plain (t':=s.toks) ((r.drop (HT.sIx xs.length 0 lo)).take (HT.sIx xs.length xs.length hi - HT.sIx xs.length 0 lo)) (Nat.le_trans (eR xs lo hi) hz);have d2:IsPs X.K H (gG l lo hi) (eX xs lo hi):=by
   unfold gG eX;rw [e1];exact (ra.drop _).take _
  obtain ⟨g,dp⟩:=dU (X:=X) (us:=(its.drop (HT.sIx xs.length 0 lo)).take (HT.sIx xs.length xs.length hi - HT.sIx xs.length 0 lo)) hf d2;exact ⟨.ref s.heap.objs.size,_,I2,rfl,q _ _ g dp⟩
theorem pZ:IxR X (fun x y H Q=>∃ l i d,IsP X.K H (.tup l) x∧y=.int i∧atI l i=some d∧∀ v,IsP X.K H d v→Q v H):=by
 intro value slice pins s σ H x y v u Q I rx ry h hs;obtain ⟨l,i,d,dx,rfl,ha,q⟩:=h;obtain ⟨a,xs,rfl,hx,pa,ra⟩:=id dx.unref;obtain ⟨j,hj,hd,_⟩:=iJ ha;have e1:=ra.length;obtain ⟨w',hw,dw⟩:=ra.get hd;have hat:atI xs i=some w':=by
  unfold atI at ha ⊢;rw [← e1]
  cases z:ixN l.length i with
  | none=>rw [z] at ha;cases ha
  | some j' =>
   rw [z] at ha;have ha':l[j']?=some d:=ha;obtain ⟨w2,hw2,dw2⟩:=ra.get ha';have z2:=iI z;rw [hj] at z2;have:j=j':=Option.some.inj z2.1;subst this;exact hw
 exact rC value slice pins s σ H (.ref a) (.int i) v u Q I rx ry ⟨a,xs,i,w',rfl,rfl,hx,hat,q w' dw⟩ hs
theorem qa:OpR X (binaryOp .Mult) (rI IntMulOk fun i j=>.int (i*j)):=opI fun _ _ _ _ _ _ _ hc q=>mul_int q hc
end
def aS (fs:List (Str×Dt)) (z:Str):Option Dt:=(fs.find? fun p=>decide (p.1=z)).map (·.2)
abbrev prD (p:Str×Dt):Dt:=.tup [.str p.1,p.2]
def DicP (K:PySem.W.Frag) (H:Hp) (p:Addr) (fs:List (Str×Dt)):Prop :=
 ∃ kvs,H p=some (.dK kvs)∧∀ z,(aS fs z=none→bn kvs (Sum.inr z:Key)=none)∧∀ d,aS fs z=some d→∃ v,bn kvs (Sum.inr z:Key)=some v∧IsP K H d v
section
variable {X:Cx} {pins:List (Addr×Obj)} {σ:St} {H:Hp} {s:Shared}
theorem ox (I:Inv X pins σ H s):∀ {fs:List (Str×Dt)} {xs:List V} {its:List Value},IsPs X.K H (fs.map prD) xs→Vals xs its →
  ∃ (kvs:List (Key×V)) (vs:List (Key×Value)),KV kvs vs∧kvs.map (·.1)=fs.map (fun p=>Sum.inr p.1)∧kvs.length=fs.length ∧
   (∀ z,(aS fs z=none→bn kvs (Sum.inr z:Key)=none)∧∀ d,aS fs z=some d→∃ v,bn kvs (Sum.inr z:Key)=some v∧IsP X.K H d v) ∧
   its.length=vs.length∧∀ (i:Nat) (kv:Key×Value),vs[i]?=some kv→∃ (a:Addr) (key:Value),its[i]?=some (.ref a)∧s.heap.IsTuple a #[key,kv.2]∧(az X.prog X.w).is kv.1 key=true:=by
 intro fs
 induction fs with
 | nil =>
  intro xs its h r
  cases h
  cases r
  exact ⟨[],[],.nil,rfl,rfl,fun z=>⟨fun _=>rfl,fun d q=>by cases q⟩,rfl,fun i kv q=>by simp at q⟩
 | cons f fs ih =>
  intro xs its h r
  cases h with
  | cons h1 h2 =>
   cases r with
   | cons r1 r2 =>
    obtain ⟨kvs,vs,e1,e2,e3,e4,e5,e6⟩:=ih h2 r2;obtain ⟨a,ys,rfl,ha,pa,ra⟩:=h1.unref
    cases r1
    obtain ⟨its',r',p',_⟩:=I.tuple ha
    cases ra with
    | cons d1 ra =>
     cases ra with
     | @cons _ _ v _ d2 ra =>
      cases ra
      cases d1
      cases r' with
      | cons q1 r' =>
       cases r' with
       | @cons _ u _ _ q2 r' =>
        cases r'
        obtain ⟨tk,rfl⟩:=q1;refine ⟨(Sum.inr f.1,v) :: kvs,(Sum.inr f.1,u) :: vs,.cons ⟨rfl,q2⟩ e1,by simp [e2],by simp [e3],fun z=>?_,by simp [e5],fun i kv q=>?_⟩
        ·by_cases hz:f.1=z
         ·subst hz;have l1:aS (f :: fs) f.1=some f.2:=by simp [aS]
          have l2:bn ((Sum.inr f.1,v) :: kvs) (Sum.inr f.1:Key)=some v:=by simp [bn]
          exact ⟨fun q=>(by rw [l1] at q;cases q),fun d q=>(by rw [l1] at q;cases q;exact ⟨v,l2,d2⟩)⟩
         ·have l1:aS (f :: fs) z=aS fs z:=by simp [aS,hz]
          have l2:bn ((Sum.inr f.1,v) :: kvs) (Sum.inr z:Key)=bn kvs (Sum.inr z:Key):=by simp [bn,hz]
          rw [l1,l2];exact e4 z
        ·cases i with
         | zero =>
          simp at q;subst q;exact ⟨a,_,rfl,p',ki (k:=Sum.inr f.1) ⟨tk,rfl⟩⟩
         | succ i=>exact e6 i kv (by simpa using q)
theorem lD (hc:X.calm=true):aW X (.type "dict") (fun xs H Q=>∃ x fs,xs=[x]∧IsP X.K H (.tup (fs.map prD)) x∧(fs.map (·.1)).Nodup∧fs.length≤1000∧∀ p H',Same H H'→DicP X.K H' p fs→Q (.ref p) H'):=by
 intro pins s σ H xs us Q I r h;obtain ⟨x,fs,rfl,dx,nd,hz,q⟩:=h;obtain ⟨u,rfl,rx⟩:=dh r;obtain ⟨a,ys,rfl,ha,⟨o,ho,eo,dn⟩,ra⟩:=dx.unref
 cases rx
 obtain ⟨its,r',⟨o',e',c',n',d'⟩,_⟩:=I.tuple ha;have e0:s.heap.get? a=some o:=(I.hok a _ eo).1;rw [e0] at e';obtain rfl:=Option.some.inj e';obtain ⟨kvs,vs,k1,k2,k3,k4,k5,k6⟩:=ox I ra r';have hl:vs.length=fs.length:=by rw [← k1.length,k3]
 have big:=I.big;refine fc (knd:=az X.prog X.w) (kvs:=vs) (I.ok.hd hc) e0 c' d' dn ⟨by rw [List.size_toArray];exact k5,fun i kv z=>?_⟩ (Nat.le_trans (Nat.add_le_add (hl ▸ hz) (hl ▸ hz)) (by decide)) fun h' tk dd kp=>?_
 ·obtain ⟨b,key,z1,z2,z3⟩:=k6 i kv z;exact ⟨b,key,by simpa using z1,z2,z3⟩
 ·have ndv:(vs.map (·.1)).Nodup:=by
   rw [← k1.keys,k2];have z:fs.map (fun p=>(Sum.inr p.1:Key))=(fs.map (·.1)).map Sum.inr:=by rw [List.map_map];rfl
   rw [z];exact List.Pairwise.map _ (fun a b n q=>n (Sum.inr.inj q)) nd
  rw [merged_nil_of_nodup vs ndv] at dd;have hf:=I.hok.fresh (Nat.le_refl s.heap.objs.size);have I2:Inv X pins σ (upd H s.heap.objs.size (.dK kvs)) { s with heap:=h',toks:=tk }:=I.laid (t':=tk) kp (Nat.le_refl _)
   (ou (by rw [k3];exact Nat.le_of_lt (ao hz)) (by simp;exact Nat.ne_of_gt big) k1 dd)
  refine ⟨.ref s.heap.objs.size,_,I2,rfl,q _ _ (ag hf _) ⟨kvs,ac,fun z=>⟨(k4 z).1,fun d l=>?_⟩⟩⟩;obtain ⟨v,l1,l2⟩:=(k4 z).2 d l;exact ⟨v,l1,l2.same (ag hf _)⟩
theorem DicP.get {K:PySem.W.Frag} {p:Addr} {fs:List (Str×Dt)} {z:Str} {d:Dt} (h:DicP K H p fs) (l:aS fs z=some d):∃ v,DGet H p (.str z) (some v)∧IsP K H d v:=by
 obtain ⟨kvs,e,k⟩:=h;obtain ⟨v,l1,l2⟩:=(k z).2 d l;exact ⟨v,by rw [← l1];exact DGet.k (k:=Sum.inr z) e,l2⟩
end
end L2
namespace PySem
open Sem (wp)
open Builtin
section
variable {prog:Program} {w:World} {A:Around} {E:Value→Shared→Prop} {s:Shared}
end
end PySem
namespace L2
open PySem PySem.Spec PyProof.Rows
section
variable {X:Cx}
def oy (lo c:Int) (n:Nat):It:=⟨fun i _=>i < n,fun i H x H'=>H'=H∧x=.int (lo+i*c),fun i _=>n≤i⟩
theorem kn {P:Program} {w:World} {K:PySem.W.Frag} {tg:Expr} (it:Addr) (lo c:Int) (n:Nat):Turn P w K tg (oy lo c n) [it] it (fun i h=>IsRangeIter h it (lo+(i:Nat)*c) ((n:Int) - (i:Nat)) c) where
 mem:=by simp
 obj:=fun i h st b hb=>by
  have e:b=it:=by simpa using hb
  subst e;exact ⟨_,st,fun v z=>by
   have z':Data.fields _=Data.cell v:=z
   cases z'⟩
 keep:=fun i h h' st k=>k it (by simp) _ st
 item:=by
  intro X hP hw hK hc i pins s σ H E I hf st hg;subst hP hw hK;obtain ⟨f0,f1,f2,f3,f4,f5⟩:=hf it (by simp);have W:=Walks.range (prog:=X.prog) (w:=X.w) (I.ok.hd hc) it lo c n;refine W.item i s _ _ hg st fun v h' tk hv st' kk=>?_;obtain ⟨t,rfl⟩:=hv;have I1:Inv X pins σ H { s with heap:=h',toks:=tk }:=I.turned (fun b o hb e=>kk b o (by simpa using hb) e) f0 f1 f3 f4 f5;exact ⟨_,rfl,jM (s:={ s with heap:=h',toks:=tk }) (n:= "range_iterator") st' rfl rfl (by decide) ⟨.int (lo+i*c),H,I1,⟨t,rfl⟩,⟨rfl,rfl⟩,st',fun b hb=>(hf b hb).1⟩⟩
 done:=by
  intro X hP hw hK hc i pins s σ H E I hf st hg;subst hP hw hK;obtain ⟨f0,f1,f2,f3,f4,f5⟩:=hf it (by simp);exact wpAny_pyNext_range_end (I.ok.hd hc) st (by have:n≤i:=hg;lia) fun h' eb=>⟨rfl,I.turned (t':=s.toks) (fun b o hb e=>eb b o hb e) f0 f1 f3 f4 f5⟩
 self:=fun _ _ _ _ _ st h=>wpAny_pyIter_rangeiter st h
def rngN (a b c:Int):Nat:=(Builtin.Range.rangeSize a b c).toNat
theorem qb {a b c:Int} (hc:0 < c) {i:Nat} (h:i < rngN a b c):a+i*c < b:=by
 unfold rngN Builtin.Range.rangeSize at h;rw [if_pos (show c > 0 from hc)] at h
 by_cases hab:a < b
 ·rw [if_pos hab] at h;have h1:(0:Int)≤(b - a - 1) / c:=Int.ediv_nonneg (by lia) (by lia);have h2:(i:Int)≤(b - a - 1) / c:=by lia
  have h3:(i:Int)*c≤b - a - 1:=Int.le_trans (Int.mul_le_mul_of_nonneg_right h2 (by lia)) (Int.ediv_mul_le _ (by lia));lia
 ·rw [if_neg hab] at h;simp at h
theorem mh {a b c:Int} (hc:0 < c):(rngN a b c:Int)≤if a < b then b - a else 0:=by
 unfold rngN Builtin.Range.rangeSize;rw [if_pos (show c > 0 from hc)]
 by_cases hab:a < b
 ·rw [if_pos hab,if_pos hab];have h1:(0:Int)≤(b - a - 1) / c:=Int.ediv_nonneg (by lia) (by lia);have h2:(b - a - 1) / c≤b - a - 1:=Int.ediv_le_self _ (by lia);lia
 ·rw [if_neg hab,if_neg hab];simp
variable {tg:Expr}
def tD (ta:TA):TI:=fun σ H R=>ta σ H fun vs H1=>∃ i j c:Int,vs=[.int i,.int j,.int c]∧(0≤i∧i < 2 ^ 62∧0≤j∧j < 2 ^ 62∧0 < c∧c < 1073741824)∧R (oy i c (rngN i j c)) H1
theorem m9 {a b c:Expr} {ta:TA} {p pos:Pos} (hg:Gl X "range") (hm:X.mg "range" = none) (ha:PA X [a,b,c] ta) (hs:starEach [a,b,c] X.env=[(false,eval a X.env),(false,eval b X.env),(false,eval c X.env)]:=by rfl) (hs2:starEach [b,c] X.env=[(false,eval b X.env),(false,eval c X.env)]:=by rfl) :
  PI X tg (.Call (.Name "range" p) [a,b,c] [] pos) (tD ta):=by
 intro pins s σ H R I h;refine Call_ (cI I hg hm boot_range (PyProof.Rows.callWith_type1 (thn (ha pos pins s σ H _ I h) fun us s1 ⟨vs,H1,I1,r1,q1⟩=>?_) (by rw [hs,hs2]) (by rw [hs2];rfl)));obtain ⟨i,j,c,e,⟨q1,q2,q3,q4,q5,q6⟩,q⟩:=q1;subst e
 cases r1 with
 | cons r rr =>
  cases rr with
  | cons r' rr =>
   cases rr with
   | cons r'' rr =>
    cases rr
    obtain ⟨t,rfl⟩:=r;obtain ⟨t',rfl⟩:=r';obtain ⟨t'',rfl⟩:=r'';have hn0:=mh (a:=i) (b:=j) q5;have hsz:Builtin.Range.rangeSize i j c=((rngN i j c:Nat):Int):=rangeSize_toNat i j c;have hn:(rngN i j c:Int) < 2 ^ 62:=by
     split at hn0 <;> lia
    refine call_range_3 (by lia) ?_ (.inl (PyProof.noPylong_small (by lia)));have sm:Builtin.Range.small i j c=true:=by
     unfold Builtin.Range.small Builtin.Range.rangeFitsLong;rw [hsz,if_pos (show c > 0 from q5)];simp only [Bool.and_eq_true,Bool.or_eq_true,decide_eq_true_eq,beq_iff_eq];refine ⟨⟨⟨⟨⟨?_,?_⟩,?_,?_⟩,?_,?_⟩,?_,?_⟩,.inr ⟨?_,?_⟩⟩ <;> lia
    refine wpAny_pyIter_range (IsRange.new ..) sm ?_;have I2:Inv X pins σ H1 { s1 with heap:=s1.heap.push { cls:=.type "range",data:=.fields #[.int i t,.int j t',.int c t''] } }:=I1.kept (t':=s1.toks) fun b o e=>Heap.get?_push_of_some _ e;refine ⟨(s1.heap.push { cls:=.type "range",data:=.fields #[.int i t,.int j t',.int c t''] }).objs.size,[(s1.heap.push { cls:=.type "range",data:=.fields #[.int i t,.int j t',.int c t''] }).objs.size],_,_,H1,rfl,
     I2.kept (t':=s1.toks) fun b o e=>Heap.get?_push_of_some _ e,kn _ i c (rngN i j c),?_,fun b hb=>?_,q⟩
    ·have e1:i+((0:Nat):Int)*c=i:=by simp
     have e2:((rngN i j c:Nat):Int) - ((0:Nat):Int)=Builtin.Range.rangeSize i j c:=by rw [hsz];simp
     show IsRangeIter _ _ (i+((0:Nat):Int)*c) (((rngN i j c:Nat):Int) - ((0:Nat):Int)) c;rw [e1,e2];exact Heap.get?_push_size _ rfl
    ·have e:b=(s1.heap.push { cls:=.type "range",data:=.fields #[.int i t,.int j t',.int c t''] }).objs.size:=by simpa using hb
     subst e;exact I2.fpOk (Nat.le_refl _) (I2.hok.fresh (Nat.le_refl _))
end
theorem u1 {A:Around} (h:A.units+64 < cLine):A.units+1 < cLine:=by lia
theorem bH {P:Program} {w:World} {K:PySem.W.Frag} {mg:Str→Option Value} {base:Heap} {CX:CXT} {k:Nat} {f:Addr} {fd:FuncData} {ps:List Str} {sp:Sp} (h:∀ vs H Q E,¬ sp vs H Q E):FnOk P w K mg base CX k f fd ps sp :=
 ⟨fun vs H Q E z=>(h vs H Q E z).elim,fun A outer s H args us vs Q E hr e0 hb r z=>(h vs H Q E z).elim⟩
theorem qc {a:Int} {m:Nat} (h0:0≤a) (h:a < 2 ^ m):Builtin.Int.intBits a≤m:=by
 refine intBits_le_iff.mpr ?_;have e:((a.natAbs:Nat):Int)=a:=Int.natAbs_of_nonneg h0;have h':((a.natAbs:Nat):Int) < ((2 ^ m:Nat):Int):=by rw [e];simpa using h
 exact Int.ofNat_lt.mp h'
theorem eF {X:Cx} {K:PySem.W.Frag} (hK:X.K=K):aW X (.builtin "isinstance") (fun xs H Q=>∃ a C D b,xs=[.ref a,.ref D]∧H a=some (xO a C)∧PySem.W.ExcK K C∧PySem.W.kitOne K (.ref C) (.ref D)=some b∧Q (.bl b) H):=by
 subst hK;exact oj
theorem lE {X:Cx} {K:PySem.W.Frag} (hK:X.K=K):aW X (.builtin "isinstance") (fun xs H Q=>∃ a C T b,xs=[.ref a,.ty T]∧H a=some (xO a C)∧PySem.W.ExcK K C∧PySem.W.kitOne K (.ref C) (.type T)=some b∧Q (.bl b) H):=by
 subst hK;exact m6
section
variable {X:Cx}
theorem dW:OpR X (binaryOp .FloorDiv) (rI (fun _ j=>0 < j∧j < 10000000000000000000000000000000000000000000000000000000000000) fun i j=>.int (i / j)):=opI fun i j _ _ _ _ _ hc q=>by
 have h1:(0:Int) < j:=hc.1;have h2:j < 10000000000000000000000000000000000000000000000000000000000000:=hc.2;refine floordiv_int (by lia) (by rw [Int.fdiv_eq_ediv_of_nonneg i (by lia)];exact q) (.inl (PyProof.noPylong_of_log2 ?_));have h3:j.natAbs < 2 ^ 9000:=Nat.lt_of_lt_of_le (show j.natAbs < 10000000000000000000000000000000000000000000000000000000000000 by lia) (by decide +kernel);exact (Nat.log2_lt (by lia)).mpr h3
inductive ICatS (K:PySem.W.Frag) (x y:V) (H:Hp) (Q:VK):Prop
 | mk (l b:Addr) (xs zs:List V):(x=.ref l)→(y=.ref b)→(SqL K H l xs)→(SqL K H b zs)→(xs.length+zs.length≤sizeLine)→(∀ p,H p=none→Q (.ref p) (upd H p (.lst (xs++zs))))→ICatS K x y H Q
def gc (K:PySem.W.Frag):R2:=fun x y H Q=>ICatS K x y H Q
theorem qd:OpR X (binaryOp .Add) (gc X.K):=by
 intro pins s σ H x y v u Q I rx ry h;obtain ⟨l,b,xs,zs,rfl,rfl,hH,hB,hz,q⟩:=h
 cases rx
 cases ry
 obtain ⟨its,r,pl,z⟩:=I.list hH;obtain ⟨its2,r2,pl2,z2⟩:=I.list hB;obtain ⟨⟨cls,dd,data,sl⟩,ho,hc,n,hd⟩:=pl.isList;obtain ⟨⟨cls2,dd2,data2,sl2⟩,ho2,hc2,n2,hd2⟩:=pl2.isList;simp only at hc hd hc2 hd2;subst hc hd hc2 hd2;have l1:=r.length;have l2:=r2.length;have ea:its.toArray++its2.toArray=(its++its2).toArray:=by simp
 refine concat_meets ⟨_,ho,rfl⟩ ⟨_,ho2,rfl⟩ noFill_list_add seq_list_add PySem.F.slot_list_add PySem.F.entry_list_add (PySem.F.args_list_add_2 _ _) (list_addW l b its.toArray its2.toArray n n2 dd dd2 sl sl2 (by simp only [List.size_toArray];lia)) ⟨ho,ho2,?_⟩;rw [ea];exact ⟨.ref _,_,I.lnew (t':=s.toks) (r.append r2) (by rw [List.length_append];lia),rfl,q _ I.fresh⟩
end
open PySem.NumText
def dg (m:Nat):List Nat:=(Nat.toDigits 10 m).map Char.toNat
theorem oz:∀ d:Nat,d < 10→(Nat.digitChar d).toNat=48+d:=by decide
theorem gf {m:Nat} (h:m < 10):dg m=[48+m]:=by
 unfold dg;rw [Nat.toDigits_of_lt_base h];show [(Nat.digitChar m).toNat]=_;rw [oz m h]
theorem qe {m:Nat} (h:10≤m):dg m=dg (m / 10)++[48+m % 10]:=by
 have hm:m % 10 < 10:=Nat.mod_lt m (by decide);have t:Nat.toDigits 10 (m / 10)++Nat.toDigits 10 (m % 10)=Nat.toDigits 10 (10*(m / 10)+m % 10):=Nat.toDigits_append_toDigits (by decide) (by lia) hm;rw [Nat.div_add_mod] at t;unfold dg;rw [← t,List.map_append]
 congr 1
 exact gf hm
theorem oA:∀ (k m:Nat),m < 10 ^ (k+1)→(dg m).length≤k+1
 | 0,m,h=>by rw [gf (by simpa using h)];exact Nat.le_refl 1
 | k+1,m,h=>by
  by_cases h1:m < 10
  ·rw [gf h1];exact Nat.succ_le_succ (Nat.zero_le _)
  ·rw [qe (by lia),List.length_append,List.length_singleton];have:m / 10 < 10 ^ (k+1):=by
    rw [Nat.pow_succ] at h;exact Nat.div_lt_of_lt_mul (by rw [Nat.mul_comm];exact h)
   have:=oA k (m / 10) this;lia
def oB (n:Int):List Nat:=if n < 0 then 45 :: dg n.natAbs else dg n.natAbs
theorem str_int (n:Int):(Str.ofString (toString n)).cps.toList=oB n:=by
 rw [signs_ofString]
 cases n with
 | ofNat m =>
  have:¬ (Int.ofNat m < 0):=by simp
  unfold oB;rw [if_neg this];show (Nat.repr m).toList.map Char.toNat=_;rw [Nat.toList_repr]
  rfl
 | negSucc m =>
  have:Int.negSucc m < 0:=Int.negSucc_lt_zero m;unfold oB;rw [if_pos this];show ("-" ++Nat.repr (m+1)).toList.map Char.toNat=_;rw [String.toList_append,List.map_append,Nat.toList_repr]
  rfl
end L2
namespace L2
open PySem PySem.Spec PyProof.Rows
section
variable {X:Cx} {pins:List (Addr×Obj)} {σ:St} {H:Hp} {s:Shared} {h':Heap}
theorem Inv.turnedT {t':Nat} {wr:List Addr} {T:Addr} {o:HO} (I:Inv X pins σ H s) (k:∀ b u,b∉wr→s.heap.get? b=some u→h'.get? b=some u) (f:∀ b∈wr,dv X pins H b)
  (hT:s.heap.objs.size≤T) (new:ObjOk X.prog X.w (upd H T o) h' T o):Inv X pins σ (upd H T o) { s with heap:=h',toks:=t' }:=by
 have nT:∀ b u,s.heap.get? b=some u→b≠T:=fun b u e z=>absurd (Nat.lt_of_lt_of_le (Heap.lt_size e) (z ▸ hT)) (Nat.lt_irrefl _);have nH:∀ b u,H b=some u→b≠T:=fun b u e z=>absurd (Nat.lt_of_lt_of_le (I.hok.lt e) (z ▸ hT)) (Nat.lt_irrefl _);have nw:∀ b u,H b=some u→b∉wr:=fun b u e z=>by rw [(f b z).1] at e;cases e
 refine I.step (g':=s.gens) (d':=s.drawn) (ch:=wr) (fun b hb=>?_) (fun b u _ _ hc e _=>k b u hc e) (fun b u _ _ hc e _=>⟨u.slots,k b u hc e⟩) (fun b u _ e n=>by rw [ah (nT b u e)];exact n)
  (fun b u hc e=>⟨u,k b u hc e⟩) (fun b xs e=>by rw [ah (nH b _ e)];exact e) (fun b u v e=>by rw [ah (nH b _ e)];exact e) (fun b ps e=>⟨#[],by rw [ah (nH b _ e),e];simp⟩) (fun m hm=>?_) (fun b u e=>?_) I.bare
 ·obtain ⟨f0,f1,f2,f3,f4,f5⟩:=f b hb;exact ⟨f3,f1,f4,f5⟩
 ·obtain ⟨u,es,ep,ho,r⟩:=hm;exact ⟨u,es,ep,k _ u (fun z=>(f _ z).2.1 rfl) ho,r⟩
 ·by_cases hb:b=T
  ·subst hb;rw [ac] at e
   cases e
   exact new
  ·rw [ah hb] at e;refine (I.hok b u e).stay (fun c v hc q=>k c v ?_ q) (fun c q=>?_) fun c xs q=>by rw [ah (nH c _ q)];exact q
   ·rcases hc with z | z
    ·rw [z];exact nw b u e
    ·exact nw c _ z
   ·rw [ah (nH c _ q)];exact q
theorem Inv.turnedL {t':Nat} {wr:List Addr} (I:Inv X pins σ H s) (k:∀ b u,b∉wr→s.heap.get? b=some u→h'.get? b=some u) (f:∀ b∈wr,dv X pins H b):Inv X pins σ H { s with heap:=h',toks:=t' }:=by
 have nw:∀ b u,H b=some u→b∉wr:=fun b u e z=>by rw [(f b z).1] at e;cases e
 refine I.step (g':=s.gens) (d':=s.drawn) (ch:=wr) (fun b hb=>?_) (fun b u _ _ hc e _=>k b u hc e) (fun b u _ _ hc e _=>⟨u.slots,k b u hc e⟩) (fun _ _ _ _ n=>n)
  (fun b u hc e=>⟨u,k b u hc e⟩) (fun _ _ e=>e) (fun _ _ _ e=>e) (fun b ps e=>⟨#[],by rw [e];simp⟩) (fun m hm=>?_) (fun b u e=>?_) I.bare
 ·obtain ⟨f0,f1,f2,f3,f4,f5⟩:=f b hb;exact ⟨f3,f1,f4,f5⟩
 ·obtain ⟨u,es,ep,ho,r⟩:=hm;exact ⟨u,es,ep,k _ u (fun z=>(f _ z).2.1 rfl) ho,r⟩
 ·refine (I.hok b u e).stay (fun c v hc q=>k c v ?_ q) (fun _ q=>q) fun _ _ q=>q;rcases hc with z | z
  ·rw [z];exact nw b u e
  ·exact nw c _ z
end
def Itz (K:PySem.W.Frag) (a b:Addr):It :=
 ⟨fun i H=>∃ xs ys x y,SqL K H a xs∧SqL K H b ys∧xs[i]?=some x∧ys[i]?=some y,
  fun i H v H'=>∃ T x y,v=.ref T∧H T=none∧H'=upd H T (.tup [x,y])∧(∀ xs,SqL K H a xs→xs[i]?=some x)∧(∀ ys,SqL K H b ys→ys[i]?=some y),
  fun i H=>∃ xs ys,SqL K H a xs∧SqL K H b ys∧min xs.length ys.length=i⟩
def tE (z TI TO i1 i2 l1 l2:Addr) (i:Nat) (h:Heap):Prop:=IsZip h z TI TO .none∧IsPair h TI (.ref i1) (.ref i2)∧(∃ a b,IsPair h TO a b)∧h.IsListIter i1 l1 i∧h.IsListIter i2 l2 i
theorem oC {P:Program} {w:World} {K:PySem.W.Frag} {elts:List Expr} {k:Nat} {pos:Pos} (z TI TO i1 i2 l1 l2:Addr) (D:ZipApart z TI TO i1 i2 l1 l2) :
  Turn P w K (.Tuple elts k pos) (Itz K l1 l2) [z,TI,TO,i1,i2] z (tE z TI TO i1 i2 l1 l2) where
 mem:=by simp
 obj:=fun i h st b hb=>by
  obtain ⟨hz,hTI,⟨a,c,hTO⟩,⟨o1,e1,c1,d1⟩,⟨o2,e2,c2,d2⟩⟩:=st;simp only [List.mem_cons,List.not_mem_nil,or_false] at hb;rcases hb with rfl | rfl | rfl | rfl | rfl
  ·exact ⟨_,hz,fun v q=>by cases q⟩
  ·exact ⟨_,hTI,fun v q=>by cases q⟩
  ·exact ⟨_,hTO,fun v q=>by cases q⟩
  ·exact ⟨o1,e1,fun v q=>by rw [d1] at q;cases q⟩
  ·exact ⟨o2,e2,fun v q=>by rw [d2] at q;cases q⟩
 keep:=fun i h h' st kk=>by
  obtain ⟨hz,hTI,⟨a,c,hTO⟩,h1,h2⟩:=st;exact ⟨kk z (by simp) _ hz,kk TI (by simp) _ hTI,⟨a,c,kk TO (by simp) _ hTO⟩,h1.at fun o e=>kk i1 (by simp) o e,h2.at fun o e=>kk i2 (by simp) o e⟩
 item:=by
  intro X hP hw hK hc i pins s σ H E I hf st hg;subst hP hw hK;obtain ⟨xs,ys,x,y,hx,hy,ex,ey⟩:=hg;obtain ⟨its,rv,p,hz⟩:=I.list hx;obtain ⟨its2,rv2,p2,hz2⟩:=I.list hy;obtain ⟨s1,s2,s3,s4,s5⟩:=st;have W:=WalksT.zip2 (prog:=X.prog) (w:=X.w) (I.ok.hd hc) z TI TO i1 i2 l1 l2 D its.toArray its2.toArray;have li:i < xs.length:=(List.getElem?_eq_some_iff.mp ex).1;have li2:i < ys.length:=(List.getElem?_eq_some_iff.mp ey).1;have el:=rv.length;have el2:=rv2.length;have wsub:∀ b∈[z,TO,i1,i2],b∈[z,TI,TO,i1,i2]:=fun b hb=>by
   simp only [List.mem_cons,List.not_mem_nil,or_false] at hb ⊢;rcases hb with rfl | rfl | rfl | rfl <;> simp
  refine W.item i s _ _ (by simp only [List.size_toArray];lia) ⟨s1,s2,s3,s4,s5,p.isList,p2.isList⟩ fun T vals h' tk hv hT hTup hm hk=>?_;obtain ⟨u,v,eu,ev,rfl⟩:=hv;obtain ⟨u',eu',ru⟩:=rv.get ex;obtain ⟨v',ev',rv'⟩:=rv2.get ey;have e1:u=u':=by
   have:its[i]?=some u:=by simpa using eu
   rw [eu'] at this;exact (Option.some.inj this).symm
  have e2:v=v':=by
   have:its2[i]?=some v:=by simpa using ev
   rw [ev'] at this;exact (Option.some.inj this).symm
  subst e1 e2;have hTn:H T=none:=I.hok.fresh hT;have I1:Inv X pins σ (upd H T (.tup [x,y])) { s with heap:=h',toks:=tk }:=I.turnedT hk (fun b hb=>hf b (wsub b hb)) hT ⟨by show 2≤sizeLine;decide,[u,v],.cons ru (.cons rv' .nil),hTup⟩;have ap:=W.apart i T h' hm;have f1:∀ b∈[z,TO,i1,i2],dv X pins (upd H T (.tup [x,y])) b:=fun b hb=>by
   obtain ⟨f0,f1⟩:=hf b (wsub b hb);exact ⟨by rw [ah (fun e:b=T=>ap (by rw [← e];exact hb))];exact f0,f1⟩
  refine ⟨_,rfl,W.go elts k pos i T _ _ _ hm fun h'' st2 hk2=>?_⟩;obtain ⟨t1,t2,t3,t4,t5,_,_⟩:=st2;refine ⟨.ref T,_,Inv.turnedL (s:={ s with heap:=h',toks:=tk }) (t':=tk) I1 hk2 f1,rfl,⟨T,x,y,rfl,hTn,rfl,fun zs q=>by rw [I.list_inj q hx];exact ex,fun zs q=>by rw [I.list_inj q hy];exact ey⟩,⟨t1,t2,t3,t4,t5⟩,fun b hb=>?_⟩;have fb:=(hf b hb).1
  by_cases e:b=T
  ·subst e;have lti:s.heap.objs.size > TI:=Heap.lt_size s2;simp only [List.mem_cons,List.not_mem_nil,or_false] at hb;rcases hb with rfl | rfl | rfl | rfl | rfl
   ·exact absurd (by simp) ap
   ·exact absurd lti (Nat.not_lt.mpr hT)
   ·exact absurd (by simp) ap
   ·exact absurd (by simp) ap
   ·exact absurd (by simp) ap
  ·rw [ah e];exact fb
 done:=by
  intro X hP hw hK hc i pins s σ H E I hf st hg;subst hP hw hK;obtain ⟨xs,ys,hx,hy,hi⟩:=hg;obtain ⟨its,rv,p,hz⟩:=I.list hx;obtain ⟨its2,rv2,p2,hz2⟩:=I.list hy;obtain ⟨s1,s2,s3,s4,s5⟩:=st;have W:=WalksT.zip2 (prog:=X.prog) (w:=X.w) (I.ok.hd hc) z TI TO i1 i2 l1 l2 D its.toArray its2.toArray;have el:=rv.length;have el2:=rv2.length;have en:min its.toArray.size its2.toArray.size=i:=by simp only [List.size_toArray];lia
  have wsub:∀ b∈[z,TO,i1,i2],b∈[z,TI,TO,i1,i2]:=fun b hb=>by
   simp only [List.mem_cons,List.not_mem_nil,or_false] at hb ⊢;rcases hb with rfl | rfl | rfl | rfl <;> simp
  refine W.done s _ _ ?_ fun h' tk hk=>⟨rfl,I.turnedL hk fun b hb=>hf b (wsub b hb)⟩;rw [en];exact ⟨s1,s2,s3,s4,s5,p.isList,p2.isList⟩
 self:=fun _ _ _ _ _ st h=>wpAny_pyIter_zip st.1 h
section
variable {X:Cx} {elts:List Expr} {k:Nat} {tpos:Pos}
def uq (K:PySem.W.Frag) (ta:TA):TI:=fun σ H R=>ta σ H fun vs H1=>∃ a b,vs=[.ref a,.ref b]∧(∃ xs,SqL K H1 a xs)∧(∃ ys,SqL K H1 b ys)∧R (Itz K a b) H1
theorem rP {a b:Expr} {ta:TA} {p pos:Pos} (hg:Gl X "zip") (hm:X.mg "zip" = none) (ha:PA X [a,b] ta) (hs:starEach [a,b] X.env=[(false,eval a X.env),(false,eval b X.env)]:=by rfl) (hs2:starEach [b] X.env=[(false,eval b X.env)]:=by rfl) :
  PI X (.Tuple elts k tpos) (.Call (.Name "zip" p) [a,b] [] pos) (uq X.K ta):=by
 intro pins s σ H R I h;refine Call_ (cI I hg hm boot_zip (PyProof.Rows.callWith_type1 (thn (ha pos pins s σ H _ I h) fun us s1 ⟨vs,H1,I1,r1,q1⟩=>?_) (by rw [hs,hs2]) (by rw [hs2];rfl)));obtain ⟨l1,l2,e,⟨xs,hx⟩,⟨ys,hy⟩,q⟩:=q1;subst e;obtain ⟨u,v,rfl,ru,rv⟩:=r1.two
 cases ru
 cases rv
 obtain ⟨its,rr,pl,hz⟩:=I1.list hx;obtain ⟨its2,rr2,pl2,hz2⟩:=I1.list hy;have lt1:l1 < s1.heap.objs.size:=by obtain ⟨o,e,_⟩:=pl.isList;exact Heap.lt_size e
 have lt2:l2 < s1.heap.objs.size:=by obtain ⟨o,e,_⟩:=pl2.isList;exact Heap.lt_size e
 refine call_zip_2 pl.isList pl2.isList fun h' z1 z2 z3 z4 z5 zs kk=>?_;have I2:Inv X pins σ H1 { s1 with heap:=h' }:=I1.kept (t':=s1.toks) kk;refine wpAny_pyIter_zip z1 ?_;refine ⟨_,_,_,_,H1,rfl,I2,oC _ _ _ _ _ l1 l2 ?_,⟨z1,z2,⟨_,_,z3⟩,z4,z5⟩,fun b hb=>?_,q⟩
 ·have lt1':s1.heap.objs.size > l1:=lt1;have lt2':s1.heap.objs.size > l2:=lt2
  constructor <;> (show ¬ (@Eq Nat _ _)) <;> lia
 ·have:s1.heap.objs.size≤b:=by
   simp only [List.mem_cons,List.not_mem_nil,or_false] at hb;rcases hb with rfl | rfl | rfl | rfl | rfl <;> lia
  exact I1.fpOk this (I1.hok.fresh this)
end
theorem oD {K:PySem.W.Frag} {a b l:Addr} {xs ys:List V} {g:TG} {tb:List V→Addr→St→Hp→(List V→St→Hp→Prop)→Prop} {Q:VK} {σ0:St} {H0:Hp} (Pv:Nat→List V→St→Hp→Prop) (h0:Pv 0 [] σ0 H0)
  (hla:∀ i us σ H,Pv i us σ H→SqL K H a xs∧SqL K H b ys)
  (hs:∀ i x y T us σ H (N:List V→St→Hp→Prop),xs[i]?=some x→ys[i]?=some y→H T=none→Pv i us σ H→(∀ us' σ' H',Pv (i+1) us' σ' H'→N us' σ' H')→g (.ref T) σ (upd H T (.tup [x,y])) fun σ2 H2=>tb us l σ2 H2 N)
  (hd:∀ us σ H,Pv (min xs.length ys.length) us σ H→Q (.ref l) H) :
  ∃ W:Nat→Nat→List V→St→Hp→Prop,(∃ m,W 0 m [] σ0 H0)∧∀ i m us σ' H',W i m us σ' H'→((Itz K a b).stop i H'∧Q (.ref l) H') ∨
   ((Itz K a b).go i H'∧∀ x H'',(Itz K a b).yld i H' x H''→g x σ' H'' fun σ2 H2=>tb us l σ2 H2 fun us' σ3 H3=>∃ m',m' < m∧W (i+1) m' us' σ3 H3):=by
 refine ⟨fun i m us σ H=>m=min xs.length ys.length - i∧i≤min xs.length ys.length∧Pv i us σ H,⟨_,rfl,Nat.zero_le _,h0⟩,?_⟩;rintro i m us σ H ⟨rfl,hi,p⟩;obtain ⟨sa,sb⟩:=hla i us σ H p
 by_cases hlt:i < min xs.length ys.length
 ·obtain ⟨x,ex⟩:∃ x,xs[i]?=some x:=⟨_,List.getElem?_eq_getElem (by lia)⟩;obtain ⟨y,ey⟩:∃ y,ys[i]?=some y:=⟨_,List.getElem?_eq_getElem (by lia)⟩;refine .inr ⟨⟨xs,ys,x,y,sa,sb,ex,ey⟩,fun v H' q=>?_⟩;obtain ⟨T,x',y',rfl,hT,rfl,q1,q2⟩:=q;have e1:=q1 xs sa;have e2:=q2 ys sb;exact hs i x' y' T us σ H _ e1 e2 hT p fun us' σ' H' w=>⟨_,by lia,rfl,hlt,w⟩
 ·have e:i=min xs.length ys.length:=by lia
  subst e;exact .inl ⟨⟨xs,ys,sa,sb,rfl⟩,hd us σ H p⟩
def met:List Key→List Key
 | []=>[]
 | k :: r=>if r.any (fun j=>decide (j=k)) then met r else k :: met r
theorem iU (k:Key):∀ l:List Key,(met l).any (fun j=>decide (j=k))=l.any (fun j=>decide (j=k))
 | []=>rfl
 | a :: r=>by
  unfold met
  split
  ·rename_i h
   rw [iU k r,List.any_cons]
   by_cases e:a=k
   ·subst e;rw [h];simp
   ·simp [e]
  ·rw [List.any_cons,List.any_cons,iU k r]
theorem oE:∀ l:List Key,(met l).length≤l.length
 | []=>Nat.le_refl _
 | a :: r=>by
  unfold met;have:=oE r
  split
  ·rw [List.length_cons];lia
  ·rw [List.length_cons,List.length_cons];lia
theorem ml:∀ {l:List Key},l.Nodup→(met l).length=l.length
 | [],_=>rfl
 | a :: r,h=>by
  obtain ⟨h1,h2⟩:=List.nodup_cons.mp h;unfold met;rw [if_neg,List.length_cons,List.length_cons,ml h2];intro z;obtain ⟨b,hb,e⟩:=List.any_eq_true.mp z;exact h1 (of_decide_eq_true e ▸ hb)
abbrev eG (ks:List Key) (i:Nat):List Key:=met (ks.take i).reverse
theorem ir {ks:List Key} {i:Nat} {k:Key} (h:ks[i]?=some k):eG ks (i+1)=if (eG ks i).any (fun j=>decide (j=k)) then eG ks i else k :: eG ks i:=by
 have e:(ks.take (i+1)).reverse=k :: (ks.take i).reverse:=by rw [List.take_add_one,h];simp
 show met (ks.take (i+1)).reverse=_;rw [e];show (if (ks.take i).reverse.any (fun j=>decide (j=k)) then met (ks.take i).reverse else k :: met (ks.take i).reverse)=_;rw [← iU k (ks.take i).reverse]
theorem qf (ks:List Key) (i:Nat):(eG ks i).length≤i:=by
 have h:=oE (ks.take i).reverse;rw [List.length_reverse,List.length_take] at h;show (met (ks.take i).reverse).length≤i;lia
section
variable {P:Program} {w:World} {A:Around} {R:Result→Shared→Prop} {it:Addr} {fp wr:List Addr} {G:Array GenState→Array GenState→Prop} {n:Nat} {Pt:Nat→Value→Prop} {St:Nat→Shared→Prop}
abbrev SetK (P:Program) (w:World) (h:Heap) (a:Addr) (l:List Key):Prop:=h.SetOf (az P w) a (fun k=>l.any fun j=>decide (j=k)) l.length
theorem SetK.kept {h h':Heap} {a:Addr} {l:List Key} (x:SetK P w h a l) (k:∀ o,h.get? a=some o→h'.get? a=some o):SetK P w h' a l:=by
 obtain ⟨o,es,ep,tb,ho,rest⟩:=x;exact ⟨o,es,ep,tb,k o ho,rest⟩
theorem oF {h:Heap} {a:Addr} {S S':Key→Bool} {n n':Nat} (x:h.SetOf (az P w) a S n) (e:∀ k,S k=S' k) (en:n=n'):h.SetOf (az P w) a S' n':=by
 cases en
 cases (funext e:S=S')
 exact x
theorem oG (W:WalksS P w A.in1 it fp wr G n Pt St) (S:Addr) (hS0:S∉fp) (ks:List Key) (hks:ks.length=n) (hv:∀ i v,Pt i v→∃ k,ks[i]?=some k∧(az P w).is k v=true∧v.scannable=true) (hn:n+1 < scanBound) :
  ∀ (d i:Nat) (s:Shared),n - i=d→i≤n→St i s→SetK P w s.heap S (eG ks i) →
   (∀ s',Moved (S :: wr) G s s'→SetK P w s'.heap S (eG ks n)→R (.ok (.ret .none)) s')→codeAny (model P w) A (.builtin "set.update.loop" ⟨[.ref S,.ref it],[]⟩) R s:=by
 have nw:S∉wr:=fun z=>hS0 (W.sub _ z);have up:∀ b∈wr,b∈S :: wr:=fun b z=>List.mem_cons_of_mem _ z;intro d
 induction d with
 | zero =>
  intro i s e1 e2 st hS hR;obtain rfl:i=n:=by lia
  refine codeAny_builtin PyProof.Rows.F.entry_set_update_loop (by
   rw [Around.under_plainId PyProof.Rows.F.plain_set_update_loop _];show wpAny _ A.in1 (pyNext (.ref it) >>= _) _ _ s;refine wpAny_bind (W.done s _ _ st fun s' mv=>?_);exact wpAny_pure (hR s' (mv.mono up) (hS.kept fun o q=>mv.heap S o nw q)))
 | succ d ih =>
  intro i s e1 e2 st hS hR;have lt:i < n:=by lia
  refine codeAny_builtin PyProof.Rows.F.entry_set_update_loop (by
   rw [Around.under_plainId PyProof.Rows.F.plain_set_update_loop _];show wpAny _ A.in1 (pyNext (.ref it) >>= _) _ _ s;refine wpAny_bind (W.item i s _ _ lt st fun v s' pv st' mv=>?_);obtain ⟨k,ek,kv,sc⟩:=hv i v pv;have hS':=hS.kept (h':=s'.heap) fun o q=>mv.heap S o nw q;show wpAny _ A.in1 (holding [v] (setAdd S v) >>= _) _ _ s';refine wpAny_bind (wpAny_holding (by
    unfold setAdd;refine wpAny_holding (wpAny_bind ((az P w).pyHash kv ?_));have room:(eG ks i).length+1 < scanBound:=by have:=qf ks i;lia
    refine wpAny_setAddHashed_of (knd:=az P w) (s:={ s' with toks:=s'.toks+1 }) kv sc hS' room fun h2 sb hS2=>?_;have hS3:SetK P w h2 S (eG ks (i+1)):=by
     refine oF hS2 (fun j=>?_) ?_
     ·rw [ir ek]
      split
      ·rename_i c
       by_cases z:j=k
       ·subst z;rw [c];simp
       ·simp [z]
      ·rw [List.any_cons,Bool.or_comm]
       congr 1
       exact decide_eq_decide.mpr eq_comm
     ·rw [ir ek]
      split <;> rfl
    refine wpAny_pure ⟨plainId_quiet PyProof.Rows.F.plain_set_update_loop _,ih (i+1) _ (by lia) lt (W.frame _ s' _ _ st' (Nat.le_succ _) fun b hb o q=>?_) hS3 fun s3 mv3 hS4=>?_⟩
    ·rw [sb.2 b (fun z:b=S=>hS0 (by rw [← z];exact hb))];exact q
    ·refine hR s3 (Moved.trans W.gtrans ((mv.mono up).then_heap (Nat.le_succ _) fun b o hb q=>?_) mv3) hS4;rw [sb.2 b (fun z:b=S=>hb (by rw [z];exact List.mem_cons_self))];exact q)))
theorem gH:isSubtype (.type "tuple") (.type "set")=pure false:=cq _ _
theorem df:isSubtype (.type "tuple") (.type "frozenset")=pure false:=cq _ _
end
section
variable {P:Program} {w:World} {A:Around} {E:Value→Shared→Prop} {s:Shared}
def iV (b:Bool):Obj:={ cls:=.type "set",dict:=none,data:=.set #[] 0 (.fresh 0 0 b) }
set_option maxHeartbeats 3200000 in
theorem iW {t:Addr} {its:Array Value} {ks:List Key} {Q:Value→Shared→Prop} (hh:A.handled=none) (ht:s.heap.IsTuple t its) (hl:ks.length=its.size) (hv:∀ (i:Nat) v,its[i]?=some v→∃ k,ks[i]?=some k∧(az P w).is k v=true∧v.scannable=true)
  (hn:its.size+1 < scanBound) (h:∀ (h':Heap) (tk:Nat),SetK P w h' s.heap.objs.size (eG ks its.size)→(∀ b o,s.heap.get? b=some o→h'.get? b=some o)→Q (.ref s.heap.objs.size) { s with heap:=h',toks:=tk }) :
  wpAny (model P w) A (call (.type "set") [.ref t]) Q E s:=by
 obtain ⟨c0,tl,hmro⟩:=PySem.F.called_set.mro;have k1:=PySem.F.called_set.made;have k2:=PySem.F.called_set.sub;refine wpAny_call (codeAny_of_tree (by
  show wpAny _ _ (callAny (.type "set") _) _ _ _;refine wpAny_pure ⟨Code.quiet_builtin _ (by decide +kernel),codeAny_builtin PySem.F.entry_type_call ?_⟩;rw [Around.under_plain (weight_type_call_type "set" [.ref t] []) rfl];have k3:=PySem.F.called_set.notType;have k4:=PySem.F.called_set.canCreate;have k5:=PySem.F.typeCall_set_1 (.ref t)
  repeat (any_goals (first | assumption | wp_step))
  refine codeAny_mono (code_set_new_1 (.ref t) (E:=E) (Q₁:=fun ob s1=>∃ b:Bool,ob=.ref s.heap.objs.size∧s1={ s with heap:=s.heap.push (iV b) }) fun b=>⟨b,rfl,rfl⟩) fun r s1 hr=>?_
  cases r with
  | error e=>exact hr
  | ok fl =>
   cases fl with
   | ret ob =>
    obtain ⟨b,rfl,rfl⟩:=hr;have g1:(s.heap.push (iV b)).get? s.heap.objs.size=some (iV b):=Heap.get?_push_size _ rfl;have tS:Shared.TypeIs { s with heap:=s.heap.push (iV b) } (.ref s.heap.objs.size) "set" :=⟨_,g1,rfl⟩;have k6:=PySem.F.called_set.init.lookup;have k7:=PySem.F.called_set.init.bind (.ref s.heap.objs.size)
    repeat (any_goals (first | assumption | wp_step))
    refine codeAny_mono (codeAny_call_builtin (R:=wants (fun r s2=>r=.none∧∃ h' tk,s2={ s with heap:=h',toks:=tk }∧SetK P w h' s.heap.objs.size (eG ks its.size)∧(∀ b o,s.heap.get? b=some o→h'.get? b=some o)) E)
     PySem.F.called_set.init.plain PySem.F.entry_set_init (check_set_init_1 tS ?_)) fun r2 s2 hr2=>?_
    ·obtain ⟨⟨oc,od,oa,osl⟩,ho,hcl,nl,hdt⟩:=id ht;simp only at hcl hdt;subst hcl hdt;have ht1:(s.heap.push (iV b)).IsTuple t its:=⟨_,Heap.get?_push_of_some _ ho,rfl,nl,rfl⟩;have ho1:(s.heap.push (iV b)).get? t=some { cls:=.type "tuple",dict:=od,data:=.seq its nl,slots:=osl }:=Heap.get?_push_of_some _ ho;have k8:=gH;have k9:=df;have ka:(Value.type "tuple" == Value.type "dict")=false:=by decide
     unfold Builtin.«set.__init__» noKeywords Builtin.Frozenset.updateFrom
     generalize hPI:pyIter=PI
     wp_walk
     subst hPI;refine wpAny_pyIter_tuple ht1 ?_;refine wpAny_bind (wpAny_runValue ?_);have lt:s.heap.objs.size > t:=Heap.lt_size ho;have hh3:A.in1.in1.in1.handled=none:=by simp [hh]
     have sz:(s.heap.push (iV b)).objs.size=s.heap.objs.size+1:=Heap.size_push ..;have ne1:t≠(s.heap.push (iV b)).objs.size:=by rw [sz];exact Nat.ne_of_lt (Nat.lt_succ_of_lt lt)
     have nS:s.heap.objs.size∉[(s.heap.push (iV b)).objs.size,t]:=by
      rw [sz];intro z;rcases List.mem_cons.mp z with z | z
      ·exact absurd z (Nat.ne_of_lt (Nat.lt_succ_self _))
      ·exact absurd (List.mem_singleton.mp z) (Nat.ne_of_gt lt)
     refine oG ((Walks.tuple hh3 _ t ne1 its).toS) s.heap.objs.size nS ks hl hv hn (its.size - 0) 0 _ rfl (Nat.zero_le _) ⟨⟨_,Heap.get?_push_size _ rfl,rfl,rfl⟩,ht1.push _⟩ ?_ ?_
     ·exact ⟨_,#[],0,_,Heap.get?_push_of_some _ g1,⟨rfl,rfl,rfl⟩,rfl,(fun e he=>by simp at he),(fun k=>⟨fun z=>Bool.noConfusion (show false=true from z),fun ⟨e,he,_⟩=>(List.not_mem_nil he).elim⟩),by decide,rfl,rfl⟩
     ·intro s3 mv hS3;obtain ⟨h3,g3,d3,t3,o3⟩:=s3
      cases (mv.gens:g3=s.gens)
      cases (mv.drawn:d3=s.drawn)
      cases (mv.os:o3=s.os)
      refine wpAny_pure (wpAny_pure ⟨rfl,h3,t3,rfl,hS3,fun c o q=>?_⟩);have lc:s.heap.objs.size > c:=Heap.lt_size q;refine mv.heap c o ?_ (Heap.get?_push_of_some _ (Heap.get?_push_of_some _ q));intro z;rcases List.mem_cons.mp z with z | z
      ·exact absurd z (Nat.ne_of_lt lc)
      ·exact absurd ((List.mem_singleton.mp z).trans sz) (Nat.ne_of_lt (Nat.lt_succ_of_lt lc))
    ·cases r2 with
     | error e=>exact hr2
     | ok fl2 =>
      cases fl2 with
      | ret r =>
       obtain ⟨rfl,h',tk,rfl,q1,q2⟩:=hr2
       repeat (any_goals (first | assumption | wp_step))
       exact h _ _ q1 q2
      | _=>exact hr2.elim
   | _=>exact hr.elim))
end
def rQ (P:Program) (w:World) (p:Addr) (n:Nat):HO:=.ext fun h=>∃ l,SetK P w h p l∧l.length=n
section
variable {X:Cx}
theorem qg {k:Key} {u:Value} (r:RelV (kV k) u):u.scannable=true:=by
 cases k with
 | inl i=>obtain ⟨t,rfl⟩:=r;rfl
 | inr z=>obtain ⟨t,rfl⟩:=r;rfl
theorem nb (hc:X.calm=true):aW X (.type "set") (fun xs H Q=>∃ a ks,xs=[.ref a]∧SqT X.K H a (ks.map kV)∧ks.length≤1000∧∀ p,H p=none→Q (.ref p) (upd H p (rQ X.prog X.w p (eG ks ks.length).length))):=by
 intro pins s σ H xs us Q I r h;obtain ⟨a,ks,rfl,ha,hl,q⟩:=h;obtain ⟨u,rfl,rx⟩:=dh r
 cases rx
 obtain ⟨its,rv,ht,hz⟩:=I.tuple ha;have el:=rv.length;rw [List.length_map] at el;have ez:its.toArray.size=ks.length:=by rw [List.size_toArray,el]
 refine iW (ks:=ks) (I.ok.hd hc) (show s.heap.IsTuple a its.toArray from ht) ez.symm (fun i v e=>?_) (by rw [ez];unfold scanBound;lia) fun h' tk hS kk=>?_
 ·have e':its[i]?=some v:=by simpa using e
  have hi:i < ks.length:=by rw [el];exact (List.getElem?_eq_some_iff.mp e').1
  obtain ⟨v',ev,rk⟩:=rv.get (i:=i) (x:=kV ks[i]) (by rw [List.getElem?_map,List.getElem?_eq_getElem hi];rfl);rw [e'] at ev
  cases ev
  exact ⟨ks[i],List.getElem?_eq_getElem hi,ki rk,qg rk⟩
 ·rw [ez] at hS;refine ⟨.ref s.heap.objs.size,_,I.laid (a:=s.heap.objs.size) (o:=rQ X.prog X.w s.heap.objs.size (eG ks ks.length).length) kk (Nat.le_refl _) ?_,rfl,q _ (I.hok.fresh (Nat.le_refl _))⟩;obtain ⟨o,_,_,_,ho,_⟩:=id hS;exact ⟨⟨_,hS,rfl⟩,⟨o,ho⟩,fun h1 h2 ⟨l,hl,e⟩ k=>⟨l,hl.kept k,e⟩⟩
theorem nc:aW X (.builtin "len") (fun xs H Q=>∃ p n,xs=[.ref p]∧H p=some (rQ X.prog X.w p n)∧Q (.int n) H):=by
 intro pins s σ H xs us Q I r h;obtain ⟨p,n,rfl,e,q⟩:=h;obtain ⟨u,rfl,rx⟩:=dh r
 cases rx
 obtain ⟨⟨l,hS,en⟩,_,_⟩:=I.hok p _ e;obtain ⟨o,es,ep,tb,ho,hex,hd,_,_,hb,hf,hn⟩:=hS;have e2:es.size=n:=hn.trans en;have hb':es.size < 4096:=hb;exact call_len_set ho hex hd hf (by lia) ⟨.int n,H,I.tok _,⟨_,by rw [e2]⟩,q⟩
end
section
variable {K:PySem.W.Frag} {a b l:Addr} {xs ys:List V} {g:TG} {tb:List V→Addr→St→Hp→(List V→St→Hp→Prop)→Prop} {R:Hp→Prop} {σ0:St} {H0:Hp}
theorem aT (Pv:Nat→List V→St→Hp→Prop) (h0:Pv 0 [] σ0 H0) (hl:∀ i ys σ H,i≤xs.length→Pv i ys σ H→SqT K H a xs)
  (hs:∀ i x ys σ H (N:List V→St→Hp→Prop),xs[i]?=some x→Pv i ys σ H→(∀ ys' σ' H',Pv (i+1) ys' σ' H'→N ys' σ' H')→g x σ H fun σ2 H2=>tb ys l σ2 H2 N)
  (hd:∀ ys σ H,Pv xs.length ys σ H→R H) :
  ∃ W:Nat→Nat→List V→St→Hp→Prop,(∃ m,W 0 m [] σ0 H0)∧∀ i m ys σ' H',W i m ys σ' H'→((Itt K a).stop i H'∧R H') ∨
   ((Itt K a).go i H'∧∀ x H'',(Itt K a).yld i H' x H''→g x σ' H'' fun σ2 H2=>tb ys l σ2 H2 fun ys' σ3 H3=>∃ m',m' < m∧W (i+1) m' ys' σ3 H3):=oh (Q:=fun _ H=>R H) Pv h0 hl hs hd
theorem lF (Pv:Nat→List V→St→Hp→Prop) (h0:Pv 0 [] σ0 H0) (hl:∀ i ys σ H,i≤xs.length→Pv i ys σ H→SqL K H a xs)
  (hs:∀ i x ys σ H (N:List V→St→Hp→Prop),xs[i]?=some x→Pv i ys σ H→(∀ ys' σ' H',Pv (i+1) ys' σ' H'→N ys' σ' H')→g x σ H fun σ2 H2=>tb ys l σ2 H2 N)
  (hd:∀ ys σ H,Pv xs.length ys σ H→R H) :
  ∃ W:Nat→Nat→List V→St→Hp→Prop,(∃ m,W 0 m [] σ0 H0)∧∀ i m ys σ' H',W i m ys σ' H'→((Itl K a).stop i H'∧R H') ∨
   ((Itl K a).go i H'∧∀ x H'',(Itl K a).yld i H' x H''→g x σ' H'' fun σ2 H2=>tb ys l σ2 H2 fun ys' σ3 H3=>∃ m',m' < m∧W (i+1) m' ys' σ3 H3):=mX (Q:=fun _ H=>R H) Pv h0 hl hs hd
theorem ng (Pv:Nat→List V→St→Hp→Prop) (h0:Pv 0 [] σ0 H0) (hla:∀ i us σ H,Pv i us σ H→SqL K H a xs∧SqL K H b ys)
  (hs:∀ i x y T us σ H (N:List V→St→Hp→Prop),xs[i]?=some x→ys[i]?=some y→H T=none→Pv i us σ H→(∀ us' σ' H',Pv (i+1) us' σ' H'→N us' σ' H')→g (.ref T) σ (upd H T (.tup [x,y])) fun σ2 H2=>tb us l σ2 H2 N)
  (hd:∀ us σ H,Pv (min xs.length ys.length) us σ H→R H) :
  ∃ W:Nat→Nat→List V→St→Hp→Prop,(∃ m,W 0 m [] σ0 H0)∧∀ i m us σ' H',W i m us σ' H'→((Itz K a b).stop i H'∧R H') ∨
   ((Itz K a b).go i H'∧∀ x H'',(Itz K a b).yld i H' x H''→g x σ' H'' fun σ2 H2=>tb us l σ2 H2 fun us' σ3 H3=>∃ m',m' < m∧W (i+1) m' us' σ3 H3):=oD (Q:=fun _ H=>R H) Pv h0 hla hs hd
end
theorem cv {X:Cx} {K:PySem.W.Frag} {es:List Expr} {k:Nat} {pos:Pos} {t:TGs} {n:Nat} (hK:X.K=K) (hc:X.calm=true) (h:PGs X es t)
  (hn:(assignEach es X.env).length=n:=by rfl) (hst:(assignEach es X.env).findIdx? (·.1)=none:=by rfl):PG X (.Tuple es k pos) (sL K n t):=by
 subst hK;exact pg_tup hc h hn hst
theorem aU {H H1:Hp} {l:Addr} {o:HO} (hl:H l=none) (g:Same H H1):Same H (upd H1 l o):=fun b u e=>by rw [ah (aj e hl)];exact g b u e
section
variable {X:Cx}
theorem oH {elt tgt iter:Expr} {ifs:List Expr} {scope:Scope} {pos spos py:Pos} {NL N':List Str} {ρ:List Nat} {wi:TI} {g:TG} {tb:List V→Addr→St→Hp→(List V→St→Hp→Prop)→Prop} {body:Value→Env→Sem Unit} {j:Nat} {y:Str}
  (hN:X.N.Nodup) (hj:X.N[j]?=some y) (hy:Loc X.env.scope y) (hfn:X.fn y=true∨X.env.scope.names.lookup y=some .local)
  (hsw:swapsWith (.ListComp elt [⟨tgt,iter,ifs,0⟩] scope pos) (some (.Name y py)) spos.line X.env=pure true)
  (hc:X.calm=true) (S:CScope X scope NL ρ N') (hi:PI X tgt iter wi)
  (hg:∀ C s₀ H₀ fp,PG (ccx X scope C N' s₀ H₀ fp) tgt g) (hb:∀ C s₀ H₀ fp,PB (ccx X scope C N' s₀ H₀ fp) (fun acc=>body acc (ccx X scope C N' s₀ H₀ fp).env) tb)
  (he:∀ (it acc:Value) (env:Env),compTurn (.ListComp elt [⟨tgt,iter,ifs,0⟩] scope pos) 0 it acc env=(standAt iter.pos >>= fun _=>pyNext it >>= fun r=>match r with
   | none=>pure (.done .next)
   | some v=>letOwnedTupleGo tgt it v >>= fun _=>assign tgt env v >>= fun _=>body acc env >>= fun _=>again (.compLoop (.ListComp elt [⟨tgt,iter,ifs,0⟩] scope pos) 0 it acc env)))
  (hs:∀ x,foldedSetIterable iter X.env x=pure x:=by intro _;rfl):PS X (.Assign [.Name y py] (.ListComp elt [⟨tgt,iter,ifs,0⟩] scope pos) spos) (mK (me NL.length ρ wi g tb) (eQ j)):=by
 intro pins s σ H D0 I h;have free_in:∀ x∈scope.names,x.2=.free→∃ c,X.env.cells.lookup x.1=some c:=fun x hx hk=>I.ok.has x.1 (S.frees x hx hk);rw [exec_Assign_Name_used _ _ _ _ hsw];refine wpAny_bind (wpAny_standAt (wpAny_bind ?_));rw [arm_evalThenUse_ListComp];refine wpAny_bind (thn (Q:=fun _ s'=>SP X pins D0 .next s') ?_ fun _ s' q0=>wpAny_pure (wpAny_pure q0));refine wpAny_comprehension_free (use:=some (assign (.Name y py) X.env)) (Q:=fun _ s'=>SP X pins D0 .next s') rfl hs (fY free_in) S.kind S.locs ?_;refine thn (hi pins s σ H _ I h) fun v s1 h1=>thn h1 fun itv s2 h2=>?_;obtain ⟨it,fp,tn,J,H2,e,I2,T,st2,f2,w⟩:=h2;subst e;refine wpAny_newObj_type (wpAny_newFunctionEnv S.nocell (by intro y hy;simp at hy) (fun h₁ hns₁ hsb₁=>?_) S.kind);dsimp only at hns₁ hsb₁ ⊢
 generalize hH2:s2.heap.push { cls:=.type "list",dict:=none,data:=.seq ([]:List Value).toArray }=h2' at hns₁ hsb₁ ⊢
 have hCs:h2'.objs.size=s2.heap.objs.size+1:=by rw [← hH2,Heap.size_push]
 have hDC:s2.heap.objs.size≠h2'.objs.size:=by rw [hCs];exact Nat.ne_of_lt (Nat.lt_succ_self _)
 have hC:s2.heap.objs.size≤h2'.objs.size:=by rw [hCs];exact Nat.le_succ _
 have old:∀ b o,s2.heap.get? b=some o→h₁.get? b=some o:=fun b o e=>hsb₁.extBut b o (Nat.ne_of_lt (Nat.lt_of_lt_of_le (Heap.lt_size e) hC)) (Heap.get?_push_of_some _ (hH2 ▸ Heap.get?_push_of_some _ e));have hd:h₁.get? s2.heap.objs.size=some { cls:=.type "list",data:=.seq #[] 0 }:=hsb₁.extBut _ _ hDC (Heap.get?_push_of_some _ (hH2 ▸ Heap.get?_push_size _ rfl));have hfo:∀ b∈fp,∃ o,s2.heap.get? b=some o:=fun b hb=>let ⟨o,e,_⟩:=T.obj _ _ st2 b hb;⟨o,e⟩;have I4:Inv (ccx X scope h2'.objs.size N' s2 H2 fp) (X.pn++pins) (cst NL.length ρ σ) (upd H2 s2.heap.objs.size (.lst [])) { s2 with heap:=h₁,toks:=s2.toks+([]:List (Str×Value)).length } :=
  Inv.comp S I2 f2 hfo hC (Nat.le_refl _) hDC old hd (by simpa using hns₁)
 have hD0:H2 s2.heap.objs.size=none:=I2.hok.fresh (Nat.le_refl _);have nfp:s2.heap.objs.size∉fp:=fun z=>by
  obtain ⟨o,e⟩:=hfo _ z;exact absurd (Heap.lt_size e) (Nat.lt_irrefl _)
 obtain ⟨W,⟨m0,w0⟩,turn⟩:=w s2.heap.objs.size hD0;have stat:∀ {H':Hp},(∀ b∈fp,H' b=none)→∀ b∈fp,dv (ccx X scope h2'.objs.size N' s2 H2 fp) (X.pn++pins) H' b:=fun {H'} hn b hb=>by
  obtain ⟨f0,f1,f2',f3,f4,f5⟩:=f2 b hb;have ok:=I4.ok;refine ⟨hn b hb,(ok.exf b hb).1,ok.exfs b hb,.inl hb,(ok.exf b hb).2,fun p hp=>f5 p hp⟩
 have loop:∀ s₃:Shared,s₃={ s2 with heap:=h₁,toks:=s2.toks+([]:List (Str×Value)).length } →
   codeAny (model X.prog X.w) X.A (.compLoop (.ListComp elt [⟨tgt,iter,ifs,0⟩] scope pos) 0 (.ref it) (.ref s2.heap.objs.size) (compEnvC scope (bU X.env scope.names []) h2'.objs.size X.env))
    (compPost (model X.prog X.w) X.A X.xe (some (assign (.Name y py) X.env)) (fun _ s'=>SP X pins D0 .next s') (.ref s2.heap.objs.size) h2'.objs.size) s₃:=by
  rintro s₃ rfl;refine codeAny_loop rfl (fun n s'=>∃ i ys σ' H',Inv (ccx X scope h2'.objs.size N' s2 H2 fp) (X.pn++pins) σ' H' s'∧tn i s'.heap∧(∀ b∈fp,H' b=none)∧W i n ys σ' H') (fun n s3 hI=>?_) m0
   ⟨0,[],_,_,I4,T.keep _ _ _ st2 (fun b _ o e=>old b o e),fun b hb=>?_,w0⟩
  ·obtain ⟨i,ys,σ3,H3,I3,st3,fr3,w3⟩:=hI;show wpAny _ _ ((compTurn (.ListComp elt [⟨tgt,iter,ifs,0⟩] scope pos) 0 (.ref it) (.ref s2.heap.objs.size) (compEnvC scope (bU X.env scope.names []) h2'.objs.size X.env)).onRaise (fun x=>do noteFrame x _;theTreesLotGoes x)) _ _ s3;refine wpAny_noted ?_;rw [he];refine wpAny_bind (wpAny_standAt (wpAny_bind ?_));rcases turn i n ys σ3 H3 w3 with ⟨stop,qn⟩ | ⟨go,step⟩
   ·refine thn (T.done (ccx X scope h2'.objs.size N' s2 H2 fp) rfl rfl rfl hc i _ s3 σ3 H3 _ I3 (stat fr3) st3 stop) fun r s4 ⟨hr,I5⟩=>?_;subst hr;refine wpAny_pure ?_;obtain ⟨m,hm,_⟩:=id I5.loc;have IX:Inv X pins σ H3 { s4 with heap:=s4.heap }:=Inv.compEnd I2 f2 hC I5 (Heap.SameBut.refl _ _);have cne:∀ x c,X.env.cells.lookup x=some c→c≠h2'.objs.size:=fun x c ec z=>by
     obtain ⟨v0,oc,hoc,_⟩:=I2.cell x c ec;exact absurd (Nat.lt_of_lt_of_le (Heap.lt_size hoc) hC) (by rw [z];exact Nat.lt_irrefl _)
    have lne:h2'.objs.size≠X.env.locals:=Nat.ne_of_gt (Nat.lt_of_lt_of_le I2.lt hC);refine wpAny_assign_Name (hZ IX hN hj hy (v:=.ref s2.heap.objs.size) rfl (fun s5 I6 ⟨a,sb,ha⟩=>?_) hfn);have na:h2'.objs.size≠a:=fun z=>by
     rcases ha with e | e
     ·exact lne (z.trans e)
     ·exact cne _ _ e z.symm
    refine ⟨m,hm.at' fun o e=>(sb.2 _ na).trans e,fun h' hs'=>⟨_,H3,?_,qn⟩⟩;exact I6.turned (t':=s5.toks) (fun b o hb' e=>(hs'.2 b hb').trans e) I5.free lne (.inr (Nat.le_trans I2.sz hC)) cne fun q hq z=>by
     obtain ⟨e,_⟩:=I2.pin q hq;exact absurd (Nat.lt_of_lt_of_le (Heap.lt_size e) hC) (by rw [z];exact Nat.lt_irrefl _)
   ·refine thn (T.item (ccx X scope h2'.objs.size N' s2 H2 fp) rfl rfl rfl hc i _ s3 σ3 H3 _ I3 (stat fr3) st3 go) fun r s4 ⟨u,hr,h4⟩=>?_;subst hr;refine wpAny_bind (thn h4 fun _ s5 ⟨x,H5,I5,r5,y5,st5,fr5⟩=>?_);have I5':=I5.pinned (stat fr5) (T.obj _ _ st5);refine wpAny_bind (wpAny_mono (hg h2'.objs.size s2 H2 fp _ s5 σ3 H5 x u _ I5' r5 (step x H5 y5)) (fun _ s6 ⟨σ6,H6,I6,q6⟩=>?_) fun _ _ z=>z.elim);refine wpAny_bind (wpAny_mono (hb h2'.objs.size s2 H2 fp _ s6 σ6 H6 s2.heap.objs.size ys _ I6 q6) (fun _ s7 ⟨ys7,σ7,H7,I7,m',hm,w7⟩=>?_) fun _ _ z=>z.elim);refine wpAny_pure ⟨rfl,m',hm,i+1,ys7,σ7,H7,I7.unpinned,T.keep _ _ _ st5 fun b hb o e=>(I7.pin (b,o) (List.mem_append_right _ (List.mem_append_right _ (bw hb e)))).1,fun b hb=>?_,w7⟩;obtain ⟨o,e,d⟩:=T.obj _ _ st5 b hb;exact (I7.pin (b,o) (List.mem_append_right _ (List.mem_append_right _ (bw hb e)))).2.1
  ·rw [ah (show b≠s2.heap.objs.size from fun z=>nfp (by rw [← z];exact hb))];exact (f2 b hb).1
 refine codeAny_compStart_list (loop _ rfl) (T.self _ 0 _ _ _ ?_ (loop _ rfl));exact T.keep _ _ _ st2 fun b _ o e=>old b o e
theorem ps_setC {elt tgt iter:Expr} {scope:Scope} {pos spos py:Pos} {NL N':List Str} {ρ:List Nat} {wi:TI} {g:TG} {te:TE} {j:Nat} {y:Str} (hN:X.N.Nodup) (hj:X.N[j]?=some y) (hy:Loc X.env.scope y)
  (hc:X.calm=true) (S:CScope X scope NL ρ N') (hi:PI X tgt iter wi) (hg:∀ C s₀ H₀ fp,PG (ccx X scope C N' s₀ H₀ fp) tgt g) (he:∀ C s₀ H₀ fp,PE (ccx X scope C N' s₀ H₀ fp) elt te)
  (hsw:swapsWith (.ListComp elt [⟨tgt,iter,[],0⟩] scope pos) (some (.Name y py)) spos.line X.env=pure true:=by rfl) (hfn:X.fn y=true∨X.env.scope.names.lookup y=some .local:=by first | exact .inl rfl | exact .inr rfl | assumption)
  (hs:∀ x,foldedSetIterable iter X.env x=pure x:=by intro _;rfl):PS X (.Assign [.Name y py] (.ListComp elt [⟨tgt,iter,[],0⟩] scope pos) spos) (mK (me NL.length ρ wi g (cEl te)) (eQ j)) :=
 oH (body:=fun acc env=>do let x ← eval elt env;let _ ← call (.builtin "list.append") [acc,x];pure ()) hN hj hy hfn hsw hc S hi hg (fun C s₀ H₀ fp=>qN (he C s₀ H₀ fp)) (fun it acc env=>jQ elt tgt iter scope pos it acc env) hs
end
section
variable {X:Cx}
variable {K:PySem.W.Frag}
theorem pe_tupPK {es:List Expr} {x1:Nat} {pos:Pos} {t:TA} (hK:X.K=K) (h:PA X es t):PE X (.Tuple es x1 pos) (ow K t):=by subst hK;exact pW h
theorem aY (hK:X.K=K):IxR X (sR K):=by subst hK;exact pJ
theorem qh (hK:X.K=K) (hu:X.A.units+64 < cLine):OpR X (compareOp .Eq) (sZ K):=by subst hK;exact rM hu
theorem op_in_seqK (hK:X.K=K):OpR X (compareOp .In) (rIn K false):=by subst hK;exact mR
end
section
variable {X:Cx}
end
section
variable {X:Cx}
theorem iu:∀ {ss:List Str} {us:List Value},StrsAre us ss→Vals (ss.map V.str) us
 | _,_,.nil=>.nil
 | _,_,.cons z t r=>.cons ⟨t,rfl⟩ (iu r)
end
abbrev two (v:Value) (c:Nat):Obj:={ cls:=.type "list",dict:=none,data:=.seq #[v,v] c,slots:=#[] }
section
variable {prog:Program} {w:World} {A:Around} {R:Result→Shared→Prop} {it:Addr} {fp wr:List Addr} {n:Nat} {P:Nat→Value→Prop} {St:Nat→Heap→Prop}
end
section
variable {prog:Program} {w:World} {A:Around} {E:Value→Shared→Prop} {s:Shared} {l:Addr} {zs:Array (Int×Tok)} {d:Value} {Q:Value→Shared→Prop}
end
section
variable {X:Cx}
end
section
variable {X:Cx} {K:PySem.W.Frag}
end
section
variable {l:Addr} {g:TG} {tb:List V→Addr→St→Hp→(List V→St→Hp→Prop)→Prop} {R:Hp→Prop} {σ0:St} {H0:Hp} {lo:Int} {n:Nat} {z:Str}
end
section
variable {X:Cx} {K:PySem.W.Frag}
inductive JIxP (K:PySem.W.Frag) (x y:V) (H:Hp) (Q:VK):Prop
 | mk (l:List Dt) (i:Int) (d:Dt):(IsP K H (.tup l) x)→(y=.int i)→(atI l i=some d)→(∀ v,IsP K H d v→Q v H)→JIxP K x y H Q
def tF (K:PySem.W.Frag):R2:=fun x y H Q=>JIxP K x y H Q
inductive JCatP (K:PySem.W.Frag) (x y:V) (H:Hp) (Q:VK):Prop
 | mk (l m:List Dt):(IsP K H (.tup l) x)→(IsP K H (.tup m) y)→(l.length+m.length≤sizeLine)→(∀ v H',Same H H'→IsP K H' (.tup (l++m)) v→Q v H')→JCatP K x y H Q
def tG (K:PySem.W.Frag):R2:=fun x y H Q=>JCatP K x y H Q
inductive JLenD (K:PySem.W.Frag) (xs:List V) (H:Hp) (Q:VK):Prop
 | mk (x:V) (l:List Dt):(xs=[x])→(IsD K H (.tup l) x)→(Q (.int l.length) H)→JLenD K xs H Q
def tH (K:PySem.W.Frag):List V→Hp→VK→Prop:=fun xs H Q=>JLenD K xs H Q
inductive JIsi (K:PySem.W.Frag) (xs:List V) (H:Hp) (Q:VK):Prop
 | mk (x:V) (T:String) (b:Bool):(xs=[x,.ty T])→(IsiB K H x T b)→(Q (.bl b) H)→JIsi K xs H Q
def ur (K:PySem.W.Frag):List V→Hp→VK→Prop:=fun xs H Q=>JIsi K xs H Q
inductive JTupP (K:PySem.W.Frag) (xs:List V) (H:Hp) (Q:VK):Prop
 | mk (p:Addr) (ys:List V) (l:List Dt):(xs=[.ref p])→(SqL K H p ys)→(IsPs K H l ys)→(∀ v H',Same H H'→IsP K H' (.tup l) v→Q v H')→JTupP K xs H Q
def tI (K:PySem.W.Frag):List V→Hp→VK→Prop:=fun xs H Q=>JTupP K xs H Q
def tJ (K:PySem.W.Frag):List V→Hp→VK→Prop:=fun xs H Q=>∃ x fs,xs=[x]∧IsP K H (.tup (fs.map prD)) x∧(fs.map (·.1)).Nodup∧fs.length≤1000∧∀ p H',Same H H'→DicP K H' p fs→Q (.ref p) H'
theorem oI (hK:X.K=K):IxR X (tF K):=by
 subst hK;intro e1 e2 pins s σ H x y v u Q I rx ry h hs;obtain ⟨l,i,d,a,b,c,q⟩:=h;exact pZ _ _ _ _ _ _ _ _ _ _ _ I rx ry ⟨l,i,d,a,b,c,q⟩ hs
theorem ko (hK:X.K=K):OpR X (binaryOp .Add) (tG K):=by
 subst hK;intro pins s σ H x y v u Q I rx ry h;obtain ⟨l,m,a,b,c,q⟩:=h;exact pX _ _ _ _ _ _ _ _ _ I rx ry ⟨l,m,a,b,c,q⟩
theorem call_lenDN (hK:X.K=K):aW X (.builtin "len") (tH K):=by
 subst hK;intro pins s σ H xs us Q I r h;obtain ⟨x,l,a,b,q⟩:=h;exact m7 _ _ _ _ _ _ _ I r ⟨x,l,a,b,q⟩
theorem aD (hK:X.K=K):aW X (.builtin "isinstance") (ur K):=by
 subst hK;intro pins s σ H xs us Q I r h;obtain ⟨x,l,m,a,b,q⟩:=h;exact nX _ _ _ _ _ _ _ I r ⟨x,l,m,a,b,q⟩
theorem cw (hK:X.K=K):aW X (.type "tuple") (tI K):=by
 subst hK;intro pins s σ H xs us Q I r h;obtain ⟨x,l,m,a,b,c,q⟩:=h;exact km _ _ _ _ _ _ _ I r ⟨x,l,m,a,b,c,q⟩
theorem call_dictPN (hK:X.K=K) (hc:X.calm=true):aW X (.type "dict") (tJ K):=by subst hK;exact lD hc
theorem be {tg l:Expr} {tl:TE} (hK:X.K=K) (hl:PE X l tl):PI X tg l (sM K tl):=by subst hK;exact rp hl
theorem kq {tg l:Expr} {tl:TE} (hK:X.K=K) (hl:PE X l tl):PI X tg l (qK K tl):=by subst hK;exact pE hl
end
section
variable {prog:Program} {w:World} {A:Around} {E:Value→Shared→Prop} {s:Shared}
theorem bg {b t:Addr} {k:Nat} {its:Array Value} {v:Value} {Q:Value→Shared→Prop} (hb:IsTupIter s.heap b t k) (ht:IsTup s.heap t its) (hv:its[k]?=some v)
  (q:∀ h',IsTupIter h' b t (k+1)→Heap.SameBut b s.heap h'→Q v { s with heap:=h' }):wpAny (model prog w) A (Builtin.SmallTypes.nextOf (.ref b)) Q E s:=by
 obtain ⟨ob,gb,cb,db⟩:=id hb;obtain ⟨ot,gt,_,nt,dt⟩:=ht;unfold Builtin.SmallTypes.nextOf;refine wpAny_bind (wpAny_callSpecial?_slot (name:=Str.ofString "__next__") hb.typeIs slot_tupleiter_next (wpAny_call_entry slot_tupleiter_next hb.typeIs entry_tupleiter_next ?_ (args_tupleiter_next _)));refine show wpAny _ _ (field (.ref b) 0 >>= _) _ _ s from wpAny_bind (wpAny_field gb db (x:=.ref t) rfl ?_);refine show wpAny _ _ (if (Value.ref t == Value.none)=true then _ else _) _ _ s from ?_;rw [if_neg (by exact Bool.false_ne_true)];refine show wpAny _ _ (field (.ref b) 1 >>= _) _ _ s from wpAny_bind (wpAny_field gb db (x:=.int k 0) rfl ?_);refine show wpAny _ _ (seqItems? (.ref t) >>= _) _ _ s from wpAny_bind (wpAny_seqItems gt dt ?_);simp only [hv,Int.toNat_natCast];refine wpAny_bind (wpAny_setField gb db (by simp) (wpAny_pure ⟨v,rfl,wpAny_pure (q _ ⟨_,Heap.get?_update_self _ gb (Obj.isFreed_of_fields (Obj.data_mapFields db _)),(Obj.cls_mapFields ..).trans cb,?_⟩ (Heap.SameBut.update ..))⟩));rw [Obj.data_mapFields db];simp [rawInt]
theorem de {b t:Addr} {k:Nat} {its:Array Value} {Q:Value→Shared→Prop} (hh:A.handled=none) (hb:IsTupIter s.heap b t k) (ht:IsTup s.heap t its) (hv:its[k]?=none)
  (q:∀ h' e,Heap.ExtBut b s.heap h'→(∃ o,h'.get? e=some o∧o.cls=.type "StopIteration")→E (.ref e) { s with heap:=h' }):wpAny (model prog w) A (Builtin.SmallTypes.nextOf (.ref b)) Q E s:=by
 obtain ⟨ob,gb,cb,db⟩:=id hb;obtain ⟨ot,gt,_,nt,dt⟩:=ht;unfold Builtin.SmallTypes.nextOf;refine wpAny_bind (wpAny_callSpecial?_slot (name:=Str.ofString "__next__") hb.typeIs slot_tupleiter_next (wpAny_call_entry slot_tupleiter_next hb.typeIs entry_tupleiter_next ?_ (args_tupleiter_next _)));refine show wpAny _ _ (field (.ref b) 0 >>= _) _ _ s from wpAny_bind (wpAny_field gb db (x:=.ref t) rfl ?_);refine show wpAny _ _ (if (Value.ref t == Value.none)=true then _ else _) _ _ s from ?_;rw [if_neg (by exact Bool.false_ne_true)];refine show wpAny _ _ (field (.ref b) 1 >>= _) _ _ s from wpAny_bind (wpAny_field gb db (x:=.int k 0) rfl ?_);refine show wpAny _ _ (seqItems? (.ref t) >>= _) _ _ s from wpAny_bind (wpAny_seqItems gt dt ?_);simp only [hv,Int.toNat_natCast];refine wpAny_bind (wpAny_rule (wpAny_bind (wpAny_setField gb db (by simp) ?_)));refine show wpAny _ _ (newExc (.type "StopIteration") [] >>= _) _ _ _ from wpAny_bind ?_;simp only [newTuple,newExc];refine wpAny_bind (wpAny_newObj_type (wpAny_bind (m:=firstArgMember _ _) (wpAny_of_eq (a:=Value.none) (by first | rfl | (simp only [firstArgMember];rfl)) (wpAny_newObj_type ?_ (by size_fits)))) (by size_fits));simp only [raiseNew];refine wpAny_bind (wpAny_handled ?_);rw [show A.in1.handled=none from hh];exact wpAny_bind (wpAny_pure (wpAny_throw (q _ _ (((Heap.SameBut.update ..).extBut.push _).push _) ⟨_,Heap.get?_push_size _ rfl,rfl⟩)))
theorem nh {z P0 P1 u v l m:Addr} {k:Nat} {xs ys:Array Value} {x y a b:Value} {Q:Option Value→Shared→Prop} (D:ZipApart z P0 P1 u v l m) (Z:IsZip s.heap z P0 P1 .none) (I0:IsPair s.heap P0 (.ref u) (.ref v)) (I1:IsPair s.heap P1 a b)
  (wu:IsTupIter s.heap u l k) (wv:IsTupIter s.heap v m k) (tl:IsTup s.heap l xs) (tm:IsTup s.heap m ys) (ex:xs[k]?=some x) (ey:ys[k]?=some y)
  (q:∀ h',IsZip h' z P0 P1 (rawInt s.heap.objs.size)→IsPair h' P1 x y→IsTupIter h' u l (k+1)→IsTupIter h' v m (k+1)→IsPair h' s.heap.objs.size x y→h'.objs.size=s.heap.objs.size+1 →
   (∀ c o,c≠z→c≠P1→c≠u→c≠v→s.heap.get? c=some o→h'.get? c=some o)→Q (some (.ref s.heap.objs.size)) { s with heap:=h' }):wpAny (model prog w) A (pyNext (.ref z)) Q E s:=by
 have hT:s.TypeIs (.ref z) "zip" :=⟨_,Z,rfl⟩;unfold pyNext;refine wpAny_bind (wpAny_attempt (wpAny_callSpecial?_slot (name:=Str.ofString "__next__") hT F.slot_zip_next (wpAny_call_entry F.slot_zip_next hT F.entry_zip_next ?_ (F.args_zip_next_1 _))));refine show wpAny _ _ (field (.ref z) 2 >>= _) _ _ _ from wpAny_bind (wpAny_field Z rfl (x:=.bool false) rfl ?_);refine show wpAny _ _ (field (.ref z) 3 >>= _) _ _ _ from wpAny_bind (wpAny_field Z rfl (x:=.ref P0) rfl (wpAny_bind (wpAny_seqItems I0 rfl ?_)));refine show wpAny _ _ (Builtin.SmallTypes.ownedTupleIsFree (.ref z) >>= _) _ _ _ from wpAny_bind ?_;unfold Builtin.SmallTypes.ownedTupleIsFree;refine wpAny_bind (wpAny_field Z rfl (x:=.none) rfl (wpAny_pure ?_));rw [if_pos rfl];refine wpAny_bind (wpAny_rule (wpAny_bind (wpAny_field Z rfl (x:=.ref P1) rfl (wpAny_bind (wpAny_setField_rec Z (by simp) fun ha Za sa=>?_)))));replace Za:IsZip ha z P0 P1 .ellipsis:=Za;refine wpAny_bind ?_;simp only [List.zipIdx_cons,List.forIn_cons,List.zipIdx_nil,List.forIn_nil];refine wpAny_bind (wpAny_bind (wpAny_onRaise ?_));refine show wpAny _ _ (Builtin.SmallTypes.nextOf (.ref u) >>= _) _ _ _ from wpAny_bind (bg (wu.extBut sa.extBut D.i1z) (tl.extBut sa.extBut D.l1z) ex fun hb wb sb=>wpAny_pure ?_);have Ib:IsPair hb P1 a b:=sb.extBut _ _ D.TOi1 (sa.extBut _ _ D.TOz I1);refine wpAny_bind (wpAny_seqItems Ib rfl (wpAny_bind (wpAny_updateSeq_pair Ib fun hc Ic sc=>wpAny_bind (wpAny_letGo (wpAny_pure ?_)))));replace Ic:IsPair hc P1 x b:=Ic;refine wpAny_bind (wpAny_bind (wpAny_onRaise ?_));refine show wpAny _ _ (Builtin.SmallTypes.nextOf (.ref v) >>= _) _ _ _ from wpAny_bind (bg (((wv.extBut sa.extBut D.i2z).extBut sb.extBut D.i12.symm).extBut sc.extBut D.TOi2.symm) (((tm.extBut sa.extBut D.l2z).extBut sb.extBut D.l2i1).extBut sc.extBut D.l2TO) ey fun hd wd sd=>wpAny_pure ?_);have Id:IsPair hd P1 x b:=sd.extBut _ _ D.TOi2 Ic;refine wpAny_bind (wpAny_seqItems Id rfl (wpAny_bind (wpAny_updateSeq_pair Id fun he Ie se=>wpAny_bind (wpAny_letGo (wpAny_pure (wpAny_pure ?_))))));replace Ie:IsPair he P1 x y:=Ie;refine wpAny_bind (wpAny_seqItems Ie rfl (wpAny_bind (wpAny_newTuple ?_)));have size:he.objs.size=s.heap.objs.size:=by rw [se.1,sd.1,sc.1,sb.1,sa.1]
 have Ze:IsZip he z P0 P1 .ellipsis:=se.extBut _ _ D.TOz.symm (sd.extBut _ _ D.i2z.symm (sc.extBut _ _ D.TOz.symm (sb.extBut _ _ D.i1z.symm Za)));have keep:∀ c o,c≠z→c≠P1→c≠u→c≠v→s.heap.get? c=some o→he.get? c=some o:=fun c o n1 n2 n3 n4 e=>se.extBut _ _ n2 (sd.extBut _ _ n4 (sc.extBut _ _ n2 (sb.extBut _ _ n3 (sa.extBut _ _ n1 e))));have we:IsTupIter he u l (k+1):=((wb.extBut sc.extBut D.TOi1.symm).extBut sd.extBut D.i12).extBut se.extBut D.TOi1.symm;have we':IsTupIter he v m (k+1):=wd.extBut se.extBut D.TOi2.symm;have ltz:z < he.objs.size:=Heap.lt_size Ze;refine show wpAny _ _ (Builtin.SmallTypes.ownedTupleHandOut (.ref z) (.ref he.objs.size) >>= _) _ _ _ from wpAny_bind ?_;unfold Builtin.SmallTypes.ownedTupleHandOut;have Zf:IsZip (he.push { cls:=.type "tuple",data:=.seq #[x,y] }) z P0 P1 .ellipsis:=Heap.get?_push_of_some _ Ze;refine wpAny_bind (wpAny_setField_rec Zf (by simp) fun hg Zg sg=>?_);replace Zg:IsZip hg z P0 P1 (rawInt he.objs.size):=Zg;refine wpAny_setField_rec Zg (by simp) fun hi Zi si=>?_;replace Zi:IsZip hi z P0 P1 (rawInt he.objs.size):=Zi;have up:∀ c o,c≠z→he.get? c=some o→hi.get? c=some o:=fun c o n e=>si.extBut _ _ n (sg.extBut _ _ n (Heap.get?_push_of_some _ e));have Ti:IsPair hi he.objs.size x y:=si.extBut _ _ (Nat.ne_of_gt ltz) (sg.extBut _ _ (Nat.ne_of_gt ltz) (Heap.get?_push_size _ rfl));have size':hi.objs.size=he.objs.size+1:=by rw [si.1,sg.1,Heap.size_push]
 refine wpAny_pure ⟨_,rfl,wpAny_pure ?_⟩;rw [size] at Zi Ti size';have go:=q hi Zi (up _ _ D.TOz Ie) (by obtain ⟨o,e,r⟩:=we;exact ⟨o,up _ o D.i1z e,r⟩) (by obtain ⟨o,e,r⟩:=we';exact ⟨o,up _ o D.i2z e,r⟩) Ti size' fun c o n1 n2 n3 n4 e=>up c o n1 (keep c o n1 n2 n3 n4 e);rw [← size] at go;exact go
theorem oJ {z P0 P1 u v l m:Addr} {k:Nat} {xs ys:Array Value} {a b:Value} {Q:Option Value→Shared→Prop} (hh:A.handled=none) (D:ZipApart z P0 P1 u v l m) (Z:IsZip s.heap z P0 P1 .none) (I0:IsPair s.heap P0 (.ref u) (.ref v)) (I1:IsPair s.heap P1 a b)
  (wu:IsTupIter s.heap u l k) (wv:IsTupIter s.heap v m k) (tl:IsTup s.heap l xs) (tm:IsTup s.heap m ys) (no:xs[k]?=none∨ys[k]?=none)
  (q:∀ h',(∀ c o,c≠z→c≠P1→c≠u→c≠v→s.heap.get? c=some o→h'.get? c=some o)→Q none { s with heap:=h' }):wpAny (model prog w) A (pyNext (.ref z)) Q E s:=by
 have hT:s.TypeIs (.ref z) "zip" :=⟨_,Z,rfl⟩;unfold pyNext;refine wpAny_bind (wpAny_attempt (wpAny_callSpecial?_slot (name:=Str.ofString "__next__") hT F.slot_zip_next (wpAny_call_entry F.slot_zip_next hT F.entry_zip_next ?_ (F.args_zip_next_1 _))));refine show wpAny _ _ (field (.ref z) 2 >>= _) _ _ _ from wpAny_bind (wpAny_field Z rfl (x:=.bool false) rfl ?_);refine show wpAny _ _ (field (.ref z) 3 >>= _) _ _ _ from wpAny_bind (wpAny_field Z rfl (x:=.ref P0) rfl (wpAny_bind (wpAny_seqItems I0 rfl ?_)));refine show wpAny _ _ (Builtin.SmallTypes.ownedTupleIsFree (.ref z) >>= _) _ _ _ from wpAny_bind ?_;unfold Builtin.SmallTypes.ownedTupleIsFree;refine wpAny_bind (wpAny_field Z rfl (x:=.none) rfl (wpAny_pure ?_));rw [if_pos rfl];refine wpAny_bind (wpAny_rule (wpAny_bind (wpAny_field Z rfl (x:=.ref P1) rfl (wpAny_bind (wpAny_setField_rec Z (by simp) fun ha Za sa=>?_)))));replace Za:IsZip ha z P0 P1 .ellipsis:=Za;refine wpAny_bind ?_;simp only [List.zipIdx_cons,List.forIn_cons,List.zipIdx_nil,List.forIn_nil];refine wpAny_bind (wpAny_bind (wpAny_onRaise ?_));have stop:∀ {h':Heap} {e:Addr},(∃ o,h'.get? e=some o∧o.cls=.type "StopIteration")→IsZip h' z P0 P1 .ellipsis→e≠z:=fun he hz c=>by
  obtain ⟨o,ho,hc⟩:=he;subst c;rw [hz] at ho
  cases ho
  simp at hc
 have fin:∀ {h':Heap} {e:Addr},(∃ o,h'.get? e=some o∧o.cls=.type "StopIteration")→(∀ c o,c≠z→c≠P1→c≠u→c≠v→s.heap.get? c=some o→h'.get? c=some o) →
   wpAny (model prog w) A (do if (← isInstance (.ref e) (.type "StopIteration")) then pure none else throw (.ref e)) Q E { s with heap:=h' }:=fun {h' e} he hk=>by
  obtain ⟨o,ho,hc⟩:=he;exact wpAny_bind (wpAny_isInstance (T:= "StopIteration") (b:=true) ⟨o,ho,hc⟩ isSubtype_stop (wpAny_pure (q _ hk)))
 cases ex:xs[k]? with
 | none =>
  refine show wpAny _ _ (Builtin.SmallTypes.nextOf (.ref u) >>= _) _ _ _ from wpAny_bind (de hh (wu.extBut sa.extBut D.i1z) (tl.extBut sa.extBut D.l1z) ex fun hb e sb he=>?_);have Zb:IsZip hb z P0 P1 .ellipsis:=sb _ _ D.i1z.symm Za;have ne:=stop he Zb;obtain ⟨o,ho,hc⟩:=he;exact wpAny_setField_rec Zb (by simp) fun hd _ sd=>fin ⟨o,sd.extBut _ _ ne ho,hc⟩ fun c o n1 _ n3 _ e=>sd.extBut _ _ n1 (sb _ _ n3 (sa.extBut _ _ n1 e))
 | some x =>
  have ey:ys[k]?=none:=no.resolve_left (by rw [ex];simp);refine show wpAny _ _ (Builtin.SmallTypes.nextOf (.ref u) >>= _) _ _ _ from wpAny_bind (bg (wu.extBut sa.extBut D.i1z) (tl.extBut sa.extBut D.l1z) ex fun hb wb sb=>wpAny_pure ?_);have Ib:IsPair hb P1 a b:=sb.extBut _ _ D.TOi1 (sa.extBut _ _ D.TOz I1);refine wpAny_bind (wpAny_seqItems Ib rfl (wpAny_bind (wpAny_updateSeq_pair Ib fun hc Ic sc=>wpAny_bind (wpAny_letGo (wpAny_pure (wpAny_bind (wpAny_bind (wpAny_onRaise ?_))))))));refine show wpAny _ _ (Builtin.SmallTypes.nextOf (.ref v) >>= _) _ _ _ from wpAny_bind (de hh (((wv.extBut sa.extBut D.i2z).extBut sb.extBut D.i12.symm).extBut sc.extBut D.TOi2.symm) (((tm.extBut sa.extBut D.l2z).extBut sb.extBut D.l2i1).extBut sc.extBut D.l2TO) ey fun hd e sd he=>?_);have Zd:IsZip hd z P0 P1 .ellipsis:=sd _ _ D.i2z.symm (sc.extBut _ _ D.TOz.symm (sb.extBut _ _ D.i1z.symm Za));have ne:=stop he Zd;obtain ⟨o,ho,hcl⟩:=he;exact wpAny_setField_rec Zd (by simp) fun hf _ sf=>fin ⟨o,sf.extBut _ _ ne ho,hcl⟩ fun c o n1 n2 n3 n4 e=>sf.extBut _ _ n1 (sd _ _ n4 (sc.extBut _ _ n2 (sb.extBut _ _ n3 (sa.extBut _ _ n1 e))))
abbrev zT1 (h:Heap) (l:Addr):Heap:=h.push { cls:=.type "tuple_iterator",data:=.fields #[.ref l,.int 0 0] }
abbrev zT2 (h:Heap) (l m:Addr):Heap:=(zT1 h l).push { cls:=.type "tuple_iterator",data:=.fields #[.ref m,.int 0 0] }
abbrev zT3 (h:Heap) (l m:Addr):Heap:=(zT2 h l m).push { cls:=.type "tuple",data:=.seq #[.ref h.objs.size,.ref (zT1 h l).objs.size] }
abbrev zT4 (h:Heap) (l m:Addr):Heap:=(zT3 h l m).push { cls:=.type "tuple",data:=.seq #[.none,.none] }
abbrev zT5 (h:Heap) (l m:Addr):Heap:=(zT4 h l m).push { cls:=.type "zip",data:=.fields #[.none,.bool false,.bool false,.ref (zT2 h l m).objs.size,.ref (zT3 h l m).objs.size] }
theorem lG (l m:Addr) (xs ys:Array Value) :
  Meets (Builtin.«zip.__new__» ⟨[.type "zip",.ref l,.ref m],[]⟩) (fun _ R s=>IsTup s.heap l xs∧IsTup s.heap m ys∧R (.ok (.ret (.ref (zT4 s.heap l m).objs.size))) { s with heap:=zT5 s.heap l m }) :=
 .of_wp fun prog w A R s h=>by
  obtain ⟨hp,g,d,tk,os⟩:=s;obtain ⟨tl,tm,h⟩:=h;have sub:=sub_zip;have T1:IsTup (Shared.heap ⟨hp,g,d,tk,os⟩) l xs:=tl;have T2:IsTup (Shared.heap ⟨hp.push { cls:=.type "tuple_iterator",data:=.fields #[.ref l,.int 0 0] },g,d,tk,os⟩) m ys:=IsTup.push tm _
  wp_walk using iter_tuple T1,iter_tuple T2
  exact ⟨_,rfl,h⟩
theorem ni {l m:Addr} {xs ys:Array Value} {Q:Value→Shared→Prop} (tl:IsTup s.heap l xs) (tm:IsTup s.heap m ys)
  (q:∀ h',IsZip h' (s.heap.objs.size+4) (s.heap.objs.size+2) (s.heap.objs.size+3) .none→IsPair h' (s.heap.objs.size+2) (.ref s.heap.objs.size) (.ref (s.heap.objs.size+1))→IsPair h' (s.heap.objs.size+3) .none .none →
   IsTupIter h' s.heap.objs.size l 0→IsTupIter h' (s.heap.objs.size+1) m 0→h'.objs.size=s.heap.objs.size+5→(∀ c o,s.heap.get? c=some o→h'.get? c=some o)→Q (.ref (s.heap.objs.size+4)) { s with heap:=h' }) :
  wpAny (model prog w) A (call (.type "zip") [.ref l,.ref m]) Q E s:=by
 refine callType_new F.called_zip (by decide) (F.typeCall_zip_2 _ _) (F.newCall_zip_2 _ _) (fun obj=>F.args_object_init_3 obj _ _) F.entry_zip_new (lG l m xs ys) ⟨tl,tm,?_⟩;have n1:(zT1 s.heap l).objs.size=s.heap.objs.size+1:=Heap.size_push ..;have n2:(zT2 s.heap l m).objs.size=s.heap.objs.size+2:=by rw [Heap.size_push,n1]
 have n3:(zT3 s.heap l m).objs.size=s.heap.objs.size+3:=by rw [Heap.size_push,n2]
 have n4:(zT4 s.heap l m).objs.size=s.heap.objs.size+4:=by rw [Heap.size_push,n3]
 have n5:(zT5 s.heap l m).objs.size=s.heap.objs.size+5:=by rw [Heap.size_push,n4]
 have e5:(zT5 s.heap l m).get? (zT4 s.heap l m).objs.size=some _:=Heap.get?_push_size _ rfl;have e4:(zT5 s.heap l m).get? (zT3 s.heap l m).objs.size=some _:=Heap.get?_push_of_some _ (Heap.get?_push_size _ rfl);have e3:(zT5 s.heap l m).get? (zT2 s.heap l m).objs.size=some _:=Heap.get?_push_of_some _ (Heap.get?_push_of_some _ (Heap.get?_push_size _ rfl));have e2:(zT5 s.heap l m).get? (zT1 s.heap l).objs.size=some _:=Heap.get?_push_of_some _ (Heap.get?_push_of_some _ (Heap.get?_push_of_some _ (Heap.get?_push_size _ rfl)));have e1:(zT5 s.heap l m).get? s.heap.objs.size=some _:=Heap.get?_push_of_some _ (Heap.get?_push_of_some _ (Heap.get?_push_of_some _ (Heap.get?_push_of_some _ (Heap.get?_push_size _ rfl))));refine show _∧_ from ?_;rw [n2,n3,n4] at e5;rw [n1,n2] at e3;rw [n3] at e4;rw [n1] at e2;rw [n4];exact ⟨⟨_,e5,rfl⟩,q _ e5 e3 e4 ⟨_,e1,rfl,rfl⟩ ⟨_,e2,rfl,rfl⟩ n5 fun c o x=>Heap.get?_push_of_some _ (Heap.get?_push_of_some _ (Heap.get?_push_of_some _ (Heap.get?_push_of_some _ (Heap.get?_push_of_some _ x))))⟩
end
section
variable {X:Cx} {elts:List Expr} {k:Nat} {tpos:Pos}
end
section
variable {X:Cx} {K:PySem.W.Frag}
end
section
variable {prog:Program} {w:World} {A:Around} {E:Value→Shared→Prop} {s:Shared}
end
section
variable {X:Cx}
def DicQ (K:PySem.W.Frag) (H:Hp) (p:Addr) (fs:List (Str×Dt)):Prop :=
 ∃ kvs,H p=some (.dK kvs)∧kvs.map (·.1)=fs.map (fun p=>(Sum.inr p.1:Key))∧∀ z,(aS fs z=none→bn kvs (Sum.inr z:Key)=none)∧∀ d,aS fs z=some d→∃ v,bn kvs (Sum.inr z:Key)=some v∧IsP K H d v
theorem DicQ.p {K:PySem.W.Frag} {H:Hp} {p:Addr} {fs:List (Str×Dt)} (h:DicQ K H p fs):DicP K H p fs:=by
 obtain ⟨kvs,e,_,k⟩:=h;exact ⟨kvs,e,k⟩
end
section
variable {prog:Program} {w:World} {A:Around} {E:Value→Shared→Prop} {s:Shared}
theorem qR {a:Addr} {Q:Option Obj→Shared→Prop} (h:Q (s.heap.get? a) s):wpAny (model prog w) A (loadIfAlive a) Q E s:=fun Γ p _=>by
 show Sem.wp _ _ (.loadIfAlive a .pure) _ _ _ _;rw [Sem.wp_loadIfAlive];exact h
end
section
variable {prog:Program} {w:World} {A:Around} {E:Value→Shared→Prop} {s:Shared}
end
section
variable {X:Cx} {pins:List (Addr×Obj)} {σ:St} {H H':Hp} {s:Shared} {h':Heap}
end
abbrev tK (j tk:Nat) (x:Value):Obj:={ cls:=.type "tuple",data:=.seq #[.int j tk,x] }
inductive Rws (h:Heap) (lo:Nat):Nat→List V→List (Addr×HO)→Prop
 | nil {j:Nat}:Rws h lo j [] []
 | cons {j T tk:Nat} {x:Value} {v:V} {vs:List V} {r:List (Addr×HO)}:lo < T→RelV v x→h.get? T=some (tK j tk x)→Rws h lo (j+1) vs r→Rws h lo j (v :: vs) ((T,plO [.int j,v] [.int j tk,x]) :: r)
theorem Rws.length {h:Heap} {lo:Nat}:∀ {j:Nat} {vs:List V} {r:List (Addr×HO)},Rws h lo j vs r→r.length=vs.length
 | _,_,_,.nil=>rfl
 | _,_,_,.cons _ _ _ r=>by rw [List.length_cons,List.length_cons,r.length]
section
variable {X:Cx}
end
section
variable {prog:Program} {w:World} {A:Around} {E:Value→Shared→Prop} {s:Shared}
end
section
variable {X:Cx}
end
section
variable {X:Cx} {tg:Expr} {pins:List (Addr×Obj)} {σ:St} {H:Hp} {s:Shared}
end
section
variable {X:Cx}
end
section
variable {a:Addr} {ob:Obj} {kvs:List (Key×V)} {g:TG} {l:Addr} {σ0:St} {H0:Hp} {R:Hp→Prop} {tb:List V→Addr→St→Hp→(List V→St→Hp→Prop)→Prop}
end
section
variable {X:Cx}
end
section
variable {prog:Program} {w:World} {A:Around} {E:Value→Shared→Prop} {s:Shared}
end
section
variable {X:Cx}
end
section
variable {X:Cx} {K:PySem.W.Frag}
end
section
variable {X:Cx} {K:PySem.W.Frag}
inductive JSlP (K:PySem.W.Frag) (x:V) (lo hi:Option Int) (H:Hp) (Q:VK):Prop
 | mk (l:List Dt):(IsP K H (.tup l) x)→(∀ v H',Same H H'→IsP K H' (.tup (gG l lo hi)) v→Q v H')→JSlP K x lo hi H Q
def ut (K:PySem.W.Frag):V→Option Int→Option Int→Hp→VK→Prop:=fun x lo hi H Q=>JSlP K x lo hi H Q
inductive JLenS (K:PySem.W.Frag) (xs:List V) (H:Hp) (Q:VK):Prop
 | mk (p:Addr) (ys:List V):(xs=[.ref p])→((SqL K H p ys∨SqT K H p ys))→(Q (.int ys.length) H)→JLenS K xs H Q
def tL (K:PySem.W.Frag):List V→Hp→VK→Prop:=fun xs H Q=>JLenS K xs H Q
def uu (K:PySem.W.Frag):List V→Hp→VK→Prop:=fun xs H Q=>∃ p ys,xs=[.ref p]∧true=true∧SqL K H p (bls ys)∧Q (.bl (ys.all id)) H
theorem kr (hK:X.K=K):SlR X (ut K):=by
 subst hK;intro pins s σ H x v vl vu lo hi sl Q I rx hs pl pu h;obtain ⟨l,a,q⟩:=h;exact pY _ _ _ _ _ _ _ _ _ _ _ _ I rx hs pl pu ⟨l,a,q⟩
theorem kt (hK:X.K=K):SlR X (sT K):=by subst hK;exact pK
theorem aC (hK:X.K=K):OpR X (binaryOp .Add) (gc K):=by subst hK;exact qd
theorem bc (hK:X.K=K):aW X (.builtin "len") (tL K):=by
 subst hK;intro pins s σ H xs us Q I r h;obtain ⟨x,l,a,b,q⟩:=h;exact dQ _ _ _ _ _ _ _ I r ⟨x,l,a,b,q⟩
theorem call_allN (hK:X.K=K) (hc:X.calm=true):aW X (.builtin "all") (uu K):=by
 subst hK;intro pins s σ H xs us Q I r h;obtain ⟨p,ys,rfl,_,hs,q⟩:=h;exact nY _ _ _ _ _ _ _ I r ⟨p,ys,rfl,hc,hs,q⟩
end
section
variable {K:PySem.W.Frag} {a b l:Addr} {xs ys:List V} {g:TG} {tb:List V→Addr→St→Hp→(List V→St→Hp→Prop)→Prop} {R:Hp→Prop} {σ0:St} {H0:Hp}
end
section
variable {X:Cx} {K:PySem.W.Frag}
end
end L2
namespace PySem
open Sem (wp)
namespace F
end F
section
variable {prog:Program} {w:World} {K:Type} [DecidableEq K] {kd:KeyKind prog w K} {A:Around} {E:Value→Shared→Prop}
end
end PySem
namespace L2
open PySem PySem.Spec PyProof.Rows
def kDt:Key→Dt
 | .inl i=>.int i
 | .inr z=>.str z
def tM (P:Program) (w:World) (p:Addr) (xs:List (List Key×Addr×Value)) (h:Heap):Prop :=
 ∃ o es ep,h.get? p=some o∧o.ExactDict∧o.data=.dict es ep∧es.toList=xs.map (entryOfKey (tupleKind (az P w)))∧(xs.map (·.1)).Nodup
def uB (P:Program) (w:World) (K:PySem.W.Frag) (H:Hp) (p:Addr) (kvs:List (List Key×Dt)):Prop :=
 (p == sysModules)=false∧∃ xs:List (List Key×Addr×Value),H p=some (.ext (tM P w p xs)) ∧
  Paired (fun (a:List Key×Dt) (b:List Key×Addr×Value)=>a.1=b.1∧IsP K H (.tup (a.1.map kDt)) (.ref b.2.1)∧∃ v,RelV v b.2.2∧IsP K H a.2 v) kvs xs
section
variable {X:Cx} {pins:List (Addr×Obj)} {σ:St} {H:Hp} {s:Shared}
end
end L2
namespace PySem
open Sem (wp)
section
variable {prog:Program} {w:World} {K:Type} [DecidableEq K] {knd:HeapKind prog w K} {A:Around} {E:Value→Shared→Prop} {s:Shared}
end
end PySem
namespace L2
open PySem PySem.Spec PyProof.Rows
section
variable {X:Cx} {pins:List (Addr×Obj)} {σ:St} {H:Hp} {s:Shared}
end
theorem u2 {A:Around} (h:A.units+64 < cLine):A.units+2 < cLine:=by lia
section
variable {X:Cx} {o e f:Expr} {apos cpos:Pos} {td ty tx:TE}
end
end L2
namespace PySem
open Sem (wp)
open PyProof.Rows
section
variable {prog:Program} {w:World} {A:Around} {E:Value→Shared→Prop} {s:Shared} {δ:Type} {R:δ→Value→Prop} {h₀:Heap} {a:Addr} {D:List (Str×δ)} {k:Str} {tk:Tok}
theorem ku {Q:Option Value→Shared→Prop} (T:KTD.TabOf R h₀ a D) (kp:∀ b o,h₀.get? b=some o→s.heap.get? b=some o) (q1:∀ d v,KTD.datumAt k D=some d→R d v→Q (some v) { s with toks:=s.toks+1 })
  (q2:KTD.datumAt k D=none→Q none { s with toks:=s.toks+1 }):wpAny (model prog w) A (dictGet a (.str k tk)) Q E s:=by
 obtain ⟨_,o,es,ep,ho0,hc,hd,hr⟩:=T;have ho:=kp _ _ ho0;obtain ⟨l⟩:=es;unfold dictGet
 try with_reducible refine wpAny_holding ?_
 refine wpAny_bind (wpAny_pyHash_str (wpAny_bind (KTD.kt_dictFind_strs (s:={ s with toks:=s.toks+1 }) ho hd (by simpa using hr.exact) ?_)));have hq:Q (findBy (fun k v=>v.isStr k) (Array.mk l) k) { s with toks:=s.toks+1 }:=by
  rw [show findBy (fun k v=>v.isStr k) (Array.mk l) k=(l.find? fun e=>e.key.isStr k).map (·.val) by simp [findBy]]
  cases hat:KTD.datumAt k D with
  | none=>rw [show (l.find? fun e=>e.key.isStr k).map (·.val)=none by have:=hr.find_none hat;simpa using this];exact q2 hat
  | some d =>
   obtain ⟨v,hv,rv⟩:=hr.find_some hat;rw [show (l.find? fun e=>e.key.isStr k).map (·.val)=some v from hv];exact q1 d v hat rv
 rw [findBy_of_findIdx?] at hq
 cases hi:(Array.mk l).findIdx? fun e=>e.key.isStr k with
 | some i=>rw [hi] at hq;exact wpAny_bind (wpAny_dictEntries (s:={ s with toks:=s.toks+1 }) ho hd (wpAny_pure hq))
 | none=>rw [hi] at hq;exact wpAny_pure hq
theorem lH {dflt:Value}:MeetsIn prog w (Builtin.«dict.get» ⟨[.ref a,.str k tk,dflt],[]⟩) (fun _ Rr s=>KTD.TabOf R h₀ a D∧(∀ b o,h₀.get? b=some o→s.heap.get? b=some o)∧(∀ d v,KTD.datumAt k D=some d→R d v→Rr (.ok (.ret v)) { s with toks:=s.toks+1 }) ∧
  (KTD.datumAt k D=none→Rr (.ok (.ret dflt)) { s with toks:=s.toks+1 })) :=
 .of_wp fun A Rr s ⟨T,kp,h1,h2⟩=>by
  show wpAny _ _ (dictGet a (.str k tk) >>= _) _ _ s;refine wpAny_bind (ku T kp (fun d v ha hv=>wpAny_pure ⟨v,rfl,h1 d v ha hv⟩) fun hn=>wpAny_bind (m:=Builtin.Dict.missed a (.str k tk)) (wpAny_missed_other T.1 (wpAny_pure ⟨dflt,rfl,h2 hn⟩)))
end
end PySem
namespace L2
open PySem PySem.Spec PyProof.Rows
def lI (K:PySem.W.Frag) (a:Addr) (D:List (Str×Addr)):Prop:=∀ h,K.In h→KTD.TabOf (fun b v=>v=Value.ref b) h a D
theorem sD {K:PySem.W.Frag} {a:Addr} {D:List (Str×Addr)} (e:KTD.tabLook (fun b v=>v == Value.ref b) (fun b=>K.lookup b) a D=true):lI K a D :=
 fun _ X=>KTD.tab_of_look (L:=fun b v=>v == Value.ref b) (R:=fun b v=>v=Value.ref b) (fun _ _ z=>eq_of_beq z) (fun b o q=>X b o q) e
def iX (K:PySem.W.Frag) (b:Addr) (ws:List Str):Bool:=match K.lookup b with
 | some o=>o.cls == .type "tuple" && (match o.data with | .seq vs _=>KTD.strsLook vs.toList ws && decide (vs.size≤1000) | _=>false)
 | none=>false
def oK (K:PySem.W.Frag) (D:List (Addr×List Str)):Bool:=D.all fun p=>iX K p.1 p.2
def qS (K:PySem.W.Frag) (D:List (Addr×List Str)):Prop:=∀ p∈D,∀ H:Hp,SqT K H p.1 (p.2.map V.str)
theorem tN {K:PySem.W.Frag} {D:List (Addr×List Str)} (e:oK K D=true):qS K D:=by
 intro p hp H;have e1:iX K p.1 p.2=true:=List.all_eq_true.mp e p hp;unfold iX at e1
 split at e1
 ·rename_i o ho
  simp only [Bool.and_eq_true] at e1;obtain ⟨e2,e3⟩:=e1
  split at e3
  ·rename_i vs n hd
   simp only [Bool.and_eq_true] at e3;exact .inr ⟨o,vs,n,ho,eq_of_beq e2,hd,Nat.le_of_lt (ao (of_decide_eq_true e3.2)),iu (KTD.strs_of_look e3.1)⟩
  ·cases e3
 ·cases e1
def kx (k:Str):List (Str×Addr)→Option Addr
 | []=>none
 | (x,b) :: D=>if k=x then some b else kx k D
theorem gg {k:Str}:∀ D:List (Str×Addr),KTD.datumAt k D=kx k D
 | []=>rfl
 | (x,b) :: D=>by
  show (if decide (k=x)=true then some b else KTD.datumAt k D)=_
  by_cases h:k=x
  ·simp [kx,h]
  ·simp [kx,h,gg D]
def rR (D:List (Str×Addr)) (ty tx:TE):TE:=fun σ H Q=>ty σ H fun y H1=>tx σ H1 fun z H2=>∃ k,y=.str k∧Q (match kx k D with | some b=>.ref b | none=>z) H2
section
variable {X:Cx}
theorem pe_kgetA {x:Str} {ad:Addr} {D:List (Str×Addr)} {e f:Expr} {ty tx:TE} {p apos cpos:Pos} (hD:lI X.K ad D) (hg:Gl X x) (hm:X.mg x=some (.ref ad)) (he:PE X e ty) (hf:PE X f tx) (m:M2 X (.Name x p) "get" apos e f cpos) (hdb:(x == ("__debug__" : Str))=false:=by decide) :
  PE X (.Call (.Attribute (.Name x p) "get" apos) [e,f] [] cpos) (rR D ty tx):=by
 intro pins s σ H Q I h;have T:∀ {s':Shared} {σ':St} {H':Hp} {pins':List (Addr×Obj)},Inv X pins' σ' H' s'→KTD.TabOf (fun b v=>v=Value.ref b) X.base ad D:=fun J=>hD _ J.ok.mod.kin;have ty0:∀ {s':Shared} {σ':St} {H':Hp} {pins':List (Addr×Obj)},Inv X pins' σ' H' s'→s'.TypeIs (.ref ad) "dict" ∧(∀ b,Value.ref ad=.ref b→∃ ob,s'.heap.get? b=some ob∧ob.dict=none):=fun {s' σ' H' pins'} J=>by
  obtain ⟨_,o,_,_,ho,hc,_⟩:=T J;refine ⟨⟨o,J.bk _ _ ho,hc.1⟩,fun b q=>?_⟩;injection q with q
  subst q;exact ⟨o,J.bk _ _ ho,hc.2.1⟩
 refine wpAny_Call_method_late m.base m.few m.line rfl (bd I hg hm ?_ hdb);refine ⟨"dict","dict.get",PySem.F.plainAttrs_dict,PySem.F.slot_dict_get,PySem.F.type_dict_get,(ty0 I).1,(ty0 I).2,?_⟩;rw [m.trees];refine Calls.callWith_builtin rfl (Calls.evalArgs_plain (Calls.spliced_cons (thn (he pins s σ H _ I h) fun iv s2 ⟨y,H2,I2,ry,q2⟩ =>
  Calls.spliced_cons (thn (hf pins s2 σ H2 _ I2 q2) fun fv s3 ⟨z,H3,I3,rz,k,ey,q3⟩=>Calls.spliced_nil ?_))))
 subst ey;obtain ⟨tk,rfl⟩:=ry;refine call_meetsIn PySem.F.slot_dict_get (ty0 I3).1 PySem.F.entry_dict_get (PySem.F.args_dict_get_3 _ _ _) (lH (h₀:=X.base) (D:=D) (R:=fun b v=>v=Value.ref b)) ⟨T I3,fun b o z=>I3.bk b o z,fun b v hb hv=>?_,fun hn=>?_⟩
 ·subst hv;rw [← gg,hb] at q3;exact ⟨.ref b,H3,I3.tok _,rfl,q3⟩
 ·rw [← gg,hn] at q3;exact ⟨z,H3,I3.tok _,rz,q3⟩
end
section
variable {prog:Program} {w:World} {A:Around} {E:Value→Shared→Prop} {s:Shared}
abbrev zpO (f0:Value) (f1:Bool) (P0 P1:Addr):Obj:={ cls:=.type "zip",dict:=none,data:=.fields #[f0,.bool f1,.bool false,.ref P0,.ref P1],slots:=#[] }
def ZS (h:Heap) (z P0 P1 u v:Addr):Prop:=∃ (T:Nat) (f1:Bool) (o:Obj),h.get? z=some (zpO (rawInt T) f1 P0 P1)∧h.get? T=some o∧T≠z∧T≠u∧T≠v∧o.cls=.type "tuple"
theorem nj {z P0 P1 u v l m:Addr} {k:Nat} {xs ys:Array Value} {x y:Value} {Q:Option Value→Shared→Prop} (D:ZipApart z P0 P1 u v l m) (Z:ZS s.heap z P0 P1 u v) (I0:IsPair s.heap P0 (.ref u) (.ref v))
  (wu:IsTupIter s.heap u l k) (wv:IsTupIter s.heap v m k) (tl:IsTup s.heap l xs) (tm:IsTup s.heap m ys) (ex:xs[k]?=some x) (ey:ys[k]?=some y)
  (q:∀ h',ZS h' z P0 P1 u v→IsTupIter h' u l (k+1)→IsTupIter h' v m (k+1)→IsPair h' s.heap.objs.size x y→h'.objs.size=s.heap.objs.size+1 →
   (∀ c o,c≠z→c≠u→c≠v→s.heap.get? c=some o→h'.get? c=some o)→Q (some (.ref s.heap.objs.size)) { s with heap:=h' }):wpAny (model prog w) A (pyNext (.ref z)) Q E s:=by
 obtain ⟨T,f1,oT,gz,gT,n1,n2,n3,n4⟩:=Z;have hT:s.TypeIs (.ref z) "zip" :=⟨_,gz,rfl⟩;obtain ⟨hp,g,d,tk,os⟩:=s;unfold pyNext;refine wpAny_bind (wpAny_attempt (wpAny_callSpecial?_slot (name:=Str.ofString "__next__") hT F.slot_zip_next (wpAny_call_entry F.slot_zip_next hT F.entry_zip_next ?_ (F.args_zip_next_1 _))));refine show wpAny _ _ (field (.ref z) 2 >>= _) _ _ _ from wpAny_bind (wpAny_field gz rfl (x:=.bool false) rfl ?_);refine show wpAny _ _ (field (.ref z) 3 >>= _) _ _ _ from wpAny_bind (wpAny_field gz rfl (x:=.ref P0) rfl (wpAny_bind (wpAny_seqItems I0 rfl ?_)));refine show wpAny _ _ (Builtin.SmallTypes.ownedTupleIsFree (.ref z) >>= _) _ _ _ from wpAny_bind ?_;unfold Builtin.SmallTypes.ownedTupleIsFree;refine wpAny_bind (wpAny_field gz rfl (x:=rawInt T) rfl ?_);refine show wpAny _ _ (loadIfAlive (T:Int).toNat >>= _) _ _ _ from wpAny_bind (qR ?_);rw [Int.toNat_natCast];refine show wpAny _ _ (if (hp.get? T).isNone=true then _ else _) _ _ _ from ?_;rw [show hp.get? T=some oT from gT,if_neg (by simp)];refine show wpAny _ _ (field (.ref z) 1 >>= _) _ _ _ from wpAny_bind (wpAny_field gz rfl (x:=.bool f1) rfl ?_)
 cases f1 with
 | true =>
  refine wpAny_pure ?_;rw [if_neg (by decide)];refine wpAny_bind ?_;rw [← Array.forIn_toList];simp only [List.forIn_cons,List.forIn_nil];refine wpAny_bind (wpAny_bind (wpAny_holding ?_));refine show wpAny _ _ (Builtin.SmallTypes.nextOf (.ref u) >>= _) _ _ _ from wpAny_bind (bg (s:=⟨hp,g,d,tk,os⟩) (wu) (tl) ex fun hb wb sb=>wpAny_pure ?_);refine wpAny_pure ?_;refine wpAny_bind (wpAny_bind (wpAny_holding ?_));refine show wpAny _ _ (Builtin.SmallTypes.nextOf (.ref v) >>= _) _ _ _ from wpAny_bind (bg (s:=⟨hb,g,d,tk,os⟩) ((wv).extBut sb.extBut D.i12.symm) ((tm).extBut sb.extBut D.l2i1) ey fun hd wd sd=>wpAny_pure ?_);refine wpAny_pure (wpAny_pure ?_);refine wpAny_bind (wpAny_newTuple (hsz:=by show 2≤sizeLine;decide) ?_);replace sb:Heap.SameBut u hp hb:=sb;replace sd:Heap.SameBut v hb hd:=sd;have size:hd.objs.size=hp.objs.size:=by rw [sd.1,sb.1]
  have keep:∀ c o,c≠z→c≠u→c≠v→hp.get? c=some o→hd.get? c=some o:=fun c o m1 m2 m3 e=>sd.extBut _ _ m3 (sb.extBut _ _ m2 (e));have gzd:hd.get? z=some (zpO (rawInt T) true P0 P1):=sd.extBut _ _ D.i2z.symm (sb.extBut _ _ D.i1z.symm gz);have we:IsTupIter hd u l (k+1):=wb.extBut sd.extBut D.i12;have e:=q (hd.push { cls:=.type "tuple",data:=.seq #[x,y] }) ⟨T,true,oT,Heap.get?_push_of_some _ gzd,Heap.get?_push_of_some _ (keep T oT n1 n2 n3 gT),n1,n2,n3,n4⟩
   (by obtain ⟨o,ho,r⟩:=we;exact ⟨o,Heap.get?_push_of_some _ ho,r⟩) (by obtain ⟨o,ho,r⟩:=wd;exact ⟨o,Heap.get?_push_of_some _ ho,r⟩)
   (by show (hd.push _).get? hp.objs.size=_;rw [← size];exact Heap.get?_push_size _ rfl) (by rw [Heap.size_push,size]) fun c o m1 m2 m3 ec=>Heap.get?_push_of_some _ (keep c o m1 m2 m3 ec)
  refine wpAny_pure ⟨_,rfl,wpAny_pure ?_⟩;rw [← size] at e;exact e
 | false =>
  refine show wpAny _ _ (setField (.ref z) 1 (.bool true) >>= _) _ _ _ from wpAny_bind (wpAny_setField_rec gz (by simp) fun ha ga sa=>wpAny_pure ?_);replace sa:Heap.SameBut z hp ha:=sa;replace ga:ha.get? z=some (zpO (rawInt T) true P0 P1):=ga;rw [if_neg (by decide)];refine wpAny_bind ?_;rw [← Array.forIn_toList];simp only [List.forIn_cons,List.forIn_nil];refine wpAny_bind (wpAny_bind (wpAny_holding ?_));refine show wpAny _ _ (Builtin.SmallTypes.nextOf (.ref u) >>= _) _ _ _ from wpAny_bind (bg (s:=⟨ha,g,d,tk,os⟩) (wu.extBut sa.extBut D.i1z) (tl.extBut sa.extBut D.l1z) ex fun hb wb sb=>wpAny_pure ?_);refine wpAny_pure ?_;refine wpAny_bind (wpAny_bind (wpAny_holding ?_));refine show wpAny _ _ (Builtin.SmallTypes.nextOf (.ref v) >>= _) _ _ _ from wpAny_bind (bg (s:=⟨hb,g,d,tk,os⟩) ((wv.extBut sa.extBut D.i2z).extBut sb.extBut D.i12.symm) ((tm.extBut sa.extBut D.l2z).extBut sb.extBut D.l2i1) ey fun hd wd sd=>wpAny_pure ?_);refine wpAny_pure (wpAny_pure ?_);refine wpAny_bind (wpAny_newTuple (hsz:=by show 2≤sizeLine;decide) ?_);replace sb:Heap.SameBut u ha hb:=sb;replace sd:Heap.SameBut v hb hd:=sd;have size:hd.objs.size=hp.objs.size:=by rw [sd.1,sb.1,sa.1]
  have keep:∀ c o,c≠z→c≠u→c≠v→hp.get? c=some o→hd.get? c=some o:=fun c o m1 m2 m3 e=>sd.extBut _ _ m3 (sb.extBut _ _ m2 (sa.extBut _ _ m1 e));have gzd:hd.get? z=some (zpO (rawInt T) true P0 P1):=sd.extBut _ _ D.i2z.symm (sb.extBut _ _ D.i1z.symm ga);have we:IsTupIter hd u l (k+1):=wb.extBut sd.extBut D.i12;have e:=q (hd.push { cls:=.type "tuple",data:=.seq #[x,y] }) ⟨T,true,oT,Heap.get?_push_of_some _ gzd,Heap.get?_push_of_some _ (keep T oT n1 n2 n3 gT),n1,n2,n3,n4⟩
   (by obtain ⟨o,ho,r⟩:=we;exact ⟨o,Heap.get?_push_of_some _ ho,r⟩) (by obtain ⟨o,ho,r⟩:=wd;exact ⟨o,Heap.get?_push_of_some _ ho,r⟩)
   (by show (hd.push _).get? hp.objs.size=_;rw [← size];exact Heap.get?_push_size _ rfl) (by rw [Heap.size_push,size]) fun c o m1 m2 m3 ec=>Heap.get?_push_of_some _ (keep c o m1 m2 m3 ec)
  refine wpAny_pure ⟨_,rfl,wpAny_pure ?_⟩;rw [← size] at e;exact e
theorem oM {z P0 P1 u v l m:Addr} {k:Nat} {xs:Array Value} {Q:Option Value→Shared→Prop} (hh:A.handled=none) (D:ZipApart z P0 P1 u v l m) (Z:ZS s.heap z P0 P1 u v) (I0:IsPair s.heap P0 (.ref u) (.ref v))
  (wu:IsTupIter s.heap u l k) (tl:IsTup s.heap l xs) (ex:xs[k]?=none)
  (q:∀ h',(∀ c o,c≠z→c≠u→c≠v→s.heap.get? c=some o→h'.get? c=some o)→Q none { s with heap:=h' }):wpAny (model prog w) A (pyNext (.ref z)) Q E s:=by
 obtain ⟨T,f1,oT,gz,gT,n1,n2,n3,n4⟩:=Z;have hT:s.TypeIs (.ref z) "zip" :=⟨_,gz,rfl⟩;obtain ⟨hp,g,d,tk,os⟩:=s;unfold pyNext;refine wpAny_bind (wpAny_attempt (wpAny_callSpecial?_slot (name:=Str.ofString "__next__") hT F.slot_zip_next (wpAny_call_entry F.slot_zip_next hT F.entry_zip_next ?_ (F.args_zip_next_1 _))));refine show wpAny _ _ (field (.ref z) 2 >>= _) _ _ _ from wpAny_bind (wpAny_field gz rfl (x:=.bool false) rfl ?_);refine show wpAny _ _ (field (.ref z) 3 >>= _) _ _ _ from wpAny_bind (wpAny_field gz rfl (x:=.ref P0) rfl (wpAny_bind (wpAny_seqItems I0 rfl ?_)));refine show wpAny _ _ (Builtin.SmallTypes.ownedTupleIsFree (.ref z) >>= _) _ _ _ from wpAny_bind ?_;unfold Builtin.SmallTypes.ownedTupleIsFree;refine wpAny_bind (wpAny_field gz rfl (x:=rawInt T) rfl ?_);refine show wpAny _ _ (loadIfAlive (T:Int).toNat >>= _) _ _ _ from wpAny_bind (qR ?_);rw [Int.toNat_natCast];refine show wpAny _ _ (if (hp.get? T).isNone=true then _ else _) _ _ _ from ?_;rw [show hp.get? T=some oT from gT,if_neg (by simp)];refine show wpAny _ _ (field (.ref z) 1 >>= _) _ _ _ from wpAny_bind (wpAny_field gz rfl (x:=.bool f1) rfl ?_)
 cases f1 with
 | true =>
  refine wpAny_pure ?_;rw [if_neg (by decide)];refine wpAny_bind ?_;rw [← Array.forIn_toList];simp only [List.forIn_cons,List.forIn_nil];refine wpAny_bind (wpAny_bind (wpAny_holding ?_));refine show wpAny _ _ (Builtin.SmallTypes.nextOf (.ref u) >>= _) _ _ _ from wpAny_bind (de (s:=⟨hp,g,d,tk,os⟩) hh (wu) (tl) ex fun hb e sb hex=>?_);obtain ⟨o,ho,hc⟩:=hex;exact wpAny_bind (wpAny_isInstance (T:= "StopIteration") (b:=true) ⟨o,ho,hc⟩ isSubtype_stop (wpAny_pure (q hb fun c o m1 m2 m3 e=>sb _ _ m2 (e))))
 | false =>
  refine show wpAny _ _ (setField (.ref z) 1 (.bool true) >>= _) _ _ _ from wpAny_bind (wpAny_setField_rec gz (by simp) fun ha ga sa=>wpAny_pure ?_);replace sa:Heap.SameBut z hp ha:=sa;rw [if_neg (by decide)];refine wpAny_bind ?_;rw [← Array.forIn_toList];simp only [List.forIn_cons,List.forIn_nil];refine wpAny_bind (wpAny_bind (wpAny_holding ?_));refine show wpAny _ _ (Builtin.SmallTypes.nextOf (.ref u) >>= _) _ _ _ from wpAny_bind (de (s:=⟨ha,g,d,tk,os⟩) hh (wu.extBut sa.extBut D.i1z) (tl.extBut sa.extBut D.l1z) ex fun hb e sb hex=>?_);obtain ⟨o,ho,hc⟩:=hex;exact wpAny_bind (wpAny_isInstance (T:= "StopIteration") (b:=true) ⟨o,ho,hc⟩ isSubtype_stop (wpAny_pure (q hb fun c o m1 m2 m3 e=>sb _ _ m2 (sa.extBut _ _ m1 e))))
end
theorem gh:typeLookup (.type "zip") "__getattr__" = pure none:=by rw [typeLookup_type,builtinLookup_eq_fast];kernel_rfl
theorem ky:typeLookup (.type "zip") "keys" = pure none:=by rw [typeLookup_type,builtinLookup_eq_fast];kernel_rfl
theorem oN:entryFor table "zip.__getattribute__" = some Builtin.«object.__getattribute__»:=entryFor_alias (id':= "object.__getattribute__") (by kernel_rfl) (by decide +kernel) (by decide +kernel) (by kernel_rfl)
theorem lJ (a:Addr) (fs:Array Value) (sl:Array (Option Value)) (u:Tok) :
  Meets (Builtin.«object.__getattribute__» ⟨[.ref a,.str "keys" u],[]⟩) (fun A R s=>s.heap.get? a=some { cls:=.type "zip",dict:=none,data:=.fields fs,slots:=sl }∧raisesAttr (.ref a) "keys" A R s) :=
 Meets.of_wp fun prog w A R s hs=>by
  obtain ⟨hp,g,d,tk,os⟩:=s;obtain ⟨hx,hr⟩:=hs;have hT:(⟨hp,g,d,tk,os⟩:Shared).TypeIs (.ref a) "zip" :=⟨_,hx,rfl⟩;have miss:=ky;have nm:(["__module__","__name__","__qualname__","__doc__","__annotations__"]:List Str).contains "keys" = false:=by decide
  unfold Builtin.«object.__getattribute__»;repeat (any_goals (first | assumption | wp_step))
  (try simp only [nm,Bool.false_eq_true,if_false]);repeat (any_goals (first | assumption | wp_step))
  exact wpAny_raiseAttrError hr.1 hr.2 (attrMsg_fits (by decide +kernel) (by decide))
section
variable {prog:Program} {w:World} {A:Around} {E:Value→Shared→Prop} {s:Shared}
theorem gI {a:Addr} {fs:Array Value} {sl:Array (Option Value)} {Q:Option Value→Shared→Prop}
  (hx:s.heap.get? a=some { cls:=.type "zip",dict:=none,data:=.fields fs,slots:=sl }) (hA:A.handled=none)
  (h:∀ h' tk e,Heap.NewExcOf s.heap h' e "AttributeError" →Q none { s with heap:=h',toks:=tk }) :
  wpAny (model prog w) A (getAttr? (.ref a) "keys") Q E s:=by
 obtain ⟨hp,g,d,tk,os⟩:=s;have hT:∀ tk',(⟨hp,g,d,tk',os⟩:Shared).TypeIs (.ref a) "zip" :=fun _=>⟨_,hx,rfl⟩;have f1:=sub_AttributeError;have f3:=PySem.F.slot_zip_getattribute.lookup;have f4:=PySem.F.slot_zip_getattribute.bind (.ref a);have f5:=gh;unfold getAttr? getAttrBy? getAttrBy
 repeat (any_goals (first | assumption | exact hT _ | ((with_reducible show wpAny _ _ (call (Value.builtin "zip.__getattribute__") _ _) _ _ _);refine call_meets PySem.F.slot_zip_getattribute (hT _) oN (PySem.F.args_zip_getattribute_2 _ _) (lJ a fs sl _) ⟨hx,hA,fun h' tk' e hx'=>?_⟩) | wp_step))
 obtain ⟨t',u',he⟩:=hx'.there;show wpAny _ _ (getattributeRaised _ _ _ _ _ _ _) _ _ _;unfold getattributeRaised
 repeat (any_goals (first | assumption | wp_step))
 all_goals exact h _ _ _ hx'.of
def ZQ (h:Heap) (z P0 P1 u v:Addr):Prop:=(IsZip h z P0 P1 .none∧∃ a b,IsPair h P1 a b)∨ZS h z P0 P1 u v
theorem nn {z P0 P1 u v l m:Addr} {k:Nat} {xs ys:Array Value} {x y:Value} {Q:Option Value→Shared→Prop} (D:ZipApart z P0 P1 u v l m) (Z:ZQ s.heap z P0 P1 u v) (I0:IsPair s.heap P0 (.ref u) (.ref v))
  (wu:IsTupIter s.heap u l k) (wv:IsTupIter s.heap v m k) (tl:IsTup s.heap l xs) (tm:IsTup s.heap m ys) (ex:xs[k]?=some x) (ey:ys[k]?=some y)
  (q:∀ h',ZS h' z P0 P1 u v→IsTupIter h' u l (k+1)→IsTupIter h' v m (k+1)→IsPair h' s.heap.objs.size x y→h'.objs.size=s.heap.objs.size+1 →
   (∀ c o,c≠z→c≠P1→c≠u→c≠v→s.heap.get? c=some o→h'.get? c=some o)→Q (some (.ref s.heap.objs.size)) { s with heap:=h' }):wpAny (model prog w) A (pyNext (.ref z)) Q E s:=by
 have lu:u < s.heap.objs.size:=by obtain ⟨o,e,_⟩:=wu;exact Heap.lt_size e
 have lv:v < s.heap.objs.size:=by obtain ⟨o,e,_⟩:=wv;exact Heap.lt_size e
 rcases Z with ⟨Z,a,b,I1⟩ | Z
 ·have lz:z < s.heap.objs.size:=Heap.lt_size Z;exact nh D Z I0 I1 wu wv tl tm ex ey fun h' z1 _ z3 z4 z5 z6 kp=>q h' ⟨_,false,_,z1,z5,Nat.ne_of_gt lz,Nat.ne_of_gt lu,Nat.ne_of_gt lv,rfl⟩ z3 z4 z5 z6 kp
 ·exact nj D Z I0 wu wv tl tm ex ey fun h' z1 z3 z4 z5 z6 kp=>q h' z1 z3 z4 z5 z6 fun c o n1 _ n3 n4 e=>kp c o n1 n3 n4 e
theorem oO {z P0 P1 u v l m:Addr} {k:Nat} {xs ys:Array Value} {Q:Option Value→Shared→Prop} (hh:A.handled=none) (D:ZipApart z P0 P1 u v l m) (Z:ZQ s.heap z P0 P1 u v) (I0:IsPair s.heap P0 (.ref u) (.ref v))
  (wu:IsTupIter s.heap u l k) (wv:IsTupIter s.heap v m k) (tl:IsTup s.heap l xs) (tm:IsTup s.heap m ys) (ex:xs[k]?=none)
  (q:∀ h',(∀ c o,c≠z→c≠P1→c≠u→c≠v→s.heap.get? c=some o→h'.get? c=some o)→Q none { s with heap:=h' }):wpAny (model prog w) A (pyNext (.ref z)) Q E s:=by
 rcases Z with ⟨Z,a,b,I1⟩ | Z
 ·exact oJ hh D Z I0 I1 wu wv tl tm (.inl ex) q
 ·exact oM hh D Z I0 wu tl ex fun h' kp=>q h' fun c o n1 _ n3 n4 e=>kp c o n1 n3 n4 e
end
section
variable {prog:Program} {w:World} {K:Type} [DecidableEq K] {knd:KeyKind prog w K} {A:Around} {E:Value→Shared→Prop}
structure ZOff (d z P0 P1 u v l m:Addr):Prop where
 z:d≠z
 P0:d≠P0
 P1:d≠P1
 u:d≠u
 v:d≠v
 l:d≠l
 m:d≠m
theorem dB {z P0 P1 u v l m d:Addr} {xs ys:Array Value} {kvs:List (K×Value)} {R:Result→Shared→Prop} (hh:A.handled=none) (D:ZipApart z P0 P1 u v l m) (O:ZOff d z P0 P1 u v l m)
  (hx:xs.size=kvs.length) (hk:∀ (i:Nat) (kv:K×Value),kvs[i]?=some kv→∃ key,xs[i]?=some key∧ys[i]?=some kv.2∧knd.is kv.1 key=true) (hsz:kvs.length+kvs.length≤sizeLine) :
  ∀ (n i:Nat) (s:Shared) (acc:List (K×Value)),kvs.length - i=n→i≤kvs.length→acc.length≤i→ZQ s.heap z P0 P1 u v→IsPair s.heap P0 (.ref u) (.ref v)→IsTupIter s.heap u l i→IsTupIter s.heap v m i→IsTup s.heap l xs→IsTup s.heap m ys→s.heap.DictOf knd d acc →
   (∀ h' tk,h'.DictOf knd d (merged acc (kvs.drop i))→(∀ b o,b≠d→b≠z→b≠P1→b≠u→b≠v→s.heap.get? b=some o→h'.get? b=some o)→R (.ok (.ret .none)) { s with heap:=h',toks:=tk }) →
   codeAny (model prog w) A (.builtin "dict.update.loop" ⟨[.ref d,.ref z,rawInt i,.none],[]⟩) R s:=by
 intro n
 induction n with
 | zero =>
  intro i s acc hn hi ha Z I0 wu wv tl tm hd hR;have e:i=kvs.length:=by lia
  refine codeAny_builtin F.entry_dict_update_loop ?_;rw [Around.under_plainId F.plain_dict_update_loop _];show wpAny _ A.in1 (pyNext (.ref z) >>= _) _ _ s;refine wpAny_bind (oO (by first | exact hh | simpa using hh) D Z I0 wu wv tl tm (by rw [e,← hx];simp) fun h' eb=>?_);show wpAny _ _ (Builtin.Dict.addKeywords d [] >>= _) _ _ _;have hd':h'.DictOf knd d acc:=by
   obtain ⟨o,es,ep,ho,r⟩:=hd;exact ⟨o,es,ep,eb d o O.z O.P1 O.u O.v ho,r⟩
  have q:=hR h' s.toks (by rw [e,List.drop_length];exact hd') fun b o _ n1 n2 n3 n4 z=>eb b o n1 n2 n3 n4 z;exact wpAny_bind (wpAny_pure (wpAny_pure q))
 | succ n ih =>
  intro i s acc hn hi ha Z I0 wu wv tl tm hd hR;have hlt:i < kvs.length:=by lia
  obtain ⟨kv,hkv⟩:∃ kv,kvs[i]?=some kv:=⟨_,List.getElem?_eq_getElem hlt⟩;obtain ⟨key,ex,ey,hkey⟩:=hk i kv hkv;refine codeAny_builtin F.entry_dict_update_loop ?_;rw [Around.under_plainId F.plain_dict_update_loop _];show wpAny _ A.in1 (pyNext (.ref z) >>= _) _ _ s;refine wpAny_bind (nn D Z I0 wu wv tl tm ex ey fun h1 Z1 wu1 wv1 pr1 sz1 k1=>?_);have hd1:h1.DictOf knd d acc:=by
   obtain ⟨o,es,ep,ho,r⟩:=hd;exact ⟨o,es,ep,k1 d o O.z O.P1 O.u O.v ho,r⟩
  have ld:d < s.heap.objs.size:=by obtain ⟨o,_,_,e,_⟩:=hd;exact Heap.lt_size e
  refine wpAny_bind (wpAny_holding ?_);refine wpAny_bind (wpAny_tryCatch ?_);unfold Builtin.Dict.pairItems;refine wpAny_bind (wpAny_typeOf (T:= "tuple") ⟨_,pr1,rfl⟩ ?_);rw [if_pos (by decide)];refine wpAny_bind (wpAny_seqItems pr1 rfl ?_);refine wpAny_pure ?_;show wpAny _ _ (holding [key,kv.2] (dictSet d key kv.2)) _ _ _;refine wpAny_holding (wpAny_dictSet_pairs (s:={ s with heap:=h1 }) hkey hd1 (fun h2 hd2 sb2=>?_) (by lia));refine wpAny_pure ⟨plainId_quiet F.plain_dict_update_loop _,?_⟩;have keep2:∀ b o,b≠d→h1.get? b=some o→h2.get? b=some o:=fun b o hb z=>(sb2.2 b hb).trans z;have hlen:(stored acc kv.1 kv.2).length≤i+1:=by have:=stored_length_le acc kv.1 kv.2;lia
  have Z2:ZQ h2 z P0 P1 u v:=by
   obtain ⟨T,f1,oT,gz,gT,n1,n2,n3,n4⟩:=Z1;refine .inr ⟨T,f1,oT,keep2 _ _ O.z.symm gz,keep2 _ _ (fun c=>?_) gT,n1,n2,n3,n4⟩;obtain ⟨o,_,_,ho,hc,_⟩:=hd1;have gT':h1.get? d=some oT:=by rw [← c];exact gT
   rw [ho] at gT';obtain rfl:=Option.some.inj gT';rw [hc.1] at n4;exact absurd (Value.type.inj n4) (by decide)
  have I2:IsPair h2 P0 (.ref u) (.ref v):=keep2 _ _ O.P0.symm (k1 _ _ D.TIz D.TITO D.TIi1 D.TIi2 I0);have wu2:IsTupIter h2 u l (i+1):=by obtain ⟨o,ho,r⟩:=wu1;exact ⟨o,keep2 _ _ O.u.symm ho,r⟩
  have wv2:IsTupIter h2 v m (i+1):=by obtain ⟨o,ho,r⟩:=wv1;exact ⟨o,keep2 _ _ O.v.symm ho,r⟩
  have tl2:IsTup h2 l xs:=by obtain ⟨o,ho,r⟩:=tl;exact ⟨o,keep2 _ _ O.l.symm (k1 _ _ D.l1z D.l1TO D.l1i1 D.l1i2 ho),r⟩
  have tm2:IsTup h2 m ys:=by obtain ⟨o,ho,r⟩:=tm;exact ⟨o,keep2 _ _ O.m.symm (k1 _ _ D.l2z D.l2TO D.l2i1 D.l2i2 ho),r⟩
  have e:rawInt ((i:Int)+1)=rawInt ((i+1:Nat):Int):=by rw [Int.natCast_add];rfl
  show codeAny _ _ (.builtin "dict.update.loop" ⟨[.ref d,.ref z,rawInt ((i:Int)+1),.none],[]⟩) _ _;rw [e];refine ih (i+1) { s with heap:=h2,toks:=s.toks+1 } (stored acc kv.1 kv.2) (by lia) hlt hlen Z2 I2 wu2 wv2 tl2 tm2 hd2 fun h' tk hd' k'=>?_;have q:=hR h' tk (by
   have z:kvs.drop i=kv :: kvs.drop (i+1):=by
    rw [List.drop_eq_getElem_cons hlt];rw [List.getElem?_eq_getElem hlt] at hkv;rw [Option.some.inj hkv]
   rw [z];exact hd') fun b o hb n1 n2 n3 n4 z=>k' b o hb n1 n2 n3 n4 (keep2 b o hb (k1 b o n1 n2 n3 n4 z))
  exact q
end
section
variable {prog:Program} {w:World} {K:Type} [DecidableEq K] {knd:KeyKind prog w K} {A:Around} {E:Value→Shared→Prop}
theorem gJ {s:Shared} {z P0 P1 u v l m:Addr} {xs ys:Array Value} {a b:Value} {kvs:List (K×Value)} {Q:Value→Shared→Prop} (hh:A.handled=none) (D:ZipApart z P0 P1 u v l m) (Z:IsZip s.heap z P0 P1 .none) (I0:IsPair s.heap P0 (.ref u) (.ref v)) (I1:IsPair s.heap P1 a b)
  (wu:IsTupIter s.heap u l 0) (wv:IsTupIter s.heap v m 0) (tl:IsTup s.heap l xs) (tm:IsTup s.heap m ys)
  (hx:xs.size=kvs.length) (hk:∀ (i:Nat) (kv:K×Value),kvs[i]?=some kv→∃ key,xs[i]?=some key∧ys[i]?=some kv.2∧knd.is kv.1 key=true) (hsz:kvs.length+kvs.length≤sizeLine)
  (h:∀ h' tk,h'.DictOf knd s.heap.objs.size (merged [] kvs)→(∀ b o,b≠z→b≠P1→b≠u→b≠v→s.heap.get? b=some o→h'.get? b=some o)→Q (.ref s.heap.objs.size) { s with heap:=h',toks:=tk }) :
  wpAny (model prog w) A (call (.type "dict") [.ref z]) Q E s:=by
 refine callType_codes (Q₁:=fun obj s₁=>obj=.ref s.heap.objs.size∧s₁={ s with heap:=s.heap.push { cls:=.type "dict",data:=.dict #[] } }) F.kt_called_dict (F.kt_typeCall_dict_1 _) F.entry_dict_init (kt_code_dict_new _ ⟨rfl,rfl⟩) ?_;rintro obj s₁ ⟨rfl,rfl⟩;have hnew:(s.heap.push { cls:=.type "dict",data:=.dict #[] }).DictOf knd s.heap.objs.size []:=Heap.DictOf.new s.heap;refine ⟨hnew.typeIs,F.args_dict_init_2 _ _,?_⟩;unfold Builtin.«dict.__init__»;refine wpAny_bind ?_;unfold Builtin.Dict.selfAndRest;refine wpAny_bind (wpAny_notOrdered_dict hnew.typeIs ?_);show wpAny _ _ (pure (s.heap.objs.size,[Value.ref z])) _ _ _;refine wpAny_pure ?_;show wpAny _ _ (Builtin.Dict.updateFrom "dict.__init__" s.heap.objs.size (.ref z) [] .none) _ _ _;unfold Builtin.Dict.updateFrom;have up:∀ b o,s.heap.get? b=some o→(s.heap.push { cls:=.type "dict",data:=.dict #[] }).get? b=some o:=fun b o e=>Heap.get?_push_of_some _ e;refine wpAny_bind (wpAny_typeOf (T:= "zip") ⟨_,up _ _ Z,rfl⟩ ?_);rw [if_pos (by decide)];refine wpAny_bind (gI (up _ _ Z) (by first | exact hh | simpa using hh) fun h1 tk1 e hx1=>?_);rw [if_pos (by rfl)];refine wpAny_bind (wpAny_rule ?_);have kp1:∀ b o,(s.heap.push { cls:=.type "dict",data:=.dict #[] }).get? b=some o→h1.get? b=some o:=fun b o z=>hx1.keeps b o z;have kp0:∀ b o,s.heap.get? b=some o→h1.get? b=some o:=fun b o z=>kp1 b o (up b o z);refine wpAny_bind (wpAny_pyIter_zip (kp0 _ _ Z) ?_);refine wpAny_pure ⟨plainId_quiet F.plain_dict_update_loop _,?_⟩;have lt:∀ {c:Addr} {o:Obj},s.heap.get? c=some o→s.heap.objs.size≠c:=fun e=>Nat.ne_of_gt (Heap.lt_size e);refine dB (knd:=knd) (kvs:=kvs) (l:=l) (m:=m) (by first | exact hh | simpa using hh) D ⟨lt Z,lt I0,lt I1,?_,?_,?_,?_⟩ hx hk hsz kvs.length 0 _ [] (by lia) (Nat.zero_le _) (Nat.le_refl _) (.inl ⟨kp0 _ _ Z,_,_,kp0 _ _ I1⟩) (kp0 _ _ I0) ?_ ?_ ?_ ?_ ?_ fun h' tk hd' k'=>⟨rfl,?_⟩
 ·obtain ⟨o,e,_⟩:=wu;exact lt e
 ·obtain ⟨o,e,_⟩:=wv;exact lt e
 ·obtain ⟨o,e,_⟩:=tl;exact lt e
 ·obtain ⟨o,e,_⟩:=tm;exact lt e
 ·obtain ⟨o,e,r⟩:=wu;exact ⟨o,kp0 _ _ e,r⟩
 ·obtain ⟨o,e,r⟩:=wv;exact ⟨o,kp0 _ _ e,r⟩
 ·obtain ⟨o,e,r⟩:=tl;exact ⟨o,kp0 _ _ e,r⟩
 ·obtain ⟨o,e,r⟩:=tm;exact ⟨o,kp0 _ _ e,r⟩
 ·obtain ⟨o2,es,ep,ho2,r⟩:=hnew;exact ⟨o2,es,ep,kp1 _ _ ho2,r⟩
 ·exact h h' tk hd' fun b ob n1 n2 n3 n4 e=>k' b ob (Nat.ne_of_lt (Heap.lt_size e)) n1 n2 n3 n4 (kp0 b ob e)
end
section
variable {X:Cx}
theorem nq {K:PySem.W.Frag} {H:Hp}:∀ {ws:List Str} {us:List Dt} {xs ys:List V} {its its2:List Value},IsPs K H (ws.map Dt.str) xs→Vals xs its→IsPs K H us ys→Vals ys its2→us.length=ws.length →
  ∃ (kvs:List (Key×V)) (vs:List (Key×Value)),KV kvs vs∧kvs.map (·.1)=(ws.zip us).map (fun p=>Sum.inr p.1)∧kvs.length=ws.length ∧
   (∀ z,(aS (ws.zip us) z=none→bn kvs (Sum.inr z:Key)=none)∧∀ d,aS (ws.zip us) z=some d→∃ v,bn kvs (Sum.inr z:Key)=some v∧IsP K H d v) ∧
   its.length=vs.length∧∀ (i:Nat) (kv:Key×Value),vs[i]?=some kv→∃ key,its[i]?=some key∧its2[i]?=some kv.2∧(az X.prog X.w).is kv.1 key=true:=by
 intro ws
 induction ws with
 | nil =>
  intro us xs ys its its2 h1 r1 h2 r2 e
  cases h1
  cases r1
  exact ⟨[],[],.nil,rfl,rfl,fun z=>⟨fun _=>rfl,fun d q=>by cases q⟩,rfl,fun i kv q=>by simp at q⟩
 | cons f ws ih =>
  intro us xs ys its its2 h1 r1 h2 r2 e
  cases us with
  | nil=>cases e
  | cons t us =>
  cases h1 with
  | cons d1 h1 =>
  cases h2 with
  | @cons _ _ v _ d2 h2 =>
  cases r1 with
  | cons q1 r1 =>
  cases r2 with
  | @cons _ u _ _ q2 r2 =>
  obtain ⟨kvs,vs,e1,e2,e3,e4,e5,e6⟩:=ih h1 r1 h2 r2 (Nat.succ.inj e)
  cases d1
  obtain ⟨tk,rfl⟩:=q1;refine ⟨(Sum.inr f,v) :: kvs,(Sum.inr f,u) :: vs,.cons ⟨rfl,q2⟩ e1,by simp [e2],by simp [e3],fun z=>?_,by simp [e5],fun i kv q=>?_⟩
  ·by_cases hz:f=z
   ·subst hz;have l1:aS ((f :: ws).zip (t :: us)) f=some t:=by simp [aS]
    have l2:bn ((Sum.inr f,v) :: kvs) (Sum.inr f:Key)=some v:=by simp [bn]
    exact ⟨fun q=>(by rw [l1] at q;cases q),fun d q=>(by rw [l1] at q;cases q;exact ⟨v,l2,d2⟩)⟩
   ·have l1:aS ((f :: ws).zip (t :: us)) z=aS (ws.zip us) z:=by simp [aS,hz]
    have l2:bn ((Sum.inr f,v) :: kvs) (Sum.inr z:Key)=bn kvs (Sum.inr z:Key):=by simp [bn,hz]
    rw [l1,l2];exact e4 z
  ·cases i with
   | zero =>
    simp at q;subst q;exact ⟨_,rfl,rfl,ki (k:=Sum.inr f) ⟨tk,rfl⟩⟩
   | succ i=>exact e6 i kv (by simpa using q)
def rS (K:PySem.W.Frag) (ta:TA):TE:=fun σ H Q=>ta σ H fun vs H1=>∃ (x y:V) (ws:List Str) (us:List Dt),vs=[x,y]∧IsP K H1 (.tup (ws.map Dt.str)) x∧IsP K H1 (.tup us) y∧us.length=ws.length∧ws.Nodup∧ws.length≤1000 ∧
 ∀ p H',Same H1 H'→H1 p=none→DicQ K H' p (ws.zip us)→Q (.ref p) H'
theorem pe_dictZ {a b:Expr} {ta:TA} {p p' pos pos':Pos} (hc:X.calm=true) (hgd:Gl X "dict") (hmd:X.mg "dict" = none) (hgz:Gl X "zip") (hmz:X.mg "zip" = none) (ha:PA X [a,b] ta)
  (hs:starEach [a,b] X.env=[(false,eval a X.env),(false,eval b X.env)]:=by rfl) (hs2:starEach [b] X.env=[(false,eval b X.env)]:=by rfl)
  (ho:starEach [.Call (.Name "zip" p') [a,b] [] pos'] X.env=[(false,eval (.Call (.Name "zip" p') [a,b] [] pos') X.env)]:=by rfl) :
  PE X (.Call (.Name "dict" p) [.Call (.Name "zip" p') [a,b] [] pos'] [] pos) (rS X.K ta):=by
 intro pins s σ H Q I h;refine wpAny_Call_Name_kw (cI I hgd hmd boot_dict ?_ (by decide) (by decide));refine PyProof.Rows.callWith_type1 ?_ (by rw [ho];rfl) rfl;rw [ho];refine Calls.spliced_cons ?_;refine wpAny_Call_Name_kw (cI I hgz hmz boot_zip ?_ (by decide) (by decide));refine PyProof.Rows.callWith_type1 (thn (ha pos' pins s σ H _ I h) fun us s1 ⟨vs,H1,I1,r1,q1⟩=>?_) (by rw [hs,hs2]) (by rw [hs2];rfl);obtain ⟨x,y,ws,ds,e,hx,hy,el,nd,hz,q⟩:=q1;subst e;obtain ⟨l1,zs,rfl,hl1,_,ra⟩:=hx.unref;obtain ⟨l2,zs2,rfl,hl2,_,rb⟩:=hy.unref;obtain ⟨u,v,rfl,ru,rv⟩:=r1.two
 cases ru
 cases rv
 obtain ⟨its,rr,pl,_⟩:=I1.tuple hl1;obtain ⟨its2,rr2,pl2,_⟩:=I1.tuple hl2;have lt1:s1.heap.objs.size > l1:=by obtain ⟨o,e,_⟩:=pl;exact Heap.lt_size e
 have lt2:s1.heap.objs.size > l2:=by obtain ⟨o,e,_⟩:=pl2;exact Heap.lt_size e
 refine ni pl pl2 fun h' z1 z2 z3 z4 z5 zs kk=>?_;refine Calls.spliced_nil ?_;obtain ⟨kvs,vs,k1,k2,k3,k4,k5,k6⟩:=nq (X:=X) ra rr rb rr2 el;have hl:vs.length=ws.length:=by rw [← k1.length,k3]
 have big:=I1.big;refine gJ (s:={ s1 with heap:=h' }) (knd:=az X.prog X.w) (xs:=its.toArray) (ys:=its2.toArray) (kvs:=vs) (I1.ok.hd hc) ?D z1 z2 z3 z4 z5 ?T1 ?T2 (by rw [List.size_toArray];exact k5) (fun i kv z=>?_) (Nat.le_trans (Nat.add_le_add (hl ▸ hz) (hl ▸ hz)) (by decide)) fun h2 tk dd kp=>?_
 case D=>constructor <;> (show ¬ (@Eq Nat _ _)) <;> lia
 case T1=>obtain ⟨o,e,r⟩:=pl;exact ⟨o,kk _ _ e,r⟩
 case T2=>obtain ⟨o,e,r⟩:=pl2;exact ⟨o,kk _ _ e,r⟩
 ·obtain ⟨key,w1,w2,w3⟩:=k6 i kv z;exact ⟨key,by simpa using w1,by simpa using w2,w3⟩
 ·have ndv:(vs.map (·.1)).Nodup:=by
   rw [← k1.keys,k2];have z:(ws.zip ds).map (fun p=>(Sum.inr p.1:Key))=((ws.zip ds).map (·.1)).map Sum.inr:=by rw [List.map_map];rfl
   rw [z,List.map_fst_zip (by lia)];exact List.Pairwise.map _ (fun a b n q=>n (Sum.inr.inj q)) nd
  rw [merged_nil_of_nodup vs ndv] at dd;have keep:∀ b o,s1.heap.get? b=some o→h2.get? b=some o:=fun b o e=>by
   have lb:s1.heap.objs.size > b:=Heap.lt_size e;refine kp b o ?_ ?_ ?_ ?_ (kk b o e) <;> (show ¬ (@Eq Nat _ _)) <;> lia
  have le:s1.heap.objs.size≤h'.objs.size:=by lia
  have hf:=I1.hok.fresh le;have I2:Inv X pins σ (upd H1 h'.objs.size (.dK kvs)) { s1 with heap:=h2,toks:=tk }:=I1.laid (t':=tk) keep le
   (ou (by rw [k3];exact Nat.le_of_lt (ao hz)) (by simp;exact Nat.ne_of_gt (Nat.lt_of_lt_of_le big le)) k1 dd)
  refine ⟨.ref h'.objs.size,_,I2,rfl,q _ _ (ag hf _) hf ⟨kvs,ac,k2,fun z=>⟨(k4 z).1,fun d l=>?_⟩⟩⟩;obtain ⟨v,l1,l2⟩:=(k4 z).2 d l;exact ⟨v,l1,l2.same (ag hf _)⟩
end
section
variable {X:Cx}
end
open AutoSeq1 (wpAny_loadPart')
structure ZOut (lo:Nat) (xs ys acc:Array Value) (h:Heap):Prop where
 pr:∀ (j:Nat) (e:Value),acc[j]?=some e→∃ (T:Addr) (x y:Value),e=.ref T∧lo≤T∧xs[j]?=some x∧ys[j]?=some y∧IsPair h T x y
 ij:∀ (j k:Nat) (e:Value),acc[j]?=some e→acc[k]?=some e→j=k
section
variable {prog:Program} {w:World} {A:Around} {E:Value→Shared→Prop} {s:Shared}
end
section
variable {prog:Program} {w:World} {A:Around} {E:Value→Shared→Prop} {s:Shared}
end
abbrev tO (x y:Value):Obj:={ cls:=.type "tuple",data:=.seq #[x,y] }
inductive RwZ (h:Heap) (lo:Nat):List V→List V→List (Addr×HO)→Prop
 | nil:RwZ h lo [] [] []
 | cons {T:Nat} {x y:Value} {v u:V} {vs us:List V} {r:List (Addr×HO)}:lo≤T→RelV v x→RelV u y→h.get? T=some (tO x y)→RwZ h lo vs us r→RwZ h lo (v :: vs) (u :: us) ((T,plO [v,u] [x,y]) :: r)
theorem RwZ.length {h:Heap} {lo:Nat} {vs us:List V} {r:List (Addr×HO)} (R:RwZ h lo vs us r):r.length=vs.length:=by
 induction R with
 | nil=>rfl
 | cons _ _ _ _ _ ih=>rw [List.length_cons,List.length_cons,ih]
section
variable {X:Cx}
end
end L2
namespace L2
open PySem PySem.Spec PyProof.Rows
open AutoSeq1 (wpAny_loadPart')
section
variable {prog:Program} {w:World} {A:Around} {E:Value→Shared→Prop} {s:Shared}
end
section
variable {X:Cx}
end
end L2
namespace L2
open PySem PySem.Spec PyProof.Rows
section
variable {X:Cx} {o e:Expr} {es:List Expr} {to:TE} {t:TA} {name:Str} {apos cpos:Pos} {T id:String} {r:V→List V→Hp→VK→Prop}
end
section
variable {P:Program} {w:World} {A:Around} {E:Value→Shared→Prop} {s:Shared}
def uv (P:Program) (w:World) (h:Heap) (a:Addr) (b:Bool) (es:Array (Int×Value)) (ep:Nat) (t:SetTable):Prop :=
 ∃ o,h.get? a=some o∧o.ExactSet∧o.data=.set es ep t∧ElemsOf (az P w) es.toList∧es.size < scanBound∧t.fits es.size=true∧t.led=b∧(t.plain=true→es.size=0)
def kO:Value→Key
 | .int i _=>.inl i
 | .str x _=>.inr x
 | _=>.inl 0
def uC (P:Program) (w:World) (h:Heap) (a:Addr) (b:Bool) (l:List Key):Prop:=∃ es ep t,uv P w h a b es ep t∧(es.toList.map fun e=>kO e.2).Perm l
end
section
variable {P:Program} {w:World} {A:Around} {R:Result→Shared→Prop} {it:Addr} {fp wr:List Addr} {G:Array GenState→Array GenState→Prop} {n:Nat} {Pt:Nat→Value→Prop} {St:Nat→Shared→Prop}
end
section
variable {P:Program} {w:World} {A:Around} {E:Value→Shared→Prop} {s:Shared}
end
section
variable {P:Program} {w:World} {A:Around} {E:Value→Shared→Prop} {s:Shared}
def SIt (h:Heap) (I a:Addr) (first:Value) (i n ep:Nat):Prop:=∃ o,h.get? I=some o∧o.cls=.type "set_iterator" ∧o.data=.fields #[first,.int i 0,.ref a,.int n 0,.int ep 0]
end
section
variable {P:Program} {w:World} {A:Around} {E:Value→Shared→Prop} {s:Shared}
end
section
variable {P:Program} {w:World} {A:Around} {E:Value→Shared→Prop} {s:Shared}
end
section
variable {P:Program} {w:World} {A:Around} {E:Value→Shared→Prop} {s:Shared}
end
section
variable {P:Program} {w:World} {A:Around} {E:Value→Shared→Prop} {s:Shared}
end
section
variable {P:Program} {w:World} {A:Around} {E:Value→Shared→Prop} {s:Shared}
end
section
variable {X:Cx}
end
def SqE:Bool→PySem.W.Frag→Hp→Addr→List V→Prop
 | true=>SqT
 | false=>SqL
section
variable {X:Cx} {elts:List Expr} {k:Nat} {tpos:Pos}
end
def uD (K:PySem.W.Frag) (H:Hp) (p:Addr) (ns:List Str) (f:Str→Dt):Prop :=
 ∃ kvs,H p=some (.dK kvs)∧kvs.map (·.1)=ns.map (Sum.inr:Str→Key)∧∀ z∈ns,∃ v,bn kvs (Sum.inr z:Key)=some v∧IsP K H (f z) v
section
variable {X:Cx} {o e f:Expr} {apos cpos:Pos} {td ty tx:TE}
end
section
variable {X:Cx} {e st:Expr} {te tst:TE} {p2 pos:Pos}
end
end L2
namespace PySem
open Sem (wp)
def Heap.Tr (h base:Heap) (e:Addr) (cls:Value) (ws:Array Value) (fl:Value):Prop :=
 ∃ oe vs T oT ts,h.get? e=some oe∧oe.cls=cls∧oe.data=.fields vs∧(∀ i,i≠1→vs[i]?=ws[i]?)∧vs[1]?=some (.ref T)∧base.get? T=none∧T≠e∧h.get? T=some oT∧oT.data=.fields ts∧ts[3]?=some fl
def Heap.Fl (base:Heap) (l:List Env) (e:Addr) (cls:Value) (ws:Array Value) (fl:Value) (h:Heap):Prop :=
 base.StaysIn h∧base.get? e=none∧h.FunFrames base l∧h.Tr base e cls ws fl
theorem Heap.Fl.flying {base h:Heap} {l:List Env} {e:Addr} {cls a0:Value} {ws:Array Value} (x:Heap.Fl base l e cls ws .none h) (h0:ws[0]?=some a0):Heap.FlyingW base l e cls a0 h:=by
 obtain ⟨k1,k2,k3,oe,vs,T,oT,ts,he,hc,hd,hk,r⟩:=x;exact ⟨k1,k2,k3,oe,vs,T,oT,ts,he,⟨hc,by rw [hk 0 (by decide)];exact h0⟩,hd,r⟩
section
variable {M:Model} {A:Around} {E:Value→Shared→Prop} {s:Shared}
theorem gj {base:Heap} {env:Env} {outer:List Env} {L e:Addr} {oe:Obj} {vs ws:Array Value} {head:Value} {hadNext:Bool} {Q:Unit→Shared→Prop}
  (hfr:A.frames=some (env :: outer)) (hl:s.heap.FunFrames base (env :: outer)) (hf:env.frame=some L)
  (he:s.heap.get? e=some oe) (hkb:base.StaysIn s.heap) (hen:base.get? e=none) (hd:oe.data=.fields vs) (hsz:1 < vs.size) (hw:∀ i,i≠1→vs[i]?=ws[i]?)
  (h:∀ h',Heap.Fl base (env :: outer) e oe.cls ws (rawInt L) h'→s.heap.UpToSlots h'→Q () { s with heap:=h' }) :
  wpAny M A (do let a ← frameOf env;let pl ← entryPlaceOf L hadNext;let b ← EntryCells.newEntry head a .none (rawInt L) .none pl;setField (.ref e) 1 b) Q E s:=by
 have nf:e∉(env :: outer).filterMap (·.frame):=fun hm=>by
  obtain ⟨_,o,ho,hn⟩:=hl.mem hm;rw [he] at ho
  cases ho
  exact hn vs hd
 refine wpAny_bind (wpAny_frameOf_fun hfr hl hf fun h1 hs1=>?_);refine wpAny_bind (wpAny_entryPlaceOf fun pl hpl=>?_);unfold EntryCells.newEntry newFields;refine wpAny_bind (wpAny_newObj_type ?_ (hpl.sizeOk5 _ _ _ _ _))
 generalize hts:([head,Value.ref L,Value.none,rawInt L,Value.none]++(if pl.isEmpty then List.replicate 6 Value.none else pl)).toArray=ts
 have h3:ts[3]?=some (rawInt L):=by rw [← hts];simp
 have he1:h1.get? e=some oe:=(hs1.2.1 e nf).trans he;have he2:=Heap.get?_push_of_some (h:=h1) { cls:=.type "traceback",dict:=none,data:=.fields ts } he1;have hT2:(h1.push { cls:=.type "traceback",dict:=none,data:=.fields ts }).get? h1.objs.size=some { cls:=.type "traceback",dict:=none,data:=.fields ts }:=Heap.get?_push_size h1 rfl;have hTe:h1.objs.size≠e:=Nat.ne_of_gt (Heap.lt_size he1);have kb1:base.StaysIn h1:=fun b o hbo=>(hs1.2.1 b fun hm=>by rw [(hl.mem hm).1] at hbo;cases hbo).trans (hkb b o hbo);have old:∀ b o,b≠e→h1.get? b=some o→((h1.push { cls:=.type "traceback",dict:=none,data:=.fields ts }).update e (Obj.mapFields (·.setIfInBounds 1 (Value.ref h1.objs.size)))).get? b=some o:=fun b o ne hb=>(Heap.get?_update_other _ _ (Ne.symm ne)).trans (Heap.get?_push_of_some _ hb);have nrec:∀ b o,s.heap.get? b=some o→(∀ vs,o.data≠.fields vs)→b≠e:=fun b o hb hn q=>by
  subst q;rw [he] at hb
  cases hb
  exact hn vs hd
 have up:∀ b o,s.heap.get? b=some o→(∀ vs,o.data≠.fields vs)→∃ sl,((h1.push { cls:=.type "traceback",dict:=none,data:=.fields ts }).update e (Obj.mapFields (·.setIfInBounds 1 (Value.ref h1.objs.size)))).get? b=some { o with slots:=sl }:=fun b o hb hn=>by
  obtain ⟨sl,q⟩:=hs1.2.2 b o hb;exact ⟨sl,old b _ (nrec b o hb hn) q⟩
 have hd3:=Obj.data_mapFields hd (·.setIfInBounds 1 (Value.ref h1.objs.size));refine wpAny_setField he2 hd hsz (h _ ⟨fun b o hbo=>old b o (fun q=>by rw [q,hen] at hbo;cases hbo) (kb1 b o hbo),hen,hl.of_keeps fun b o hb hn=>?_,?_⟩ up)
 ·obtain ⟨sl,q⟩:=up b o hb hn;exact ⟨_,q,rfl⟩
 ·refine ⟨_,_,h1.objs.size,_,ts,Heap.get?_update_self _ he2 (Obj.isFreed_of_fields hd3),Obj.cls_mapFields _ _,hd3,fun i hi=>?_,?_,kb1.fresh,hTe,(Heap.get?_update_other _ _ (Ne.symm hTe)).trans hT2,rfl,h3⟩
  ·rw [Array.getElem?_setIfInBounds_ne (Ne.symm hi)];exact hw i hi
  ·simp [hsz]
theorem cg {base:Heap} {l:List Env} {e:Addr} {cls fl:Value} {ws:Array Value} {fr:Option Addr} {Q:Unit→Shared→Prop} (x:Heap.Fl base l e cls ws fl s.heap)
  (h:∀ h',Heap.Fl base l e cls ws (fr.elim Value.none fun f=>rawInt f) h'→s.heap.UpToSlots h'→Q () { s with heap:=h' }):wpAny M A (setFlight (.ref e) fr) Q E s:=by
 obtain ⟨k1,k2,k3,oe,vs,T,oT,ts,he,hc,hd,hk,h1,hnT,hTe,hT,hdT,h3⟩:=x;have hz:3 < ts.size:=(Array.getElem?_eq_some_iff.mp h3).1;have oth:∀ b,b≠T→(s.heap.update T (Obj.mapFields (·.setIfInBounds 3 (fr.elim Value.none fun f=>rawInt f)))).get? b=s.heap.get? b:=fun b hb=>Heap.get?_update_other _ _ (Ne.symm hb);have nrec:∀ b o,s.heap.get? b=some o→(∀ vs,o.data≠.fields vs)→b≠T:=fun b o hb hn q=>by
  subst q;rw [hT] at hb
  cases hb
  exact hn ts hdT
 have hd3:=Obj.data_mapFields hdT (·.setIfInBounds 3 (fr.elim Value.none fun f=>rawInt f));unfold setFlight;refine wpAny_bind (wpAny_field he hd h1 ?_);rw [if_pos (show (Value.ref T != Value.none)=true from by simp)];refine wpAny_setField hT hdT hz (h _ ⟨fun b o hbo=>(oth b fun q=>by rw [q,hnT] at hbo;cases hbo).trans (k1 b o hbo),k2,k3.of_keeps fun b o hb hn=>⟨o,(oth b (nrec b o hb hn)).trans hb,rfl⟩,?_⟩ fun b o hb hn=>⟨o.slots,(oth b (nrec b o hb hn)).trans hb⟩);exact ⟨oe,vs,T,_,_,(oth e (Ne.symm hTe)).trans he,hc,hd,hk,h1,hnT,hTe,Heap.get?_update_self _ hT (Obj.isFreed_of_fields hd3),hd3,by simp [hz]⟩
theorem qi {base:Heap} {env:Env} {outer:List Env} {L e:Addr} {cls:Value} {ws:Array Value} {Q:Unit→Shared→Prop} (hfr:A.frames=some (env :: outer)) (hf:env.frame=some L) (x:Heap.Fl base (env :: outer) e cls ws .none s.heap)
  (h:∀ h',Heap.Fl base (env :: outer) e cls ws (rawInt L) h'→s.heap.UpToSlots h'→Q () { s with heap:=h' }):wpAny M A (noteFrame (.ref e) env) Q E s:=by
 obtain ⟨k1,k2,k3,oe,vs,T,oT,ts,he,hc,hd,hk,h1,hnT,hTe,hT,hdT,h3⟩:=x;have hz:3 < ts.size:=(Array.getElem?_eq_some_iff.mp h3).1;have oth:∀ b,b≠T→(s.heap.update T (Obj.mapFields (·.setIfInBounds 3 Value.none))).get? b=s.heap.get? b:=fun b hb=>Heap.get?_update_other _ _ (Ne.symm hb);have nrec:∀ b o,s.heap.get? b=some o→(∀ vs,o.data≠.fields vs)→b≠T:=fun b o hb hn q=>by
  subst q;rw [hT] at hb
  cases hb
  exact hn ts hdT
 subst hc;unfold noteFrame;simp only [hf];refine wpAny_bind (wpAny_field he hd h1 ?_);rw [if_pos (show (Value.ref T != Value.none)=true from by simp)];refine wpAny_bind (wpAny_field hT hdT h3 ?_);rw [if_neg (show ¬ ((Value.none == rawInt L)=true) from by simp [rawInt])];refine wpAny_bind (wpAny_setField hT hdT hz ?_);refine gj (s:={ s with heap:=s.heap.update T (Obj.mapFields (·.setIfInBounds 3 Value.none)) }) hfr (k3.of_keeps fun b o hb hn=>⟨o,(oth b (nrec b o hb hn)).trans hb,rfl⟩) hf ((oth e (Ne.symm hTe)).trans he)
  (fun b o hbo=>(oth b fun q=>by rw [q,hnT] at hbo;cases hbo).trans (k1 b o hbo)) k2 hd (Array.getElem?_eq_some_iff.mp h1).1 hk fun h' x' u=>h h' x' fun b o hb hn=>u b o ((oth b (nrec b o hb hn)).trans hb) hn
theorem qj {base:Heap} {env:Env} {outer:List Env} {L e:Addr} {oe:Obj} {vs:Array Value} {Q:Unit→Shared→Prop} (hfr:A.frames=some (env :: outer)) (hf:env.frame=some L) (hl:s.heap.FunFrames base (env :: outer))
  (he:s.heap.get? e=some oe) (hkb:base.StaysIn s.heap) (hen:base.get? e=none) (hd:oe.data=.fields vs) (h1:vs[1]?=some .none)
  (h:∀ h',Heap.Fl base outer e oe.cls vs .none h'→s.heap.UpToSlots h'→Q () { s with heap:=h' }):wpAny M A (leaving env (.ref e)) Q E s:=by
 unfold leaving noteFrame;simp only [hf];refine wpAny_bind (wpAny_bind (wpAny_field he hd h1 ?_));rw [if_neg (by decide)];refine gj (ws:=vs) hfr hl hf he hkb hen hd (Array.getElem?_eq_some_iff.mp h1).1 (fun _ _=>rfl) fun h2 x2 u2=>?_;refine cg (s:={ s with heap:=h2 }) (fr:=none) x2 fun h3 x3 u3=>?_;obtain ⟨k1,k2,⟨_,_,k3⟩,k4⟩:=x3;exact h h3 ⟨k1,k2,k3,k4⟩ (u2.trans u3)
end
end PySem
namespace PySem
open Sem (wp)
theorem gK:entryFor table "proto.unchain" = some Builtin.«proto.unchain»:=entryFor_of_tree (by kernel_rfl)
section
variable {prog:Program} {w:World} {A:Around} {E:Value→Shared→Prop} {s:Shared} {env:Env}
variable {nm q:Str} {C N:Addr} {bs bm bmB:List Value} {hdct:Bool} {sn:List Str} {sub:List Value} {ab:Bool} {col:Option Bool} {dd:Option Addr} {k0 k1 k2 k3 k5:Option Value} {B newId initId:String}
theorem lK {x c:Sem Value} {Q:Flow→Shared→Prop} {ea:Addr} (hbase:bm.contains (.type "BaseException")=true) (hh:A.handled=some (.ref ea))
  (hc:∀ {s:Shared} {Q:Value→Shared→Prop},Q .none s→wpAny (model prog w) A c Q E s)
  (h:wpAny (model prog w) A x (fun v s₁=>∃ e t oa wa,v=.ref e∧s₁.heap.get? C=some (excClassObj nm q C N bs bm hdct sn sub ab col dd k0 k1 k2 k3 k5 newId)∧e≠C∧e≠ea∧s₁.heap.get? ea=some oa∧oa.data=.fields wa∧wa[2]?=some .none ∧
   s₁.heap.get? e=some { cls:=.ref C,data:=.fields #[.ref t,.none,.none,.none,.bool false,.none] } ∧
   ∀ h',(∀ b,b≠e→h'.get? b=s₁.heap.get? b)→h'.get? e=some { cls:=.ref C,data:=.fields #[.ref t,.none,.ref ea,.none,.bool true,.none] }→E (.ref e) { s₁ with heap:=h' }) E s) :
  wpAny (model prog w) A (raiseStmt env (some x) (some c)) Q E s:=by
 have hcB:(Value.ref C :: bm).contains (.type "BaseException")=true:=by rw [List.contains_cons,hbase,Bool.or_true]
 unfold raiseStmt;refine wpAny_bind (wpAny_mono h (fun v s₁ h₁=>?_) fun _ _ x=>x);obtain ⟨e,t,oa,wa,rfl,hC,neC,neA,ha,hda,h2,he,hE⟩:=h₁;obtain ⟨hp,g,d,tk,os⟩:=s₁;refine wpAny_bind (wpAny_holding (hc ?_))
 repeat (first | with_reducible refine wpAny_loadPart_at he ?_ | with_reducible refine wpAny_loadPart_at hC ?_ | (with_reducible refine wpAny_isSubtype_exc hC ?_;rw [hcB]) | wp_step)
 unfold raiseNew;refine wpAny_bind (wpAny_handled ?_);rw [hh];have bne:(Value.ref ea != Value.ref e)=true:=by simp [Ne.symm neA]
 dsimp only;rw [if_pos bne];have he3:=Heap.get?_update_self (Obj.mapFields (·.setIfInBounds 3 Value.none)) he rfl;have he4:=Heap.get?_update_self (Obj.mapFields (·.setIfInBounds 4 (Value.bool true))) he3 rfl;have oth:∀ b,b≠e→((hp.update e (Obj.mapFields (·.setIfInBounds 3 Value.none))).update e (Obj.mapFields (·.setIfInBounds 4 (Value.bool true)))).get? b=hp.get? b:=fun b hb=>(Heap.get?_update_other _ _ (Ne.symm hb)).trans (Heap.get?_update_other _ _ (Ne.symm hb));have ha4:=(oth ea (Ne.symm neA)).trans ha
 generalize (hp.update e (Obj.mapFields (·.setIfInBounds 3 Value.none))).update e (Obj.mapFields (·.setIfInBounds 4 (Value.bool true)))=h4 at he4 oth ha4 ⊢
 refine wpAny_bind (wpAny_holding (wpAny_runValue (codeAny_builtin gK ?_)));unfold Builtin.«proto.unchain»;refine wpAny_bind (wpAny_field ha4 hda h2 ?_);have fin:wpAny (model prog w) A (do updateField e 2 (Value.ref ea);throw (Value.ref e)) Q E { heap:=h4,gens:=g,drawn:=d,toks:=tk,os:=os }:=by
  refine wpAny_bind ?_;show wpAny (model prog w) A (setField (.ref e) 2 (Value.ref ea)) _ _ _;refine wpAny_setField he4 rfl (by show 2 < 6;decide) (wpAny_throw ?_);exact hE _ (fun b hb=>(Heap.get?_update_other _ _ (Ne.symm hb)).trans (oth b hb)) (Heap.get?_update_self _ he4 rfl)
 repeat (first | exact fin | wp_step)
end
end PySem
namespace L2
open PySem PySem.Spec PyProof.Rows
def FlyG (P:Program) (w:World) (ws:Array Value):CXT:=fun outer H s E e s'=>∃ (ea C:Addr) (B:Heap) (H':Hp),e=.ref ea∧Heap.Fl B outer ea (.ref C) ws .none s'.heap∧s'.os=s.os∧AllBare s'.gens∧Un (frs outer) [] H H' s.heap s'.heap∧HOk P w H' B ∧
 (∀ b o,s.heap.get? b=some o→H b=none→b∉frs outer→B.get? b=some o)∧(∀ b o,s.heap.get? b=some o→b∉frs outer→∃ o',B.get? b=some o')∧E (.ref C) none H'
def kz (P:Program) (w:World):CXT:=fun outer H s E e s'=>∃ ws a0,ws[0]?=some a0∧ws[2]?=some .none∧FlyG P w ws outer H s E e s'
theorem FlyG.cxe {P:Program} {w:World} {ws:Array Value} {a0:Value} {outer:List Env} {H:Hp} {s s':Shared} {E:XK} {e:Value} (h:FlyG P w ws outer H s E e s') (h0:ws[0]?=some a0):CXE P w outer H s E e s':=by
 obtain ⟨ea,C,B,H',rfl,fl,r⟩:=h;exact ⟨ea,C,a0,B,H',rfl,fl.flying h0,r⟩
def oP (X:Cx) (E:XK):Prop:=X.xe=fun e s'=>wpAny (model X.prog X.w) X.A (leaving X.env e) (fun _ s''=>kz X.prog X.w X.outer X.H₀ X.s₀ E e s'') (fun e' s''=>kz X.prog X.w X.outer X.H₀ X.s₀ E e' s'') s'
section
variable {X:Cx} {pins:List (Addr×Obj)} {σ:St} {H:Hp} {s:Shared}
theorem iw (hstk:X.stack=X.env :: X.outer) (I:Inv X pins σ H s) {h':Heap} {ea:Addr} (kp:∀ b o,s.heap.get? b=some o→h'.get? b=some o) (hn:s.heap.get? ea=none) :
  (PySem.W.hideAll s.heap (frs (X.env :: X.outer))).StaysIn h'∧(PySem.W.hideAll s.heap (frs (X.env :: X.outer))).get? ea=none∧h'.FunFrames (PySem.W.hideAll s.heap (frs (X.env :: X.outer))) (X.env :: X.outer):=by
 have F0:s.heap.FunFrames X.base (X.env :: X.outer):=by rw [← hstk];exact I.stack
 have hin:∀ env∈(X.env :: X.outer),∀ b,env.frame=some b→b∈frs (X.env :: X.outer):=fun env he b hb=>List.mem_filterMap.mpr ⟨env,he,hb⟩;refine ⟨fun b o e=>kp b o (PySem.W.of_hideAll _ e),?_,(PySem.W.funFrames_hide F0 hin).of_keeps fun b o hb _=>⟨o,kp b o hb,rfl⟩⟩
 cases hq:(PySem.W.hideAll s.heap (frs (X.env :: X.outer))).get? ea with
 | none=>rfl
 | some o =>
  have:=PySem.W.of_hideAll _ hq;rw [hn] at this
  cases this
theorem kA {E:XK} {C ea:Addr} {h' h2:Heap} {ws:Array Value} {tk:Nat} (hstk:X.stack=X.env :: X.outer) (hfr:X.env.frame=some X.env.locals) (hex:X.ex=[]) (I:Inv X pins σ H s) (kp:∀ b o,s.heap.get? b=some o→h'.get? b=some o)
  (fl:Heap.Fl (PySem.W.hideAll s.heap (frs (X.env :: X.outer))) X.outer ea (.ref C) ws .none h2) (up:h'.UpToSlots h2) (q:E (.ref C) none H):FlyG X.prog X.w ws X.outer X.H₀ X.s₀ E (.ref ea) { s with heap:=h2,toks:=tk }:=by
 have F0:s.heap.FunFrames X.base (X.env :: X.outer):=by rw [← hstk];exact I.stack
 have mem:∀ b∈frs X.outer,b∈frs (X.env :: X.outer):=fun b hb=>by
  obtain ⟨env,he,hf⟩:=List.mem_filterMap.mp hb;exact List.mem_filterMap.mpr ⟨env,List.mem_cons_of_mem _ he,hf⟩
 have inv:∀ b,b∈frs (X.env :: X.outer)→b=X.env.locals∨b∈frs X.outer:=fun b hb=>by
  obtain ⟨env,he,hf⟩:=List.mem_filterMap.mp hb;rcases List.mem_cons.mp he with rfl | he
  ·rw [hfr] at hf;exact .inl (Option.some.inj hf).symm
  ·exact .inr (List.mem_filterMap.mpr ⟨env,he,hf⟩)
 have stayB:∀ b o,s.heap.get? b=some o→b∉frs (X.env :: X.outer)→(PySem.W.hideAll s.heap (frs (X.env :: X.outer))).get? b=some o:=fun b o e n=>PySem.W.hideAll_get _ e n;have old:∀ b o,X.s₀.heap.get? b=some o→b∉frs X.outer→b∉frs (X.env :: X.outer):=fun b o e n z=>by
  rcases inv b z with rfl | z
  ·exact absurd (Nat.lt_of_lt_of_le (Heap.lt_size e) I.ok.above) (Nat.lt_irrefl _)
  ·exact n z
 have B0:Un X.fs [] X.H₀ H X.s₀.heap s.heap:=by have z:=I.base;rw [hex] at z;exact z
 have c1:∀ b o,X.s₀.heap.get? b=some o→X.H₀ b=none→b∉frs X.outer→(PySem.W.hideAll s.heap (frs (X.env :: X.outer))).get? b=some o:=fun b o e n hb=>stayB b o (B0.keep b o e n hb (by simp)) (old b o e hb);have c2:∀ b o,X.s₀.heap.get? b=some o→b∉frs X.outer→∃ o',(PySem.W.hideAll s.heap (frs (X.env :: X.outer))).get? b=some o':=fun b o e hb=>by
  obtain ⟨o',e'⟩:=B0.there b o e (by simp);exact ⟨o',stayB b o' e' (old b o e hb)⟩
 refine ⟨ea,C,_,H,rfl,fl,I.os,I.bare,dA B0 c1 c2 fl.1 fun b o e hb=>?_,fun b u e=>?_,c1,c2,q⟩
 ·obtain ⟨sl,e1⟩:=B0.slot b o e (I.ok.frf b hb) hb (by simp);obtain ⟨o2,e2,nf⟩:=bK F0 (mem b hb);rw [e1] at e2;obtain rfl:=Option.some.inj e2;obtain ⟨sl2,e3⟩:=up b _ (kp b _ e1) nf;exact ⟨sl2,e3⟩
 ·refine (I.hok b u e).stay (fun c v hc z=>stayB c v z fun hf=>?_) (fun _ z=>z) fun _ _ z=>z;have n0:H c=none:=by rw [← hstk] at hf;exact I.stkFree c hf
  rcases hc with rfl | hc
  ·rw [e] at n0;cases n0
  ·rw [hc] at n0;cases n0
theorem nr {E:XK} {C:Addr} {ea:Addr} {vs:List Value} {h':Heap} {tk:Nat} (hx:oP X E) (hstk:X.stack=X.env :: X.outer) (hfr:X.env.frame=some X.env.locals) (hex:X.ex=[]) (I:Inv X pins σ H s) (hm:Heap.MadeExcOf s.heap h' ea (.ref C) vs)
  (q:E (.ref C) none H):X.xe (.ref ea) { s with heap:=h',toks:=tk }:=by
 rw [hx];have fr0:X.A.frames=some (X.env :: X.outer):=by rw [← hstk];exact I.ok.frames
 obtain ⟨k1,k2,k3⟩:=iw hstk I hm.keeps hm.new;obtain ⟨t,ht,_⟩:=hm.there;refine qj (s:={ s with heap:=h',toks:=tk }) fr0 hfr k3 ht k1 k2 rfl rfl fun h2 fl up=>?_;exact ⟨_,_,rfl,rfl,kA (s:=s) (tk:=tk) hstk hfr hex I hm.keeps fl up q⟩
theorem ps_raise2 {E:XK} {x:Str} {C:Addr} {e:Expr} {es:List Expr} {t:TA} {np cpos pos:Pos} (hx:oP X E) (hstk:X.stack=X.env :: X.outer) (hfr:X.env.frame=some X.env.locals) (hex:X.ex=[]) (hc:X.calm=true) (G:ExC X.K X.mg x C) (hg:Gl X x) (ha:PA X (e :: es) t)
  (hdb:(x == ("__debug__" : Str))=false:=by decide) (he:starEach (e :: es) X.env=(false,eval e X.env) :: starEach es X.env:=by rfl) (hpl:(backTo cpos (starEach es X.env)).any (·.1)=false:=by rfl) :
  PS X (.Raise (some (.Call (.Name x np) (e :: es) [] cpos)) none pos) (on C E t):=by
 intro pins s σ H D I h;obtain ⟨bm,N,nm,qn,bs,hd,sn,sub,ab,col,dd,k0,k1,k2,k3,k5,mN,hC,hN,hni,T⟩:=iT I.ok.mod.kin G.q;refine wpAny_Raise_call_subT (C:=C) (nm:=nm) (q:=qn) (N:=N) (bs:=bs) (bm:=bm) (hdct:=hd) (sn:=sn) (sub:=sub) (ab:=ab) (col:=col) (dd:=dd) (k0:=k0) (k1:=k1) (k2:=k2) (k3:=k3) (k5:=k5) F.excBase_ValueError (mN:=mN) (T.hasType F.excBase_ValueError.hasBase) (I.ok.hd hc)
  (by rw [he];show (false || (backTo cpos (starEach es X.env)).any (·.1))=false;rw [hpl];rfl) hni (bd I hg G.m ⟨rfl,?_⟩ hdb)
 have z:=ha cpos pins s σ H _ I h;rw [he] at z ⊢;refine Calls.evalArgs_plain (wpAny_mono z (fun us s2 ⟨vs,H2,I2,r,hz,q⟩=>?_) fun _ _ y=>y);refine ⟨rfl,by show us.length≤sizeLine;rw [← r.length];exact hz,I2.bk _ _ hC,hN.keeps I2.bk,T.keeps I2.bk,fun h' ea hm=>?_⟩;exact nr (tk:=s2.toks) hx hstk hfr hex I2 hm q
def PX2 (X:Cx) (e:Expr) (t:TX):Prop :=
 ∀ (pins:List (Addr×Obj)) (s:Shared) (σ:St) (H:Hp) (Q:VK) (E:XK),Inv X pins σ H s→t σ H Q E →
  wpAny (model X.prog X.w) X.A (eval e X.env) (EP X pins σ Q) (fun ex s'=>∃ H1 s1,Inv X pins σ H1 s1∧kz X.prog X.w X.stack H1 s1 E ex s') s
theorem px_call2 {k:Nat} {f:Addr} {fd:FuncData} {ps:List Str} {sp:Sp} {x:Str} {p pos:Pos} {e:Expr} {es:List Expr} {t:TA} (F:FnOk X.prog X.w X.K X.mg X.base (kz X.prog X.w) k f fd ps sp) (hr:Room k X.A) (hg:Gl X x) (hm:X.mg x=some (.ref f))
  (hk:PySem.W.keepIn X.K (.ref f)=true) (hb:Binds X.K fd ps []) (ha:PA X.nox (e :: es) t) (hdb:(x == ("__debug__" : Str))=false:=by decide) (he:starEach (e :: es) X.env=(false,eval e X.env) :: starEach es X.env:=by rfl)
  (hpl:(backTo pos (starEach es X.env)).any (·.1)=false:=by rfl):PX2 X (.Call (.Name x p) (e :: es) [] pos) (fun σ H Q E=>t σ H fun vs H1=>sp vs H1 Q E):=by
 intro pins s σ H Q E I h;refine wpAny_Call_Name_kw (bd I hg hm ?_ hdb);refine PySem.W.callWith_K (h₀:=X.base) I.ok.mod.kin hk (wpAny_mono (ha pos pins s σ H _ (I.wish _) h) (fun us s1 ⟨vs,H1,I1',r,q⟩=>?_) fun _ _ z=>z.elim) he hpl;have I1:Inv X pins σ H1 s1:=Inv.unwish I1';refine ⟨I1.kIn,?_⟩;have hl:us.length=ps.length:=by rw [← r.length];exact F.len _ _ _ _ q
 have hb':BindsTo s1 fd ⟨us,[]⟩ (ps.zip us):=by
  have z:=hb s1 us I1.kIn (by rw [List.append_nil];exact hl)
  rwa [List.append_nil] at z
 refine wpAny_call (codeAny_mono (F.run X.A X.stack s1 H1 ⟨us,[]⟩ us vs Q E hr I1.env0 hb' r q) fun rr s' hq=>?_)
 cases rr with
 | error ex=>exact ⟨H1,s1,I1,hq⟩
 | ok fl =>
  cases fl with
  | ret u=>exact I1.after hq
  | next=>exact False.elim hq
  | brk=>exact False.elim hq
  | cont=>exact False.elim hq
end
theorem Fun.okE2 {P:Program} {w:World} {K:PySem.W.Frag} {mg:Str→Option Value} {base:Heap} {x qual:Str} {st:Stmt} {f:Addr} {fd:FuncData} {N ps:List Str} {k:Nat} {sp:Sp} (F:Fun K x qual st f fd) (S:FnScope N ps (ae st)) (len:∀ vs H Q E,sp vs H Q E→vs.length=ps.length)
  (hbody:∀ (cdv:Value) (A:Around) (outer:List Env) (s:Shared) (H:Hp) (vs:List V) (Q:VK) (E:XK),Room k (A.deeper (envOfC qual (ae st) s.heap.objs.size f cdv))→sp vs H Q E →
   ∃ t,PSs (eW (kz P w) P w K mg base N qual (ae st) f cdv A outer s H E) (bo st) t∧t { nx:=fun _ H'=>Q .non H',rt:=Q } (cK N vs) H):FnOk P w K mg base (kz P w) (k+1) f fd ps sp:=by
 obtain ⟨oc,od,kV,doc,pm,an,cdv,ct,osl,rfl,lk,hcd⟩:=F.ex;exact ma lk hcd S len fun A outer s H vs Q E hr hsp=>hbody cdv A outer s H vs Q E hr hsp
theorem xeOf2 {P:Program} {w:World} {K:PySem.W.Frag} {mg:Str→Option Value} {base:Heap} {N:List Str} {qual:Str} {scope:Scope} {f:Addr} {cd:Value} {A:Around} {outer:List Env} {s:Shared} {H:Hp} {E:XK} :
  oP (eW (kz P w) P w K mg base N qual scope f cd A outer s H E) E:=rfl
end L2
namespace PySem
open Sem (wp)
section
variable {prog:Program} {w:World} {A:Around} {E:Value→Shared→Prop} {s:Shared} {env:Env}
variable {nm q:Str} {C N:Addr} {bs bm bmB:List Value} {hdct:Bool} {sn:List Str} {sub:List Value} {ab:Bool} {col:Option Bool} {dd:Option Addr} {k0 k1 k2 k3 k5:Option Value} {B newId initId:String}
theorem fe (F:ExcBaseFacts B newId initId bmB) {mN:Str→Option Value} {x:Str} {np cpos pos cp:Pos} {j:Nat} {args:List Expr} {Q:Flow→Shared→Prop} {ea:Addr}
  (hbase:bm.contains (.type "BaseException")=true) (hh:A.handled=some (.ref ea)) (hplain:(backTo cpos (starEach args env)).any (·.1)=false) (hni:mN "__init__" = none)
  (h:wpAny (model prog w) A (eval (.Name x np) env) (fun f s₁=>f=.ref C∧wpAny (model prog w) A (evalArgs (.ref C) true (backTo cpos (starEach args env)) [])
   (fun a s₂=>a.kw=[]∧a.pos.length≤sizeLine∧s₂.heap.get? C=some (excClassObj nm q C N bs bm hdct sn sub ab col dd k0 k1 k2 k3 k5 newId)∧s₂.heap.Ns N mN∧OwnTail s₂.heap bmB bm∧(∃ oa wa,s₂.heap.get? ea=some oa∧oa.data=.fields wa∧wa[2]?=some .none) ∧
    ∀ h' e t,(∀ b o,s₂.heap.get? b=some o→h'.get? b=some o)→s₂.heap.get? e=none→h'.get? e=some { cls:=.ref C,data:=.fields #[.ref t,.none,.ref ea,.none,.bool true,.none] }→E (.ref e) { s₂ with heap:=h' }) E s₁) E s) :
  wpAny (model prog w) A (exec (.Raise (some (.Call (.Name x np) args [] cpos)) (some (.Constant .none j cp)) pos) env) Q E s:=by
 rw [arm_exec_Raise];refine wpAny_bind (wpAny_standAt ?_);refine lK (C:=C) (nm:=nm) (q:=q) (N:=N) (bs:=bs) (bm:=bm) (hdct:=hdct) (sn:=sn) (sub:=sub) (ab:=ab) (col:=col) (dd:=dd) (k0:=k0) (k1:=k1) (k2:=k2) (k3:=k3) (k5:=k5) (newId:=newId) hbase hh (fun q=>wpAny_bind (wpAny_Constant_none (wpAny_bind (wpAny_standAt (wpAny_pure q))))) ?_;refine wpAny_bind (wpAny_mono (wpAny_Call_ofName (wpAny_mono h (fun f s₁ h₁=>?_) fun _ _ x=>x)) (fun v s₃ h₃=>wpAny_bind (wpAny_standAt (wpAny_pure h₃))) fun _ _ x=>x);obtain ⟨rfl,h₁⟩:=h₁;unfold callWith;refine wpAny_bind (wpAny_holding (wpAny_mono h₁ (fun a s₂ h₂=>wpAny_bind (wpAny_standAt ?_)) fun _ _ x=>x));obtain ⟨apos,akw⟩:=a;obtain ⟨hkw,hlen,hC,hn,T,⟨oa,wa,ha,hda,h2⟩,h₂⟩:=h₂;obtain rfl:akw=[]:=hkw;obtain ⟨hp,g,d,tk,os⟩:=s₂;simp only [hplain];refine wpAny_bind (wpAny_keeperOf_exc hC ?_);refine wpAny_bind (wpAny_call_exc_subT (hrest:=hlen) F T hC hn hni fun h' e hm=>wpAny_bind (wpAny_holding (wpAny_point (wpAny_pure ?_))));obtain ⟨t,ht,_,_⟩:=hm.there;have ne:∀ {b:Addr} {o:Obj},hp.get? b=some o→e≠b:=fun {b o} hb c=>by
  subst c;have:=hm.new;rw [show Heap.get? hp e=some o from hb] at this
  cases this
 exact ⟨e,t,oa,wa,rfl,hm.keeps _ _ hC,ne hC,ne ha,hm.keeps _ _ ha,hda,h2,ht,fun h'' ho he=>h₂ h'' e t (fun b o hb=>(ho b (ne hb).symm).trans (hm.keeps b o hb)) hm.new he⟩
theorem qk {M:Model} {A':Around} {base:Heap} {outer:List Env} {L e:Addr} {oe:Obj} {vs:Array Value} {E2:Value→Shared→Prop} (hfr:A.frames=some (env :: outer)) (hfr':A'.frames=some (env :: outer)) (hf:env.frame=some L) (hl:s.heap.FunFrames base (env :: outer))
  (he:s.heap.get? e=some oe) (hkb:base.StaysIn s.heap) (hen:base.get? e=none) (hd:oe.data=.fields vs) (h1:vs[1]?=some .none)
  (hE:∀ s',E2 (.ref e) s'→E (.ref e) s')
  (h:∀ h',Heap.Fl base (env :: outer) e oe.cls vs (rawInt L) h'→s.heap.UpToSlots h'→E2 (.ref e) { s with heap:=h' }):notedBy M A' env (fun x s2=>cameBackBy M A env E x s2) (.ref e) s:=by
 unfold notedBy noteFrame;simp only [hf];refine wpAny_bind (wpAny_field he hd h1 ?_);rw [if_neg (by decide)];refine gj (ws:=vs) hfr' hl hf he hkb hen hd (Array.getElem?_eq_some_iff.mp h1).1 (fun _ _=>rfl) fun h2 x2 u2=>?_;have x2':=x2;obtain ⟨k1,k2,k3,oe2,vs2,T,oT,ts,he2,hc2,hd2,hk2,hh1,_⟩:=x2';unfold cameBackBy;refine wpAny_bind (wpAny_field (s:={ s with heap:=h2 }) he2 hd2 hh1 ?_);rw [if_neg (show ¬ ((Value.ref T == Value.none)=true) from by simp)];refine cg (s:={ s with heap:=h2 }) (fr:=env.frame) x2 fun h3 x3 u3=>hE _ (h h3 ?_ (u2.trans u3));rw [hf] at x3;exact x3
end
end PySem
namespace L2
open PySem PySem.Spec PyProof.Rows
section
variable {X:Cx} {pins:List (Addr×Obj)} {σ:St} {H:Hp} {s:Shared}
theorem oQ {E:XK} {C ea:Addr} {h' h2:Heap} {ws:Array Value} {a0:Value} {s':Shared} (hx:ol X E) (hstk:X.stack=X.env :: X.outer) (hfr:X.env.frame=some X.env.locals) (hex:X.ex=[]) (I:Inv X pins σ H s) (kp:∀ b o,s.heap.get? b=some o→h'.get? b=some o)
  (h0:ws[0]?=some a0) (es:s'={ s with heap:=h2 }) (fl:Heap.Fl (PySem.W.hideAll s.heap (frs (X.env :: X.outer))) (X.env :: X.outer) ea (.ref C) ws (rawInt X.env.locals) h2) (up:h'.UpToSlots h2) (q:E (.ref C) none H):X.xe (.ref ea) s':=by
 rw [hx];subst es;have fl':=fl;obtain ⟨k1,k2,k3,oe,vs,T,oT,ts,he,hc,hd,hk,r⟩:=fl';show wpAny _ _ (leaving X.env (.ref ea)) _ _ _;unfold leaving;refine wpAny_bind (wpAny_noteFrame_againW (s:={ s with heap:=h2 }) hfr ⟨oe,vs,T,oT,ts,he,⟨hc,by rw [hk 0 (by decide)];exact h0⟩,hd,r⟩ ?_);refine cg (s:={ s with heap:=h2 }) (fr:=none) fl fun h3 x3 u3=>?_;obtain ⟨m1,m2,⟨_,_,m3⟩,m4⟩:=x3;exact (kA (s:=s) (tk:=s.toks) hstk hfr hex I kp ⟨m1,m2,m3,m4⟩ (up.trans u3) q).cxe h0
def rV (K:PySem.W.Frag) (HC C:Addr) (E:XK) (te:TX) (ta:TA):TS:=fun D σ H=>te σ H (fun v H1=>D.rt v H1) fun cls _ H'=>∃ C',cls=.ref C'∧PySem.W.exmOne K (.ref C') (.ref HC)=some true∧ta σ H' fun xs H2=>xs.length≤sizeLine∧E (.ref C) none H2
theorem ps_tryRF {E:XK} {e e2:Expr} {es2:List Expr} {x y:Str} {np p1 hpos pos np2 cpos cp pos2:Pos} {j:Nat} {te:TX} {ta:TA} {HC C:Addr} (hx:ol X E) (hstk:X.stack=X.env :: X.outer) (hfr:X.env.frame=some X.env.locals) (hex:X.ex=[]) (he:PX2 X e te)
  (hm:X.mg x=some (.ref HC)) (hg:Gl X x) (G:ExC X.K X.mg y C) (hgy:Gl X y) (ha:∀ ea,PA (hcx X ea) (e2 :: es2) ta) (hdb:(x == ("__debug__" : Str))=false:=by decide) (hdby:(y == ("__debug__" : Str))=false:=by decide)
  (hse:starEach (e2 :: es2) X.env=(false,eval e2 X.env) :: starEach es2 X.env:=by rfl) (hpl:(backTo cpos (starEach es2 X.env)).any (·.1)=false:=by rfl) :
  PS X (.Try [.Return (some e) p1] [.ExceptHandler (some (.Name x np)) none [.Raise (some (.Call (.Name y np2) (e2 :: es2) [] cpos)) (some (.Constant .none j cp)) pos2] hpos] [] [] pos) (rV X.K HC C E te ta):=by
 intro pins s σ H D I h;have fr0:X.A.frames=some (X.env :: X.outer):=by rw [← hstk];exact I.ok.frames
 refine wpAny_Try_except (wpAny_execs_cons (wpAny_Return_some (wpAny_mono (he pins s σ H _ _ I h) (fun v s1 ⟨y,H1,I1,r1,q1⟩=>?_) (fun ex s1 ⟨H1,s0,I0,fl0⟩=>?_))))
 ·exact ⟨y,σ,H1,I1,r1,q1⟩
 obtain ⟨ws,a0,h0,h2,ea,C',B,H',rfl,fl,os,bare,un,hok,c1,c2,C'',e',hxm,q⟩:=fl0
 cases e'
 have flS:=fl;rw [hstk] at fl;refine qi fr0 hfr fl fun h4 x4 up4=>?_;refine cg (s:={ s1 with heap:=h4 }) (fr:=none) x4 fun h5 x5 up5=>?_;have frames:∀ {h2:Heap},s1.heap.UpToSlots h2→∀ b o,s0.heap.get? b=some o→b∈frs X.stack→∃ sl,h2.get? b=some { o with slots:=sl }:=fun {h2} up b o e hb=>by
  obtain ⟨sl,e1⟩:=un.slot b o e (I0.stkFree b hb) hb (by simp);obtain ⟨o2,e2,nf⟩:=bK flS.2.2.1 hb;rw [e1] at e2;obtain rfl:=Option.some.inj e2;obtain ⟨sl2,e3⟩:=up b _ e1 nf;exact ⟨sl2,e3⟩
 have I5:Inv X pins σ H' { s1 with heap:=h5 }:=I0.call' (s':={ s1 with heap:=h5 }) os (dA un c1 c2 x5.1 (frames (up4.trans up5))) (hok.kept x5.1) bare (ch:=[]) (fun _ z=>nomatch z);have ea0:H' ea=none:=kb hok fl.2.1;have x5':=x5;obtain ⟨_,_,_,ob,vb,_,_,_,hob,hobc,_⟩:=x5';have LT:PySem.W.Looks (model X.prog X.w) h5 (typeOf (.ref ea)) (.ref C'):=by
  have L:PySem.W.Looks (model X.prog X.w) h5 (typeOf (.ref ea)) ob.cls:=(PySem.W.Looks.ld hob).andThen .now;rw [hobc] at L;exact L
 refine wpAny_handleBy_cons (codeAny_handlers_test (bd (X:=hcx X ea) (I5.hcx ea) hg hm ?_ hdb)) (by intro z;cases z);refine (PySem.W.exm_one (h:=h5) I5.kIn LT hxm).here ?_;refine codeAny_handlers_suite ?_;refine cg (s:={ s1 with heap:=h5 }) (fr:=none) x5 fun h6 x6 up6=>?_;have up16:s1.heap.UpToSlots h6:=(up4.trans up5).trans up6;have x6':=x6;obtain ⟨_,_,f6,oe,vs,_,_,_,hoe,hoec,hoed,hkk,_⟩:=x6';have neF:ea∉frs X.stack:=fun hb=>by
  rw [← hstk] at f6;obtain ⟨o2,e2,nf⟩:=bK f6 hb;rw [hoe] at e2;obtain rfl:=Option.some.inj e2;exact nf _ hoed
 have I6:Inv X pins σ H' { s1 with heap:=h6 }:=I0.call' (s':={ s1 with heap:=h6 }) os (dA un c1 c2 x6.1 (frames up16)) (hok.kept x6.1) bare (ch:=[]) (fun _ z=>nomatch z);have I6p:Inv X ((ea,oe) :: pins) σ H' { s1 with heap:=h6 }:=⟨I6.ok,I6.os,I6.bare,I6.base,I6.loc,I6.cell,I6.free,I6.freeC,fun p hp=>by
  rcases List.mem_append.mp hp with h1 | h1
  ·exact I6.pin p (List.mem_append.mpr (.inl h1))
  ·rcases List.mem_cons.mp h1 with rfl | h1
   ·refine ⟨hoe,ea0,fun c=>?_,fun c=>?_,fun v c=>?_⟩
    ·refine neF ?_;rw [hstk];exact List.mem_filterMap.mpr ⟨X.env,List.mem_cons_self,by rw [hfr,← c]⟩
    ·refine neF ?_;rw [hstk];obtain ⟨env,he,hf⟩:=List.mem_filterMap.mp c;exact List.mem_filterMap.mpr ⟨env,List.mem_cons_of_mem _ he,hf⟩
    ·rw [show oe.data=_ from hoed] at c
     cases c
   ·exact I6.pin p (List.mem_append.mpr (.inr h1)),I6.hok,I6.len⟩
 refine wpAny_execs_cons ?_;obtain ⟨bm,N,nm,qn,bs,hd,sn,sub,ab,col,dd,k0,k1,k2,k3,k5,mN,hC,hN,hni,T⟩:=iT I.ok.mod.kin G.q;refine fe (C:=C) (nm:=nm) (q:=qn) (N:=N) (bs:=bs) (bm:=bm) (hdct:=hd) (sn:=sn) (sub:=sub) (ab:=ab) (col:=col) (dd:=dd) (k0:=k0) (k1:=k1) (k2:=k2) (k3:=k3) (k5:=k5) F.excBase_ValueError (mN:=mN) (T.hasType F.excBase_ValueError.hasBase) rfl
  (by rw [hse];show (false || (backTo cpos (starEach es2 X.env)).any (·.1))=false;rw [hpl];rfl) hni (bd (X:=hcx X ea) (I6p.hcx ea) hgy G.m ⟨rfl,?_⟩ hdby)
 have z:=ha ea cpos ((ea,oe) :: pins) _ σ H' _ (I6p.hcx ea) q;rw [show (hcx X ea).env=X.env from rfl,hse] at z;rw [hse];refine Calls.evalArgs_plain (wpAny_mono z (fun us s2 ⟨vs2,H2,I2,r,hz,q2⟩=>?_) fun _ _ y=>y.elim);have J2:Inv X ((ea,oe) :: pins) σ H2 s2:=I2.unhcx I.ok;refine ⟨rfl,by show us.length≤sizeLine;rw [← r.length];exact hz,J2.bk _ _ hC,hN.keeps J2.bk,T.keeps J2.bk,⟨oe,vs,(J2.pin (ea,oe) (List.mem_append.mpr (.inr List.mem_cons_self))).1,hoed,by rw [hkk 2 (by decide)];exact h2⟩,fun h7 e7 t7 kp hn7 he7=>?_⟩;obtain ⟨b1,b2,b3⟩:=iw hstk J2 kp hn7;refine qk (A:=X.A) (E:=X.xe) (E2:=X.xe) (s:={ s2 with heap:=h7 }) fr0 fr0 hfr b3 he7 b1 b2 rfl rfl (fun _ z=>z) fun h8 x8 up8=>?_;exact oQ hx hstk hfr hex J2 kp rfl rfl x8 up8 q2
end
end L2
namespace K16
open PySem L2 PyProof.Rows
abbrev eO:Stmt:=top 16
abbrev dF:Stmt:=top 17
abbrev bt:Stmt:=top 18
abbrev cS:Stmt:=top 19
abbrev bj:Stmt:=top 20
abbrev cT:Stmt:=top 21
abbrev cx:Stmt:=top 22
abbrev cU:Stmt:=top 23
abbrev a9:Stmt:=top 24
abbrev bN:Stmt:=top 25
abbrev bO:Stmt:=top 26
abbrev cy:Stmt:=top 27
abbrev cV:Stmt:=top 28
abbrev bP:Stmt:=top 29
abbrev bV:Stmt:=top 30
abbrev bD:Stmt:=top 32
abbrev cz:Stmt:=top 39
abbrev kT:Stmt:=top 40
abbrev nA:Stmt:=top 41
abbrev cW:Stmt:=top 42
abbrev bY:Stmt:=top 43
abbrev bJ:Stmt:=top 44
abbrev bB:Stmt:=top 45
abbrev bQ:Stmt:=top 46
abbrev ay:Stmt:=top 47
abbrev bR:Stmt:=top 48
abbrev dG:Stmt:=top 49
abbrev cA:Stmt:=top 50
abbrev kU:Stmt:=top 51
abbrev gA:Stmt:=top 52
abbrev kW:Stmt:=top 53
abbrev gZ:Stmt:=top 54
abbrev eP:Stmt:=top 55
abbrev cX:Stmt:=top 57
abbrev cB:Stmt:=top 58
abbrev cY:Stmt:=top 59
abbrev dH:Stmt:=top 60
abbrev bu:Stmt:=top 61
abbrev cC:Stmt:=top 62
abbrev bS:Stmt:=top 63
abbrev bF:Stmt:=top 65
abbrev bC:Stmt:=top 66
abbrev cZ:Stmt:=top 67
abbrev bZ:Stmt:=top 68
abbrev mG:Stmt:=top 69
theorem lZ:FnScope ["text"] ["text"] (ae eO):=by constructor <;> first | rfl | decide +kernel
theorem kX:FnScope ["thing"] ["thing"] (ae dF):=by constructor <;> first | rfl | decide +kernel
theorem dI:FnScope ["thing","low","high"] ["thing","low","high"] (ae bt):=by constructor <;> first | rfl | decide +kernel
theorem jD:FnScope ["kind"] ["kind"] (ae cS):=by constructor <;> first | rfl | decide +kernel
theorem sc_is_formed:FnScope ["thing","room","word"] ["thing","room"] (ae bj):=by constructor <;> first | rfl | decide +kernel
theorem jE:FnScope ["thing"] ["thing"] (ae cT):=by constructor <;> first | rfl | decide +kernel
theorem hG:FnScope ["low","high"] ["low","high"] (ae cx):=by constructor <;> first | rfl | decide +kernel
theorem jF:FnScope ["words"] ["words"] (ae cU):=by constructor <;> first | rfl | decide +kernel
theorem dm:FnScope ["fields","room","names"] ["fields","room"] (ae a9):=by constructor <;> first | rfl | decide +kernel
theorem kY:FnScope ["field","room"] ["field","room"] (ae bN):=by constructor <;> first | rfl | decide +kernel
theorem sc_are_rows:FnScope ["key","items","room","key_kind"] ["key","items","room"] (ae bO):=by constructor <;> first | rfl | decide +kernel
theorem b7:FnScope ["kind","name","own","inner"] ["kind","name"] (ae cy):=by constructor <;> first | rfl | decide +kernel
theorem jG:FnScope ["kind"] ["kind"] (ae cV):=by constructor <;> first | rfl | decide +kernel
theorem cH:FnScope ["kind","inner"] ["kind"] (ae bP):=by constructor <;> first | rfl | decide +kernel
theorem jH:FnScope ["kind"] ["kind"] (ae bV):=by constructor <;> first | rfl | decide +kernel
theorem c7:FnScope ["kind","word"] ["kind"] (ae bD):=by constructor <;> first | rfl | decide +kernel
theorem hJ:FnScope ["number"] ["number"] (ae cz):=by constructor <;> first | rfl | decide +kernel
theorem jI:FnScope ["thing"] ["thing"] (ae cW):=by constructor <;> first | rfl | decide +kernel
theorem gB:FnScope ["turn","kind"] ["turn","kind"] (ae bY):=by constructor <;> first | rfl | decide +kernel
theorem dr:FnScope ["turn","kind","word"] ["turn","kind"] (ae bJ):=by constructor <;> first | rfl | decide +kernel
theorem er:FnScope ["thing"] ["thing"] (ae bB):=by constructor <;> first | rfl | decide +kernel
theorem fq:FnScope ["low","high"] ["low","high"] (ae bQ):=by constructor <;> first | rfl | decide +kernel
theorem sc_are_led_words:FnScope ["forth","back","elder","behind","there","again"] ["forth","back","elder"] (ae ay):=by constructor <;> first | rfl | decide +kernel
theorem ft:FnScope ["back"] ["back"] (ae bR):=by constructor <;> first | rfl | decide +kernel
theorem eU:FnScope ["turn","kind","word"] ["turn","kind"] (ae dG):=by constructor <;> first | rfl | decide +kernel
theorem hU:FnScope ["turn","kind"] ["turn","kind"] (ae cA):=by constructor <;> first | rfl | decide +kernel
theorem nB:FnScope ["turn","kind","value"] ["turn","kind","value"] (ae gA):=by constructor <;> first | rfl | decide +kernel
theorem gC:FnScope ["turn","kind","value","behind"] ["turn","kind","value"] (ae eP):=by constructor <;> first | rfl | decide +kernel
theorem et:FnScope ["cell","k","stir"] ["cell","k"] (ae cX):=by constructor <;> first | rfl | decide +kernel
theorem aQ:FnScope ["script","k","cell","j","found"] ["script","k"] (ae cB):=by constructor <;> first | rfl | decide +kernel
theorem eA:FnScope ["row","many","digit"] ["row","many"] (ae cY):=by constructor <;> first | rfl | decide +kernel
theorem c8:FnScope ["row","way","low"] ["row"] (ae dH):=by constructor <;> first | rfl | decide +kernel
theorem b9:FnScope ["row","deep","names","fields","name"] ["row","deep","names"] (ae bu):=by constructor <;> first | rfl | decide +kernel
theorem bW:FnScope ["row","deep","inner","key","most"] ["row","deep"] (ae cC):=by constructor <;> first | rfl | decide +kernel
theorem eV:FnScope ["row","deep","way"] ["row","deep"] (ae bS):=by constructor <;> first | rfl | decide +kernel
theorem aK:FnScope ["forms"] [] (ae bF):=by constructor <;> first | rfl | decide +kernel
theorem ai:FnScope ["row","far","pairs"] ["row"] (ae bC):=by constructor <;> first | rfl | decide +kernel
theorem jJ:FnScope ["way","turn","kind"] ["way","turn","kind"] (ae cZ):=by constructor <;> first | rfl | decide +kernel
theorem a6:FnScope ["turn","kind","way","signs","e"] ["turn","kind"] (ae bZ):=by constructor <;> first | rfl | decide +kernel
theorem c9:FnScope ["script","forms","k","row","kind","turn"] ["script"] (ae mG):=by constructor <;> first | rfl | decide +kernel
theorem pi1 {K:PySem.W.Frag} {X:Cx} {a:Expr} {ta:TE} {i j pos pos'} (hK:X.K=K) (ha:PE X a ta):PE X (.Subscript a (.Constant (.int i) j pos) pos') (tOp (tF K) ta (tC (.int i))):=cD (oI hK) ha pe_int fun _ _=>rfl
theorem isS {K : PySem.W.Frag} {H : Hp} {z : Str} {Q : V → Prop} (h : Q (.str z)) : ∀ v, IsP K H (.str z) v → Q v := fun v hv => by cases hv; exact h
theorem isI {K : PySem.W.Frag} {H : Hp} {z : Int} {Q : V → Prop} (h : Q (.int z)) : ∀ v, IsP K H (.int z) v → Q v := fun v hv => by cases hv; exact h
theorem sz2 : 2 ≤ sizeLine := by decide
theorem sz3 : 3 ≤ sizeLine := by decide
theorem pcl {X:Cx} {x:Str} {st:Stmt} {ps:List Str} {f:Addr} {fd:FuncData} {k:Nat} {sp:Sp} {e:Expr} {es:List Expr} {t:TA} {p pos:Pos} (D:Gn X.K X.mg x st ps f fd) (F:FnOk X.prog X.w X.K X.mg X.base CX0 k f fd ps sp) (hr:Room k X.A) (hg:Gl X x) (ha:PA X (e :: es) t) (hdb:(x == ("__debug__" : Str))=false:=by decide) (he:starEach (e :: es) X.env=(false,eval e X.env) :: starEach es X.env:=by rfl) (hpl:(backTo pos (starEach es X.env)).any (·.1)=false:=by rfl):PE X (.Call (.Name x p) (e :: es) [] pos) (l8 sp [] E0 t):=bT F hr hg D.m D.F.kp D.b .nil qM ha hdb he hpl
theorem pa1 {X:Cx} {e:Expr} {te:TE} (ha:PE X e te) (hs:starEach [e] X.env=(false,eval e X.env) :: starEach [] X.env):PA X [e] (ce te jO):=al ha bX hs
theorem pa2 {X:Cx} {e f:Expr} {te tf:TE} (ha:PE X e te) (hb:PE X f tf) (hs:starEach [e,f] X.env=(false,eval e X.env) :: starEach [f] X.env) (ht:starEach [f] X.env=(false,eval f X.env) :: starEach [] X.env):PA X [e,f] (ce te (ce tf jO)):=al ha (al hb bX ht) hs
theorem pa3 {X:Cx} {e f g:Expr} {te tf tg:TE} (ha:PE X e te) (hb:PE X f tf) (hc:PE X g tg) (hs:starEach [e,f,g] X.env=(false,eval e X.env) :: starEach [f,g] X.env) (ht:starEach [f,g] X.env=(false,eval f X.env) :: starEach [g] X.env) (hu:starEach [g] X.env=(false,eval g X.env) :: starEach [] X.env):PA X [e,f,g] (ce te (ce tf (ce tg jO))):=al ha (al hb (al hc bX hu) ht) hs
theorem sz1:1≤sizeLine:=by decide
structure Ads where
 HandError:Addr
 BadKind:Addr
 BadTurn:Addr
 BadPiece:Addr
structure Tx (K:PySem.W.Frag) (mg:Str→Option Value) (ad:Ads):Prop where
 is_name:∃ f fd,Gn K mg "is_name" eO ["text"] f fd
 is_whole:∃ f fd,Gn K mg "is_whole" dF ["thing"] f fd
 is_whole_within:∃ f fd,Gn K mg "is_whole_within" bt ["thing","low","high"] f fd
 made_kind:∃ f fd,Gn K mg "made_kind" cS ["kind"] f fd
 is_formed:∃ f fd,Gn K mg "is_formed" bj ["thing","room"] f fd
 has_parts:∃ f fd,Gn K mg "has_parts" cT ["thing"] f fd
 are_bounds:∃ f fd,Gn K mg "are_bounds" cx ["low","high"] f fd
 are_words:∃ f fd,Gn K mg "are_words" cU ["words"] f fd
 are_fields:∃ f fd,Gn K mg "are_fields" a9 ["fields","room"] f fd
 is_field:∃ f fd,Gn K mg "is_field" bN ["field","room"] f fd
 are_rows:∃ f fd,Gn K mg "are_rows" bO ["key","items","room"] f fd
 field_kind:∃ f fd,Gn K mg "field_kind" cy ["kind","name"] f fd
 item_kind:∃ f fd,Gn K mg "item_kind" cV ["kind"] f fd
 kinds_within:∃ f fd,Gn K mg "kinds_within" bP ["kind"] f fd
 kind_many:∃ f fd,Gn K mg "kind_many" bV ["kind"] f fd
 least_value:∃ f fd,Gn K mg "least_value" bD ["kind"] f fd
 figures_of:∃ f fd,Gn K mg "figures_of" cz ["number"] f fd
 number_of:∃ f fd,Gn K mg "number_of" kT ["text"] f fd
 nearest:∃ f fd,Gn K mg "nearest" nA ["number","low","high"] f fd
 is_factor:∃ f fd,Gn K mg "is_factor" cW ["thing"] f fd
 kind_behind:∃ f fd,Gn K mg "kind_behind" bY ["turn","kind"] f fd
 is_turn_of:∃ f fd,Gn K mg "is_turn_of" bJ ["turn","kind"] f fd
 has_turn_parts:∃ f fd,Gn K mg "has_turn_parts" bB ["thing"] f fd
 most_figures:∃ f fd,Gn K mg "most_figures" bQ ["low","high"] f fd
 are_led_words:∃ f fd,Gn K mg "are_led_words" ay ["forth","back","elder"] f fd
 words_behind:∃ f fd,Gn K mg "words_behind" bR ["back"] f fd
 led_kind:∃ f fd,Gn K mg "led_kind" dG ["turn","kind"] f fd
 turn_about:∃ f fd,Gn K mg "turn_about" cA ["turn","kind"] f fd
 led_about:∃ f fd,Gn K mg "led_about" kU ["turn","kind"] f fd
 turned:∃ f fd,Gn K mg "turned" gA ["turn","kind","value"] f fd
 led_value:∃ f fd,Gn K mg "led_value" kW ["turn","kind","value"] f fd
 read_number:∃ f fd,Gn K mg "read_number" gZ ["text","kind"] f fd
 twin_of:∃ f fd,Gn K mg "twin_of" eP ["turn","kind","value"] f fd
 law_mixed:∃ f fd,Gn K mg "_law_mixed" cX ["cell","k"] f fd
 law_stream:∃ f fd,Gn K mg "_law_stream" cB ["script","k"] f fd
 law_digit:∃ f fd,Gn K mg "_law_digit" cY ["row","many"] f fd
 law_leaf:∃ f fd,Gn K mg "_law_leaf" dH ["row"] f fd
 law_record:∃ f fd,Gn K mg "_law_record" bu ["row","deep","names"] f fd
 law_rows:∃ f fd,Gn K mg "_law_rows" cC ["row","deep"] f fd
 law_kind:∃ f fd,Gn K mg "_law_kind" bS ["row","deep"] f fd
 law_bad_forms:∃ f fd,Gn K mg "_law_bad_forms" bF [] f fd
 law_other_kind:∃ f fd,Gn K mg "_law_other_kind" bC ["row"] f fd
 law_asked:∃ f fd,Gn K mg "_law_asked" cZ ["way","turn","kind"] f fd
 law_refused:∃ f fd,Gn K mg "_law_refused" bZ ["turn","kind"] f fd
 law:∃ f fd,Gn K mg "law" mG ["script"] f fd
 x_HandError:ExC K mg "HandError" ad.HandError
 x_BadKind:ExC K mg "BadKind" ad.BadKind
 x_BadTurn:ExC K mg "BadTurn" ad.BadTurn
 x_BadPiece:ExC K mg "BadPiece" ad.BadPiece
 LETTERS:∃ t,mg "LETTERS" = some (.str "abcdefghijklmnopqrstuvwxyz" t)
 LONGEST_NAME:∃ t,mg "LONGEST_NAME" = some (.int 8 t)
 EACH:∃ t,mg "EACH" = some (.str "each" t)
 MOST_SIGNS:∃ t,mg "MOST_SIGNS" = some (.int 60 t)
 MOST_WORDS:∃ t,mg "MOST_WORDS" = some (.int 8 t)
 MOST_FIELDS:∃ t,mg "MOST_FIELDS" = some (.int 8 t)
 MOST_ITEMS:∃ t,mg "MOST_ITEMS" = some (.int 8 t)
 MOST_KINDS:∃ t,mg "MOST_KINDS" = some (.int 40 t)
 DEEPEST:∃ t,mg "DEEPEST" = some (.int 5 t)
 PART_COUNTS:∃ a,mg "PART_COUNTS" = some (.ref a)∧ke K a [("number",3),("text",2),("choice",2),("list",3),("record",2),("rows",4)]
 FIGURES:∃ t,mg "FIGURES" = some (.str "0123456789" t)
 LEAST_FACTOR:∃ t,mg "LEAST_FACTOR" = some (.int 2 t)
 GREATEST_FACTOR:∃ t,mg "GREATEST_FACTOR" = some (.int 1000 t)
 TURN_COUNTS:∃ a,mg "TURN_COUNTS" = some (.ref a)∧ke K a [("bounds",3),("scale",2),("shrink",2),("figures",2),("number",3),("words",3),("cut",2),("first",2),("one",2),("out",1),("items",2)]
 TURN_SORTS:mg "TURN_SORTS" = some (.ref 166)∧lI K 166 [("bounds",167),("scale",168),("shrink",169),("figures",170),("number",171),("words",172),("cut",173),("first",174),("out",175),("items",176)]∧qS K [(167,["number"]),(168,["number"]),(169,["number"]),(170,["number"]),(171,["text"]),(172,["choice"]),(173,["text"]),(174,["list","rows"]),(175,["list"]),(176,["list"])]
 z_ValueError:mg "ValueError" = none
 z_all:mg "all" = none
 z_bool:mg "bool" = none
 z_dict:mg "dict" = none
 z_int:mg "int" = none
 z_isinstance:mg "isinstance" = none
 z_len:mg "len" = none
 z_max:mg "max" = none
 z_min:mg "min" = none
 z_range:mg "range" = none
 z_set:mg "set" = none
 z_str:mg "str" = none
 z_sum:mg "sum" = none
 z_tuple:mg "tuple" = none
 z_zip:mg "zip" = none
 kits:(PySem.W.kitOne K (.ref ad.BadTurn) (.ref ad.BadTurn) == some true && PySem.W.kitOne K (.ref ad.BadTurn) (.type "ValueError") == some true && PySem.W.kitOne K (.ref ad.BadTurn) (.ref ad.BadKind) == some false && PySem.W.kitOne K (.ref ad.BadTurn) (.ref ad.BadPiece) == some false)=true
 exm:PySem.W.exmOne K (.ref ad.BadTurn) (.ref ad.HandError)=some true
 exk:PySem.W.exmOne K (.ref ad.BadKind) (.ref ad.BadKind)=some true
abbrev depth:Nat:=60
abbrev letters:Str:= "abcdefghijklmnopqrstuvwxyz"
def inB (c:Nat):Bool:=!(Builtin.Str.occurrences letters ⟨#[c]⟩ 0 letters.length 1).isEmpty
def aZ (z:Str):Bool:=decide (1≤z.length) && decide (z.length≤8) && !decide (z= "each") && z.cps.toList.all inB
def ltS (a b:Str):Prop:=a.cps.toList < b.cps.toList
instance (a b:Str):Decidable (ltS a b):=inferInstanceAs (Decidable (a.cps.toList < b.cps.toList))
def bE (ws:List Str):Bool:=decide (1≤ws.length) && decide (ws.length≤8) && ws.all aZ && decide ws.Nodup
abbrev G4:=Str×Dt×Nat×Nat
abbrev nk (g:G4):Str×Dt:=(g.1,g.2.1)
abbrev prG (g:G4):Dt:=.tup [.str g.1,g.2.1]
def sumN:List Nat→Nat
 | []=>0
 | n :: r=>n+sumN r
def gL:List Nat→Nat
 | []=>0
 | n :: r=>max n (gL r)
def tP (l:List Dt) (z:Str):Prop:=∃ w r,Dt.tup [.str z,.tup (.str w :: r)]∈l∧(w= "number" ∨w= "text")
inductive FK:Nat→Nat→Dt→Prop
 | text (i:Int):0≤i→i≤60→FK 1 1 (.tup [.str "text",.int i])
 | choice (ws:List Str):bE ws=true→ws.length≠1→FK 1 1 (.tup [.str "choice",.tup (ws.map Dt.str)])
 | number (i j:Int):-1000000000000000000000000000000≤i→i≤j→j≤1000000000000000000000000000000→FK 1 1 (.tup [.str "number",.int i,.int j])
 | list {a c:Nat} {k:Dt} {i:Int}:FK a c k→0≤i→i≤8→FK (a+1) (c+1) (.tup [.str "list",k,.int i])
 | rows {a c:Nat} {z:Str} {l:List Dt} {i:Int}:FK a c (.tup [.str "record",.tup l])→tP l z→0≤i→i≤8→FK (a+1) (c+1) (.tup [.str "rows",.str z,.tup [.str "record",.tup l],.int i])
 | rcd {gs:List G4}:(∀ g∈gs,FK g.2.2.1 g.2.2.2 g.2.1)→(gs.map (·.1)).Pairwise ltS→(∀ g∈gs,aZ g.1=true)→gs.length≤8→FK (gL (gs.map (·.2.2.1))+1) (sumN (gs.map (·.2.2.2))+1) (.tup [.str "record",.tup (gs.map prG)])
theorem FK.pos {a c:Nat} {d:Dt} (h:FK a c d):1≤a:=by cases h <;> lia
theorem iY {n:Nat}:∀ {l:List Nat},n∈l→n≤gL l
 | m :: l,h=>by
  show n≤max m (gL l);rcases List.mem_cons.mp h with rfl | h
  ·exact Nat.le_max_left _ _
  ·exact Nat.le_trans (iY h) (Nat.le_max_right _ _)
theorem max_le {b:Nat}:∀ {l:List Nat},(∀ n∈l,n≤b)→gL l≤b
 | [],_=>Nat.zero_le _
 | m :: l,h=>by
  show max m (gL l)≤b;exact Nat.max_le.mpr ⟨h m List.mem_cons_self,max_le fun n hn=>h n (List.mem_cons_of_mem _ hn)⟩
def tQ (d:Dt):Option Dt:=match d with
 | .tup [.str w,k,_]=>if w= "list" then some k else none
 | .tup [.str w,_,k,_]=>if w= "rows" then some k else none
 | _=>none
def tR (K:PySem.W.Frag) (H:Hp) (r:Option Dt) (Q:VK):Prop:=match r with
 | none=>Q .non H
 | some e=>∀ v,IsP K H e v→Q v H
mutual
def okD:Dt→Bool
 | .int _=>true
 | .str z=>decide (z.length≤1000)
 | .tup l=>iZ l
 | _=>false
def iZ:List Dt→Bool
 | []=>true
 | d :: l=>okD d && iZ l
end
theorem aO:∀ {l:List Dt},iZ l=true→∀ d∈l,okD d=true
 | e :: l,h,d,hd=>by
  rw [iZ,Bool.and_eq_true] at h;rcases List.mem_cons.mp hd with rfl | hd
  ·exact h.1
  ·exact aO h.2 d hd
theorem lL:∀ {l:List Dt},(∀ d∈l,okD d=true)→iZ l=true
 | [],_=>rfl
 | e :: l,h=>by rw [iZ,h e List.mem_cons_self,lL fun d hd=>h d (List.mem_cons_of_mem _ hd)];rfl
def ba:Dt→Bool
 | .str z=>aZ z
 | _=>false
def ja:Dt→Bool
 | .int _=>true
 | _=>false
def aN (d:Dt) (j k:Int):Bool:=match d with
 | .int i=>decide (j≤i) && decide (i≤k)
 | _=>false
def bI (d e:Dt):Bool:=match d,e with
 | .int i,.int j=>decide (-1000000000000000000000000000000≤i) && decide (i≤j) && decide (j≤1000000000000000000000000000000)
 | _,_=>false
abbrev mm:List (Str×Int):=[("number",3),("text",2),("choice",2),("list",3),("record",2),("rows",4)]
def bL:Dt→Bool
 | .tup (.str u :: l)=>decide (bv u mm=.int ((l.length+1:Nat):Int))
 | _=>false
def kB:Dt→Str
 | .str z=>z
 | _=> ""
def ix (ws:List Str):Nat:=(L2.eG (ws.map (Sum.inr:Str→Key)) (ws.map (Sum.inr:Str→Key)).length).length
def jb:Dt→Bool
 | .tup ws=>decide (1≤ws.length) && decide (ws.length≤8) && ws.all ba && decide (ix (ws.map kB)=ws.length)
 | _=>false
def aP (f:Dt→Bool):Dt→Bool
 | .tup [a,b]=>ba a && f b
 | _=>false
def nmD:Dt→Str
 | .tup [.str z,_]=>z
 | _=> ""
def nu (ns:List Str):Bool:=(ns.zip (ns.drop 1)).all fun p=>decide (ltS p.1 p.2)
def jc (f:Dt→Bool):Dt→Bool
 | .tup fs=>decide (fs.length≤8) && fs.all (aP f) && nu (fs.map nmD)
 | _=>false
def kC (key:Dt):Dt→Bool
 | .tup [o,_]=>eqD o key
 | _=>false
def cE (fs:List Dt) (key:Dt):Option Dt:=match fs.find? (kC key) with
 | some (.tup [_,k])=>some k
 | _=>none
def mn:Option Dt→Bool
 | some (.tup (.str u :: _))=>decide (u= "number") || decide (u= "text")
 | _=>false
def cN (f:Dt→Bool) (key items:Dt):Bool:=f items && (match items with
 | .tup [.str u,.tup fs]=>decide (u= "record") && mn (cE fs key)
 | _=>false)
def am:Nat→Dt→Bool
 | 0,_=>false
 | n+1,.tup [.str u,a]=>if u= "text" then aN a 0 60 else if u= "choice" then jb a else if u= "record" then jc (am n) a else false
 | n+1,.tup [.str u,a,b]=>if u= "number" then bI a b else if u= "list" then am n a && aN b 0 8 else false
 | n+1,.tup [.str u,a,b,c]=>if u= "rows" then cN (am n) a b && aN c 0 8 else false
 | _,_=>false
def lM (K:PySem.W.Frag) (_:Ads):Sp:=fun vs H Q _=>∃ (d:Dt) (x:V),vs=[x]∧IsP K H d x∧okD d=true∧∀ H',Same H H'→Q (.bl (ba d)) H'
def kD (K:PySem.W.Frag) (_:Ads):Sp:=fun vs H Q _=>∃ (d:Dt) (x:V),vs=[x]∧IsP K H d x∧okD d=true∧Q (.bl (ja d)) H
def dC (K:PySem.W.Frag) (_:Ads):Sp:=fun vs H Q _=>∃ (d:Dt) (x:V) (j k:Int),vs=[x,.int j,.int k]∧IsP K H d x∧okD d=true∧Q (.bl (aN d j k)) H
def gM (K:PySem.W.Frag) (_:Ads):Sp:=fun vs H Q _=>∃ (d e:Dt) (x y:V),vs=[x,y]∧IsP K H d x∧IsP K H e y∧okD d=true∧okD e=true∧Q (.bl (bI d e)) H
def jd (K:PySem.W.Frag) (_:Ads):Sp:=fun vs H Q _=>∃ (d:Dt) (x:V),vs=[x]∧IsP K H d x∧okD d=true∧Q (.bl (bL d)) H
def je (K:PySem.W.Frag) (_:Ads):Sp:=fun vs H Q _=>∃ (d:Dt) (x:V),vs=[x]∧IsP K H d x∧okD d=true∧∀ H',Same H H'→Q (.bl (jb d)) H'
def jf (K:PySem.W.Frag) (_:Ads):Sp:=fun vs H Q _=>∃ (a c:Nat) (d:Dt) (x:V),vs=[x]∧IsP K H d x∧FK a c d∧tR K H (tQ d) Q
def jg (_:PySem.W.Frag) (_:Ads):Sp:=fun vs H Q _=>∃ i k:Int,vs=[.int i,.int k]∧∀ c,Q (.int c) H
def jh (_:PySem.W.Frag) (_:Ads):Sp:=fun vs H Q _=>∃ (r:Addr) (n m:Int),vs=[.ref r,.int m]∧H r=some (.lst [.int n])∧0 < m∧m < 10000000000000000000000000000000000000000000000000000000000000∧Q (.int (n % m)) (upd H r (.lst [.int (n / m)]))
def tT (K:PySem.W.Frag):Sp:=fun vs H Q _=>∃ (a:Addr) (ns:List Int),vs=[.ref a]∧SqL K H a (ns.map V.int)∧ns.length≤63∧∀ H',Q (.bl true) H'
abbrev rW (K:PySem.W.Frag) (_:Ads):Sp:=tT K
theorem small {n:Nat} (h:n≤1000):n≤sizeLine:=Nat.le_of_lt (ao h)
theorem bz {α β:Type} {xs:List α} {i:Nat} {x:α} (f:α→β) (h:xs[i]?=some x):(xs.take i).map f++[f x]=(xs.take (i+1)).map f:=by
 rw [List.take_add_one,h,List.map_append];rfl
theorem oR {l:List Str} (h:l.Pairwise ltS):l.Nodup:=List.Pairwise.imp (fun {a b} hab e=>by
 subst e;exact absurd hab (List.lt_irrefl _)) h
section
variable {P:Program} {w:World} {K:PySem.W.Frag} {mg:Str→Option Value} {base:Heap} {ad:Ads}
theorem rX {K:PySem.W.Frag} {H:Hp} {l:Addr} {z:Str} {Q:VK} {nm:L2.St} (hl:H l=none) (hz:z.length≤sizeLine) (q:∀ H',Same H H'→Q (.bl (z.cps.toList.all inB)) H')
  (hn:nm=[none]):∃ W:Nat→Nat→List V→L2.St→Hp→Prop,(∃ m,W 0 m [] nm (upd H l (.lst [])))∧∀ i m ys σ' H',W i m ys σ' H'→((Its z).stop i H'∧(fun (v:V) (H':Hp)=>∃ p ys,[v]=[V.ref p]∧true=true∧SqL K H' p (bls ys)∧Q (.bl (ys.all id)) H') (.ref l) H') ∨
   ((Its z).go i H'∧∀ x H'',(Its z).yld i H' x H''→eQ 0 x σ' H'' fun σ2 H2=>cEl (tOp (fun x y H Q=>∃ i j,x=.str i∧y=.str j∧Q (.bl (!(Builtin.Str.occurrences j i 0 j.length 1).isEmpty)) H) (fU 0) (tC (.str letters))) ys l σ2 H2 fun ys' σ3 H3=>∃ m',m' < m∧W (i+1) m' ys' σ3 H3):=by
 subst hn;refine og (Q:=fun (v:V) (H':Hp)=>∃ p ys,[v]=[V.ref p]∧true=true∧SqL K H' p (bls ys)∧Q (.bl (ys.all id)) H') (fun i ys σ H'=>ys=bls ((z.cps.toList.take i).map inB)∧H'=upd H l (.lst ys)∧σ.length=1) ⟨rfl,rfl,rfl⟩ ?_ ?_
 ·rintro i c ys σ H1 N hc ⟨rfl,rfl,hσ⟩ next;have hc':z.cps.toList[i]?=some c:=by rw [Array.getElem?_toList];exact hc
  have hi:i < z.cps.toList.length:=(List.getElem?_eq_some_iff.mp hc').1;have hlen:(bls ((z.cps.toList.take i).map inB)).length < sizeLine:=by
   have:z.length=z.cps.toList.length:=by simp [Str.length]
   simp only [bls,List.length_map,List.length_take];lia
  match σ,hσ with
  | [_],_ =>
   refine ⟨.str ⟨#[c]⟩,rfl,_,_,rfl,rfl,ac,hlen,next _ _ _ ⟨?_,pz,rfl⟩⟩;show bls ((z.cps.toList.take i).map inB)++[V.bl (inB c)]=bls ((z.cps.toList.take (i+1)).map inB);unfold bls;rw [List.map_map,List.map_map];exact bz (V.bl ∘ inB) hc'
 ·rintro ys σ H1 ⟨rfl,rfl,hσ⟩;refine ⟨l,(z.cps.toList).map inB,rfl,rfl,SqL.of ?_,?_⟩
  ·rw [ac];have:z.cps.toList.take z.cps.size=z.cps.toList:=List.take_of_length_le (by simp);rw [this]
  ·rw [List.all_map];exact q _ (ag hl _)
theorem gl (T:Tx K mg ad) {f:Addr} {fd:FuncData} (F:Gn K mg "is_name" eO ["text"] f fd):FnOk P w K mg base CX0 1 f fd ["text"] (lM K ad):=by
 obtain ⟨t_LONGEST_NAME,c_LONGEST_NAME⟩:=T.LONGEST_NAME;obtain ⟨t_EACH,c_EACH⟩:=T.EACH;obtain ⟨t_LETTERS,c_LETTERS⟩:=T.LETTERS;refine F.F.ok lZ (fun vs H Q E h=>?_) (fun cdv A outer s H vs Q E hr h=>?_)
 ·obtain ⟨d,x,rfl,_⟩:=h
  rfl
 obtain ⟨d,x,rfl,hd,ok,q⟩:=h;refine ⟨_,(@pss_cons _ _ _ _ _ (@ps_if _ _ _ _ _ _ _ _ (PW.pt (@pw_or _ _ _ _ _ _ _ (@pt_not _ _ _ _ (@pt_val _ _ _ (pe_callB (aD (K:=K) rfl) rfl T.z_isinstance boot_isinstance (@pa2 _ _ _ _ _ (pv 0) (bp rfl T.z_str boot_str) (by rfl) (by rfl))) (by intro _;rfl))) (@pw_or1 _ _ _ _ (@pt_not _ _ _ _ (pt_chain op_le op_le pe_int (pe_callB call_len_str rfl T.z_len PySem.boot_len (@pa1 _ _ _ (pv 0) (by rfl))) (pe_gint rfl c_LONGEST_NAME)))))) (@pss_one _ _ _ (@ps_ret _ _ _ _ pe_bl)) pss_nil) (@pss_one _ _ _ (@ps_ret _ _ _ _ (pe_and (pe_cmpR op_ne (pv 0) (pe_gstr rfl c_EACH) (nomark _)) (pe_one (pe_callB (call_allN (K:=K) rfl rfl) rfl T.z_all boot_all (@pa1 _ _ _ (a7 rfl (cs0 (NL:=["letter"]) rfl (by decide +kernel) (by decide +kernel)) (rJ (pv 0)) (fun _ _ _ _=>(pg_name (i:=0) (show List.Nodup (α:=Str) ["letter"] by decide +kernel) rfl (Or.inl rfl))) (fun _ _ _ _=>(pe_cmpR mP (pv 0) (pe_gstr rfl c_LETTERS) rfl))) (by rfl)))))))),?_⟩
 cases hd with
 | non=>cases ok
 | bl=>cases ok
 | int=>exact ⟨_,rfl,_,_,_,rfl,.int_str,_,rfl,ax (ax (q H (Same.refl H)))⟩
 | tup ht _ _=>exact ⟨_,rfl,_,_,_,rfl,.tup_str ht,_,rfl,ax (ax (q H (Same.refl H)))⟩
 | @str z =>
  have hz:z.length≤sizeLine:=small (of_decide_eq_true ok);replace q:∀ H',Same H H'→Q (.bl (aZ z)) H':=q;refine ⟨_,rfl,_,_,_,rfl,.str_str,_,rfl,aV ?_⟩;refine ⟨_,rfl,z,rfl,hz,_,_,rfl,rfl,_,rfl,?_⟩;refine aA (fun c1=>?_) (fun c1=>?_)
  ·refine ⟨_,_,rfl,rfl,_,rfl,?_⟩;refine aA (fun c2=>?_) (fun c2=>?_)
   ·have e:aZ z=false:=by
     have c2':¬ ((z.length:Int)≤8):=by simpa using c2
     have:¬ z.length≤8:=by lia
     simp [aZ,this]
    rw [← e];exact q H (Same.refl H)
   ·have l1:1≤z.length:=by
     have:(1:Int)≤z.length:=of_decide_eq_true c1;lia
    have l2:z.length≤8:=by
     have:((z.length:Int)≤8):=by simpa using c2
     lia
    refine ⟨_,rfl,rfl,_,rfl,?_⟩;refine aA (fun c3=>?_) (fun c3=>?_)
    ·refine ⟨_,rfl,z,rfl,fun l hl=>rX (K:=K) hl hz (fun H' g=>?_) rfl⟩;have n3:¬ (z= "each"):=by simpa using c3
     have e:aZ z=z.cps.toList.all inB:=by simp [aZ,l1,l2,n3]
     rw [← e];exact q H' g
    ·have n3:z= "each" :=by simpa using c3
     have e:aZ z=false:=by simp [aZ,n3]
     rw [← e];exact q H (Same.refl H)
  ·refine ⟨_,rfl,ax ?_⟩;have e:aZ z=false:=by
    have:¬ (1:Int)≤z.length:=by simpa using c1
    have:¬ 1≤z.length:=by lia
    simp [aZ,this]
   rw [← e];exact q H (Same.refl H)
theorem aL {K:PySem.W.Frag} {H:Hp} {w:Str} {v:V} (h:IsP K H (.str w) v):v=.str w:=by cases h;rfl
theorem a5 {A B:Prop} {x:V} (h:A):if decide (x=x)=true then A else B:=by rw [if_pos (decide_eq_true rfl)];exact h
theorem iteN {A B:Prop} {x y:V} (n:x≠y) (h:B):if decide (x=y)=true then A else B:=by rw [if_neg (fun c=>n (of_decide_eq_true c))];exact h
theorem oS {A B:Prop} {x y:V} (n:x≠y) (h:A):if (!decide (x=y))=true then A else B:=by rw [if_pos (by rw [decide_eq_false n];rfl)];exact h
theorem mo {A B:Prop} {x:V} (h:B):if (!decide (x=x))=true then A else B:=by rw [if_neg (by rw [decide_eq_true rfl];decide)];exact h
theorem af {a b:Str} (h:a≠b):V.str a≠V.str b:=fun e=>h (V.str.inj e)
theorem ji (T:Tx K mg ad) {f:Addr} {fd:FuncData} (F:Gn K mg "item_kind" cV ["kind"] f fd):FnOk P w K mg base CX0 1 f fd ["kind"] (jf K ad):=by
 refine F.F.ok jG (fun vs H Q E h=>?_) (fun cdv A outer s H vs Q E hr h=>?_)
 ·obtain ⟨a,c,d,x,rfl,_⟩:=h
  rfl
 obtain ⟨a,c,d,x,rfl,hd,gk,q⟩:=h;refine ⟨_,(@pss_cons _ _ _ _ _ (@ps_if _ _ _ _ _ _ _ _ (pt_cmpR op_eq (@pi1 K _ _ _ _ _ _ _ rfl (pv 0)) pe_str (nomark _)) (@pss_one _ _ _ (@ps_ret _ _ _ _ (@pi1 K _ _ _ _ _ _ _ rfl (pv 0)))) pss_nil) (@pss_cons _ _ _ _ _ (@ps_if _ _ _ _ _ _ _ _ (pt_cmpR op_eq (@pi1 K _ _ _ _ _ _ _ rfl (pv 0)) pe_str (nomark _)) (@pss_one _ _ _ (@ps_ret _ _ _ _ (@pi1 K _ _ _ _ _ _ _ rfl (pv 0)))) pss_nil) (@pss_one _ _ _ (@ps_ret _ _ _ _ pe_non)))),?_⟩
 cases gk with
 | list g =>
  refine ⟨_,rfl,_,_,_,hd,rfl,rfl,isS ?_⟩;refine ⟨rfl,_,rfl,a5 ⟨_,rfl,_,_,_,hd,rfl,rfl,fun v hv=>?_⟩⟩;exact q v hv
 | rows g =>
  refine ⟨_,rfl,_,_,_,hd,rfl,rfl,isS ?_⟩;refine ⟨rfl,_,rfl,iteN (af (by decide)) ⟨_,rfl,_,_,_,hd,rfl,rfl,fun v hv=>?_⟩⟩;obtain rfl:=aL hv;refine ⟨rfl,_,rfl,a5 ⟨_,rfl,_,_,_,hd,rfl,rfl,fun v hv=>?_⟩⟩;exact q v hv
 | _ =>
  refine ⟨_,rfl,_,_,_,hd,rfl,rfl,isS ?_⟩;refine ⟨rfl,_,rfl,iteN (af (by decide)) ⟨_,rfl,_,_,_,hd,rfl,rfl,fun v hv=>?_⟩⟩;obtain rfl:=aL hv;exact ⟨rfl,_,rfl,iteN (af (by decide)) q⟩
theorem cO (T:Tx K mg ad) {f:Addr} {fd:FuncData} (F:Gn K mg "is_whole" dF ["thing"] f fd):FnOk P w K mg base CX0 1 f fd ["thing"] (kD K ad):=by
 refine F.F.ok kX (fun vs H Q E h=>?_) (fun cdv A outer s H vs Q E hr h=>?_)
 ·obtain ⟨d,x,rfl,_⟩:=h
  rfl
 obtain ⟨d,x,rfl,hd,ok,q⟩:=h;refine ⟨_,(@pss_one _ _ _ (@ps_ret _ _ _ _ (pe_and (pe_callB (aD (K:=K) rfl) rfl T.z_isinstance boot_isinstance (@pa2 _ _ _ _ _ (pv 0) (bp rfl T.z_int boot_int) (by rfl) (by rfl))) (pe_one (rh (pe_callB (aD (K:=K) rfl) rfl T.z_isinstance boot_isinstance (@pa2 _ _ _ _ _ (pv 0) (bp rfl T.z_bool boot_bool) (by rfl) (by rfl)))))))),?_⟩
 cases hd with
 | non=>cases ok
 | bl=>cases ok
 | int=>exact ⟨_,rfl,_,_,_,rfl,.int_int,_,rfl,ax ⟨_,rfl,_,_,_,rfl,.int_bool,_,rfl,q⟩⟩
 | str=>exact ⟨_,rfl,_,_,_,rfl,.str_int,_,rfl,aV q⟩
 | tup ht _ _=>exact ⟨_,rfl,_,_,_,rfl,.tup_int ht,_,rfl,aV q⟩
theorem bM (T:Tx K mg ad) {f:Addr} {fd:FuncData} (F:Gn K mg "is_whole_within" bt ["thing","low","high"] f fd):FnOk P w K mg base CX0 2 f fd ["thing","low","high"] (dC K ad):=by
 obtain ⟨_,_,uI⟩:=T.is_whole;have uP:=cO (P:=P) (w:=w) (base:=base) T uI;refine F.F.ok dI (fun vs H Q E h=>?_) (fun cdv A outer s H vs Q E hr h=>?_)
 ·obtain ⟨d,x,j,k,rfl,_⟩:=h
  rfl
 obtain ⟨d,x,j,k,rfl,hd,ok,q⟩:=h;refine ⟨_,(@pss_one _ _ _ (@ps_ret _ _ _ _ (pe_and (pcl uI uP (hr.mono (by lia)) rfl (@pa1 _ _ _ (pv 0) (by rfl))) (pe_one (nL op_le op_le (pv 1) (pv 0) (pv 2)))))),?_⟩;refine ⟨_,rfl,d,x,rfl,hd,ok,?_⟩
 cases hd with
 | non=>cases ok
 | bl=>cases ok
 | str=>exact ⟨_,rfl,aV q⟩
 | tup ht _ _=>exact ⟨_,rfl,aV q⟩
 | @int i =>
  replace q:Q (.bl (decide (j≤i) && decide (i≤k))) H:=q;refine ⟨_,rfl,ax ?_⟩;refine ⟨_,rfl,_,rfl,_,_,rfl,rfl,_,rfl,?_⟩;refine aA (fun c=>⟨_,rfl,_,_,rfl,rfl,?_⟩) (fun c=>?_)
  ·show Q (.bl (decide (i≤k))) H;rw [c,Bool.true_and] at q;exact q
  ·rw [Bool.eq_false_iff.mpr c,Bool.false_and] at q;exact q
theorem at0 {α:Type} (c:α) (r:List α):atI (c :: r) 0=some c:=by
 have e:atI (c :: r) ((0:Nat):Int)=some c:=dO (by rfl);exact e
theorem qT:(10:Int) ^ (30:Int).toNat=1000000000000000000000000000000:=by decide +kernel
theorem dj (T:Tx K mg ad) {f:Addr} {fd:FuncData} (F:Gn K mg "are_bounds" cx ["low","high"] f fd):FnOk P w K mg base CX0 2 f fd ["low","high"] (gM K ad):=by
 obtain ⟨_,_,uI⟩:=T.is_whole;have uP:=cO (P:=P) (w:=w) (base:=base) T uI;refine F.F.ok hG (fun vs H Q E h=>?_) (fun cdv A outer s H vs Q E hr h=>?_)
 ·obtain ⟨d,e,x,y,rfl,_⟩:=h
  rfl
 obtain ⟨d,e,x,y,rfl,hd,he,ok,ok',q⟩:=h;refine ⟨_,(@pss_cons _ _ _ _ _ (@ps_if _ _ _ _ _ _ _ _ (PW.pt (@pw_or _ _ _ _ _ _ _ (@pt_not _ _ _ _ (@pt_val _ _ _ (pcl uI uP (hr.mono (by lia)) rfl (@pa1 _ _ _ (pv 0) (by rfl))) (by intro _;rfl))) (@pw_or1 _ _ _ _ (@pt_not _ _ _ _ (@pt_val _ _ _ (pcl uI uP (hr.mono (by lia)) rfl (@pa1 _ _ _ (pv 1) (by rfl))) (by intro _;rfl)))))) (@pss_one _ _ _ (@ps_ret _ _ _ _ pe_bl)) pss_nil) (@pss_one _ _ _ (@ps_ret _ _ _ _ (pe_chain3 op_le op_le op_le (@pe_un _ _ _ _ _ _ un_neg (@pe_op _ _ _ _ _ _ _ _ op_pow pe_int pe_int)) (pv 0) (pv 1) (@pe_op _ _ _ _ _ _ _ _ op_pow pe_int pe_int))))),?_⟩;refine ⟨_,rfl,d,x,rfl,hd,ok,_,rfl,?_⟩
 cases hd with
 | non=>cases ok
 | bl=>cases ok
 | str=>exact ax (ax q)
 | tup ht _ _=>exact ax (ax q)
 | @int i =>
  refine aV ⟨_,rfl,e,y,rfl,he,ok',_,rfl,?_⟩
  cases he with
  | non=>cases ok'
  | bl=>cases ok'
  | str=>exact ax q
  | tup ht _ _=>exact ax q
  | @int j =>
   replace q:Q (.bl (decide (-1000000000000000000000000000000≤i) && decide (i≤j) && decide (j≤1000000000000000000000000000000))) H:=q;refine aV ?_;refine ⟨_,_,rfl,rfl,⟨by decide,by decide,by decide⟩,_,rfl,_,rfl,_,_,rfl,rfl,_,rfl,?_⟩;rw [qT];refine aA (fun c=>⟨_,rfl,_,_,rfl,rfl,_,rfl,?_⟩) (fun c=>?_)
   ·replace c:decide (-1000000000000000000000000000000≤i)=true:=c;rw [c,Bool.true_and] at q;refine aA (fun c=>?_) (fun c=>?_)
    ·refine ⟨_,_,rfl,rfl,⟨by decide,by decide,by decide⟩,_,_,rfl,rfl,?_⟩;rw [qT];replace c:decide (i≤j)=true:=c;rw [c,Bool.true_and] at q;exact q
    ·replace c:¬ decide (i≤j)=true:=c;rw [Bool.eq_false_iff.mpr c,Bool.false_and] at q;exact q
   ·replace c:¬ decide (-1000000000000000000000000000000≤i)=true:=c;rw [Bool.eq_false_iff.mpr c,Bool.false_and,Bool.false_and] at q;exact q
theorem eH (u:Str) (n:Int):∀ l:List (Str×Int),rs (bv u l) (.int n)=true
 | []=>rfl
 | (x,i) :: D=>by
  unfold bv
  split
  ·rfl
  ·exact eH u n D
theorem jj (T:Tx K mg ad) {f:Addr} {fd:FuncData} (F:Gn K mg "has_parts" cT ["thing"] f fd):FnOk P w K mg base CX0 1 f fd ["thing"] (jd K ad):=by
 obtain ⟨t_PART_COUNTS,c_PART_COUNTS,d_PART_COUNTS⟩:=T.PART_COUNTS;refine F.F.ok jE (fun vs H Q E h=>?_) (fun cdv A outer s H vs Q E hr h=>?_)
 ·obtain ⟨d,x,rfl,_⟩:=h
  rfl
 obtain ⟨d,x,rfl,hd,ok,q⟩:=h;refine ⟨_,(@pss_cons _ _ _ _ _ (@ps_if _ _ _ _ _ _ _ _ (PW.pt (@pw_or _ _ _ _ _ _ _ (@pt_not _ _ _ _ (@pt_val _ _ _ (pe_callB (aD (K:=K) rfl) rfl T.z_isinstance boot_isinstance (@pa2 _ _ _ _ _ (pv 0) (bp rfl T.z_tuple boot_tuple) (by rfl) (by rfl))) (by intro _;rfl))) (@pw_or _ _ _ _ _ _ _ (pt_cmpR op_eq (pe_callB (call_lenDN (K:=K) rfl) rfl T.z_len PySem.boot_len (@pa1 _ _ _ (pv 0) (by rfl))) pe_int (nomark _)) (@pw_or1 _ _ _ _ (@pt_not _ _ _ _ (@pt_val _ _ _ (pe_callB (aD (K:=K) rfl) rfl T.z_isinstance boot_isinstance (@pa2 _ _ _ _ _ (@pi1 K _ _ _ _ _ _ _ rfl (pv 0)) (bp rfl T.z_str boot_str) (by rfl) (by rfl))) (by intro _;rfl))))))) (@pss_one _ _ _ (@ps_ret _ _ _ _ pe_bl)) pss_nil) (@pss_one _ _ _ (@ps_ret _ _ _ _ (pe_cmpR op_eq (pe_kget d_PART_COUNTS rfl c_PART_COUNTS (@pa1 _ _ _ (@pi1 K _ _ _ _ _ _ _ rfl (pv 0)) (by rfl))) (pe_callB (call_lenDN (K:=K) rfl) rfl T.z_len PySem.boot_len (@pa1 _ _ _ (pv 0) (by rfl))) (nomark _))))),?_⟩
 cases d with
 | non=>cases ok
 | bl=>cases ok
 | int i =>
  cases hd
  exact ⟨_,rfl,_,_,_,rfl,.int_tuple,_,rfl,ax (ax q)⟩
 | str z =>
  cases hd
  exact ⟨_,rfl,_,_,_,rfl,.str_tuple,_,rfl,ax (ax q)⟩
 | tup l =>
  obtain ⟨a,xs,rfl,ha,pa,ra⟩:=id hd.unref;refine ⟨_,rfl,_,_,_,rfl,.tup_tuple ha,_,rfl,aV ?_⟩;refine ⟨_,rfl,_,_,rfl,hd.d,rfl,_,rfl,?_⟩
  cases l with
  | nil=>exact a5 (ax q)
  | cons e l =>
   refine iteN (fun z=>?_) ?_
   ·injection z with z
    rw [List.length_cons] at z;lia
   have oke:=aO ok e List.mem_cons_self;refine ⟨_,rfl,_,_,_,hd,rfl,at0 _ _,fun v hv=>?_⟩
   cases e with
   | non=>cases oke
   | bl=>cases oke
   | int i =>
    cases hv
    exact ⟨_,_,_,rfl,.int_str,_,rfl,ax q⟩
   | tup l =>
    obtain ⟨a1,xs1,rfl,ha1,_,_⟩:=id hv.unref;exact ⟨_,_,_,rfl,.tup_str ha1,_,rfl,ax q⟩
   | str u =>
    obtain rfl:=aL hv;refine ⟨_,_,_,rfl,.str_str,_,rfl,aV ?_⟩;refine ⟨_,rfl,_,_,_,hd,rfl,at0 _ _,isS ?_⟩;refine ⟨_,rfl,_,rfl,_,_,rfl,hd.d,eH u _ _,q⟩
theorem gm:∀ {l:List Dt},l.all ba=true→l=(l.map kB).map Dt.str
 | [],_=>rfl
 | d :: l,h=>by
  rw [List.all_cons,Bool.and_eq_true] at h;rw [List.map_cons,List.map_cons,← gm h.2]
  cases d with
  | str z=>rfl
  | _=>exact absurd h.1 Bool.false_ne_true
theorem bA {K:PySem.W.Frag} {H:Hp}:∀ {ws:List Str} {xs:List V},IsPs K H (ws.map Dt.str) xs→xs=ws.map V.str
 | [],xs,h=>by cases h;rfl
 | w :: ws,xs,h=>by
  cases h with
  | cons h1 h2=>rw [aL h1,bA h2];rfl
theorem ql (m n:Nat):decide (V.int (m:Int)=V.int (n:Int))=decide (m=n):=by
 rw [Bool.eq_iff_iff];simp;lia
theorem dX (T:Tx K mg ad) {f:Addr} {fd:FuncData} (F:Gn K mg "are_words" cU ["words"] f fd):FnOk P w K mg base CX0 2 f fd ["words"] (je K ad):=by
 obtain ⟨_,_,vi⟩:=T.is_name;have vI:=gl (P:=P) (w:=w) (base:=base) T vi;obtain ⟨t_MOST_WORDS,c_MOST_WORDS⟩:=T.MOST_WORDS;refine F.F.ok jF (fun vs H Q E h=>?_) (fun cdv A outer s H vs Q E hr h=>?_)
 ·obtain ⟨d,x,rfl,_⟩:=h
  rfl
 obtain ⟨d,x,rfl,hd,ok,q⟩:=h;refine ⟨_,(@pss_cons _ _ _ _ _ (@ps_if _ _ _ _ _ _ _ _ (PW.pt (@pw_or _ _ _ _ _ _ _ (@pt_not _ _ _ _ (@pt_val _ _ _ (pe_callB (aD (K:=K) rfl) rfl T.z_isinstance boot_isinstance (@pa2 _ _ _ _ _ (pv 0) (bp rfl T.z_tuple boot_tuple) (by rfl) (by rfl))) (by intro _;rfl))) (@pw_or1 _ _ _ _ (@pt_not _ _ _ _ (pt_chain op_le op_le pe_int (pe_callB (call_lenDN (K:=K) rfl) rfl T.z_len PySem.boot_len (@pa1 _ _ _ (pv 0) (by rfl))) (pe_gint rfl c_MOST_WORDS)))))) (@pss_one _ _ _ (@ps_ret _ _ _ _ pe_bl)) pss_nil) (@pss_one _ _ _ (@ps_ret _ _ _ _ (pe_and (pe_callB (call_allN (K:=K) rfl rfl) rfl T.z_all boot_all (@pa1 _ _ _ (a7 rfl (cs0 (NL:=["word"]) rfl (by decide +kernel) (by decide +kernel)) (be (K:=K) rfl (pv 0)) (fun _ _ _ _=>(pg_name (i:=0) (show List.Nodup (α:=Str) ["word"] by decide +kernel) rfl (Or.inl rfl))) (fun _ _ _ _=>(pcl vi vI (hr.mono (by lia)) rfl (@pa1 _ _ _ (pv 0) (by rfl))))) (by rfl))) (pe_one (pe_cmpR op_eq (pe_callB nc rfl T.z_len PySem.boot_len (@pa1 _ _ _ (pe_callTy (nb rfl) rfl T.z_set boot_set (@pa1 _ _ _ (pv 0) (by rfl))) (by rfl))) (pe_callB (call_lenDN (K:=K) rfl) rfl T.z_len PySem.boot_len (@pa1 _ _ _ (pv 0) (by rfl))) (nomark _))))))),?_⟩
 cases d with
 | non=>cases ok
 | bl=>cases ok
 | int i =>
  cases hd
  exact ⟨_,rfl,_,_,_,rfl,.int_tuple,_,rfl,ax (ax (q H (Same.refl H)))⟩
 | str z =>
  cases hd
  exact ⟨_,rfl,_,_,_,rfl,.str_tuple,_,rfl,ax (ax (q H (Same.refl H)))⟩
 | tup ds =>
  obtain ⟨a,xs,rfl,hT,pa,ra⟩:=id hd.unref;have el:=ra.length;replace q:∀ H',Same H H'→Q (.bl (decide (1≤ds.length) && decide (ds.length≤8) && ds.all ba && decide (ix (ds.map kB)=ds.length))) H':=q;refine ⟨_,rfl,_,_,_,rfl,.tup_tuple hT,_,rfl,aV ?_⟩;refine ⟨_,rfl,_,_,rfl,hd.d,_,_,rfl,rfl,_,rfl,aA (fun c1=>?_) (fun c1=>?_)⟩
  ·have l1:1≤ds.length:=by
    have:(1:Int)≤ds.length:=of_decide_eq_true c1;lia
   refine ⟨_,_,rfl,rfl,_,rfl,aA (fun c2=>?_) (fun c2=>?_)⟩
   ·have l2:¬ ds.length≤8:=by
     have c2':¬ ((ds.length:Int)≤8):=by simpa using c2
     lia
    rw [decide_eq_false l2,Bool.and_false,Bool.false_and,Bool.false_and] at q;exact q H (Same.refl H)
   ·have l2:ds.length≤8:=by
     have:((ds.length:Int)≤8):=by simpa using c2
     lia
    rw [decide_eq_true l1,decide_eq_true l2,Bool.true_and,Bool.true_and] at q;refine ⟨_,rfl,a,rfl,⟨_,hT⟩,fun l hln=>?_⟩;refine aT (K:=K) (xs:=xs) (fun i ys σ H'=>ys=bls ((ds.take i).map ba)∧Same H H'∧H' l=some (.lst ys)∧σ.length=1) ⟨rfl,ag hln _,ac,rfl⟩ (fun i ys σ H' _ r=>r.2.1.tup hT) ?_ ?_
    ·rintro i y ys σ H1 N hy ⟨rfl,g,e1,hσ⟩ next;obtain ⟨d,hdi,hp⟩:=ra.get' hy;have nx:bls ((ds.take i).map ba)++[V.bl (ba d)]=bls ((ds.take (i+1)).map ba):=by
      show List.map V.bl _++[V.bl (ba d)]=List.map V.bl _;rw [List.map_map,List.map_map];exact bz (V.bl ∘ ba) hdi
     have hlen:(bls ((ds.take i).map ba)).length < sizeLine:=by
      simp only [bls,List.length_map,List.length_take];exact ao (by lia)
     match σ,hσ with
     | [_],_=>exact ⟨_,rfl,d,y,rfl,hp.same g,aO ok d (List.mem_of_getElem? hdi),fun H2 g2=>⟨g2 _ _ e1,hlen,next _ _ _ ⟨nx,aU hln (g.trans g2),ac,rfl⟩⟩⟩
    ·rintro ys σ H1 ⟨rfl,g,e1,_⟩;rw [← el,List.take_length] at e1;refine ⟨l,ds.map ba,rfl,rfl,SqL.of e1,_,rfl,?_⟩;have ea:(ds.map ba).all id=ds.all ba:=by rw [List.all_map];rfl
     rw [ea]
     cases hb:ds.all ba with
     | false =>
      rw [hb,Bool.false_and] at q;exact aV (q H1 g)
     | true =>
      rw [hb,Bool.true_and] at q;have es:=gm hb;rw [es] at ra;have ex:=bA ra;subst ex;refine ax ?_;refine ⟨_,rfl,a,(ds.map kB).map Sum.inr,rfl,by rw [List.map_map];exact g.tup hT,by rw [List.length_map,List.length_map];lia,fun p hp=>?_⟩;refine ⟨p,_,rfl,ac,?_⟩;refine ⟨_,rfl,_,_,rfl,((hd.same g).same (ag hp _)).d,rfl,?_⟩;rw [ql];exact q _ (g.trans (ag hp _))
  ·have l1:¬ 1≤ds.length:=by
    have:¬ (1:Int)≤ds.length:=by simpa using c1
    lia
   refine ⟨_,rfl,ax ?_⟩;rw [decide_eq_false l1,Bool.false_and,Bool.false_and,Bool.false_and] at q;exact q H (Same.refl H)
def kE (K:PySem.W.Frag) (n:Nat):Sp:=fun vs H Q _=>∃ (r:Nat) (d:Dt) (x:V),r < n∧vs=[x,.int r]∧IsP K H d x∧okD d=true∧∀ H',Same H H'→Q (.bl (am r d)) H'
def oU (K:PySem.W.Frag) (n:Nat):Sp:=fun vs H Q _=>∃ (r:Nat) (d:Dt) (x:V),r < n∧vs=[x,.int r]∧IsP K H d x∧okD d=true∧∀ H',Same H H'→Q (.bl (aP (am r) d)) H'
def mq (K:PySem.W.Frag) (n:Nat):Sp:=fun vs H Q _=>∃ (r:Nat) (d:Dt) (x:V),r < n∧vs=[x,.int r]∧IsP K H d x∧okD d=true∧∀ H',Same H H'→Q (.bl (jc (am r) d)) H'
def oV (K:PySem.W.Frag) (n:Nat):Sp:=fun vs H Q _=>∃ (r:Nat) (d e:Dt) (x y:V),r < n∧vs=[x,y,.int r]∧IsP K H d x∧IsP K H e y∧okD d=true∧okD e=true∧∀ H',Same H H'→Q (.bl (cN (am r) d e)) H'
theorem kF (T:Tx K mg ad) {f ff:Addr} {fd fdf:FuncData} (n:Nat) (F:Gn K mg "is_field" bN ["field","room"] f fd) (uJ:Gn K mg "is_formed" bj ["thing","room"] ff fdf)
  (uN:FnOk P w K mg base CX0 (3*n+3) ff fdf ["thing","room"] (kE K n)):FnOk P w K mg base CX0 (3*n+3+1) f fd ["field","room"] (oU K n):=by
 obtain ⟨_,_,vi⟩:=T.is_name;have vI:=gl (P:=P) (w:=w) (base:=base) T vi;refine F.F.ok kY (fun vs H Q E h=>?_) (fun cdv A outer s H vs Q E hr h=>?_)
 ·obtain ⟨r,d,x,_,rfl,_⟩:=h
  rfl
 obtain ⟨r,d,x,hrn,rfl,hd,ok,q⟩:=h;refine ⟨_,(@pss_cons _ _ _ _ _ (@ps_if _ _ _ _ _ _ _ _ (PW.pt (@pw_or _ _ _ _ _ _ _ (@pt_not _ _ _ _ (@pt_val _ _ _ (pe_callB (aD (K:=K) rfl) rfl T.z_isinstance boot_isinstance (@pa2 _ _ _ _ _ (pv 0) (bp rfl T.z_tuple boot_tuple) (by rfl) (by rfl))) (by intro _;rfl))) (@pw_or1 _ _ _ _ (pt_cmpR op_ne (pe_callB (call_lenDN (K:=K) rfl) rfl T.z_len PySem.boot_len (@pa1 _ _ _ (pv 0) (by rfl))) pe_int (nomark _))))) (@pss_one _ _ _ (@ps_ret _ _ _ _ pe_bl)) pss_nil) (@pss_one _ _ _ (@ps_ret _ _ _ _ (pe_and (pcl vi vI (hr.mono (by lia)) rfl (@pa1 _ _ _ (@pi1 K _ _ _ _ _ _ _ rfl (pv 0)) (by rfl))) (pe_one (pcl uJ uN (hr.mono (by lia)) rfl (@pa2 _ _ _ _ _ (@pi1 K _ _ _ _ _ _ _ rfl (pv 0)) (pv 1) (by rfl) (by rfl)))))))),?_⟩
 cases d with
 | non=>cases ok
 | bl=>cases ok
 | int i =>
  cases hd
  exact ⟨_,rfl,_,_,_,rfl,.int_tuple,_,rfl,ax (ax (q H (Same.refl H)))⟩
 | str z =>
  cases hd
  exact ⟨_,rfl,_,_,_,rfl,.str_tuple,_,rfl,ax (ax (q H (Same.refl H)))⟩
 | tup l =>
  obtain ⟨a,xs,rfl,ha,pa,ra⟩:=id hd.unref;refine ⟨_,rfl,_,_,_,rfl,.tup_tuple ha,_,rfl,aV ?_⟩;refine ⟨_,rfl,_,_,rfl,hd.d,rfl,_,rfl,?_⟩
  by_cases h2:l.length=2
  ·match l,h2 with
   | [e,e'],_ =>
    refine mo ?_;refine ⟨_,rfl,_,_,_,hd,rfl,rfl,fun v hv=>?_⟩;refine ⟨e,v,rfl,hv,aO ok e List.mem_cons_self,fun H1 g1=>?_⟩;replace q:∀ H',Same H H'→Q (.bl (ba e && am r e')) H':=q;refine ⟨_,rfl,?_⟩
    cases hb:ba e with
    | false =>
     rw [hb,Bool.false_and] at q;exact aV (q H1 g1)
    | true =>
     rw [hb,Bool.true_and] at q;refine ax ?_;refine ⟨_,rfl,_,_,_,hd.same g1,rfl,rfl,fun v hv=>?_⟩;exact ⟨_,rfl,r,e',v,hrn,rfl,hv,aO ok e' (List.mem_cons_of_mem _ List.mem_cons_self),fun H2 g2=>q H2 (g1.trans g2)⟩
  ·have e0:aP (am r) (.tup l)=false:=by
    unfold aP
    split
    ·rename_i h;injection h with h;subst h;exact absurd rfl h2
    ·rfl
   rw [e0] at q;refine oS (fun z=>?_) (q H (Same.refl H));injection z with z
   lia
theorem iy {K:PySem.W.Frag} {H:Hp} {a b:Dt} {v:V} (h:IsP K H (.tup [a,b]) v):∃ c x y,v=.ref c∧SqT K H c [x,y]∧IsP K H a x∧IsP K H b y:=by
 obtain ⟨c,xs,rfl,hc,pc,rc⟩:=h.unref
 cases rc with
 | cons r1 rc =>
  cases rc with
  | cons r2 rc =>
   cases rc
   exact ⟨c,_,_,rfl,hc,r1,r2⟩
theorem dD {f:Dt→Bool} {d:Dt} (h:aP f d=true):∃ z k,d=.tup [.str z,k]∧aZ z=true∧f k=true:=by
 unfold aP at h
 split at h
 ·rw [Bool.and_eq_true] at h
  rename_i a b
  cases a with
  | str z=>exact ⟨z,b,rfl,h.1,h.2⟩
  | _=>exact absurd h.1 Bool.false_ne_true
 ·cases h
theorem nv (xs:List V):eX xs (some 1) none=xs.drop 1:=by
 unfold eX
 cases xs with
 | nil=>rfl
 | cons x r =>
  have e1:HT.sIx (x :: r).length 0 (some 1)=1:=by
   have:=HT.sIx_nat (x :: r).length 0 1;rw [List.length_cons] at this ⊢;rw [show (1:Int)=((1:Nat):Int) from rfl,this];lia
  have e2:HT.sIx (x :: r).length (x :: r).length none=(x :: r).length:=rfl;rw [e1,e2];apply List.take_of_length_le;rw [List.length_drop];exact Nat.le_refl _
theorem gN (T:Tx K mg ad) {f ff:Addr} {fd fdf:FuncData} (n:Nat) (F:Gn K mg "are_fields" a9 ["fields","room"] f fd) (wx:Gn K mg "is_field" bN ["field","room"] ff fdf)
  (wy:FnOk P w K mg base CX0 (3*n+4) ff fdf ["field","room"] (oU K n)):FnOk P w K mg base CX0 (3*n+4+1) f fd ["fields","room"] (mq K n):=by
 obtain ⟨t_MOST_FIELDS,c_MOST_FIELDS⟩:=T.MOST_FIELDS;refine F.F.ok dm (fun vs H Q E h=>?_) (fun cdv A outer s H vs Q E hr h=>?_)
 ·obtain ⟨r,d,x,_,rfl,_⟩:=h
  rfl
 obtain ⟨r,d,x,hrn,rfl,hd,ok,q⟩:=h;refine ⟨_,(@pss_cons _ _ _ _ _ (@ps_if _ _ _ _ _ _ _ _ (PW.pt (@pw_or _ _ _ _ _ _ _ (@pt_not _ _ _ _ (@pt_val _ _ _ (pe_callB (aD (K:=K) rfl) rfl T.z_isinstance boot_isinstance (@pa2 _ _ _ _ _ (pv 0) (bp rfl T.z_tuple boot_tuple) (by rfl) (by rfl))) (by intro _;rfl))) (@pw_or1 _ _ _ _ (pt_cmpR op_gt (pe_callB (call_lenDN (K:=K) rfl) rfl T.z_len PySem.boot_len (@pa1 _ _ _ (pv 0) (by rfl))) (pe_gint rfl c_MOST_FIELDS) (nomark _))))) (@pss_one _ _ _ (@ps_ret _ _ _ _ pe_bl)) pss_nil) (@pss_cons _ _ _ _ _ (@ps_if _ _ _ _ _ _ _ _ (@pt_not _ _ _ _ (@pt_val _ _ _ (pe_callB (call_allN (K:=K) rfl rfl) rfl T.z_all boot_all (@pa1 _ _ _ (a7 rfl (csR (sc:=ae a9) (NL:=["field"]) (N:=["fields","room","names"]) (ρ:=[1]) (N':=["field","room"]) rfl rfl rfl (by decide +kernel) (by decide +kernel) (by decide +kernel) rfl (by decide +kernel)) (be (K:=K) rfl (pv 0)) (fun _ _ _ _=>(pg_name (i:=0) (show List.Nodup (α:=Str) ["field","room"] by decide +kernel) rfl (Or.inl rfl))) (fun _ _ _ _=>(pcl wx wy (hr.mono (by lia)) rfl (@pa2 _ _ _ _ _ (pv 0) (pv 1) (by rfl) (by rfl))))) (by rfl))) (by intro _;rfl))) (@pss_one _ _ _ (@ps_ret _ _ _ _ pe_bl)) pss_nil) (@pss_cons _ _ _ _ _ (ps_setC (j:=2) dm.nd rfl (Or.inl rfl) rfl (cs0 (NL:=["name","kind"]) rfl (by decide +kernel) (by decide +kernel)) (be (K:=K) rfl (pv 0)) (fun _ _ _ _=>(cv (K:=K) (n:=2) rfl rfl (pgs_cons (pg_name (i:=0) (show List.Nodup (α:=Str) ["name","kind"] by decide +kernel) rfl (Or.inl rfl)) (pgs_cons (pg_name (i:=1) (show List.Nodup (α:=Str) ["name","kind"] by decide +kernel) rfl (Or.inl rfl)) bG)))) (fun _ _ _ _=>(pv 0))) (@pss_one _ _ _ (@ps_ret _ _ _ _ (pe_callB (call_allN (K:=K) rfl rfl) rfl T.z_all boot_all (@pa1 _ _ _ (a7 rfl (cs0 (NL:=["ahead","behind"]) rfl (by decide +kernel) (by decide +kernel)) (rP rfl T.z_zip (@pa2 _ _ _ _ _ (pv 2) (dN (kt (K:=K) rfl) (pv 2) (dM pe_int) iH) (by rfl) (by rfl))) (fun _ _ _ _=>(cv (K:=K) (n:=2) rfl rfl (pgs_cons (pg_name (i:=0) (show List.Nodup (α:=Str) ["ahead","behind"] by decide +kernel) rfl (Or.inl rfl)) (pgs_cons (pg_name (i:=1) (show List.Nodup (α:=Str) ["ahead","behind"] by decide +kernel) rfl (Or.inl rfl)) bG)))) (fun _ _ _ _=>(pe_cmpR mO (pv 0) (pv 1) (nomark _)))) (by rfl)))))))),?_⟩
 cases d with
 | non=>cases ok
 | bl=>cases ok
 | int i =>
  cases hd
  exact ⟨_,rfl,_,_,_,rfl,.int_tuple,_,rfl,ax (ax (q H (Same.refl H)))⟩
 | str z =>
  cases hd
  exact ⟨_,rfl,_,_,_,rfl,.str_tuple,_,rfl,ax (ax (q H (Same.refl H)))⟩
 | tup ds =>
  obtain ⟨a,xs,rfl,ha,pa,ra⟩:=id hd.unref;have el:=ra.length;replace q:∀ H',Same H H'→Q (.bl (decide (ds.length≤8) && ds.all (aP (am r)) && nu (ds.map nmD))) H':=q;refine ⟨_,rfl,_,_,_,rfl,.tup_tuple ha,_,rfl,aV ?_⟩;refine ⟨_,rfl,_,_,rfl,hd.d,_,_,rfl,rfl,_,rfl,aA (fun c1=>?_) (fun c1=>?_)⟩
  ·have l2:¬ ds.length≤8:=by
    have:(8:Int) < ds.length:=of_decide_eq_true c1;lia
   rw [decide_eq_false l2,Bool.false_and,Bool.false_and] at q;exact q H (Same.refl H)
  have l2:ds.length≤8:=by
   have:¬ ((8:Int) < ds.length):=by simpa using c1
   lia
  rw [decide_eq_true l2,Bool.true_and] at q;refine ⟨_,rfl,a,rfl,⟨_,ha⟩,fun l hln=>?_⟩;refine aT (K:=K) (xs:=xs) (fun i ys σ H'=>ys=bls ((ds.take i).map (aP (am r)))∧Same H H'∧H' l=some (.lst ys)∧∃ v,σ=[v,some (.int r)]) ⟨rfl,ag hln _,ac,none,rfl⟩ (fun i ys σ H' _ r=>r.2.1.tup ha) ?_ ?_
  ·rintro i y ys σ H1 N hy ⟨rfl,g,e1,v,rfl⟩ next;obtain ⟨d,hdi,hp⟩:=ra.get' hy;have nx:bls ((ds.take i).map (aP (am r)))++[V.bl (aP (am r) d)]=bls ((ds.take (i+1)).map (aP (am r))):=by
    show List.map V.bl _++[V.bl _]=List.map V.bl _;rw [List.map_map,List.map_map];exact bz (V.bl ∘ aP (am r)) hdi
   have hlen:(bls ((ds.take i).map (aP (am r)))).length < sizeLine:=by
    simp only [bls,List.length_map,List.length_take];exact ao (by lia)
   exact ⟨_,rfl,_,rfl,r,d,y,hrn,rfl,hp.same g,aO ok d (List.mem_of_getElem? hdi),fun H2 g2=>⟨g2 _ _ e1,hlen,next _ _ _ ⟨nx,aU hln (g.trans g2),ac,_,rfl⟩⟩⟩
  ·rintro ys σ H1 ⟨rfl,g,e1,v,rfl⟩;rw [← el,List.take_length] at e1;refine ⟨l,ds.map (aP (am r)),rfl,rfl,SqL.of e1,_,rfl,?_⟩;have ea:(ds.map (aP (am r))).all id=ds.all (aP (am r)):=by rw [List.all_map];rfl
   rw [ea]
   cases hb:ds.all (aP (am r)) with
   | false =>
    rw [hb,Bool.false_and] at q;exact ax (q H1 g)
   | true =>
    rw [hb,Bool.true_and] at q;refine aV ?_;refine ⟨_,rfl,a,rfl,⟨_,g.tup ha⟩,fun l2 hl2=>?_⟩;refine aT (K:=K) (xs:=xs) (fun i ys σ H'=>ys=(ds.take i).map (fun d=>V.str (nmD d))∧Same H1 H'∧H' l2=some (.lst ys)∧σ.length=2) ⟨rfl,ag hl2 _,ac,rfl⟩ (fun i ys σ H' _ r=>(g.trans r.2.1).tup ha) ?_ ?_
    ·rintro i y ys σ H2 N hy ⟨rfl,g2,e2,hσ⟩ next;obtain ⟨d,hdi,hp⟩:=ra.get' hy;obtain ⟨z,k,rfl,_,_⟩:=dD (List.all_eq_true.mp hb d (List.mem_of_getElem? hdi));obtain ⟨b,x1,y2,rfl,hb',hp1,hp2⟩:=iy ((hp.same g).same g2);obtain rfl:=aL hp1
     match σ,hσ with
     | [_,_],_ =>
      refine ⟨b,_,rfl,hb',rfl,_,_,rfl,_,_,rfl,rfl,?_⟩;refine ⟨_,rfl,e2,?_,next _ _ _ ⟨bz (fun d=>V.str (nmD d)) hdi,aU hl2 g2,ac,rfl⟩⟩;rw [List.length_map,List.length_take];exact ao (by lia)
    ·rintro ys σ H2 ⟨rfl,g2,e2,hσ⟩;rw [← el,List.take_length] at e2;have en:ds.map (fun d=>V.str (nmD d))=(ds.map nmD).map V.str:=by rw [List.map_map];rfl
     rw [en] at e2;have lns:(ds.map nmD).length=ds.length:=List.length_map ..
     generalize ds.map nmD=ns at *
     refine ⟨_,rfl,_,rfl,_,rfl,l2,_,rfl,SqL.of e2,fun l3 hl3=>?_⟩;have n23:l2≠l3:=aj e2 hl3;have ec:eX (ns.map V.str) (some 1) none=(ns.drop 1).map V.str:=by rw [nv,List.map_drop]
     rw [ec];have e2':(upd H2 l3 (.lst ((ns.drop 1).map V.str))) l2=some (.lst (ns.map V.str)):=by rw [ah n23];exact e2
     refine ⟨l2,l3,rfl,⟨_,SqL.of e2'⟩,⟨_,SqL.of ac⟩,fun l4 hl4=>?_⟩;have g4:=(ag hl3 (.lst ((ns.drop 1).map V.str)));refine ng (K:=K) (xs:=ns.map V.str) (ys:=(ns.drop 1).map V.str) (fun i ys σ H'=>ys=bls (((ns.zip (ns.drop 1)).take i).map fun p=>decide (ltS p.1 p.2))∧Same (upd H2 l3 (.lst ((ns.drop 1).map V.str))) H'∧H' l4=some (.lst ys)∧σ.length=2) ⟨rfl,ag hl4 _,ac,rfl⟩ (fun i us σ H' r=>⟨SqL.of (r.2.1 _ _ e2'),SqL.of (r.2.1 _ _ ac)⟩) ?_ ?_
     ·rintro i x y T us σ H5 N hx hy hT ⟨rfl,g5,e5,hσ⟩ next;rw [List.getElem?_map] at hx hy;obtain ⟨a1,ha1,rfl⟩:=Option.map_eq_some_iff.mp hx;obtain ⟨b1,hb1,rfl⟩:=Option.map_eq_some_iff.mp hy;have n4:l4≠T:=aj e5 hT;have hz:(ns.zip (ns.drop 1))[i]?=some (a1,b1):=List.getElem?_zip_eq_some.mpr ⟨ha1,hb1⟩;have li:=(List.getElem?_eq_some_iff.mp hz).1;rw [List.length_zip] at li
      match σ,hσ with
      | [_,_],_ =>
       refine ⟨T,_,rfl,.inl (.inl ac),rfl,_,_,rfl,_,_,rfl,rfl,?_⟩;refine ⟨_,rfl,_,rfl,_,_,rfl,rfl,by rw [ah n4];exact e5,?_,next _ _ _ ⟨?_,?_,ac,rfl⟩⟩
       ·simp only [bls,List.length_map,List.length_take];exact ao (by lia)
       ·show List.map V.bl _++[V.bl (decide (ltS a1 b1))]=List.map V.bl _;rw [List.map_map,List.map_map];exact bz (V.bl ∘ fun p:Str×Str=>decide (ltS p.1 p.2)) hz
       ·exact aU hl4 (g5.trans (ag hT _))
     ·rintro us σ H5 ⟨rfl,g5,e5,hσ⟩;rw [List.length_map,List.length_map,← List.length_zip,List.take_length] at e5;refine ⟨l4,_,rfl,rfl,SqL.of e5,?_⟩;rw [List.all_map];exact q H5 (((g.trans g2).trans g4).trans g5)
def gO (K:PySem.W.Frag) (_:Ads):Sp:=fun vs H Q _=>∃ (fs:List Dt) (key:Dt) (x y:V),vs=[x,y]∧IsP K H (.tup [.str "record",.tup fs]) x∧IsP K H key y∧(∀ d∈fs,∃ z k,d=.tup [.str z,k])∧tR K H (cE fs key) Q
theorem lN {fs:List Dt} {key:Dt} (h:∀ d∈fs,kC key d=false):cE fs key=none:=by
 unfold cE;rw [List.find?_eq_none.mpr (fun d hd=>by rw [h d hd];exact Bool.false_ne_true)]
theorem kG {fs:List Dt} {key o k:Dt} {i:Nat} (h:fs[i]?=some (.tup [o,k])) (hk:eqD o key=true) (pre:∀ j d,j < i→fs[j]?=some d→kC key d=false):cE fs key=some k:=by
 have e:fs.find? (kC key)=some (.tup [o,k]):=by
  obtain ⟨li,ei⟩:=List.getElem?_eq_some_iff.mp h;rw [List.find?_eq_some_iff_getElem];refine ⟨hk,i,li,ei,fun j hj=>?_⟩;have:=pre j _ hj (List.getElem?_eq_getElem (Nat.lt_trans hj li));rw [this]
  rfl
 unfold cE;rw [e]
theorem gP (T:Tx K mg ad) {f:Addr} {fd:FuncData} (F:Gn K mg "field_kind" cy ["kind","name"] f fd):FnOk P w K mg base CX0 1 f fd ["kind","name"] (gO K ad):=by
 refine F.F.ok b7 (fun vs H Q E h=>?_) (fun cdv A outer s H vs Q E hr h=>?_)
 ·obtain ⟨fs,key,x,y,rfl,_⟩:=h
  rfl
 obtain ⟨fs,key,x,y,rfl,hd,hk,prs,q'⟩:=h;refine ⟨_,(@pss_cons _ _ _ _ _ (@ps_if _ _ _ _ _ _ _ _ (pt_cmpR op_ne (@pi1 K _ _ _ _ _ _ _ rfl (pv 0)) pe_str (nomark _)) (@pss_one _ _ _ (@ps_ret _ _ _ _ pe_non)) pss_nil) (@pss_cons _ _ _ _ _ (eC PassesOwn.never rfl (be (K:=K) rfl (@pi1 K _ _ _ _ _ _ _ rfl (pv 0))) (pg_tup rfl (pgs_cons (pg_name (i:=2) b7.nd rfl (Or.inl rfl)) (pgs_cons (pg_name (i:=3) b7.nd rfl (Or.inl rfl)) bG)))
    (@pss_one _ _ _ (@ps_if _ _ _ _ _ _ _ _ (pt_cmpR (qh (K:=K) rfl hr.units) (pv 2) (pv 1) (nomark _)) (@pss_one _ _ _ (@ps_ret _ _ _ _ (pv 3))) pss_nil))) (@pss_one _ _ _ (@ps_ret _ _ _ _ pe_non)))),?_⟩
 refine ⟨_,rfl,_,_,_,hd,rfl,rfl,isS ?_⟩;refine ⟨rfl,_,rfl,mo ⟨_,rfl,_,_,_,hd,rfl,rfl,fun v hv=>?_⟩⟩;obtain ⟨a,xs,rfl,ha,pa,ra⟩:=hv.unref;have el:=ra.length;refine ⟨a,rfl,⟨xs,ha⟩,pF (xs:=xs) (fun i σ H'=>H'=H∧(∀ j d,j < i→fs[j]?=some d→kC key d=false)∧∃ v1 v2,σ=[some x,some y,v1,v2]) ⟨rfl,fun j f hj=>absurd hj (Nat.not_lt_zero _),_,_,rfl⟩ (fun i σ H' _ p=>p.1 ▸ ha) ?_ ?_⟩
 ·rintro i u σ H' hu ⟨rfl,pre,v1,v2,rfl⟩;obtain ⟨e,he,hp⟩:=ra.get' hu;obtain ⟨z,k,rfl⟩:=prs e (List.mem_of_getElem? he);obtain ⟨b,x1,y2,rfl,hb,hp1,hp2⟩:=iy hp;refine ⟨b,_,rfl,hb,rfl,_,_,rfl,_,_,rfl,rfl,?_⟩;refine ⟨_,rfl,_,rfl,.str z,key,hp1.d,hk.d,(by show 0≤60;decide),_,rfl,aA (fun c=>?_) (fun c=>?_)⟩
  ·rw [kG he c pre] at q';exact ⟨_,rfl,q' _ hp2⟩
  ·refine ⟨rfl,fun j f hj hjf=>?_,_,_,rfl⟩;rcases Nat.lt_succ_iff_lt_or_eq.mp hj with h1 | h1
   ·exact pre j f h1 hjf
   ·subst h1;rw [he] at hjf;obtain rfl:=Option.some.inj hjf;exact Bool.eq_false_iff.mpr c
 ·rintro σ H' ⟨rfl,pre,v1,v2,rfl⟩;rw [lN (fun d hd=>by
   obtain ⟨j,hj,e⟩:=List.mem_iff_getElem.mp hd;exact pre j d (by lia) (by rw [List.getElem?_eq_getElem hj,e]))] at q'
  exact q'
theorem rY (w:Str):inV (.str w) [.str "number",.str "text"]=(decide (w= "number") || decide (w= "text")):=by
 have e:∀ a:Str,eqV (.str a) (.str w)=decide (w=a):=fun a=>by
  show (a == w)=decide (w=a);rw [Bool.eq_iff_iff,decide_eq_true_iff,beq_iff_eq];exact ⟨Eq.symm,Eq.symm⟩
 show (eqV (.str "number") (.str w) || (eqV (.str "text") (.str w) || false))=_;rw [e,e,Bool.or_false]
theorem bh (d:Dt):am 0 d=false:=by simp [am]
theorem gn {r:Nat} {d:Dt} (h:am r d=true):∃ u l,d=.tup (.str u :: l):=by
 unfold am at h
 split at h <;> first | exact ⟨_,_,rfl⟩ | cases h
theorem oW {r:Nat} {l:List Dt} (h:am r (.tup (.str "record" :: l))=true):∃ r' fs,r=r' + 1∧l=[.tup fs]∧fs.all (aP (am r'))=true:=by
 cases r with
 | zero=>rw [bh] at h;cases h
 | succ r =>
  match l with
  | []=>cases h
  | [a] =>
   have h':jc (am r) a=true:=h
   cases a with
   | tup fs =>
    have h2:(decide (fs.length≤8) && fs.all (aP (am r)) && nu (fs.map nmD))=true:=h';rw [Bool.and_eq_true,Bool.and_eq_true] at h2;exact ⟨r,fs,rfl,rfl,h2.1.2⟩
   | _=>cases h'
  | [a,b]=>cases h
  | [a,b,c]=>cases h
  | a :: b :: c :: e :: l=>cases h
theorem qm {f:Dt→Bool} {key:Dt} {u:Str} {l:List Dt} (h:u≠ "record"):cN f key (.tup (.str u :: l))=false:=by
 unfold cN
 split
 ·rename_i e
  injection e with e
  injection e with e _
  injection e with e
  subst e;rw [decide_eq_false h,Bool.false_and,Bool.and_false]
 ·exact Bool.and_false _
theorem oX {fs:List Dt} {key k:Dt} (h:cE fs key=some k):∃ o,.tup [o,k]∈fs:=by
 unfold cE at h
 split at h
 ·rename_i o k' e
  obtain rfl:=Option.some.inj h;exact ⟨o,List.mem_of_find?_eq_some e⟩
 ·cases h
theorem kH (T:Tx K mg ad) {f ff:Addr} {fd fdf:FuncData} (n:Nat) (F:Gn K mg "are_rows" bO ["key","items","room"] f fd) (uJ:Gn K mg "is_formed" bj ["thing","room"] ff fdf)
  (uN:FnOk P w K mg base CX0 (3*n+3) ff fdf ["thing","room"] (kE K n)):FnOk P w K mg base CX0 (3*n+3+1) f fd ["key","items","room"] (oV K n):=by
 obtain ⟨_,_,vH⟩:=T.field_kind;have vW:=gP (P:=P) (w:=w) (base:=base) T vH;refine F.F.ok sc_are_rows (fun vs H Q E h=>?_) (fun cdv A outer s H vs Q E hr h=>?_)
 ·obtain ⟨r,key,items,x,y,_,rfl,_⟩:=h
  rfl
 obtain ⟨r,key,items,x,y,hrn,rfl,hx,hy,okk,oki,q⟩:=h;refine ⟨_,(@pss_cons _ _ _ _ _ (@ps_if _ _ _ _ _ _ _ _ (PW.pt (@pw_or _ _ _ _ _ _ _ (@pt_not _ _ _ _ (@pt_val _ _ _ (pcl uJ uN (hr.mono (by lia)) rfl (@pa2 _ _ _ _ _ (pv 1) (pv 2) (by rfl) (by rfl))) (by intro _;rfl))) (@pw_or1 _ _ _ _ (pt_cmpR op_ne (@pi1 K _ _ _ _ _ _ _ rfl (pv 1)) pe_str (nomark _))))) (@pss_one _ _ _ (@ps_ret _ _ _ _ pe_bl)) pss_nil) (@pss_cons _ _ _ _ _ (@ps_set _ _ 3 _ _ _ _ sc_are_rows.nd rfl (Or.inl rfl) (pcl vH vW (hr.mono (by lia)) rfl (@pa2 _ _ _ _ _ (pv 1) (pv 0) (by rfl) (by rfl))) (by rfl) (by first | exact .inl rfl | exact .inr rfl | assumption)) (@pss_one _ _ _ (@ps_ret _ _ _ _ (pe_and (pe_cmpR op_notN (pv 3) pe_non (nomark _)) (pe_one (pe_cmpR (op_in_seqK (K:=K) rfl) (@pi1 K _ _ _ _ _ _ _ rfl (pv 3)) (@pe_tupPK _ K _ _ _ _ rfl (@pa2 _ _ _ _ _ pe_str pe_str (by rfl) (by rfl))) rfl))))))),?_⟩;refine ⟨_,rfl,_,rfl,r,items,y,hrn,rfl,hy,oki,fun H1 g1=>⟨_,rfl,?_⟩⟩
 cases hb:am r items with
 | false =>
  have e:cN (am r) key items=false:=by unfold cN;rw [hb,Bool.false_and]
  rw [e] at q;exact ax (ax (q H1 g1))
 | true =>
  obtain ⟨u,l,rfl⟩:=gn hb;refine aV ?_;refine ⟨_,rfl,_,_,_,hy.same g1,rfl,at0 _ _,fun v hv=>?_⟩;obtain rfl:=aL hv;refine ⟨rfl,_,rfl,?_⟩
  by_cases hu:u= "record"
  ·subst hu;obtain ⟨r',fs,rfl,rfl,hall⟩:=oW hb;have e:cN (am (r' + 1)) key (.tup [.str "record",.tup fs])=mn (cE fs key):=by
    unfold cN;rw [hb]
    rfl
   rw [e] at q;refine mo ?_;refine ⟨_,rfl,_,rfl,fs,key,y,x,rfl,hy.same g1,hx.same g1,fun d hd=>?_,?_⟩
   ·obtain ⟨z,k,rfl,_⟩:=dD (List.all_eq_true.mp hall d hd);exact ⟨z,k,rfl⟩
   cases hl:cE fs key with
   | none =>
    rw [hl] at q;exact ⟨_,rfl,rfl,_,rfl,aV (q H1 g1)⟩
   | some k =>
    rw [hl] at q;obtain ⟨o,hm⟩:=oX hl;obtain ⟨z,k',e2,_,fk⟩:=dD (List.all_eq_true.mp hall _ hm);injection e2 with e2
    injection e2 with e2 e3
    injection e3 with e3 _
    subst e3;obtain ⟨w1,l1,rfl⟩:=gn fk;intro v hv;obtain ⟨av,xv,rfl,_⟩:=id hv.unref;refine ⟨_,rfl,rfl,_,rfl,?_⟩;rw [decide_eq_false (show ¬ (V.ref av=V.non) by intro z;cases z)];refine ax ?_;refine ⟨_,rfl,_,_,_,hv,rfl,at0 _ _,isS ?_⟩;refine ⟨[.str "number",.str "text"],.cons .str (.cons .str .nil),sz2,fun v3 H3 g3 hv3=>?_⟩;obtain ⟨a3,x3,rfl,hT3,_,r3⟩:=id hv3.unref;obtain rfl:=bA (ws:=["number","text"]) r3;refine ⟨a3,_,rfl,.inr hT3,rfl,rfl,?_⟩;show Q (.bl (inV (.str w1) [.str "number",.str "text"])) H3;rw [rY];exact q H3 (g1.trans g3)
  ·rw [qm hu] at q;exact oS (af hu) (q H1 g1)
theorem kI {d:Dt} (h:bL d=true):(∃ a b,d=.tup [.str "number",a,b])∨(∃ a,d=.tup [.str "text",a])∨(∃ a,d=.tup [.str "choice",a])∨(∃ a b,d=.tup [.str "list",a,b])∨(∃ a,d=.tup [.str "record",a])∨(∃ a b c,d=.tup [.str "rows",a,b,c]):=by
 unfold bL at h
 split at h
 ·rename_i u l
  have h:=of_decide_eq_true h;have l1:∀ {l:List Dt},(2:Int)=((l.length+1:Nat):Int)→∃ a,l=[a]:=fun {l} e=>by
   match l with
   | []=>exact absurd e (by decide)
   | [a]=>exact ⟨a,rfl⟩
   | a :: b :: l=>exact absurd e (by simp only [List.length_cons];lia)
  have l2:∀ {l:List Dt},(3:Int)=((l.length+1:Nat):Int)→∃ a b,l=[a,b]:=fun {l} e=>by
   match l with
   | []=>exact absurd e (by decide)
   | [a]=>exact absurd e (by simp only [List.length_cons,List.length_nil];lia)
   | [a,b]=>exact ⟨a,b,rfl⟩
   | a :: b :: c :: l=>exact absurd e (by simp only [List.length_cons];lia)
  have l3:∀ {l:List Dt},(4:Int)=((l.length+1:Nat):Int)→∃ a b c,l=[a,b,c]:=fun {l} e=>by
   match l with
   | []=>exact absurd e (by decide)
   | [a]=>exact absurd e (by simp only [List.length_cons,List.length_nil];lia)
   | [a,b]=>exact absurd e (by simp only [List.length_cons,List.length_nil];lia)
   | [a,b,c]=>exact ⟨a,b,c,rfl⟩
   | a :: b :: c :: d :: l=>exact absurd e (by simp only [List.length_cons];lia)
  by_cases e1:u= "number"
  ·subst e1;obtain ⟨a,b,rfl⟩:=l2 (V.int.inj h);exact .inl ⟨a,b,rfl⟩
  by_cases e2:u= "text"
  ·subst e2;obtain ⟨a,rfl⟩:=l1 (V.int.inj h);exact .inr (.inl ⟨a,rfl⟩)
  by_cases e3:u= "choice"
  ·subst e3;obtain ⟨a,rfl⟩:=l1 (V.int.inj h);exact .inr (.inr (.inl ⟨a,rfl⟩))
  by_cases e4:u= "list"
  ·subst e4;obtain ⟨a,b,rfl⟩:=l2 (V.int.inj h);exact .inr (.inr (.inr (.inl ⟨a,b,rfl⟩)))
  by_cases e5:u= "record"
  ·subst e5;obtain ⟨a,rfl⟩:=l1 (V.int.inj h);exact .inr (.inr (.inr (.inr (.inl ⟨a,rfl⟩))))
  by_cases e6:u= "rows"
  ·subst e6;obtain ⟨a,b,c,rfl⟩:=l3 (V.int.inj h);exact .inr (.inr (.inr (.inr (.inr ⟨a,b,c,rfl⟩))))
  exfalso
  simp only [mm,bv,e1,e2,e3,e4,e5,e6,if_false] at h
  cases h
 ·cases h
theorem rZ:bv "number" [("number",3),("text",2),("choice",2),("list",3),("record",2),("rows",4)]=.int 3:=by decide +kernel
theorem r9:bv "text" [("number",3),("text",2),("choice",2),("list",3),("record",2),("rows",4)]=.int 2:=by decide +kernel
theorem sh:bv "choice" [("number",3),("text",2),("choice",2),("list",3),("record",2),("rows",4)]=.int 2:=by decide +kernel
theorem sj:bv "list" [("number",3),("text",2),("choice",2),("list",3),("record",2),("rows",4)]=.int 3:=by decide +kernel
theorem sk:bv "record" [("number",3),("text",2),("choice",2),("list",3),("record",2),("rows",4)]=.int 2:=by decide +kernel
theorem sq:bv "rows" [("number",3),("text",2),("choice",2),("list",3),("record",2),("rows",4)]=.int 4:=by decide +kernel
theorem lO {r:Nat} {d:Dt} (h:bL d=false):am r d=false:=by
 cases hb:am r d with
 | false=>rfl
 | true =>
  exfalso
  unfold am at hb
  split at hb
  ·cases hb
  ·rename_i u a
   split at hb
   ·subst_vars
    rw [show bL (.tup [.str "text",a])=true from decide_eq_true r9] at h
    cases h
   ·split at hb
    ·subst_vars
     rw [show bL (.tup [.str "choice",a])=true from decide_eq_true sh] at h
     cases h
    ·split at hb
     ·subst_vars
      rw [show bL (.tup [.str "record",a])=true from decide_eq_true sk] at h
      cases h
     ·cases hb
  ·rename_i u a b
   split at hb
   ·subst_vars
    rw [show bL (.tup [.str "number",a,b])=true from decide_eq_true rZ] at h
    cases h
   ·split at hb
    ·subst_vars
     rw [show bL (.tup [.str "list",a,b])=true from decide_eq_true sj] at h
     cases h
    ·cases hb
  ·rename_i u a b c
   split at hb
   ·subst_vars
    rw [show bL (.tup [.str "rows",a,b,c])=true from decide_eq_true sq] at h
    cases h
   ·cases hb
  ·cases hb
theorem jk (T:Tx K mg ad) {f ff fr:Addr} {fd fdf fdr:FuncData} (n:Nat) (uJ:Gn K mg "is_formed" bj ["thing","room"] f fd) (vY:Gn K mg "are_fields" a9 ["fields","room"] ff fdf) (wz:Gn K mg "are_rows" bO ["key","items","room"] fr fdr)
  (uN:FnOk P w K mg base CX0 (3*n+3) f fd ["thing","room"] (kE K n)) (wc:FnOk P w K mg base CX0 (3*n+5) ff fdf ["fields","room"] (mq K n)) (wn:FnOk P w K mg base CX0 (3*n+4) fr fdr ["key","items","room"] (oV K n)) :
  FnOk P w K mg base CX0 (3*n+5+1) f fd ["thing","room"] (kE K (n+1)):=by
 obtain ⟨_,_,vN⟩:=T.has_parts;have wj:=jj (P:=P) (w:=w) (base:=base) T vN;obtain ⟨_,_,uT⟩:=T.are_bounds;have vp:=dj (P:=P) (w:=w) (base:=base) T uT;obtain ⟨_,_,uH⟩:=T.is_whole_within;have uL:=bM (P:=P) (w:=w) (base:=base) T uH;obtain ⟨_,_,uU⟩:=T.are_words;have vz:=dX (P:=P) (w:=w) (base:=base) T uU;obtain ⟨t_MOST_SIGNS,c_MOST_SIGNS⟩:=T.MOST_SIGNS;obtain ⟨t_MOST_ITEMS,c_MOST_ITEMS⟩:=T.MOST_ITEMS;refine uJ.F.ok sc_is_formed (fun vs H Q E h=>?_) (fun cdv A outer s H vs Q E hr h=>?_)
 ·obtain ⟨r,d,x,_,rfl,_⟩:=h
  rfl
 obtain ⟨r,d,x,hrn,rfl,hd,ok,q⟩:=h;refine ⟨_,(@pss_cons _ _ _ _ _ (@ps_if _ _ _ _ _ _ _ _ (PW.pt (@pw_or _ _ _ _ _ _ _ (pt_cmpR op_eq (pv 1) pe_int (nomark _)) (@pw_or1 _ _ _ _ (@pt_not _ _ _ _ (@pt_val _ _ _ (pcl vN wj (hr.mono (by lia)) rfl (@pa1 _ _ _ (pv 0) (by rfl))) (by intro _;rfl)))))) (@pss_one _ _ _ (@ps_ret _ _ _ _ pe_bl)) pss_nil) (@pss_cons _ _ _ _ _ (@ps_set _ _ 2 _ _ _ _ sc_is_formed.nd rfl (Or.inl rfl) (@pi1 K _ _ _ _ _ _ _ rfl (pv 0)) (by rfl) (by first | exact .inl rfl | exact .inr rfl | assumption)) (@pss_cons _ _ _ _ _ (@ps_if _ _ _ _ _ _ _ _ (pt_cmpR op_eq (pv 2) pe_str (nomark _)) (@pss_one _ _ _ (@ps_ret _ _ _ _ (pcl uT vp (hr.mono (by lia)) rfl (@pa2 _ _ _ _ _ (@pi1 K _ _ _ _ _ _ _ rfl (pv 0)) (@pi1 K _ _ _ _ _ _ _ rfl (pv 0)) (by rfl) (by rfl))))) pss_nil) (@pss_cons _ _ _ _ _ (@ps_if _ _ _ _ _ _ _ _ (pt_cmpR op_eq (pv 2) pe_str (nomark _)) (@pss_one _ _ _ (@ps_ret _ _ _ _ (pcl uH uL (hr.mono (by lia)) rfl (@pa3 _ _ _ _ _ _ _ (@pi1 K _ _ _ _ _ _ _ rfl (pv 0)) pe_int (pe_gint rfl c_MOST_SIGNS) (by rfl) (by rfl) (by rfl))))) pss_nil) (@pss_cons _ _ _ _ _ (@ps_if _ _ _ _ _ _ _ _ (pt_cmpR op_eq (pv 2) pe_str (nomark _)) (@pss_one _ _ _ (@ps_ret _ _ _ _ (pcl uU vz (hr.mono (by lia)) rfl (@pa1 _ _ _ (@pi1 K _ _ _ _ _ _ _ rfl (pv 0)) (by rfl))))) pss_nil) (@pss_cons _ _ _ _ _ (@ps_if _ _ _ _ _ _ _ _ (pt_cmpR op_eq (pv 2) pe_str (nomark _)) (@pss_one _ _ _ (@ps_ret _ _ _ _ (pe_and (pcl uJ uN (hr.mono (by lia)) rfl (@pa2 _ _ _ _ _ (@pi1 K _ _ _ _ _ _ _ rfl (pv 0)) (@pe_op _ _ _ _ _ _ _ _ op_sub (pv 1) pe_int) (by rfl) (by rfl))) (pe_one (pcl uH uL (hr.mono (by lia)) rfl (@pa3 _ _ _ _ _ _ _ (@pi1 K _ _ _ _ _ _ _ rfl (pv 0)) pe_int (pe_gint rfl c_MOST_ITEMS) (by rfl) (by rfl) (by rfl))))))) pss_nil) (@pss_cons _ _ _ _ _ (@ps_if _ _ _ _ _ _ _ _ (pt_cmpR op_eq (pv 2) pe_str (nomark _)) (@pss_one _ _ _ (@ps_ret _ _ _ _ (pcl vY wc (hr.mono (by lia)) rfl (@pa2 _ _ _ _ _ (@pi1 K _ _ _ _ _ _ _ rfl (pv 0)) (@pe_op _ _ _ _ _ _ _ _ op_sub (pv 1) pe_int) (by rfl) (by rfl))))) pss_nil) (@pss_one _ _ _ (@ps_ret _ _ _ _ (pe_and (pcl wz wn (hr.mono (by lia)) rfl (@pa3 _ _ _ _ _ _ _ (@pi1 K _ _ _ _ _ _ _ rfl (pv 0)) (@pi1 K _ _ _ _ _ _ _ rfl (pv 0)) (@pe_op _ _ _ _ _ _ _ _ op_sub (pv 1) pe_int) (by rfl) (by rfl) (by rfl))) (pe_one (pcl uH uL (hr.mono (by lia)) rfl (@pa3 _ _ _ _ _ _ _ (@pi1 K _ _ _ _ _ _ _ rfl (pv 0)) pe_int (pe_gint rfl c_MOST_ITEMS) (by rfl) (by rfl) (by rfl)))))))))))))),?_⟩;refine ⟨_,rfl,rfl,_,rfl,?_⟩
 cases r with
 | zero =>
  rw [bh] at q;exact a5 (ax (q H (Same.refl H)))
 | succ r =>
  refine iteN (fun z=>by have:=V.int.inj z;lia) ?_;have e1:(((r+1:Nat):Int)) - 1=(r:Int):=by lia
  refine ⟨_,rfl,d,x,rfl,hd,ok,_,rfl,?_⟩
  cases hb:bL d with
  | false =>
   rw [lO hb] at q;exact ax (q H (Same.refl H))
  | true =>
   refine aV ?_;rcases kI hb with ⟨a,b,rfl⟩ | ⟨a,rfl⟩ | ⟨a,rfl⟩ | ⟨a,b,rfl⟩ | ⟨a,rfl⟩ | ⟨a,b,c,rfl⟩
   ·refine ⟨_,rfl,_,_,_,hd,rfl,rfl,isS ?_⟩;refine ⟨_,rfl,rfl,_,rfl,a5 ?_⟩;refine ⟨_,rfl,_,_,_,hd,rfl,rfl,fun va hva=>?_⟩;refine ⟨_,rfl,_,_,_,hd,rfl,rfl,fun vb hvb=>?_⟩;exact ⟨a,b,va,vb,rfl,hva,hvb,aO ok a (by simp),aO ok b (by simp),q H (Same.refl H)⟩
   ·refine ⟨_,rfl,_,_,_,hd,rfl,rfl,isS ?_⟩;refine ⟨_,rfl,rfl,_,rfl,iteN (af (by decide)) ?_⟩;refine ⟨_,rfl,rfl,_,rfl,a5 ?_⟩;refine ⟨_,rfl,_,_,_,hd,rfl,rfl,fun va hva=>?_⟩;exact ⟨a,va,0,60,rfl,hva,aO ok a (by simp),q H (Same.refl H)⟩
   ·refine ⟨_,rfl,_,_,_,hd,rfl,rfl,isS ?_⟩;refine ⟨_,rfl,rfl,_,rfl,iteN (af (by decide)) ?_⟩;refine ⟨_,rfl,rfl,_,rfl,iteN (af (by decide)) ?_⟩;refine ⟨_,rfl,rfl,_,rfl,a5 ?_⟩;refine ⟨_,rfl,_,_,_,hd,rfl,rfl,fun va hva=>?_⟩;exact ⟨a,va,rfl,hva,aO ok a (by simp),q⟩
   ·replace q:∀ H',Same H H'→Q (.bl (am r a && aN b 0 8)) H':=q;refine ⟨_,rfl,_,_,_,hd,rfl,rfl,isS ?_⟩;refine ⟨_,rfl,rfl,_,rfl,iteN (af (by decide)) ?_⟩;refine ⟨_,rfl,rfl,_,rfl,iteN (af (by decide)) ?_⟩;refine ⟨_,rfl,rfl,_,rfl,iteN (af (by decide)) ?_⟩;refine ⟨_,rfl,rfl,_,rfl,a5 ?_⟩;refine ⟨_,rfl,_,_,_,hd,rfl,rfl,fun va hva=>?_⟩;refine ⟨_,rfl,_,_,rfl,rfl,r,a,va,by lia,(by show [va,V.int (((r+1:Nat):Int) - 1)]=_;rw [e1]),hva,aO ok a (by simp),fun H1 g1=>⟨_,rfl,?_⟩⟩
    cases hf:am r a with
    | false =>
     rw [hf,Bool.false_and] at q;exact aV (q H1 g1)
    | true =>
     rw [hf,Bool.true_and] at q;refine ax ?_;refine ⟨_,rfl,_,_,_,hd.same g1,rfl,rfl,fun vb hvb=>?_⟩;exact ⟨b,vb,0,8,rfl,hvb,aO ok b (by simp),q H1 g1⟩
   ·refine ⟨_,rfl,_,_,_,hd,rfl,rfl,isS ?_⟩;refine ⟨_,rfl,rfl,_,rfl,iteN (af (by decide)) ?_⟩;refine ⟨_,rfl,rfl,_,rfl,iteN (af (by decide)) ?_⟩;refine ⟨_,rfl,rfl,_,rfl,iteN (af (by decide)) ?_⟩;refine ⟨_,rfl,rfl,_,rfl,iteN (af (by decide)) ?_⟩;refine ⟨_,rfl,rfl,_,rfl,a5 ?_⟩;refine ⟨_,rfl,_,_,_,hd,rfl,rfl,fun va hva=>?_⟩;exact ⟨_,rfl,_,_,rfl,rfl,r,a,va,by lia,(by show [va,V.int (((r+1:Nat):Int) - 1)]=_;rw [e1]),hva,aO ok a (by simp),q⟩
   ·replace q:∀ H',Same H H'→Q (.bl (cN (am r) a b && aN c 0 8)) H':=q;refine ⟨_,rfl,_,_,_,hd,rfl,rfl,isS ?_⟩;refine ⟨_,rfl,rfl,_,rfl,iteN (af (by decide)) ?_⟩;refine ⟨_,rfl,rfl,_,rfl,iteN (af (by decide)) ?_⟩;refine ⟨_,rfl,rfl,_,rfl,iteN (af (by decide)) ?_⟩;refine ⟨_,rfl,rfl,_,rfl,iteN (af (by decide)) ?_⟩;refine ⟨_,rfl,rfl,_,rfl,iteN (af (by decide)) ?_⟩;refine ⟨_,rfl,_,_,_,hd,rfl,rfl,fun va hva=>?_⟩;refine ⟨_,rfl,_,_,_,hd,rfl,rfl,fun vb hvb=>?_⟩;refine ⟨_,rfl,_,_,rfl,rfl,r,a,b,va,vb,by lia,(by show [va,vb,V.int (((r+1:Nat):Int) - 1)]=_;rw [e1]),hva,hvb,aO ok a (by simp),aO ok b (by simp),fun H1 g1=>⟨_,rfl,?_⟩⟩
    cases hf:cN (am r) a b with
    | false =>
     rw [hf,Bool.false_and] at q;exact aV (q H1 g1)
    | true =>
     rw [hf,Bool.true_and] at q;refine ax ?_;refine ⟨_,rfl,_,_,_,hd.same g1,rfl,rfl,fun vc hvc=>?_⟩;exact ⟨c,vc,0,8,rfl,hvc,aO ok c (by simp),q H1 g1⟩
theorem gp (T:Tx K mg ad) {f ff fr fi:Addr} {fd fdf fdr fdi:FuncData} (A:Gn K mg "is_formed" bj ["thing","room"] f fd) (B:Gn K mg "are_fields" a9 ["fields","room"] ff fdf) (C:Gn K mg "are_rows" bO ["key","items","room"] fr fdr) (D:Gn K mg "is_field" bN ["field","room"] fi fdi) :
  ∀ n,FnOk P w K mg base CX0 (3*n+3) f fd ["thing","room"] (kE K n)
 | 0=>bH fun vs H Q E z=>by obtain ⟨_,_,_,e,_⟩:=z;lia
 | n+1=>by
  have a:=gp T A B C D n;exact jk T n A B C a (gN T n B D (kF T n D A a)) (kH T n C A a)
theorem qo {a c:Nat} {d:Dt} (h:FK a c d):∃ w l,d=.tup (.str w :: l):=by
 cases h <;> exact ⟨_,_,rfl⟩
theorem oY {K:PySem.W.Frag} {H:Hp} {z:Str} {d:Dt} {v:V} (h:IsP K H (prD (z,d)) v):∃ b y,v=.ref b∧SqT K H b [.str z,y]∧IsP K H d y:=by
 obtain ⟨b,ys,rfl,hb,pb,rb⟩:=h.unref
 cases rb with
 | cons r1 rb =>
  cases rb with
  | @cons _ _ y2 _ r2 rb =>
   cases rb
   obtain rfl:=aL r1;exact ⟨b,_,rfl,hb,r2⟩
theorem mr {z:Str} (h:aZ z=true):okD (.str z)=true:=by
 simp only [aZ,Bool.and_eq_true,decide_eq_true_eq] at h;exact decide_eq_true (by lia)
theorem bq {ws:List Str} (h:bE ws=true):1≤ws.length∧ws.length≤8∧ws.all aZ=true∧ws.Nodup:=by
 simp only [bE,Bool.and_eq_true,decide_eq_true_eq] at h;exact ⟨h.1.1.1,h.1.1.2,h.1.2,h.2⟩
theorem gq {ws:List Str} (h:ws.Nodup):ix ws=ws.length:=by
 unfold ix L2.eG;rw [List.take_length,ml,List.length_reverse,List.length_map];exact List.pairwise_reverse.mpr (List.Pairwise.map _ (fun a b n e=>n (Sum.inr.inj e).symm) h)
theorem lP {a b:Dt} (ha:okD a=true) (hb:okD b=true):okD (.tup [a,b])=true:=by
 show (okD a && (okD b && true))=true;rw [ha,hb]
 rfl
theorem iz {a c:Nat} {d:Dt} (h:FK a c d):okD d=true:=by
 induction h with
 | text i=>rfl
 | choice ws hw =>
  obtain ⟨_,_,hn,_⟩:=bq hw;refine lP (by decide +kernel) (lL fun d hd=>?_);obtain ⟨z,hz,rfl⟩:=List.mem_map.mp hd;exact mr (List.all_eq_true.mp hn z hz)
 | number i j=>rfl
 | list g _ _ ih =>
  show (okD (.str "list") && (okD _ && (true && true)))=true;rw [ih]
  decide +kernel
 | @rows a c z l i g hz _ _ ih =>
  have hl:iZ l=true:=by
   have:(okD (.str "record") && (iZ l && true))=true:=ih;rw [Bool.and_eq_true,Bool.and_true] at this;exact this.2
  obtain ⟨w1,l1,hm,_⟩:=hz;have h2:(okD (.str z) && iZ [.tup (.str w1 :: l1)])=true:=aO hl _ hm;rw [Bool.and_eq_true] at h2;show (okD (.str "rows") && (okD (.str z) && (okD (.tup [.str "record",.tup l]) && (true && true))))=true;rw [h2.1,ih]
  decide +kernel
 | @rcd gs g hs hn hl ih =>
  refine lP (by decide +kernel) (lL fun d hd=>?_);obtain ⟨u,hu,rfl⟩:=List.mem_map.mp hd;exact lP (mr (hn u hu)) (ih u hu)
theorem sr {a c:Nat} {l:List Dt} (h:FK a c (.tup [.str "record",.tup l])):∃ gs:List G4,l=gs.map prG∧a=gL (gs.map (·.2.2.1))+1∧c=sumN (gs.map (·.2.2.2))+1∧(∀ g∈gs,FK g.2.2.1 g.2.2.2 g.2.1)∧(gs.map (·.1)).Pairwise ltS∧(∀ g∈gs,aZ g.1=true)∧gs.length≤8:=by
 cases h with
 | rcd h1 h2 h3 h4=>exact ⟨_,rfl,rfl,rfl,h1,h2,(fun g hg=>(h3 g hg)),h4⟩
theorem tU {gs:List G4} (nd:(gs.map (·.1)).Pairwise ltS) {g:G4} (h:g∈gs):cE (gs.map prG) (.str g.1)=some g.2.1:=by
 obtain ⟨i,hi,e⟩:=List.mem_iff_getElem.mp h;have e1:gs[i]?=some g:=by rw [List.getElem?_eq_getElem hi,e]
 refine kG (i:=i) (o:=.str g.1) (by rw [List.getElem?_map,e1];rfl) (f8 _) fun j d hj hf=>?_;rw [List.getElem?_map] at hf;obtain ⟨g',hg',rfl⟩:=Option.map_eq_some_iff.mp hf;have hjl:=(List.getElem?_eq_some_iff.mp hg').1;have nd':=oR nd;show (g'.1 == g.1)=false;rw [beq_eq_false_iff_ne];intro c;have f1:(gs.map (·.1))[j]'(by simpa using hjl)=g.1:=by
  rw [List.getElem_map,(List.getElem?_eq_some_iff.mp hg').2];exact c
 have f2:(gs.map (·.1))[i]'(by simpa using hi)=g.1:=by
  rw [List.getElem_map,(List.getElem?_eq_some_iff.mp e1).2]
 exact List.pairwise_iff_getElem.mp nd' j i (by simpa using hjl) (by simpa using hi) hj (f1.trans f2.symm)
theorem oZ:∀ {ns:List Str},ns.Pairwise ltS→nu ns=true
 | [],_=>rfl
 | [_],_=>rfl
 | a :: b :: l,h=>by
  have h':=List.pairwise_cons.mp h;have:=oZ h'.2;unfold nu at this ⊢;rw [List.drop_one,List.tail_cons,List.zip_cons_cons,List.all_cons,Bool.and_eq_true];exact ⟨decide_eq_true (h'.1 b List.mem_cons_self),this⟩
theorem qp {a c:Nat} {d:Dt} (h:FK a c d):∀ n,am n d=decide (a≤n):=by
 induction h with
 | text i h1 h2 =>
  intro n
  cases n with
  | zero=>rw [bh];rfl
  | succ n =>
   show aN (.int i) 0 60=_;simp [aN,h1,h2]
 | choice ws hw =>
  obtain ⟨h1,h2,hn,nd⟩:=bq hw;intro n
  cases n with
  | zero=>rw [bh];rfl
  | succ n =>
   show (decide (1≤(ws.map Dt.str).length) && decide ((ws.map Dt.str).length≤8) && (ws.map Dt.str).all ba && decide (ix ((ws.map Dt.str).map kB)=(ws.map Dt.str).length))=_;have e1:(ws.map Dt.str).map kB=ws:=by rw [List.map_map];exact List.map_id _
   have e2:(ws.map Dt.str).all ba=true:=by rw [List.all_map];exact hn
   rw [e1,e2,List.length_map,gq nd];simp [h1,h2]
 | number i j h1 h12 h2 =>
  intro n
  cases n with
  | zero=>rw [bh];rfl
  | succ n =>
   show (decide (-1000000000000000000000000000000≤i) && decide (i≤j) && decide (j≤1000000000000000000000000000000))=_;simp [h1,h12,h2]
 | @list a c k i g h1 h2 ih =>
  intro n
  cases n with
  | zero=>rw [bh];simp
  | succ n =>
   show (am n k && (decide ((0:Int)≤i) && decide (i≤8)))=_;rw [ih n];simp [h1,h2]
 | @rows a c z l i g hz h1 h2 ih =>
  intro n
  cases n with
  | zero=>rw [bh];simp
  | succ n =>
   show ((am n (.tup [.str "record",.tup l]) && (decide (Str.ofString "record" = "record") && mn (cE l (.str z)))) && (decide ((0:Int)≤i) && decide (i≤8)))=_;obtain ⟨gs,rfl,_,_,_,nd,_,_⟩:=sr g;obtain ⟨w1,l1,hm,hw⟩:=hz;obtain ⟨u,hu,eu⟩:=List.mem_map.mp hm;have e1:u.1=z:=by injection eu with e;injection e with e _;injection e
   have e2:u.2.1=.tup (.str w1 :: l1):=by injection eu with e;injection e with _ e;injection e
   have e3:=tU nd hu;rw [e1,e2] at e3;rw [ih n,e3,show mn (some (.tup (.str w1 :: l1)))=true by show (decide (w1= "number") || decide (w1= "text"))=true;simpa using hw];simp [h1,h2]
 | @rcd gs g hs hn hl ih =>
  intro n
  cases n with
  | zero=>rw [bh];simp
  | succ n =>
   show (decide ((gs.map prG).length≤8) && (gs.map prG).all (aP (am n)) && nu ((gs.map prG).map nmD))=_;have e1:(gs.map prG).map nmD=gs.map (·.1):=by rw [List.map_map];rfl
   have e2:(gs.map prG).all (aP (am n))=decide (gL (gs.map (·.2.2.1))≤n):=by
    rw [List.all_map,Bool.eq_iff_iff,List.all_eq_true,decide_eq_true_iff]
    constructor
    ·intro h;refine max_le fun m hm=>?_;obtain ⟨u,hu,rfl⟩:=List.mem_map.mp hm;have:=h u hu;have h':(aZ u.1 && am n u.2.1)=true:=this;rw [Bool.and_eq_true,ih u hu n] at h';exact of_decide_eq_true h'.2
    ·intro h u hu;show (aZ u.1 && am n u.2.1)=true;rw [(hn u hu),ih u hu n,Bool.true_and];exact decide_eq_true (Nat.le_trans (iY (List.mem_map.mpr ⟨u,hu,rfl⟩)) h)
   rw [e1,oZ hs,e2,List.length_map,decide_eq_true hl];simp
structure Wi (a c:Nat) (ks:List (Dt×Nat×Nat)):Prop where
 deep:a=gL (ks.map (·.2.1))+1
 many:c=sumN (ks.map (·.2.2))+1
 each:∀ k∈ks,FK k.2.1 k.2.2 k.1
 few:ks.length≤8
def qq (K:PySem.W.Frag):Sp:=fun vs H Q _=>∃ (a c:Nat) (d:Dt) (x:V),vs=[x]∧IsP K H d x∧FK a c d∧∀ p ys ks H',Same H H'→H p=none→H' p=some (.lst ys)→IsPs K H' (ks.map (·.1)) ys→Wi a c ks→Q (.ref p) H'
abbrev fg (K:PySem.W.Frag) (_:Ads):Sp:=qq K
theorem o0 {a c:Nat} {k:Dt} (g:FK a c k):Wi (a+1) (c+1) [(k,a,c)]:=⟨by show a+1=max a 0+1;lia,rfl,fun k' hk=>by rw [List.mem_singleton.mp hk];exact g,by show 1≤8;decide⟩
theorem jl:Wi 1 1 []:=⟨rfl,rfl,(fun k hk=>by cases hk),by decide⟩
theorem su {gs:List G4} (g:∀ g∈gs,FK g.2.2.1 g.2.2.2 g.2.1) (hl:gs.length≤8):Wi (gL (gs.map (·.2.2.1))+1) (sumN (gs.map (·.2.2.2))+1) (gs.map (·.2)):=by
 refine ⟨by rw [List.map_map];rfl,by rw [List.map_map];rfl,fun k hk=>?_,by rw [List.length_map];exact hl⟩;obtain ⟨g0,h0,rfl⟩:=List.mem_map.mp hk;exact g g0 h0
theorem fh (T:Tx K mg ad) {f:Addr} {fd:FuncData} (F:Gn K mg "kinds_within" bP ["kind"] f fd):FnOk P w K mg base CX0 2 f fd ["kind"] (fg K ad):=by
 obtain ⟨_,_,vL⟩:=T.item_kind;have wg:=ji (P:=P) (w:=w) (base:=base) T vL;refine F.F.ok cH (fun vs H Q E h=>?_) (fun cdv A outer s H vs Q E hr h=>?_)
 ·obtain ⟨a0,c0,d,x,rfl,_⟩:=h
  rfl
 obtain ⟨a0,c0,d,x,rfl,hd,pk,q⟩:=h;refine ⟨_,(@pss_cons _ _ _ _ _ (@ps_if _ _ _ _ _ _ _ _ (pt_cmpR op_eq (@pi1 K _ _ _ _ _ _ _ rfl (pv 0)) pe_str (nomark _)) (@pss_one _ _ _ (@ps_ret _ _ _ _ (a7 rfl (cs0 (NL:=["name","inner"]) rfl (by decide +kernel) (by decide +kernel)) (be (K:=K) rfl (@pi1 K _ _ _ _ _ _ _ rfl (pv 0))) (fun _ _ _ _=>(cv (K:=K) (n:=2) rfl rfl (pgs_cons (pg_name (i:=0) (show List.Nodup (α:=Str) ["name","inner"] by decide +kernel) rfl (Or.inl rfl)) (pgs_cons (pg_name (i:=1) (show List.Nodup (α:=Str) ["name","inner"] by decide +kernel) rfl (Or.inl rfl)) bG)))) (fun _ _ _ _=>(pv 1))))) pss_nil) (@pss_cons _ _ _ _ _ (@ps_set _ _ 1 _ _ _ _ cH.nd rfl (Or.inl rfl) (pcl vL wg (hr.mono (by lia)) rfl (@pa1 _ _ _ (pv 0) (by rfl))) (by rfl) (by first | exact .inl rfl | exact .inr rfl | assumption)) (@pss_one _ _ _ (@ps_ret _ _ _ _ (nE (pt_cmpR rA (pv 1) pe_non (nomark _)) (@ar _ _ _ _ bX) (@ar _ _ _ _ (@pa1 _ _ _ (pv 1) (by rfl)))))))),?_⟩
 cases pk
 case rcd gs g hs hnm hl =>
  refine ⟨_,rfl,_,_,_,hd,rfl,rfl,isS ?_⟩;refine ⟨rfl,_,rfl,a5 ?_⟩;refine ⟨_,rfl,_,_,_,hd,rfl,rfl,fun v hv=>?_⟩;obtain ⟨a,xs,rfl,ha,pa,ra⟩:=id hv.unref;have el:=ra.length;rw [List.length_map] at el;refine ⟨a,rfl,⟨_,ha⟩,fun l hln=>?_⟩;refine aT (K:=K) (xs:=xs) (fun i ys σ H'=>Same H H'∧H' l=some (.lst ys)∧IsPs K H' ((gs.take i).map (·.2.1)) ys∧σ.length=2) ⟨ag hln _,ac,.nil,rfl⟩ (fun i ys σ H' _ r=>r.1.tup ha) ?_ ?_
  ·rintro i y ys σ H1 N hy ⟨g1,e1,hp1,hσ⟩ next;obtain ⟨d1,hdi,hp⟩:=ra.get' hy;rw [List.getElem?_map] at hdi;obtain ⟨⟨z,k,u1,u2⟩,hfi,rfl⟩:=Option.map_eq_some_iff.mp hdi;obtain ⟨b,y2,rfl,hb,hp2⟩:=oY (hp.same g1);have ly:=hp1.length;rw [List.length_map,List.length_take] at ly
   match σ,hσ with
   | [_,_],_ =>
    refine ⟨b,_,rfl,hb,rfl,_,_,rfl,_,_,rfl,rfl,?_⟩;refine ⟨_,rfl,e1,ao (by lia),next _ _ _ ⟨aU hln g1,ac,?_,rfl⟩⟩;have e:(gs.take (i+1)).map (·.2.1)=(gs.take i).map (·.2.1)++[k]:=by rw [List.take_add_one,hfi,List.map_append];rfl
    rw [e];have bb:But l H1 (upd H1 l (.lst (ys++[y2]))):=But.put;exact (hp1.append (.cons hp2 .nil)).but e1 bb
  ·rintro ys σ H1 ⟨g1,e1,hp1,_⟩;rw [← el,List.take_length] at hp1;refine q l ys (gs.map (·.2)) H1 g1 hln e1 (by rw [List.map_map];exact hp1) (su g hl)
 case list a1 c1 k i g h1 h2 =>
  refine ⟨_,rfl,_,_,_,hd,rfl,rfl,isS ?_⟩;refine ⟨rfl,_,rfl,iteN (af (by decide)) ?_⟩;refine ⟨_,rfl,_,_,_,x,rfl,hd,.list g h1 h2,fun v hv=>?_⟩;refine ⟨_,rfl,rfl,_,rfl,iteN (by obtain ⟨w0,l,rfl⟩:=qo g;obtain ⟨a,_,rfl,_⟩:=hv.unref;intro e;cases e) ?_⟩;exact ⟨_,rfl,sz1,fun p hp=>q p _ [(k,a1,c1)] _ (ag hp _) hp ac (.cons (hv.same (ag hp _)) .nil) (o0 g)⟩
 case rows a1 c1 z l i g hz h1 h2 =>
  refine ⟨_,rfl,_,_,_,hd,rfl,rfl,isS ?_⟩;refine ⟨rfl,_,rfl,iteN (af (by decide)) ?_⟩;refine ⟨_,rfl,_,_,_,x,rfl,hd,.rows g hz h1 h2,fun v hv=>?_⟩;refine ⟨_,rfl,rfl,_,rfl,iteN (by obtain ⟨a,_,rfl,_⟩:=hv.unref;intro e;cases e) ?_⟩;exact ⟨_,rfl,sz1,fun p hp=>q p _ [(_,a1,c1)] _ (ag hp _) hp ac (.cons (hv.same (ag hp _)) .nil) (o0 g)⟩
 case text i h1 h2 =>
  refine ⟨_,rfl,_,_,_,hd,rfl,rfl,isS ?_⟩;refine ⟨rfl,_,rfl,iteN (af (by decide)) ?_⟩;refine ⟨_,rfl,_,_,_,x,rfl,hd,.text i h1 h2,?_⟩;exact ⟨_,rfl,rfl,_,rfl,a5 ⟨(by show 0≤sizeLine;decide),fun p hp=>q p _ [] _ (ag hp _) hp ac .nil jl⟩⟩
 case choice ws h1 h1' =>
  refine ⟨_,rfl,_,_,_,hd,rfl,rfl,isS ?_⟩;refine ⟨rfl,_,rfl,iteN (af (by decide)) ?_⟩;refine ⟨_,rfl,_,_,_,x,rfl,hd,.choice ws h1 h1',?_⟩;exact ⟨_,rfl,rfl,_,rfl,a5 ⟨(by show 0≤sizeLine;decide),fun p hp=>q p _ [] _ (ag hp _) hp ac .nil jl⟩⟩
 case number i j h1 h12 h2 =>
  refine ⟨_,rfl,_,_,_,hd,rfl,rfl,isS ?_⟩;refine ⟨rfl,_,rfl,iteN (af (by decide)) ?_⟩;refine ⟨_,rfl,_,_,_,x,rfl,hd,.number i j h1 h12 h2,?_⟩;exact ⟨_,rfl,rfl,_,rfl,a5 ⟨(by show 0≤sizeLine;decide),fun p hp=>q p _ [] _ (ag hp _) hp ac .nil jl⟩⟩
def o4 (K:PySem.W.Frag) (n:Nat):Sp:=fun vs H Q _=>∃ (a c:Nat) (d:Dt) (x:V),a≤n∧vs=[x]∧IsP K H d x∧FK a c d∧∀ H',Same H H'→Q (.int c) H'
theorem mt:∀ l:List Nat,(l.map fun n:Nat=>(n:Int)).sum=((sumN l:Nat):Int)
 | []=>rfl
 | n :: l=>by
  rw [List.map_cons,List.sum_cons,mt l];show _=((n+sumN l:Nat):Int);lia
theorem jm (T:Tx K mg ad) {f:Addr} {fd:FuncData} (n:Nat) (uV:Gn K mg "kind_many" bV ["kind"] f fd) (vy:FnOk P w K mg base CX0 (n+3) f fd ["kind"] (o4 K n)):FnOk P w K mg base CX0 (n+3+1) f fd ["kind"] (o4 K (n+1)):=by
 obtain ⟨_,_,vD⟩:=T.kinds_within;have vV:=fh (P:=P) (w:=w) (base:=base) T vD;refine uV.F.ok jH (fun vs H Q E h=>?_) (fun cdv A outer s H vs Q E hr h=>?_)
 ·obtain ⟨a0,c0,d,x,_,rfl,_⟩:=h
  rfl
 obtain ⟨a0,c0,d,x,hle,rfl,hd,pk,q⟩:=h;refine ⟨_,(@pss_one _ _ _ (@ps_ret _ _ _ _ (@pe_op _ _ _ _ _ _ _ _ bx pe_int (pe_callB nZ rfl T.z_sum boot_sum (@pa1 _ _ _ (a7 rfl (cs0 (NL:=["inner"]) rfl (by decide +kernel) (by decide +kernel)) (kq (K:=K) rfl (pcl vD vV (hr.mono (by lia)) rfl (@pa1 _ _ _ (pv 0) (by rfl)))) (fun _ _ _ _=>(pg_name (i:=0) (show List.Nodup (α:=Str) ["inner"] by decide +kernel) rfl (Or.inl rfl))) (fun _ _ _ _=>(pcl uV vy (hr.mono (by lia)) rfl (@pa1 _ _ _ (pv 0) (by rfl))))) (by rfl)))))),?_⟩;refine ⟨_,rfl,a0,c0,d,x,rfl,hd,pk,fun p ys ks H1 g1 hpn e1 hks wi=>?_⟩;have ly:=hks.length;rw [List.length_map] at ly;have few:=wi.few;refine ⟨p,rfl,⟨_,SqL.of e1⟩,fun l hln=>?_⟩;refine lF (K:=K) (xs:=ys) (fun i us σ H'=>us=((ks.take i).map fun k=>V.int (k.2.2:Nat))∧Same H1 H'∧H' l=some (.lst us)∧σ.length=1) ⟨rfl,ag hln _,ac,rfl⟩ (fun i us σ H' _ r=>SqL.of (r.2.1 _ _ e1)) ?_ ?_
 ·rintro i y us σ H2 N hy ⟨rfl,g2,e2,hσ⟩ next;obtain ⟨k0,hk0,hp⟩:=hks.get' hy;rw [List.getElem?_map] at hk0;obtain ⟨k,hk,rfl⟩:=Option.map_eq_some_iff.mp hk0;have mem:=List.mem_of_getElem? hk;have dl:=iY (List.mem_map.mpr ⟨k,mem,rfl⟩:k.2.1∈ks.map (·.2.1));have dd:=wi.deep
  match σ,hσ with
  | [_],_ =>
   refine ⟨_,rfl,k.2.1,k.2.2,k.1,y,by lia,rfl,hp.same g2,wi.each k mem,fun H3 g3=>⟨g3 _ _ e2,?_,next _ _ _ ⟨bz (fun k:Dt×Nat×Nat=>V.int (k.2.2:Nat)) hk,aU hln (g2.trans g3),ac,rfl⟩⟩⟩;rw [List.length_map,List.length_take];exact ao (by lia)
 ·rintro us σ H2 ⟨rfl,g2,e2,_⟩;rw [← ly,List.take_length] at e2;have e2':H2 l=some (.lst (((ks.map (·.2.2)).map fun n:Nat=>(n:Int)).map V.int)):=by rw [e2,List.map_map,List.map_map];rfl
  refine ⟨l,_,rfl,rfl,SqL.of e2',_,_,rfl,rfl,?_⟩;rw [mt];show Q (.int ((1:Int)+((sumN (ks.map (·.2.2)):Nat):Int))) H2;have e:(1:Int)+((sumN (ks.map (·.2.2)):Nat):Int)=((c0:Nat):Int):=by rw [wi.many];lia
  rw [e];exact q H2 (g1.trans g2)
theorem kJ (T:Tx K mg ad) {f:Addr} {fd:FuncData} (A:Gn K mg "kind_many" bV ["kind"] f fd):∀ n,FnOk P w K mg base CX0 (n+3) f fd ["kind"] (o4 K n)
 | 0=>bH fun vs H Q E z=>by obtain ⟨_,_,_,_,h,_,_,pk,_⟩:=z;have:=pk.pos;lia
 | n+1=>jm T n A (kJ T A n)
def jn (K:PySem.W.Frag) (ad:Ads):Sp:=fun vs H Q E=>∃ (d:Dt) (x:V),vs=[x]∧IsP K H d x∧okD d=true ∧
 ((am 5 d=false∧∀ H',Same H H'→E (.ref ad.BadKind) none H')∨(∃ a c,FK a c d∧a≤5∧(c≤40→∀ H',Same H H'→Q x H')∧(40 < c→∀ H',Same H H'→E (.ref ad.BadKind) none H')))
theorem jo (T:Tx K mg ad) {f:Addr} {fd:FuncData} (F:Gn K mg "made_kind" cS ["kind"] f fd):FnOk P w K mg base (kz P w) 22 f fd ["kind"] (jn K ad):=by
 obtain ⟨_,_,uJ⟩:=T.is_formed;obtain ⟨f1,d1,D1⟩:=T.are_fields;obtain ⟨f2,d2,D2⟩:=T.are_rows;obtain ⟨f3,d3,D3⟩:=T.is_field;have uN:=gp (P:=P) (w:=w) (base:=base) T uJ D1 D2 D3 6;obtain ⟨_,_,uV⟩:=T.kind_many;have vy:=kJ (P:=P) (w:=w) (base:=base) T uV 5;obtain ⟨t_DEEPEST,c_DEEPEST⟩:=T.DEEPEST;obtain ⟨t_MOST_KINDS,c_MOST_KINDS⟩:=T.MOST_KINDS;refine F.F.okE2 jD (fun vs H Q E h=>?_) (fun cdv A outer s H vs Q E hr h=>?_)
 ·obtain ⟨d,x,rfl,_⟩:=h
  rfl
 obtain ⟨d,x,rfl,hd,ok,q⟩:=h;refine ⟨_,(@pss_cons _ _ _ _ _ (@ps_if _ _ _ _ _ _ _ _ (@pt_not _ _ _ _ (@pt_val _ _ _ (pcl uJ uN (hr.mono (by lia)) rfl (@pa2 _ _ _ _ _ (pv 0) (pe_gint rfl c_DEEPEST) (by rfl) (by rfl))) (by intro _;rfl))) (@pss_one _ _ _ (ps_raise2 xeOf2 rfl rfl rfl rfl T.x_BadKind rfl (@pa1 _ _ _ pe_str (by rfl)))) pss_nil) (@pss_cons _ _ _ _ _ (@ps_if _ _ _ _ _ _ _ _ (pt_cmpR op_gt (pcl uV vy (hr.mono (by lia)) rfl (@pa1 _ _ _ (pv 0) (by rfl))) (pe_gint rfl c_MOST_KINDS) (nomark _)) (@pss_one _ _ _ (ps_raise2 xeOf2 rfl rfl rfl rfl T.x_BadKind rfl (@pa1 _ _ _ pe_str (by rfl)))) pss_nil) (@pss_one _ _ _ (@ps_ret _ _ _ _ (pv 0))))),?_⟩;refine ⟨_,rfl,5,d,x,by decide,rfl,hd,ok,fun H1 g1=>⟨_,rfl,?_⟩⟩;rcases q with ⟨bad,q⟩ | ⟨a,c,fk,ha,q1,q2⟩
 ·rw [bad];exact ax ⟨sz1,q H1 g1⟩
 ·rw [qp fk,decide_eq_true ha];refine aV ?_;refine ⟨_,rfl,a,c,d,x,ha,rfl,hd.same g1,fk,fun H2 g2=>⟨_,_,rfl,rfl,_,rfl,aA (fun c1=>?_) (fun c1=>?_)⟩⟩
  ·have c':((c:Nat):Int) > 40:=of_decide_eq_true c1;exact ⟨sz1,q2 (by lia) H2 (g1.trans g2)⟩
  ·have c':¬ ((c:Nat):Int) > 40:=fun z=>c1 (decide_eq_true z);exact ⟨_,rfl,q1 (by lia) H2 (g1.trans g2)⟩
def gQ (K:PySem.W.Frag) (_:Ads):Sp:=fun vs H Q _=>∃ (a:Addr) (ns:List Int) (k:Int),vs=[.ref a,.int k]∧SqL K H a (ns.map V.int)∧ns.length≤64∧0≤k∧k < 1000 ∧
 ∀ r n H',H r=none→Same H H'→H' r=some (.lst [.int n])→Q (.ref r) H'
theorem jp (T:Tx K mg ad) {f:Addr} {fd:FuncData} (F:Gn K mg "_law_mixed" cX ["cell","k"] f fd):FnOk P w K mg base CX0 1 f fd ["cell","k"] (jg K ad):=by
 refine F.F.ok et (fun vs H Q E h=>?_) (fun cdv A outer s H vs Q E hr h=>?_)
 ·obtain ⟨i,k,rfl,_⟩:=h
  rfl
 obtain ⟨i,k,rfl,q⟩:=h;refine ⟨_,(@pss_cons _ _ _ _ _ (@ps_set _ _ 2 _ _ _ _ et.nd rfl (Or.inl rfl) (@pe_op _ _ _ _ _ _ _ _ cJ (@pe_op _ _ _ _ _ _ _ _ cm (@pe_op _ _ _ _ _ _ _ _ bx (@pe_op _ _ _ _ _ _ _ _ bx (@pe_op _ _ _ _ _ _ _ _ cJ (pv 0) pe_int) (@pe_op _ _ _ _ _ _ _ _ cm pe_int (pv 1))) pe_int) pe_int) pe_int) (by rfl) (by first | exact .inl rfl | exact .inr rfl | assumption)) (@pss_one _ _ _ (@ps_ret _ _ _ _ (@pe_op _ _ _ _ _ _ _ _ cJ (@pe_op _ _ _ _ _ _ _ _ cm (@pe_op _ _ _ _ _ _ _ _ cJ (@pe_op _ _ _ _ _ _ _ _ cm (pv 2) (pv 2)) pe_int) pe_int) pe_int)))),?_⟩;refine ⟨_,rfl,_,_,rfl,rfl,(by show (0:Int) < 1000000007;decide),_,rfl,_,_,rfl,rfl,.inl ⟨by decide,by decide⟩,_,_,rfl,rfl,_,_,rfl,rfl,_,_,rfl,rfl,.inr ⟨by decide,by decide⟩,_,_,rfl,rfl,(by show (0:Int) < 2147483647;decide),?_⟩;have b0:(0:Int)≤(i % 1000000007+7919*k+1)*48271 % 2147483647:=Int.emod_nonneg _ (by decide);have b1:(i % 1000000007+7919*k+1)*48271 % 2147483647 < 2147483647:=Int.emod_lt_of_pos _ (by decide);exact ⟨_,rfl,_,rfl,_,_,rfl,rfl,.inl ⟨by lia,by lia⟩,_,_,rfl,rfl,(by show (0:Int) < 2147483629;decide),_,_,rfl,rfl,.inr ⟨by decide,by decide⟩,_,_,rfl,rfl,(by show (0:Int) < 2147483647;decide),q _⟩
theorem a8 (T:Tx K mg ad) {f:Addr} {fd:FuncData} (F:Gn K mg "_law_digit" cY ["row","many"] f fd):FnOk P w K mg base CX0 1 f fd ["row","many"] (jh K ad):=by
 refine F.F.ok eA (fun vs H Q E h=>?_) (fun cdv A outer s H vs Q E hr h=>?_)
 ·obtain ⟨r,n,m,rfl,_⟩:=h
  rfl
 obtain ⟨r,n,m,rfl,hr0,h0,h1,q⟩:=h;refine ⟨_,(@pss_cons _ _ _ _ _ (@ps_set _ _ 2 _ _ _ _ eA.nd rfl (Or.inl rfl) (@pe_op _ _ _ _ _ _ _ _ cJ (@cD _ _ _ _ _ _ _ (aY (K:=K) rfl) (pv 0) pe_int (fun _ _=>rfl)) (pv 1)) (by rfl) (by first | exact .inl rfl | exact .inr rfl | assumption)) (@pss_cons _ _ _ _ _ (ps_asg (@pe_op _ _ _ _ _ _ _ _ dW (@cD _ _ _ _ _ _ _ (aY (K:=K) rfl) (pv 0) pe_int (fun _ _=>rfl)) (pv 1)) (rn (pv 0) pe_int nQ)) (@pss_one _ _ _ (@ps_ret _ _ _ _ (pv 2))))),?_⟩;have e0:atI [V.int n] 0=some (.int n):=rfl;exact ⟨_,rfl,r,_,_,_,rfl,rfl,SqL.of hr0,e0,_,rfl,_,_,rfl,rfl,h0,_,rfl,r,_,_,_,rfl,rfl,SqL.of hr0,e0,_,rfl,_,_,rfl,rfl,⟨h0,h1⟩,_,rfl,r,_,_,_,rfl,rfl,hr0,rfl,_,rfl,q⟩
theorem tV {α:Type} {xs:List α} {d:Int} (h0:0≤d) (h1:d < (xs.length:Int)):∃ v,v∈xs∧atI xs d=some v:=by
 have hk:d.toNat < xs.length:=by lia
 have ek:((d.toNat:Nat):Int)=d:=by lia
 have e:atI xs ((d.toNat:Nat):Int)=some xs[d.toNat]:=dO (by simp [hk]);rw [ek] at e;exact ⟨xs[d.toNat],List.getElem_mem hk,e⟩
theorem mod_lt (n:Int) {m:Int} (h:0 < m):0≤n % m∧n % m < m:=⟨Int.emod_nonneg _ (by lia),Int.emod_lt_of_pos _ h⟩
theorem sv (x:Int):Builtin.Int.intBits (x % 10 ^ (60:Int).toNat)≤200:=by
 have h0:(0:Int) < 10 ^ (60:Int).toNat:=by decide +kernel
 refine qc (Int.emod_nonneg _ (Int.ne_of_gt h0)) (Int.lt_trans (Int.emod_lt_of_pos _ h0) ?_)
 decide +kernel
theorem mw:Builtin.Int.intBits ((10:Int) ^ (60:Int).toNat)≤200:=by decide +kernel
theorem lQ {lo c:Int} {n:Nat} {g:TG} {tb:TS} {D:Ends} {σ:L2.St} {H:Hp} (Pv:Nat→L2.St→Hp→Prop) (h0:Pv 0 σ H)
  (hs:∀ i σ H,i < n→Pv i σ H→g (.int (lo+i*c)) σ H fun σ2 H2=>tb { D with nx:=Pv (i+1),ct:=Pv (i+1),bk:=D.nx } σ2 H2) (hd:∀ σ H,Pv n σ H→D.nx σ H) :
  ∃ W:Nat→Nat→L2.St→Hp→Prop,(∃ m,W 0 m σ H)∧∀ i m σ H,W i m σ H →
   ((oy lo c n).stop i H∧D.nx σ H)∨((oy lo c n).go i H∧∃ N:L2.St→Hp→Prop,(∀ σ' H',N σ' H'→∃ m',m' < m∧W (i+1) m' σ' H')∧∀ x H',(oy lo c n).yld i H x H'→g x σ H' fun σ2 H2=>tb { D with nx:=N,ct:=N,bk:=D.nx } σ2 H2):=by
 refine ⟨fun i m σ H=>m=n - i∧i≤n∧Pv i σ H,⟨n,by simp,Nat.zero_le _,h0⟩,?_⟩;rintro i m σ H ⟨rfl,hi,p⟩
 by_cases hlt:i < n
 ·refine .inr ⟨hlt,Pv (i+1),fun σ' H' p'=>⟨n - (i+1),by lia,rfl,hlt,p'⟩,fun x H' y=>?_⟩;obtain ⟨e,y⟩:=y;subst e y;exact hs i σ _ hlt p
 ·have e:i=n:=by lia
  subst e;exact .inl ⟨Nat.le_refl _,hd σ H p⟩
theorem gR (T:Tx K mg ad) {f:Addr} {fd:FuncData} (F:Gn K mg "_law_stream" cB ["script","k"] f fd):FnOk P w K mg base CX0 2 f fd ["script","k"] (gQ K ad):=by
 obtain ⟨_,_,vO⟩:=T.law_mixed;have wl:=jp (P:=P) (w:=w) (base:=base) T vO;refine F.F.ok aQ (fun vs H Q E h=>?_) (fun cdv A outer s H vs Q E hr h=>?_)
 ·obtain ⟨a,ns,k,rfl,_⟩:=h
  rfl
 obtain ⟨a,ns,k,rfl,hS,h63,h0,h1,q⟩:=h;refine ⟨_,(@pss_cons _ _ _ _ _ (@ps_set _ _ 2 _ _ _ _ aQ.nd rfl (Or.inl rfl) pe_int (by rfl) (by first | exact .inl rfl | exact .inr rfl | assumption)) (@pss_cons _ _ _ _ _ (eC PassesOwn.never rfl (m9 rfl T.z_range (@pa3 _ _ _ _ _ _ _ (pv 1) (pe_callB (bc (K:=K) rfl) rfl T.z_len PySem.boot_len (@pa1 _ _ _ (pv 0) (by rfl))) pe_int (by rfl) (by rfl) (by rfl))) (pg_name (i:=3) aQ.nd rfl (Or.inl rfl))
    (@pss_one _ _ _ (@ps_set _ _ 2 _ _ _ _ aQ.nd rfl (Or.inl rfl) (@pe_op _ _ _ _ _ _ _ _ bx (@pe_op _ _ _ _ _ _ _ _ qa (pv 2) (@pe_op _ _ _ _ _ _ _ _ op_pow pe_int pe_int)) (@pe_op _ _ _ _ _ _ _ _ cJ (@cD _ _ _ _ _ _ _ (aY (K:=K) rfl) (pv 0) (pv 3) (fun _ _=>rfl)) (@pe_op _ _ _ _ _ _ _ _ op_pow pe_int pe_int))) (by rfl) (by first | exact .inl rfl | exact .inr rfl | assumption)))) (@pss_cons _ _ _ _ _ (@ps_if _ _ _ _ _ _ _ _ (pt_cmpR nJ (pv 2) (@pe_op _ _ _ _ _ _ _ _ op_pow pe_int pe_int) (nomark _)) (@pss_one _ _ _ (@ps_ret _ _ _ _ (@ar _ _ _ _ (@pa1 _ _ _ (pv 2) (by rfl))))) pss_nil) (@pss_cons _ _ _ _ _ (@ps_set _ _ 4 _ _ _ _ aQ.nd rfl (Or.inl rfl) pe_int (by rfl) (by first | exact .inl rfl | exact .inr rfl | assumption)) (@pss_cons _ _ _ _ _ (eC PassesOwn.never rfl (eB rfl T.z_range (@pa1 _ _ _ pe_int (by rfl))) (pg_name (i:=3) aQ.nd rfl (Or.inl rfl))
    (@pss_one _ _ _ (@ps_set _ _ 4 _ _ _ _ aQ.nd rfl (Or.inl rfl) (@pe_op _ _ _ _ _ _ _ _ bx (@pe_op _ _ _ _ _ _ _ _ cm (pv 4) pe_int) (pcl vO wl (hr.mono (by lia)) rfl (@pa2 _ _ _ _ _ (@pe_op _ _ _ _ _ _ _ _ bx (@pe_op _ _ _ _ _ _ _ _ bx (pv 2) (@pe_op _ _ _ _ _ _ _ _ cm pe_int (pv 1))) (pe_callB (bc (K:=K) rfl) rfl T.z_len PySem.boot_len (@pa1 _ _ _ (pv 0) (by rfl)))) (pv 3) (by rfl) (by rfl)))) (by rfl) (by first | exact .inl rfl | exact .inr rfl | assumption)))) (@pss_one _ _ _ (@ps_ret _ _ _ _ (@ar _ _ _ _ (@pa1 _ _ _ (@pe_op _ _ _ _ _ _ _ _ dW (pv 4) pe_int) (by rfl)))))))))),?_⟩
 have hlen:(ns.map V.int).length=ns.length:=List.length_map _;have hn:rngN k ns.length 9≤64:=by
  have:=mh (a:=k) (b:=ns.length) (c:=9) (by decide)
  split at this <;> lia
 refine ⟨_,rfl,_,rfl,a,_,rfl,.inl hS,_,_,_,rfl,⟨h0,by lia,by lia,by rw [hlen];lia,by decide,by decide⟩,?_⟩;rw [hlen];refine lQ (lo:=k) (c:=9) (n:=rngN k ns.length 9) (fun i σ H'=>H'=H∧∃ x v,Builtin.Int.intBits x≤1+402*i∧σ=[some (.ref a),some (.int k),some (.int x),v,none]) ⟨rfl,0,none,by decide,rfl⟩ ?_ ?_
 ·rintro i σ H' hi ⟨rfl,x,v,hx,rfl⟩;have hlt:=qb (a:=k) (b:=ns.length) (c:=9) (by decide) hi;have hk:(k+i*9).toNat < ns.length:=by lia
  have ek:(((k+i*9).toNat:Nat):Int)=k+i*9:=by lia
  have e:atI (ns.map V.int) (((k+i*9).toNat:Nat):Int)=some (.int ns[(k+i*9).toNat]):=dO (by simp [hk]);rw [ek] at e;refine ⟨_,rfl,_,_,rfl,rfl,⟨by decide,by decide,by decide⟩,_,_,rfl,rfl,mulOk_of_bits (m:=1+402*i) (n:=200) hx mw (by lia),?_⟩;refine ⟨_,rfl,_,rfl,a,_,_,_,rfl,rfl,hS,e,_,_,rfl,rfl,⟨by decide,by decide,by decide⟩,_,_,rfl,rfl,(by show (0:Int) < 10 ^ (60:Int).toNat;decide +kernel),_,_,rfl,rfl,?_⟩;refine ⟨rfl,_,_,?_,rfl⟩;refine Nat.le_trans (intBits_add_le (intBits_mul_le hx mw) (sv _)) ?_;lia
 ·rintro σ H' ⟨rfl,x,v,hx,rfl⟩;refine ⟨_,rfl,_,_,rfl,rfl,⟨by decide,by decide,by decide⟩,_,_,rfl,rfl,_,rfl,?_⟩;refine aA (fun c1=>?_) (fun c1=>?_)
  ·exact ⟨_,rfl,sz1,fun r hr'=>q r x _ hr' (ag hr' _) ac⟩
  refine ⟨9,rfl,by decide,by decide,eD (lo:=0) (n:=(9:Int).toNat) (fun i σ H1=>H1=H'∧∃ y v,σ=[some (.ref a),some (.int k),some (.int x),v,some (.int y)]) ⟨rfl,0,_,rfl⟩ ?_ ?_⟩
  ·rintro i σ H1 hi ⟨rfl,y,v,rfl⟩;refine ⟨_,rfl,_,_,rfl,rfl,.inr ⟨by decide,by decide⟩,?_⟩;refine ⟨_,rfl,_,rfl,_,_,rfl,rfl,.inl ⟨by decide,by decide⟩,_,_,rfl,rfl,_,rfl,a,_,rfl,.inl hS,_,_,rfl,rfl,_,rfl,_,_,rfl,fun m=>?_⟩;exact ⟨_,_,rfl,rfl,rfl,_,_,rfl⟩
  ·rintro σ H1 ⟨rfl,y,v,rfl⟩;exact ⟨_,rfl,_,_,rfl,rfl,⟨by decide,by decide⟩,sz1,fun r hr'=>q r _ _ hr' (ag hr' _) ac⟩
def cb:Nat→Nat
 | 0=>1
 | n+1=>2*cb n+1
theorem lR:∀ n,1≤cb n
 | 0=>Nat.le_refl 1
 | n+1=>by show 1≤2*cb n+1;lia
def GK (n:Nat) (d:Dt):Prop:=∃ a c,FK a c d∧a≤n+1∧c≤cb n
def uw (d:Dt):Prop:=(∃ i j:Int,d=.tup [.str "number",.int i,.int j])∨∃ i:Int,d=.tup [.str "text",.int i]
theorem GK.text (n:Nat) (i:Int) (h1:0≤i) (h2:i≤60):GK n (.tup [.str "text",.int i]):=⟨1,1,.text i h1 h2,by lia,lR n⟩
theorem GK.choice (n:Nat) (ws:List Str) (h:bE ws=true) (h':ws.length≠1):GK n (.tup [.str "choice",.tup (ws.map Dt.str)]):=⟨1,1,.choice ws h h',by lia,lR n⟩
theorem GK.number (n:Nat) (i j:Int) (h1:-1000000000000000000000000000000≤i) (h2:i≤j) (h3:j≤1000000000000000000000000000000):GK n (.tup [.str "number",.int i,.int j]):=⟨1,1,.number i j h1 h2 h3,by lia,lR n⟩
theorem GK.list {n:Nat} {k:Dt} {i:Int} (g:GK n k) (h1:0≤i) (h2:i≤8):GK (n+1) (.tup [.str "list",k,.int i]):=by
 obtain ⟨a,c,fk,ha,hc⟩:=g;exact ⟨a+1,c+1,.list fk h1 h2,by lia,(by show c+1≤2*cb n+1;lia)⟩
theorem o5 {b:Nat}:∀ {l:List Nat},(∀ n∈l,n≤b)→sumN l≤l.length*b
 | [],_=>Nat.zero_le _
 | m :: l,h=>by
  have h1:=o5 (l:=l) fun n hn=>h n (List.mem_cons_of_mem _ hn);have h2:=h m List.mem_cons_self;show m+sumN l≤(l.length+1)*b;rw [Nat.succ_mul];lia
theorem qU {m:Nat}:∀ {fs:List (Str×Dt)},(∀ f∈fs,GK m f.2)→∃ gs:List G4,gs.map nk=fs∧(∀ g∈gs,FK g.2.2.1 g.2.2.2 g.2.1∧g.2.2.1≤m+1∧g.2.2.2≤cb m)
 | [],_=>⟨[],rfl,fun g hg=>nomatch hg⟩
 | f :: fs,h=>by
  obtain ⟨gs,e,hg⟩:=qU (fs:=fs) fun g hg=>h g (List.mem_cons_of_mem _ hg);obtain ⟨a,c,fk,ha⟩:=h f List.mem_cons_self;refine ⟨(f.1,f.2,a,c) :: gs,by rw [List.map_cons,e],fun g hg'=>?_⟩;rcases List.mem_cons.mp hg' with rfl | hg'
  ·exact ⟨fk,ha⟩
  ·exact hg g hg'
def Gen (K:PySem.W.Frag) (r:Addr) (H:Hp) (n:Nat) (Q:VK):Prop:=∀ v d n' H',But r H H'→H' r=some (.lst [.int n'])→IsP K H' d v→GK n d→Q v H'
def kK (K:PySem.W.Frag) (_:Ads):Sp:=fun vs H Q _=>∃ (r:Addr) (c:Int),vs=[.ref r]∧H r=some (.lst [.int c])∧∀ v d n' H',But r H H'→H' r=some (.lst [.int n'])→IsP K H' d v→(∀ m,GK m d)→Q v H'
def kL (K:PySem.W.Frag) (n:Nat):Sp:=fun vs H Q _=>∃ (r:Addr) (c:Int) (m:Nat),n=m+1∧vs=[.ref r,.int m]∧H r=some (.lst [.int c])∧Gen K r H m Q
def dY (K:PySem.W.Frag) (n:Nat):Sp:=fun vs H Q _=>∃ (r a:Addr) (c:Int) (zs:List Str) (m:Nat),n=m+1∧vs=[.ref r,.int (m+1:Nat),.ref a]∧H r=some (.lst [.int c])∧H a=some (.lst (zs.map V.str))∧zs.length≤5 ∧
 ∀ (v:V) (fs:List (Str×Dt)) (n':Int) (H':Hp),But r H H'→H' r=some (.lst [.int n'])→IsP K H' (.tup [.str "record",.tup (fs.map prD)]) v→(fs.map (·.1)).Sublist zs→(∀ f∈fs,GK m f.2)→Q v H'
def qV (K:PySem.W.Frag) (n:Nat):Sp:=fun vs H Q _=>∃ (r:Addr) (c:Int) (m:Nat),n=m+2∧vs=[.ref r,.int (m+2:Nat)]∧H r=some (.lst [.int c])∧Gen K r H (m+2) Q
theorem kM {ns:List Int} {d:Int} (h0:0≤d) (h1:d < (ns.length:Int)):∃ i:Int,i∈ns∧atI (ns.map V.int) d=some (.int i):=by
 obtain ⟨v,hv,e⟩:=tV (xs:=ns.map V.int) h0 (by rw [List.length_map];exact h1);obtain ⟨i,hi,rfl⟩:=List.mem_map.mp hv;exact ⟨i,hi,e⟩
theorem qW:(10:Int) ^ (30:Int).toNat=1000000000000000000000000000000:=by decide +kernel
theorem sw {i j:Int} (h:i≤1000000000000000000000000000000) (hj:0≤j):i≤if i+j < 10 ^ (30:Int).toNat then i+j else 10 ^ (30:Int).toNat:=by
 rw [qW]
 split <;> lia
theorem sx (x:Int):(if x < 10 ^ (30:Int).toNat then x else 10 ^ (30:Int).toNat)≤1000000000000000000000000000000:=by
 rw [qW]
 split <;> lia
theorem mx:∀ i∈([0,1,3,5,60]:List Int),0≤i∧i≤60:=by decide
theorem o6:∀ i∈([0,0,-7,10,3,-(10 ^ (30:Int).toNat)]:List Int),-1000000000000000000000000000000≤i∧i≤1000000000000000000000000000000:=by decide +kernel
theorem nM:∀ i∈([9,0,30,99,20,10 ^ (30:Int).toNat]:List Int),0≤i:=by decide +kernel
theorem sy:∀ k:Fin 3,∃ ws:List Str,(bE ws=true∧ws.length≠1)∧gG [.str "b",.str "a",.str "no",.str "yes"] (some (k.val:Int)) none=ws.map Dt.str
 | 0=>⟨["b","a","no","yes"],by decide +kernel,by rfl⟩
 | 1=>⟨["a","no","yes"],by decide +kernel,by rfl⟩
 | 2=>⟨["no","yes"],by decide +kernel,by rfl⟩
theorem qr (c:Int):∃ ws:List Str,(bE ws=true∧ws.length≠1)∧gG [.str "b",.str "a",.str "no",.str "yes"] (some (c % 3)) none=ws.map Dt.str:=by
 obtain ⟨h0,h1⟩:=mod_lt c (m:=3) (by decide);obtain ⟨ws,a,e⟩:=sy ⟨(c % 3).toNat,by lia⟩;refine ⟨ws,a,?_⟩;rw [← e];show gG _ (some (c % 3)) none=gG _ (some (((c % 3).toNat:Nat):Int)) none;rw [show (((c % 3).toNat:Nat):Int)=c % 3 by lia]
theorem kN (T:Tx K mg ad) {f:Addr} {fd:FuncData} (F:Gn K mg "_law_leaf" dH ["row"] f fd):FnOk P w K mg base CX0 2 f fd ["row"] (kK K ad):=by
 obtain ⟨_,_,uE⟩:=T.law_digit;have uG:=a8 (P:=P) (w:=w) (base:=base) T uE;refine F.F.ok c8 (fun vs H Q E h=>?_) (fun cdv A outer s H vs Q E hr h=>?_)
 ·obtain ⟨r,c,rfl,_⟩:=h
  rfl
 obtain ⟨r,c,rfl,hr0,q⟩:=h;refine ⟨_,(@pss_cons _ _ _ _ _ (@ps_set _ _ 1 _ _ _ _ c8.nd rfl (Or.inl rfl) (pcl uE uG (hr.mono (by lia)) rfl (@pa2 _ _ _ _ _ (pv 0) pe_int (by rfl) (by rfl))) (by rfl) (by first | exact .inl rfl | exact .inr rfl | assumption)) (@pss_cons _ _ _ _ _ (@ps_if _ _ _ _ _ _ _ _ (pt_cmpR op_eq (pv 1) pe_int (nomark _)) (@pss_one _ _ _ (@ps_ret _ _ _ _ (@pe_tupPK _ K _ _ _ _ rfl (@pa2 _ _ _ _ _ pe_str (@cD _ _ _ _ _ _ _ (aY (K:=K) rfl) (@ar _ _ _ _ (@al _ _ _ _ _ pe_int (@al _ _ _ _ _ pe_int (@pa3 _ _ _ _ _ _ _ pe_int pe_int pe_int (by rfl) (by rfl) (by rfl)) (by rfl)) (by rfl))) (pcl uE uG (hr.mono (by lia)) rfl (@pa2 _ _ _ _ _ (pv 0) pe_int (by rfl) (by rfl))) (fun _ _=>rfl)) (by rfl) (by rfl))))) pss_nil) (@pss_cons _ _ _ _ _ (@ps_if _ _ _ _ _ _ _ _ (pt_cmpR op_eq (pv 1) pe_int (nomark _)) (@pss_one _ _ _ (@ps_ret _ _ _ _ (@pe_tupPK _ K _ _ _ _ rfl (@pa2 _ _ _ _ _ pe_str (dN (kr (K:=K) rfl) (@pe_tupPK _ K _ _ _ _ rfl (@al _ _ _ _ _ pe_str (@pa3 _ _ _ _ _ _ _ pe_str pe_str pe_str (by rfl) (by rfl) (by rfl)) (by rfl))) (dM (pcl uE uG (hr.mono (by lia)) rfl (@pa2 _ _ _ _ _ (pv 0) pe_int (by rfl) (by rfl)))) iH) (by rfl) (by rfl))))) pss_nil) (@pss_cons _ _ _ _ _ (@ps_set _ _ 2 _ _ _ _ c8.nd rfl (Or.inl rfl) (@cD _ _ _ _ _ _ _ (aY (K:=K) rfl) (@ar _ _ _ _ (@al _ _ _ _ _ pe_int (@al _ _ _ _ _ pe_int (@al _ _ _ _ _ (@pe_un _ _ _ _ _ _ un_neg pe_int) (@pa3 _ _ _ _ _ _ _ pe_int pe_int (@pe_un _ _ _ _ _ _ un_neg (@pe_op _ _ _ _ _ _ _ _ op_pow pe_int pe_int)) (by rfl) (by rfl) (by rfl)) (by rfl)) (by rfl)) (by rfl))) (pcl uE uG (hr.mono (by lia)) rfl (@pa2 _ _ _ _ _ (pv 0) pe_int (by rfl) (by rfl))) (fun _ _=>rfl)) (by rfl) (by first | exact .inl rfl | exact .inr rfl | assumption)) (@pss_one _ _ _ (@ps_ret _ _ _ _ (@pe_tupPK _ K _ _ _ _ rfl (@pa3 _ _ _ _ _ _ _ pe_str (pv 2) (pe_callB (ia rfl) rfl T.z_min boot_min (@pa2 _ _ _ _ _ (@pe_op _ _ _ _ _ _ _ _ op_pow pe_int pe_int) (@pe_op _ _ _ _ _ _ _ _ bx (pv 2) (@cD _ _ _ _ _ _ _ (aY (K:=K) rfl) (@ar _ _ _ _ (@al _ _ _ _ _ pe_int (@al _ _ _ _ _ pe_int (@al _ _ _ _ _ pe_int (@pa3 _ _ _ _ _ _ _ pe_int pe_int (@pe_op _ _ _ _ _ _ _ _ op_pow pe_int pe_int) (by rfl) (by rfl) (by rfl)) (by rfl)) (by rfl)) (by rfl))) (pcl uE uG (hr.mono (by lia)) rfl (@pa2 _ _ _ _ _ (pv 0) pe_int (by rfl) (by rfl))) (fun _ _=>rfl))) (by rfl) (by rfl))) (by rfl) (by rfl) (by rfl))))))))),?_⟩;refine ⟨_,rfl,r,c,4,rfl,hr0,by decide,by decide,?_⟩;refine ⟨_,rfl,rfl,_,rfl,?_⟩;refine aA (fun c1=>?_) (fun c1=>?_)
 ·refine ⟨(by show 5≤sizeLine;decide),fun p hp=>?_⟩;have nrp:r≠p:=aj ac hp;obtain ⟨d0,d1⟩:=mod_lt (c / 4) (m:=5) (by decide);obtain ⟨i,mi,ei⟩:=kM (ns:=[0,1,3,5,60]) d0 d1;refine ⟨_,rfl,r,c / 4,5,rfl,(by rw [ah nrp];exact ac),by decide,by decide,p,_,_,_,rfl,rfl,SqL.of (by rw [ah nrp.symm];exact ac),ei,?_⟩;refine ⟨[.str "text",.int i],.cons .str (.cons .int .nil),sz2,fun v H' g hv=>?_⟩;exact q v _ _ H' (((But.put.trans (But.same (ag hp _))).trans But.put).trans (But.same g)) (g _ _ ac) hv fun m=>.text m i (mx i mi).1 (mx i mi).2
 refine ⟨_,rfl,rfl,_,rfl,?_⟩;refine aA (fun c2=>?_) (fun c2=>?_)
 ·refine ⟨[.str "b",.str "a",.str "no",.str "yes"],.cons .str (.cons .str (.cons .str (.cons .str .nil))),(by show 4≤sizeLine;decide),fun v1 H1 g1 hv1=>?_⟩;have e1:=g1 _ _ (ac (H:=H) (a:=r) (o:=.lst [.int (c / 4)]));refine ⟨_,rfl,r,c / 4,3,rfl,e1,by decide,by decide,_,rfl,?_⟩;have hv2:=hv1.but e1 (But.put (o:=.lst [.int (c / 4 / 3)]));refine ⟨_,hv2,fun v3 H3 g3 hv3=>?_⟩;refine ⟨[.str "choice",_],.cons .str (.cons hv3 .nil),sz2,fun v H' g hv=>?_⟩;refine q v _ _ H' ((((But.put.trans (But.same g1)).trans But.put).trans (But.same g3)).trans (But.same g)) (g _ _ (g3 _ _ ac)) hv fun m=>?_;obtain ⟨ws,l1,ew⟩:=qr (c / 4);rw [ew];exact .choice m ws l1.1 l1.2
 refine ⟨_,rfl,_,_,rfl,rfl,⟨by decide,by decide,by decide⟩,_,rfl,(by show 6≤sizeLine;decide),fun p hp=>?_⟩;have nrp:r≠p:=aj ac hp;obtain ⟨d0,d1⟩:=mod_lt (c / 4) (m:=6) (by decide);obtain ⟨i,mi,ei⟩:=kM (ns:=[0,0,-7,10,3,-(10 ^ (30:Int).toNat)]) d0 d1;refine ⟨_,rfl,r,c / 4,6,rfl,(by rw [ah nrp];exact ac),by decide,by decide,p,_,_,_,rfl,rfl,SqL.of (by rw [ah nrp.symm];exact ac),ei,?_⟩;refine ⟨_,rfl,_,_,rfl,rfl,⟨by decide,by decide,by decide⟩,_,rfl,_,_,rfl,rfl,⟨by decide,by decide,by decide⟩,(by show 6≤sizeLine;decide),fun p2 hp2=>?_⟩;have nrp2:r≠p2:=aj ac hp2;obtain ⟨g0,g1⟩:=mod_lt (c / 4 / 6) (m:=6) (by decide);obtain ⟨j,mj,ej⟩:=kM (ns:=[9,0,30,99,20,10 ^ (30:Int).toNat]) g0 g1;refine ⟨_,rfl,r,c / 4 / 6,6,rfl,(by rw [ah nrp2];exact ac),by decide,by decide,p2,_,_,_,rfl,rfl,SqL.of (by rw [ah nrp2.symm];exact ac),ej,_,_,rfl,rfl,_,_,rfl,?_⟩;refine ⟨[.str "number",.int _,.int _],.cons .str (.cons .int (.cons .int .nil)),sz3,fun v H' g hv=>?_⟩;exact q v _ _ H' (((((But.put.trans (But.same (ag hp _))).trans But.put).trans (But.same (ag hp2 _))).trans But.put).trans (But.same g)) (g _ _ ac) hv fun m=>.number m _ _ (o6 i mi).1 (sw (o6 i mi).2 (nM j mj)) (sx _)
theorem dk (T:Tx K mg ad) {f fk:Addr} {fd fdk:FuncData} (n:Nat) (F:Gn K mg "_law_record" bu ["row","deep","names"] f fd) (uQ:Gn K mg "_law_kind" bS ["row","deep"] fk fdk)
  (uZ:FnOk P w K mg base CX0 (3*n+3) fk fdk ["row","deep"] (kL K n)):FnOk P w K mg base CX0 (3*n+3+1) f fd ["row","deep","names"] (dY K n):=by
 obtain ⟨_,_,uE⟩:=T.law_digit;have uG:=a8 (P:=P) (w:=w) (base:=base) T uE;refine F.F.ok b9 (fun vs H Q E h=>?_) (fun cdv A outer s H vs Q E hr h=>?_)
 ·obtain ⟨r,a,c,zs,m,_,rfl,_⟩:=h
  rfl
 obtain ⟨r,a,c,zs,m,rfl,rfl,hr0,ha,hz,q⟩:=h;refine ⟨_,(@pss_cons _ _ _ _ _ (@ps_set _ _ 3 _ _ _ _ b9.nd rfl (Or.inl rfl) (@ar _ _ _ _ bX) (by rfl) (by first | exact .inl rfl | exact .inr rfl | assumption)) (@pss_cons _ _ _ _ _ (eC PassesOwn.never rfl (kq (K:=K) rfl (pv 2)) (pg_name (i:=4) b9.nd rfl (Or.inl rfl))
    (@pss_one _ _ _ (@ps_if _ _ _ _ _ _ _ _ (pt_cmpR op_gt (pcl uE uG (hr.mono (by lia)) rfl (@pa2 _ _ _ _ _ (pv 0) pe_int (by rfl) (by rfl))) pe_int (nomark _)) (@pss_one _ _ _ (@iE _ _ _ _ (sU PySem.F.plainAttrs_list PySem.F.slot_list_append PySem.F.type_list_append ii (pv 3) (@pa1 _ _ _ (@pe_tupPK _ K _ _ _ _ rfl (@pa2 _ _ _ _ _ (pv 4) (pcl uQ uZ (hr.mono (by lia)) rfl (@pa2 _ _ _ _ _ (pv 0) (@pe_op _ _ _ _ _ _ _ _ op_sub (pv 1) pe_int) (by rfl) (by rfl))) (by rfl) (by rfl))) (by rfl))) (by rfl))) pss_nil))) (@pss_one _ _ _ (@ps_ret _ _ _ _ (@pe_tupPK _ K _ _ _ _ rfl (@pa2 _ _ _ _ _ pe_str (pe_callTy (cw (K:=K) rfl) rfl T.z_tuple boot_tuple (@pa1 _ _ _ (pv 3) (by rfl))) (by rfl) (by rfl))))))),?_⟩
 have nar:a≠r:=l5 ha hr0 (by
  intro e;injection e with e
  cases zs with
  | nil=>cases e
  | cons z zs=>cases e)
 refine ⟨(by show 0≤sizeLine;decide),fun l hl=>?_⟩;have nlr:r≠l:=aj hr0 hl;have nla:a≠l:=aj ha hl;refine ⟨_,rfl,a,rfl,⟨_,SqL.of (by rw [ah nla];exact ha)⟩,nG (xs:=zs.map V.str) (fun i σ H'=>∃ ys fs c' v4,But r H H'∧H' r=some (.lst [.int c'])∧H' l=some (.lst ys)∧IsPs K H' (List.map prD fs) ys∧ys.length≤i∧(fs.map (·.1)).Sublist (zs.take i)∧(∀ f∈fs,GK m f.2)∧σ=[some (.ref r),some (.int (m+1:Nat)),some (.ref a),some (.ref l),v4])
  ⟨[],[],c,none,But.same (ag hl _),(by rw [ah nlr];exact hr0),ac,.nil,Nat.le_refl _,List.Sublist.slnil,(by intro f hf;cases hf),rfl⟩ (fun i σ H' _ p=>by
   obtain ⟨ys,fs,c',v4,b,_⟩:=p;exact SqL.of (b _ _ nar ha)) ?_ ?_⟩
 ·rintro i y σ H1 hy ⟨ys,fs,c',v4,b1,e1,e2,hp,hle,sub,gk,rfl⟩;rw [List.getElem?_map] at hy;obtain ⟨z,hzi,rfl⟩:=Option.map_eq_some_iff.mp hy;have hi:i < zs.length:=(List.getElem?_eq_some_iff.mp hzi).1;have tk:zs.take (i+1)=zs.take i++[z]:=by rw [List.take_add_one,hzi];rfl
  refine ⟨_,rfl,r,c',3,rfl,e1,by decide,by decide,_,_,rfl,rfl,_,rfl,?_⟩;have b2:But r H1 (upd H1 r (.lst [.int (c' / 3)])):=But.put;have f2:upd H1 r (.lst [.int (c' / 3)]) l=some (.lst ys):=by rw [ah nlr.symm];exact e2
  refine aA (fun c1=>?_) (fun c1=>?_)
  ·refine ⟨_,rfl,.inl ⟨rfl,_,SqL.of f2⟩,_,rfl,_,rfl,_,rfl,_,_,rfl,rfl,r,c' / 3,m,rfl,(by rw [Int.natCast_add];simp),ac,fun v d n' H3 b3 e3 hv gd=>?_⟩;have f3:=b3 _ _ nlr.symm f2;have hp3:IsPs K H3 (List.map prD fs) ys:=(hp.but e1 b2).but ac b3;refine ⟨[.str z,d],.cons .str (.cons hv .nil),sz2,fun v4 H4 g4 hv4=>?_⟩;have f4:=g4 _ _ f3;refine ⟨l,ys,_,rfl,rfl,f4,ao (by lia),?_⟩;have b5:But l H4 (upd H4 l (.lst (ys++[v4]))):=But.put;refine ⟨ys++[v4],fs++[(z,d)],n',_,fun x o nx ex=>?_,?_,ac,?_,?_,?_,fun f hf=>?_,rfl⟩
   ·rw [ah (aj ex hl)];exact g4 _ _ (b3 x o nx (b2 x o nx (b1 x o nx ex)))
   ·rw [ah nlr];exact g4 _ _ e3
   ·rw [List.map_append];exact ((hp3.same g4).but f4 b5).append (.cons (hv4.but f4 b5) .nil)
   ·rw [List.length_append];simp only [List.length_cons,List.length_nil];lia
   ·rw [tk,List.map_append];exact sub.append (List.Sublist.refl _)
   ·rcases List.mem_append.mp hf with h1 | h1
    ·exact gk f h1
    ·obtain rfl:=List.mem_singleton.mp h1;exact gd
  ·refine ⟨ys,fs,c' / 3,_,fun x o nx ex=>b2 x o nx (b1 x o nx ex),ac,f2,hp.but e1 b2,by lia,?_,gk,rfl⟩;rw [tk];exact sub.trans (List.sublist_append_left _ _)
 ·rintro σ H1 ⟨ys,fs,c',v4,b1,e1,e2,hp,hle,sub,gk,rfl⟩;refine ⟨_,rfl,l,ys,_,rfl,SqL.of e2,hp,fun v2 H2 g2 hv2=>?_⟩;refine ⟨[.str "record",.tup (List.map prD fs)],.cons .str (.cons hv2 .nil),sz2,fun v H3 g3 hv=>?_⟩;refine q v fs c' H3 ((b1.trans (But.same g2)).trans (But.same g3)) (g3 _ _ (g2 _ _ e1)) hv ?_ gk;rw [List.length_map,List.take_length] at sub;exact sub
theorem tW:(["a","b"]:List Str).all aZ=true:=by decide +kernel
theorem qt:(["a","b","id"]:List Str).all aZ=true:=by decide +kernel
theorem tX:(["a","b"]:List Str).Pairwise ltS:=by decide +kernel
theorem qu:(["a","b","id"]:List Str).Pairwise ltS:=by decide +kernel
theorem o7 {m:Nat} {fs:List (Str×Dt)} {zs:List Str} (sub:(fs.map (·.1)).Sublist zs) (as:zs.Pairwise ltS) (nm:zs.all aZ=true) (hz:zs.length≤8) (g:∀ f∈fs,GK m f.2):∃ a c,FK a c (.tup [.str "record",.tup (fs.map prD)])∧a≤m+2∧c≤zs.length*cb m+1:=by
 obtain ⟨gs,e,hg⟩:=qU g;have e1:gs.map (·.1)=fs.map (·.1):=by rw [← e,List.map_map];rfl
 have e2:gs.map prG=fs.map prD:=by rw [← e,List.map_map];rfl
 have hl:gs.length≤zs.length:=by
  have:=sub.length_le;rw [← e1,List.length_map] at this;exact this
 rw [← e2];refine ⟨_,_,FK.rcd (fun g h=>(hg g h).1) (by rw [e1];exact as.sublist sub) (fun g h=>?_) (Nat.le_trans hl hz),?_,?_⟩
 ·exact List.all_eq_true.mp nm g.1 (sub.subset (by rw [← e1];exact List.mem_map_of_mem h))
 ·have:=max_le (b:=m+1) (l:=gs.map (·.2.2.1)) fun n hn=>by
   obtain ⟨g,h,rfl⟩:=List.mem_map.mp hn;exact (hg g h).2.1
  lia
 ·have h1:=o5 (b:=cb m) (l:=gs.map (·.2.2.2)) fun n hn=>by
   obtain ⟨g,h,rfl⟩:=List.mem_map.mp hn;exact (hg g h).2.2
  rw [List.length_map] at h1;have h2:=Nat.mul_le_mul_right (cb m) hl;lia
theorem sA {m:Nat} {fs:List (Str×Dt)} {zs:List Str} (sub:(fs.map (·.1)).Sublist zs) (as:zs.Pairwise ltS) (nm:zs.all aZ=true) (hz:zs.length≤2) (g:∀ f∈fs,GK m f.2):GK (m+1) (.tup [.str "record",.tup (fs.map prD)]):=by
 obtain ⟨a,c,fk,ha,hc⟩:=o7 sub as nm (by lia) g;have h2:=Nat.mul_le_mul_right (cb m) hz;exact ⟨a,c,fk,ha,(by show c≤2*cb m+1;lia)⟩
theorem cP (T:Tx K mg ad) {f fk:Addr} {fd fdk:FuncData} (n k:Nat) (hk:k≤3*n+3) (F:Gn K mg "_law_rows" cC ["row","deep"] f fd) (vm:Gn K mg "_law_record" bu ["row","deep","names"] fk fdk)
  (vq:FnOk P w K mg base CX0 k fk fdk ["row","deep","names"] (dY K (n - 1))):FnOk P w K mg base CX0 (3*n+3+1) f fd ["row","deep"] (qV K n):=by
 obtain ⟨_,_,uE⟩:=T.law_digit;have uG:=a8 (P:=P) (w:=w) (base:=base) T uE;refine F.F.ok bW (fun vs H Q E h=>?_) (fun cdv A outer s H vs Q E hr h=>?_)
 ·obtain ⟨r,c,m,_,rfl,_⟩:=h
  rfl
 obtain ⟨r,c,m,rfl,rfl,hr0,q⟩:=h;refine ⟨_,(@pss_cons _ _ _ _ _ (@ps_set _ _ 2 _ _ _ _ bW.nd rfl (Or.inl rfl) (pcl vm vq (hr.mono (by lia)) rfl (@pa3 _ _ _ _ _ _ _ (pv 0) (@pe_op _ _ _ _ _ _ _ _ op_sub (pv 1) pe_int) (@ar _ _ _ _ (@pa2 _ _ _ _ _ pe_str pe_str (by rfl) (by rfl))) (by rfl) (by rfl) (by rfl))) (by rfl) (by first | exact .inl rfl | exact .inr rfl | assumption)) (@pss_cons _ _ _ _ _ (@ps_set _ _ 3 _ _ _ _ bW.nd rfl (Or.inl rfl) (@cD _ _ _ _ _ _ _ (aY (K:=K) rfl) (@ar _ _ _ _ (@pa2 _ _ _ _ _ (@pe_tupPK _ K _ _ _ _ rfl (@pa3 _ _ _ _ _ _ _ pe_str (@pe_un _ _ _ _ _ _ un_neg pe_int) pe_int (by rfl) (by rfl) (by rfl))) (@pe_tupPK _ K _ _ _ _ rfl (@pa2 _ _ _ _ _ pe_str pe_int (by rfl) (by rfl))) (by rfl) (by rfl))) (pcl uE uG (hr.mono (by lia)) rfl (@pa2 _ _ _ _ _ (pv 0) pe_int (by rfl) (by rfl))) (fun _ _=>rfl)) (by rfl) (by first | exact .inl rfl | exact .inr rfl | assumption)) (@pss_cons _ _ _ _ _ (@ps_set _ _ 4 _ _ _ _ bW.nd rfl (Or.inl rfl) (@cD _ _ _ _ _ _ _ (aY (K:=K) rfl) (@ar _ _ _ _ (@al _ _ _ _ _ pe_int (@al _ _ _ _ _ pe_int (@pa3 _ _ _ _ _ _ _ pe_int pe_int pe_int (by rfl) (by rfl) (by rfl)) (by rfl)) (by rfl))) (pcl uE uG (hr.mono (by lia)) rfl (@pa2 _ _ _ _ _ (pv 0) pe_int (by rfl) (by rfl))) (fun _ _=>rfl)) (by rfl) (by first | exact .inl rfl | exact .inr rfl | assumption)) (@pss_one _ _ _ (@ps_ret _ _ _ _ (@pe_tupPK _ K _ _ _ _ rfl (@al _ _ _ _ _ pe_str (@pa3 _ _ _ _ _ _ _ pe_str (@pe_tupPK _ K _ _ _ _ rfl (@pa2 _ _ _ _ _ pe_str (@pe_op _ _ _ _ _ _ _ _ (ko (K:=K) rfl) (@pi1 K _ _ _ _ _ _ _ rfl (pv 2)) (@pe_tupPK _ K _ _ _ _ rfl (@pa1 _ _ _ (@pe_tupPK _ K _ _ _ _ rfl (@pa2 _ _ _ _ _ pe_str (pv 3) (by rfl) (by rfl))) (by rfl)))) (by rfl) (by rfl))) (pv 4) (by rfl) (by rfl) (by rfl)) (by rfl)))))))),?_⟩;have e1:(((m+2:Nat):Int)) - 1=((m+1:Nat):Int):=by lia
 refine ⟨_,rfl,_,rfl,_,_,rfl,rfl,sz2,fun p hp=>?_⟩;have nrp:r≠p:=aj hr0 hp;refine ⟨r,p,c,["a","b"],m,rfl,(by show [V.ref r,V.int (((m+2:Nat):Int) - 1),V.ref p]=_;rw [e1]),(by rw [ah nrp];exact hr0),ac,by decide,fun v2 fs c2 H2 b2 r2 hv2 sub gk=>?_⟩;have B2:But r H H2:=(But.same (ag hp _)).trans b2;refine ⟨_,rfl,[.str "number",.int _,.int 40],.cons .str (.cons .int (.cons .int .nil)),sz3,fun v3 H3 g3 hv3=>?_⟩;refine ⟨[.str "text",.int 3],.cons .str (.cons .int .nil),sz2,fun v4 H4 g4 hv4=>?_⟩;refine ⟨sz2,fun p5 hp5=>?_⟩;have g5:=ag hp5 (.lst [v3,v4]);have r5:=g5 _ _ (g4 _ _ (g3 _ _ r2));obtain ⟨d0,d1⟩:=mod_lt c2 (m:=2) (by decide);obtain ⟨vk,hvk,ek⟩:=tV (xs:=[v3,v4]) d0 d1;have nrp5:r≠p5:=aj (g4 _ _ (g3 _ _ r2)) hp5;have B5:But r H (upd H4 p5 (.lst [v3,v4])):=(((B2.trans (But.same g3)).trans (But.same g4)).trans (But.same g5));have key:∃ kd,IsP K (upd H4 p5 (.lst [v3,v4])) kd vk∧uw kd∧∀ m,GK m kd:=by
  rcases List.mem_cons.mp hvk with rfl | h
  ·exact ⟨_,(hv3.same g4).same g5,.inl ⟨_,_,rfl⟩,fun m=>.number m _ _ (by decide) (by decide) (by decide)⟩
  ·obtain rfl:=List.mem_singleton.mp h;exact ⟨_,hv4.same g5,.inr ⟨_,rfl⟩,fun m=>.text m _ (by decide) (by decide)⟩
 obtain ⟨kd,hkd,kk,gkd⟩:=key;refine ⟨_,rfl,r,c2,2,rfl,r5,by decide,by decide,p5,_,_,_,rfl,rfl,SqL.of (by rw [ah nrp5.symm];exact ac),ek,?_⟩;have b6:But r (upd H4 p5 (.lst [v3,v4])) (upd (upd H4 p5 (.lst [v3,v4])) r (.lst [.int (c2 / 2)])):=But.put;refine ⟨(by show 5≤sizeLine;decide),fun p7 hp7=>?_⟩;have nrp7:r≠p7:=aj ac hp7;have g7:=ag hp7 (.lst [.int 0,.int 1,.int 2,.int 3,.int 8]);obtain ⟨g0,g1⟩:=mod_lt (c2 / 2) (m:=5) (by decide);obtain ⟨i,mi,ei⟩:=kM (ns:=[0,1,2,3,8]) g0 g1;have bi:0≤i∧i≤8:=(by decide:∀ i∈([0,1,2,3,8]:List Int),0≤i∧i≤8) i mi;refine ⟨_,rfl,r,c2 / 2,5,rfl,g7 _ _ ac,by decide,by decide,p7,_,_,_,rfl,rfl,SqL.of (by rw [ah nrp7.symm];exact ac),ei,?_⟩;have b8:But r (upd H4 p5 (.lst [v3,v4])) (upd (upd (upd (upd H4 p5 (.lst [v3,v4])) r (.lst [.int (c2 / 2)])) p7 (.lst [.int 0,.int 1,.int 2,.int 3,.int 8])) r (.lst [.int (c2 / 2 / 5)])):=(b6.trans (But.same g7)).trans But.put;have hin:=(((hv2.same g3).same g4).same g5).but r5 b8;have hke:=hkd.but r5 b8;have r8:(upd (upd (upd (upd H4 p5 (.lst [v3,v4])) r (.lst [.int (c2 / 2)])) p7 (.lst [.int 0,.int 1,.int 2,.int 3,.int 8])) r (.lst [.int (c2 / 2 / 5)])) r=some (.lst [.int (c2 / 2 / 5)]):=ac;refine ⟨_,rfl,_,_,_,hin,rfl,rfl,fun v9 hv9=>?_⟩;refine ⟨_,rfl,[.str "id",kd],.cons .str (.cons hke .nil),sz2,fun v10 H10 g10 hv10=>?_⟩;refine ⟨[prD ("id",kd)],.cons hv10 .nil,sz1,fun v11 H11 g11 hv11=>?_⟩;have lf:fs.length≤2:=by have:=sub.length_le;rw [List.length_map] at this;exact this
 refine ⟨_,_,(hv9.same g10).same g11,hv11,(by rw [List.length_map];exact Nat.le_of_lt (ao (by simp only [List.length_cons,List.length_nil];lia))),fun v12 H12 g12 hv12=>?_⟩;refine ⟨[.str "record",_],.cons .str (.cons hv12 .nil),sz2,fun v13 H13 g13 hv13=>?_⟩;refine ⟨_,rfl,[.str "rows",.str "id",_,.int i],.cons .str (.cons .str (.cons hv13 (.cons .int .nil))),(by show 4≤sizeLine;decide),fun v14 H14 g14 hv14=>?_⟩;refine q v14 _ _ H14 (((((B5.trans b8).trans (But.same g10)).trans (But.same g11)).trans (But.same g12)).trans ((But.same g13).trans (But.same g14))) (g14 _ _ (g13 _ _ (g12 _ _ (g11 _ _ (g10 _ _ r8))))) hv14 ?_;have e:fs.map prD++[prD ("id",kd)]=(fs++[(("id" : Str),kd)]).map prD:=by rw [List.map_append];rfl
 rw [e];obtain ⟨a,cc,fk,ha,hc⟩:=o7 (m:=m) (fs:=fs++[(("id" : Str),kd)]) (zs:=["a","b","id"]) (by
  rw [List.map_append];exact sub.append (List.Sublist.refl [("id" : Str)])) qu qt (by decide) fun f hf=>by
   rcases List.mem_append.mp hf with h1 | h1
   ·exact gk f h1
   ·obtain rfl:=List.mem_singleton.mp h1;exact gkd m
 have hc':cc≤3*cb m+1:=hc;have hm:prD ("id",kd)∈(fs++[(("id" : Str),kd)]).map prD:=List.mem_map_of_mem (List.mem_append_right _ (List.mem_singleton.mpr rfl));refine ⟨a+1,cc+1,.rows fk ?_ bi.1 bi.2,by lia,(by show cc+1≤2*(2*cb m+1)+1;lia)⟩;rcases kk with ⟨i,j,rfl⟩ | ⟨i,rfl⟩
 ·exact ⟨"number",_,hm,.inl rfl⟩
 ·exact ⟨"text",_,hm,.inr rfl⟩
theorem cQ (T:Tx K mg ad) {f fr fw:Addr} {fd fdr fdw:FuncData} (n:Nat) (uQ:Gn K mg "_law_kind" bS ["row","deep"] f fd) (vm:Gn K mg "_law_record" bu ["row","deep","names"] fr fdr) (wq:Gn K mg "_law_rows" cC ["row","deep"] fw fdw)
  (uZ:FnOk P w K mg base CX0 (3*n+3) f fd ["row","deep"] (kL K n)) (vq:FnOk P w K mg base CX0 (3*n+4) fr fdr ["row","deep","names"] (dY K n)) (wo:FnOk P w K mg base CX0 (3*n+4) fw fdw ["row","deep"] (qV K n)) :
  FnOk P w K mg base CX0 (3*n+5+1) f fd ["row","deep"] (kL K (n+1)):=by
 obtain ⟨_,_,uE⟩:=T.law_digit;have uG:=a8 (P:=P) (w:=w) (base:=base) T uE;obtain ⟨_,_,vS⟩:=T.law_leaf;have wt:=kN (P:=P) (w:=w) (base:=base) T vS;refine uQ.F.ok eV (fun vs H Q E h=>?_) (fun cdv A outer s H vs Q E hr h=>?_)
 ·obtain ⟨r,c,m,_,rfl,_⟩:=h
  rfl
 obtain ⟨r,c,m,e0,rfl,hr0,q⟩:=h;obtain rfl:n=m:=Nat.succ.inj e0;refine ⟨_,(@pss_cons _ _ _ _ _ (@ps_set _ _ 2 _ _ _ _ eV.nd rfl (Or.inl rfl) (pcl uE uG (hr.mono (by lia)) rfl (@pa2 _ _ _ _ _ (pv 0) pe_int (by rfl) (by rfl))) (by rfl) (by first | exact .inl rfl | exact .inr rfl | assumption)) (@pss_cons _ _ _ _ _ (@ps_if _ _ _ _ _ _ _ _ (PW.pt (@pw_or _ _ _ _ _ _ _ (pt_cmpR op_le (pv 1) pe_int (nomark _)) (@pw_or1 _ _ _ _ (pt_cmpR sP (pv 2) pe_int (nomark _))))) (@pss_one _ _ _ (@ps_ret _ _ _ _ (pcl vS wt (hr.mono (by lia)) rfl (@pa1 _ _ _ (pv 0) (by rfl))))) pss_nil) (@pss_cons _ _ _ _ _ (@ps_if _ _ _ _ _ _ _ _ (pt_cmpR op_eq (pv 2) pe_int (nomark _)) (@pss_one _ _ _ (@ps_ret _ _ _ _ (@pe_tupPK _ K _ _ _ _ rfl (@pa3 _ _ _ _ _ _ _ pe_str (pcl uQ uZ (hr.mono (by lia)) rfl (@pa2 _ _ _ _ _ (pv 0) (@pe_op _ _ _ _ _ _ _ _ op_sub (pv 1) pe_int) (by rfl) (by rfl))) (@cD _ _ _ _ _ _ _ (aY (K:=K) rfl) (@ar _ _ _ _ (@al _ _ _ _ _ pe_int (@pa3 _ _ _ _ _ _ _ pe_int pe_int pe_int (by rfl) (by rfl) (by rfl)) (by rfl))) (pcl uE uG (hr.mono (by lia)) rfl (@pa2 _ _ _ _ _ (pv 0) pe_int (by rfl) (by rfl))) (fun _ _=>rfl)) (by rfl) (by rfl) (by rfl))))) pss_nil) (@pss_cons _ _ _ _ _ (@ps_if _ _ _ _ _ _ _ _ (PW.pt (@rg _ _ _ _ _ _ _ (pt_cmpR op_eq (pv 2) pe_int (nomark _)) (@pD _ _ _ _ (pt_cmpR op_gt (pv 1) pe_int (nomark _))))) (@pss_one _ _ _ (@ps_ret _ _ _ _ (pcl wq wo (hr.mono (by lia)) rfl (@pa2 _ _ _ _ _ (pv 0) (pv 1) (by rfl) (by rfl))))) pss_nil) (@pss_one _ _ _ (@ps_ret _ _ _ _ (pcl vm vq (hr.mono (by lia)) rfl (@pa3 _ _ _ _ _ _ _ (pv 0) (pv 1) (@ar _ _ _ _ (@pa2 _ _ _ _ _ pe_str pe_str (by rfl) (by rfl))) (by rfl) (by rfl) (by rfl))))))))),?_⟩;refine ⟨_,rfl,r,c,8,rfl,hr0,by decide,by decide,?_⟩;have leafy:∀ v d n' H',But r (upd H r (.lst [.int (c / 8)])) H'→H' r=some (.lst [.int n'])→IsP K H' d v→(∀ m,GK m d)→Q v H':=fun v d n' H' b e hv g=>q v d n' H' (But.put.trans b) e hv (g n);refine ⟨_,rfl,_,_,rfl,rfl,_,rfl,?_⟩;refine aA (fun c1=>⟨_,rfl,r,_,rfl,ac,leafy⟩) (fun c1=>?_);have hn:0 < n:=by
  have:¬ ((n:Int)≤0):=fun z=>c1 (decide_eq_true z);lia
 obtain ⟨m,rfl⟩:∃ m,n=m+1:=⟨n - 1,by lia⟩;refine ⟨_,rfl,_,_,rfl,rfl,_,rfl,?_⟩;refine aA (fun c2=>⟨_,rfl,r,_,rfl,ac,leafy⟩) (fun c2=>?_);refine ⟨_,rfl,rfl,_,rfl,?_⟩;refine aA (fun c3=>?_) (fun c3=>?_)
 ·have e1:(((m+1:Nat):Int)) - 1=(m:Int):=by lia
  refine ⟨_,rfl,_,rfl,_,_,rfl,rfl,r,_,m,rfl,(by show [V.ref r,V.int (((m+1:Nat):Int) - 1)]=_;rw [e1]),ac,fun v2 d2 c2 H2 b2 r2 hv2 gk2=>?_⟩;refine ⟨(by show 4≤sizeLine;decide),fun p hp=>?_⟩;have nrp:r≠p:=aj r2 hp;have g3:=ag hp (.lst [.int 0,.int 1,.int 2,.int 8]);obtain ⟨g0,g1⟩:=mod_lt c2 (m:=4) (by decide);obtain ⟨i,mi,ei⟩:=kM (ns:=[0,1,2,8]) g0 g1;have bi:0≤i∧i≤8:=(by decide:∀ i∈([0,1,2,8]:List Int),0≤i∧i≤8) i mi;refine ⟨_,rfl,r,c2,4,rfl,g3 _ _ r2,by decide,by decide,p,_,_,_,rfl,rfl,SqL.of (by rw [ah nrp.symm];exact ac),ei,?_⟩;have hv4:=(hv2.same g3).but (g3 _ _ r2) (But.put (o:=.lst [.int (c2 / 4)]));refine ⟨[.str "list",d2,.int i],.cons .str (.cons hv4 (.cons .int .nil)),sz3,fun v5 H5 g5 hv5=>?_⟩;exact q v5 _ _ H5 (((((But.put.trans b2).trans (But.same g3)).trans But.put)).trans (But.same g5)) (g5 _ _ ac) hv5 (.list gk2 bi.1 bi.2)
 refine ⟨_,rfl,rfl,_,rfl,?_⟩;have recd:(rl (l8 (dY K (m+1)) [] E0 (ce (fU 0) (ce (fU 1) (ce (gD (ce (tC (V.str "a")) (ce (tC (V.str "b")) jO))) jO))))) { nx:=fun _ H'=>Q .non H',rt:=Q } [some (.ref r),some (.int (m+1:Nat)),some (.int (c % 8))] (upd H r (.lst [.int (c / 8)])):=by
  refine ⟨_,rfl,_,rfl,sz2,fun p hp=>?_⟩;have nrp:r≠p:=aj ac hp;have g3:=ag hp (.lst [.str "a",.str "b"]);exact ⟨r,p,_,["a","b"],m,rfl,rfl,g3 _ _ ac,ac,by decide,fun v2 fs c2 H2 b2 r2 hv2 sub gk=>q v2 _ _ H2 ((But.put.trans (But.same g3)).trans b2) r2 hv2 (sA sub tX tW (by decide) gk)⟩
 refine aA (fun c4=>?_) (fun c4=>recd);refine ⟨_,rfl,_,_,rfl,rfl,_,rfl,?_⟩;refine aA (fun c5=>?_) (fun c5=>recd);have hm:0 < m:=by
  have:(1:Int) < ((m+1:Nat):Int):=of_decide_eq_true c5;lia
 obtain ⟨j,rfl⟩:∃ j,m=j+1:=⟨m - 1,by lia⟩;exact ⟨_,rfl,_,rfl,r,_,j,rfl,rfl,ac,fun v2 d2 c2 H2 b2 r2 hv2 gk2=>q v2 d2 c2 H2 (But.put.trans b2) r2 hv2 gk2⟩
def qv:List (Str×Int):=[("bounds",3),("scale",2),("shrink",2),("figures",2),("number",3),("words",3),("cut",2),("first",2),("one",2),("out",1),("items",2)]
def dZ:Dt→Bool
 | .tup (.str u :: l)=>decide (bv u qv=.int ((l.length+1:Nat):Int))
 | _=>false
def figN (n:Int):Nat:=(oB n).length
theorem fz (n:Int):(Str.ofString (toString n)).length=figN n:=by
 unfold figN;rw [← str_int]
 rfl
def ci (n:Int):Prop:=-1000000000000000000000000000000≤n∧n≤1000000000000000000000000000000
theorem jq {n:Int} (h:ci n):figN n≤32:=by
 obtain ⟨h1,h2⟩:=h;have:(dg n.natAbs).length≤30+1:=oA 30 n.natAbs (by
  have:n.natAbs≤1000000000000000000000000000000:=by lia
  exact Nat.lt_of_le_of_lt this (by decide))
 unfold figN oB
 split
 ·rw [List.length_cons];lia
 ·lia
theorem sB {n:Int} (h:ci n):n.natAbs.log2 < 1920:=by
 obtain ⟨h1,h2⟩:=h
 by_cases z:n.natAbs=0
 ·rw [z];decide
 ·rw [Nat.log2_lt z];have:n.natAbs≤1000000000000000000000000000000:=by lia
  exact Nat.lt_of_le_of_lt this (by decide +kernel)
def d4 (i j:Int):Int:=if ((figN j:Nat):Int) > ((figN i:Nat):Int) then ((figN j:Nat):Int) else ((figN i:Nat):Int)
def prT (p:Dt×Dt):Dt:=.tup [p.1,p.2]
def gS (_:PySem.W.Frag) (_:Ads):Sp:=fun vs H Q _=>∃ i:Int,vs=[.int i]∧ci i∧Q (.str (Str.ofString (toString i))) H
def fj (_:PySem.W.Frag) (_:Ads):Sp:=fun vs H Q _=>∃ i j:Int,vs=[.int i,.int j]∧ci i∧ci j∧Q (.int (d4 i j)) H
def jr (K:PySem.W.Frag) (_:Ads):Sp:=fun vs H Q _=>∃ (d:Dt) (x:V),vs=[x]∧IsP K H d x∧okD d=true∧Q (.bl (aN d 2 1000)) H
def d5 (K:PySem.W.Frag) (_:Ads):Sp:=fun vs H Q _=>∃ (d:Dt) (x:V),vs=[x]∧IsP K H d x∧okD d=true∧Q (.bl (dZ d)) H
def fm (K:PySem.W.Frag) (_:Ads):Sp:=fun vs H Q _=>∃ (ps:List (Dt×Dt)) (x:V),vs=[x]∧IsP K H (.tup (ps.map prT)) x∧ps.length≤999∧∀ v H',Same H H'→IsP K H' (.tup (ps.map (·.1))) v→Q v H'
theorem ny {H:Hp} {p:Dt×Dt} {v:V} (h:IsP K H (prT p) v):∃ b y z,v=.ref b∧SqT K H b [y,z]∧IsP K H p.1 y∧IsP K H p.2 z:=by
 obtain ⟨b,ys,rfl,hb,pb,rb⟩:=h.unref
 cases rb with
 | cons r1 rb =>
  cases rb with
  | @cons _ _ y2 _ r2 rb =>
   cases rb
   exact ⟨b,_,_,rfl,hb,r1,r2⟩
theorem gU (T:Tx K mg ad) {f:Addr} {fd:FuncData} (F:Gn K mg "figures_of" cz ["number"] f fd):FnOk P w K mg base CX0 1 f fd ["number"] (gS K ad):=by
 refine F.F.ok hJ (fun vs H Q E h=>?_) (fun cdv A outer s H vs Q E hr h=>?_)
 ·obtain ⟨i,rfl,_⟩:=h
  rfl
 obtain ⟨i,rfl,hi,q⟩:=h;refine ⟨_,(@pss_one _ _ _ (@ps_ret _ _ _ _ (pe_callTy iG rfl T.z_str boot_str (@pa1 _ _ _ (pv 0) (by rfl))))),?_⟩;exact ⟨_,rfl,i,rfl,sB hi,q⟩
theorem fo (T:Tx K mg ad) {f:Addr} {fd:FuncData} (F:Gn K mg "most_figures" bQ ["low","high"] f fd):FnOk P w K mg base CX0 2 f fd ["low","high"] (fj K ad):=by
 obtain ⟨_,_,vo⟩:=T.figures_of;have vK:=gU (P:=P) (w:=w) (base:=base) T vo;refine F.F.ok fq (fun vs H Q E h=>?_) (fun cdv A outer s H vs Q E hr h=>?_)
 ·obtain ⟨i,j,rfl,_⟩:=h
  rfl
 obtain ⟨i,j,rfl,hi,hj,q⟩:=h;refine ⟨_,(@pss_one _ _ _ (@ps_ret _ _ _ _ (pe_callB (h9 rfl) rfl T.z_max boot_max (@pa2 _ _ _ _ _ (pe_callB call_len_str rfl T.z_len PySem.boot_len (@pa1 _ _ _ (pcl vo vK (hr.mono (by lia)) rfl (@pa1 _ _ _ (pv 0) (by rfl))) (by rfl))) (pe_callB call_len_str rfl T.z_len PySem.boot_len (@pa1 _ _ _ (pcl vo vK (hr.mono (by lia)) rfl (@pa1 _ _ _ (pv 1) (by rfl))) (by rfl))) (by rfl) (by rfl))))),?_⟩;have li:=jq hi;have lj:=jq hj;refine ⟨_,rfl,i,rfl,hi,_,rfl,(by rw [fz];exact Nat.le_of_lt (ao (by lia))),?_⟩;refine ⟨_,rfl,j,rfl,hj,_,rfl,(by rw [fz];exact Nat.le_of_lt (ao (by lia))),?_⟩;refine ⟨_,_,rfl,?_⟩;rw [fz,fz];exact q
theorem js (T:Tx K mg ad) {f:Addr} {fd:FuncData} (F:Gn K mg "is_factor" cW ["thing"] f fd):FnOk P w K mg base CX0 3 f fd ["thing"] (jr K ad):=by
 obtain ⟨_,_,uH⟩:=T.is_whole_within;have uL:=bM (P:=P) (w:=w) (base:=base) T uH;obtain ⟨t_LEAST_FACTOR,c_LEAST_FACTOR⟩:=T.LEAST_FACTOR;obtain ⟨t_GREATEST_FACTOR,c_GREATEST_FACTOR⟩:=T.GREATEST_FACTOR;refine F.F.ok jI (fun vs H Q E h=>?_) (fun cdv A outer s H vs Q E hr h=>?_)
 ·obtain ⟨d,x,rfl,_⟩:=h
  rfl
 obtain ⟨d,x,rfl,hd,ok,q⟩:=h;refine ⟨_,(@pss_one _ _ _ (@ps_ret _ _ _ _ (pcl uH uL (hr.mono (by lia)) rfl (@pa3 _ _ _ _ _ _ _ (pv 0) (pe_gint rfl c_LEAST_FACTOR) (pe_gint rfl c_GREATEST_FACTOR) (by rfl) (by rfl) (by rfl))))),?_⟩;exact ⟨_,rfl,d,x,2,1000,rfl,hd,ok,q⟩
theorem d6 (T:Tx K mg ad) {f:Addr} {fd:FuncData} (F:Gn K mg "has_turn_parts" bB ["thing"] f fd):FnOk P w K mg base CX0 1 f fd ["thing"] (d5 K ad):=by
 obtain ⟨t_TURN_COUNTS,c_TURN_COUNTS,d_TURN_COUNTS⟩:=T.TURN_COUNTS;refine F.F.ok er (fun vs H Q E h=>?_) (fun cdv A outer s H vs Q E hr h=>?_)
 ·obtain ⟨d,x,rfl,_⟩:=h
  rfl
 obtain ⟨d,x,rfl,hd,ok,q⟩:=h;refine ⟨_,(@pss_cons _ _ _ _ _ (@ps_if _ _ _ _ _ _ _ _ (PW.pt (@pw_or _ _ _ _ _ _ _ (@pt_not _ _ _ _ (@pt_val _ _ _ (pe_callB (aD (K:=K) rfl) rfl T.z_isinstance boot_isinstance (@pa2 _ _ _ _ _ (pv 0) (bp rfl T.z_tuple boot_tuple) (by rfl) (by rfl))) (by intro _;rfl))) (@pw_or _ _ _ _ _ _ _ (pt_cmpR op_eq (pe_callB (call_lenDN (K:=K) rfl) rfl T.z_len PySem.boot_len (@pa1 _ _ _ (pv 0) (by rfl))) pe_int (nomark _)) (@pw_or1 _ _ _ _ (@pt_not _ _ _ _ (@pt_val _ _ _ (pe_callB (aD (K:=K) rfl) rfl T.z_isinstance boot_isinstance (@pa2 _ _ _ _ _ (@pi1 K _ _ _ _ _ _ _ rfl (pv 0)) (bp rfl T.z_str boot_str) (by rfl) (by rfl))) (by intro _;rfl))))))) (@pss_one _ _ _ (@ps_ret _ _ _ _ pe_bl)) pss_nil) (@pss_one _ _ _ (@ps_ret _ _ _ _ (pe_cmpR op_eq (pe_kget d_TURN_COUNTS rfl c_TURN_COUNTS (@pa1 _ _ _ (@pi1 K _ _ _ _ _ _ _ rfl (pv 0)) (by rfl))) (pe_callB (call_lenDN (K:=K) rfl) rfl T.z_len PySem.boot_len (@pa1 _ _ _ (pv 0) (by rfl))) (nomark _))))),?_⟩
 cases d with
 | non=>cases ok
 | bl=>cases ok
 | int i =>
  cases hd
  exact ⟨_,rfl,_,_,_,rfl,.int_tuple,_,rfl,ax (ax q)⟩
 | str z =>
  cases hd
  exact ⟨_,rfl,_,_,_,rfl,.str_tuple,_,rfl,ax (ax q)⟩
 | tup l =>
  obtain ⟨a,xs,rfl,ha,pa,ra⟩:=id hd.unref;refine ⟨_,rfl,_,_,_,rfl,.tup_tuple ha,_,rfl,aV ?_⟩;refine ⟨_,rfl,_,_,rfl,hd.d,rfl,_,rfl,?_⟩
  cases l with
  | nil=>exact a5 (ax q)
  | cons e l =>
   refine iteN (fun z=>?_) ?_
   ·injection z with z
    rw [List.length_cons] at z;lia
   have oke:=aO ok e List.mem_cons_self;refine ⟨_,rfl,_,_,_,hd,rfl,at0 _ _,fun v hv=>?_⟩
   cases e with
   | non=>cases oke
   | bl=>cases oke
   | int i =>
    cases hv
    exact ⟨_,_,_,rfl,.int_str,_,rfl,ax q⟩
   | tup l =>
    obtain ⟨a1,xs1,rfl,ha1,_,_⟩:=id hv.unref;exact ⟨_,_,_,rfl,.tup_str ha1,_,rfl,ax q⟩
   | str u =>
    obtain rfl:=aL hv;refine ⟨_,_,_,rfl,.str_str,_,rfl,aV ?_⟩;refine ⟨_,rfl,_,_,_,hd,rfl,at0 _ _,isS ?_⟩;refine ⟨_,rfl,_,rfl,_,_,rfl,hd.d,eH u _ _,q⟩
theorem cF (T:Tx K mg ad) {f:Addr} {fd:FuncData} (F:Gn K mg "words_behind" bR ["back"] f fd):FnOk P w K mg base CX0 1 f fd ["back"] (fm K ad):=by
 refine F.F.ok ft (fun vs H Q E h=>?_) (fun cdv A outer s H vs Q E hr h=>?_)
 ·obtain ⟨ps,x,rfl,_⟩:=h
  rfl
 obtain ⟨ps,x,rfl,hd,hl,q⟩:=h;refine ⟨_,(@pss_one _ _ _ (@ps_ret _ _ _ _ (pe_callTy (cw (K:=K) rfl) rfl T.z_tuple boot_tuple (@pa1 _ _ _ (a7 rfl (cs0 (NL:=["first","word"]) rfl (by decide +kernel) (by decide +kernel)) (be (K:=K) rfl (pv 0)) (fun _ _ _ _=>(cv (K:=K) (n:=2) rfl rfl (pgs_cons (pg_name (i:=0) (show List.Nodup (α:=Str) ["first","word"] by decide +kernel) rfl (Or.inl rfl)) (pgs_cons (pg_name (i:=1) (show List.Nodup (α:=Str) ["first","word"] by decide +kernel) rfl (Or.inl rfl)) bG)))) (fun _ _ _ _=>(pv 0))) (by rfl))))),?_⟩;obtain ⟨a,xs,rfl,ha,pa,ra⟩:=id hd.unref;have el:=ra.length;rw [List.length_map] at el;refine ⟨_,rfl,a,rfl,⟨_,ha⟩,fun l hln=>?_⟩;refine aT (K:=K) (xs:=xs) (fun i ys σ H'=>Same H H'∧H' l=some (.lst ys)∧IsPs K H' ((ps.take i).map (·.1)) ys∧σ.length=2) ⟨ag hln _,ac,.nil,rfl⟩ (fun i ys σ H' _ r=>r.1.tup ha) ?_ ?_
 ·rintro i y ys σ H1 N hy ⟨g1,e1,hp1,hσ⟩ next;obtain ⟨d1,hdi,hp⟩:=ra.get' hy;rw [List.getElem?_map] at hdi;obtain ⟨p,hfi,rfl⟩:=Option.map_eq_some_iff.mp hdi;obtain ⟨b,y1,y2,rfl,hb,hp1',hp2⟩:=ny (hp.same g1);have ly:=hp1.length;rw [List.length_map,List.length_take] at ly
  match σ,hσ with
  | [_,_],_ =>
   refine ⟨b,_,rfl,hb,rfl,_,_,rfl,_,_,rfl,rfl,?_⟩;refine ⟨_,rfl,e1,ao (by lia),next _ _ _ ⟨aU hln g1,ac,?_,rfl⟩⟩;have e:(ps.take (i+1)).map (·.1)=(ps.take i).map (·.1)++[p.1]:=by rw [List.take_add_one,hfi,List.map_append];rfl
   rw [e];have bb:But l H1 (upd H1 l (.lst (ys++[y1]))):=But.put;exact (hp1.append (.cons hp1' .nil)).but e1 bb
 ·rintro ys σ H1 ⟨g1,e1,hp1,_⟩;rw [← el,List.take_length] at hp1;exact ⟨l,ys,_,rfl,SqL.of e1,hp1,fun v H2 g2 hv=>q v H2 (g1.trans g2) hv⟩
theorem gr {K:PySem.W.Frag} {H:Hp} {i:Int} {v:V} (h:IsP K H (.int i) v):v=.int i:=by cases h;rfl
def prS (p:Str×Str):Dt:=.tup [.str p.1,.str p.2]
abbrev d7 (i j:Int):Dt:=.tup [.str "number",.int i,.int j]
def lkS (l:List (Str×Str)) (z:Str):Str:=((l.find? fun p=>decide (p.1=z)).map (·.2)).getD ""
def tY (fs:List Str) (bs:List (Str×Str)) (ws:List Str):Bool :=
 fs.all (fun f=>decide (f∈bs.map (·.1))) && (bs.all (fun b=>decide (b.2∈ws)) && (fs.all (fun f=>decide (lkS (ws.zip fs) (lkS bs f)=f)) && bs.all (fun b=>decide (lkS bs (lkS (ws.zip fs) b.2)=b.2))))
inductive NL:Dt→Dt→List Str→Prop
 | len (fs:List Dt) (b:Dt) (ws:List Str):fs.length≠ws.length→NL (.tup fs) b ws
 | led (fs:List Str) (bs:List (Str×Str)) (ws:List Str):fs.length=ws.length→bs.length≤8→okD (.tup ((bs.map (·.1)).map Dt.str))=true→(jb (.tup ((bs.map (·.1)).map Dt.str))=false∨(bE (bs.map (·.1))=true∧tY fs bs ws=false))→NL (.tup (fs.map Dt.str)) (.tup (bs.map prS)) ws
def aE:List (Str×List Str):=[("bounds",["number"]),("scale",["number"]),("shrink",["number"]),("figures",["number"]),("number",["text"]),("words",["choice"]),("cut",["text"]),("first",["list","rows"]),("out",["list"]),("items",["list"])]
inductive TT:Dt→Dt→Bool→Prop
 | parts (t d:Dt):dZ t=false→TT t d false
 | sort (w:Str) (ts:List Dt) (u:Str) (l:List Dt) (so:List Str):(w,so)∈aE→u∉so→dZ (.tup (.str w :: ts))=true→TT (.tup (.str w :: ts)) (.tup (.str u :: l)) false
 | bounds (x y:Dt) (i j:Int):TT (.tup [.str "bounds",x,y]) (d7 i j) true
 | scale (x:Dt) (i j:Int):okD x=true→TT (.tup [.str "scale",x]) (d7 i j) (aN x 2 1000)
 | shrink0 (x:Dt) (i j:Int):okD x=true→aN x 2 1000=false→TT (.tup [.str "shrink",x]) (d7 i j) false
 | shrink1 (k i j:Int):2≤k→k≤1000→i % k≠0→TT (.tup [.str "shrink",.int k]) (d7 i j) false
 | shrink2 (k i j:Int):2≤k→k≤1000→i % k=0→j % k≠0→TT (.tup [.str "shrink",.int k]) (d7 i j) false
 | figures0 (z:Str) (i j:Int):z.length≤1000→TT (.tup [.str "figures",.str z]) (d7 i j) false
 | figures (m i j:Int):ci i→ci j→TT (.tup [.str "figures",.int m]) (d7 i j) (decide (d4 i j≤m))
 | number0 (x y:Dt) (m:Int):okD x=true→okD y=true→bI x y=false→TT (.tup [.str "number",x,y]) (.tup [.str "text",.int m]) false
 | number (i j m:Int):ci i→i≤j→ci j→TT (.tup [.str "number",.int i,.int j]) (.tup [.str "text",.int m]) (decide (d4 i j≤m))
 | words (f b:Dt) (ws:List Str):bE ws=true→NL f b ws→TT (.tup [.str "words",f,b]) (.tup [.str "choice",.tup (ws.map Dt.str)]) false
 | cut (x:Dt) (m:Int):TT (.tup [.str "cut",x]) (.tup [.str "text",.int m]) true
 | firstL (x k:Dt) (m:Int):TT (.tup [.str "first",x]) (.tup [.str "list",k,.int m]) true
 | firstR (x:Dt) (z:Str) (k:Dt) (m:Int):TT (.tup [.str "first",x]) (.tup [.str "rows",.str z,k,.int m]) true
 | one (i:Int) (d:Dt):TT (.tup [.str "one",.int i]) d (decide (1≤i))
 | out (k:Dt) (m:Int):TT (.tup [.str "out"]) (.tup [.str "list",k,.int m]) (decide (1≤m))
 | items {t k:Dt} {b:Bool} (m:Int):okD t=true→TT t k b→TT (.tup [.str "items",t]) (.tup [.str "list",k,.int m]) b
theorem TT.pf {t d:Dt} {b:Bool} (g:TT t d b) (h:dZ t=false):b=false:=by
 cases g with
 | parts=>rfl
 | sort w ts u l so h1 h2 h3=>exact absurd (h3.symm.trans h) (by decide)
 | _=>exact absurd (show true=false from h) (by decide)
theorem qw {a c:Nat} {d:Dt} (h:FK a c d):∃ u l,d=.tup (.str u :: l):=by cases h <;> exact ⟨_,_,rfl⟩
theorem o8 (u:Str):inV (.str u) [.str u]=true:=by simp [inV,eqV]
theorem qx {K:PySem.W.Frag} {H:Hp} {a:Str} {zs:List V} (r:IsPs K H [.str a] zs):zs=[.str a]:=by
 cases r with
 | cons r1 r =>
  cases r
  rw [aL r1]
def cj (K:PySem.W.Frag) (_:Ads):Sp:=fun vs H Q _=>∃ (f b:Dt) (ws:List Str) (x y z:V),vs=[x,y,z]∧IsP K H f x∧IsP K H b y∧IsP K H (.tup (ws.map Dt.str)) z∧bE ws=true∧NL f b ws∧∀ H',Same H H'→Q (.bl false) H'
def o9 (K:PySem.W.Frag) (n:Nat):Sp:=fun vs H Q _=>∃ (a c:Nat) (t d:Dt) (b:Bool) (x y:V),a≤n∧vs=[x,y]∧IsP K H t x∧IsP K H d y∧okD t=true∧FK a c d∧TT t d b∧∀ H',Same H H'→Q (.bl b) H'
theorem gW (T:Tx K mg ad) {f fl:Addr} {fd fdl:FuncData} (n:Nat) (uS:Gn K mg "is_turn_of" bJ ["turn","kind"] f fd) (vv:FnOk P w K mg base CX0 (n+3) f fd ["turn","kind"] (o9 K n))
  (vR:Gn K mg "are_led_words" ay ["forth","back","elder"] fl fdl) (vT:FnOk P w K mg base CX0 3 fl fdl ["forth","back","elder"] (cj K ad)):FnOk P w K mg base CX0 (n+3+1) f fd ["turn","kind"] (o9 K (n+1)):=by
 obtain ⟨_,_,vt⟩:=T.has_turn_parts;have vQ:=d6 (P:=P) (w:=w) (base:=base) T vt;obtain ⟨_,_,vA⟩:=T.is_factor;have vM:=js (P:=P) (w:=w) (base:=base) T vA;obtain ⟨_,_,uI⟩:=T.is_whole;have uP:=cO (P:=P) (w:=w) (base:=base) T uI;obtain ⟨_,_,u0⟩:=T.most_figures;have vC:=fo (P:=P) (w:=w) (base:=base) T u0;obtain ⟨_,_,uT⟩:=T.are_bounds;have vp:=dj (P:=P) (w:=w) (base:=base) T uT;obtain ⟨c_TURN_SORTS,d_TURN_SORTS,s_TURN_SORTS⟩:=T.TURN_SORTS;refine uS.F.ok dr (fun vs H Q E h=>?_) (fun cdv A outer s H vs Q E hr h=>?_)
 ·obtain ⟨a,c,t,d,b,x,y,_,rfl,_⟩:=h
  rfl
 obtain ⟨a,c,t,d,b,x,y,hle,rfl,ht,hd,okt,fk,g,q⟩:=h;refine ⟨_,(@pss_cons _ _ _ _ _ (@ps_if _ _ _ _ _ _ _ _ (PW.pt (@pw_or _ _ _ _ _ _ _ (@pt_not _ _ _ _ (@pt_val _ _ _ (pcl vt vQ (hr.mono (by lia)) rfl (@pa1 _ _ _ (pv 0) (by rfl))) (by intro _;rfl))) (@pw_or1 _ _ _ _ (pt_cmpR op_notIn_seq (@pi1 K _ _ _ _ _ _ _ rfl (pv 1)) (pe_kgetA d_TURN_SORTS rfl c_TURN_SORTS (@pi1 K _ _ _ _ _ _ _ rfl (pv 0)) (@pe_tupPK _ K _ _ _ _ rfl (@pa1 _ _ _ (@pi1 K _ _ _ _ _ _ _ rfl (pv 1)) (by rfl))) ⟨rfl,rfl,rfl,rfl⟩) rfl)))) (@pss_one _ _ _ (@ps_ret _ _ _ _ pe_bl)) pss_nil) (@pss_cons _ _ _ _ _ (@ps_set _ _ 2 _ _ _ _ dr.nd rfl (Or.inl rfl) (@pi1 K _ _ _ _ _ _ _ rfl (pv 0)) (by rfl) (by first | exact .inl rfl | exact .inr rfl | assumption)) (@pss_cons _ _ _ _ _ (@ps_if _ _ _ _ _ _ _ _ (pt_cmpR op_eq (pv 2) pe_str (nomark _)) (@pss_one _ _ _ (@ps_ret _ _ _ _ (pcl vA vM (hr.mono (by lia)) rfl (@pa1 _ _ _ (@pi1 K _ _ _ _ _ _ _ rfl (pv 0)) (by rfl))))) pss_nil) (@pss_cons _ _ _ _ _ (@ps_if _ _ _ _ _ _ _ _ (pt_cmpR op_eq (pv 2) pe_str (nomark _)) (@pss_one _ _ _ (@ps_ret _ _ _ _ (pe_and (pcl vA vM (hr.mono (by lia)) rfl (@pa1 _ _ _ (@pi1 K _ _ _ _ _ _ _ rfl (pv 0)) (by rfl))) (pe_and (pe_cmpR op_eq (@pe_op _ _ _ _ _ _ _ _ cJ (@pi1 K _ _ _ _ _ _ _ rfl (pv 1)) (@pi1 K _ _ _ _ _ _ _ rfl (pv 0))) pe_int (nomark _)) (pe_one (pe_cmpR op_eq (@pe_op _ _ _ _ _ _ _ _ cJ (@pi1 K _ _ _ _ _ _ _ rfl (pv 1)) (@pi1 K _ _ _ _ _ _ _ rfl (pv 0))) pe_int (nomark _))))))) pss_nil) (@pss_cons _ _ _ _ _ (@ps_if _ _ _ _ _ _ _ _ (pt_cmpR op_eq (pv 2) pe_str (nomark _)) (@pss_one _ _ _ (@ps_ret _ _ _ _ (pe_and (pcl uI uP (hr.mono (by lia)) rfl (@pa1 _ _ _ (@pi1 K _ _ _ _ _ _ _ rfl (pv 0)) (by rfl))) (pe_one (pe_cmpR op_le (pcl u0 vC (hr.mono (by lia)) rfl (@pa2 _ _ _ _ _ (@pi1 K _ _ _ _ _ _ _ rfl (pv 1)) (@pi1 K _ _ _ _ _ _ _ rfl (pv 1)) (by rfl) (by rfl))) (@pi1 K _ _ _ _ _ _ _ rfl (pv 0)) (nomark _)))))) pss_nil) (@pss_cons _ _ _ _ _ (@ps_if _ _ _ _ _ _ _ _ (pt_cmpR op_eq (pv 2) pe_str (nomark _)) (@pss_one _ _ _ (@ps_ret _ _ _ _ (pe_and (pcl uT vp (hr.mono (by lia)) rfl (@pa2 _ _ _ _ _ (@pi1 K _ _ _ _ _ _ _ rfl (pv 0)) (@pi1 K _ _ _ _ _ _ _ rfl (pv 0)) (by rfl) (by rfl))) (pe_one (pe_cmpR op_le (pcl u0 vC (hr.mono (by lia)) rfl (@pa2 _ _ _ _ _ (@pi1 K _ _ _ _ _ _ _ rfl (pv 0)) (@pi1 K _ _ _ _ _ _ _ rfl (pv 0)) (by rfl) (by rfl))) (@pi1 K _ _ _ _ _ _ _ rfl (pv 1)) (nomark _)))))) pss_nil) (@pss_cons _ _ _ _ _ (@ps_if _ _ _ _ _ _ _ _ (pt_cmpR op_eq (pv 2) pe_str (nomark _)) (@pss_one _ _ _ (@ps_ret _ _ _ _ (pcl vR vT (hr.mono (by lia)) rfl (@pa3 _ _ _ _ _ _ _ (@pi1 K _ _ _ _ _ _ _ rfl (pv 0)) (@pi1 K _ _ _ _ _ _ _ rfl (pv 0)) (@pi1 K _ _ _ _ _ _ _ rfl (pv 1)) (by rfl) (by rfl) (by rfl))))) pss_nil) (@pss_cons _ _ _ _ _ (@ps_if _ _ _ _ _ _ _ _ (pt_cmpR op_eq (pv 2) pe_str (nomark _)) (@pss_one _ _ _ (@ps_ret _ _ _ _ (pe_and (pcl uI uP (hr.mono (by lia)) rfl (@pa1 _ _ _ (@pi1 K _ _ _ _ _ _ _ rfl (pv 0)) (by rfl))) (pe_one (pe_cmpR nJ (@pi1 K _ _ _ _ _ _ _ rfl (pv 0)) pe_int (nomark _)))))) pss_nil) (@pss_cons _ _ _ _ _ (@ps_if _ _ _ _ _ _ _ _ (pt_cmpR op_eq (pv 2) pe_str (nomark _)) (@pss_one _ _ _ (@ps_ret _ _ _ _ (pe_cmpR nJ (@pi1 K _ _ _ _ _ _ _ rfl (pv 1)) pe_int (nomark _)))) pss_nil) (@pss_cons _ _ _ _ _ (@ps_if _ _ _ _ _ _ _ _ (pt_cmpR op_eq (pv 2) pe_str (nomark _)) (@pss_one _ _ _ (@ps_ret _ _ _ _ (pcl uS vv (hr.mono (by lia)) rfl (@pa2 _ _ _ _ _ (@pi1 K _ _ _ _ _ _ _ rfl (pv 0)) (@pi1 K _ _ _ _ _ _ _ rfl (pv 1)) (by rfl) (by rfl))))) pss_nil) (@pss_one _ _ _ (@ps_ret _ _ _ _ pe_bl)))))))))))),?_⟩;refine ⟨_,rfl,t,x,rfl,ht,okt,?_⟩;obtain ⟨u,l,ed⟩:=qw fk
 cases hp:dZ t with
 | false =>
  obtain rfl:=g.pf hp;exact ⟨_,rfl,ax (ax (q H (Same.refl H)))⟩
 | true =>
 refine ⟨_,rfl,aV ?_⟩;refine ⟨_,rfl,_,_,_,(by rw [← ed];exact hd),rfl,at0 _ _,isS ?_⟩
 cases g with
 | parts _ _ h=>rw [hp] at h;cases h
 | sort wd ts u' l' so hm hu htp =>
  cases ed
  simp only [aE,List.mem_cons,List.not_mem_nil,or_false,Prod.mk.injEq] at hm;rcases hm with ⟨rfl,rfl⟩ | ⟨rfl,rfl⟩ | ⟨rfl,rfl⟩ | ⟨rfl,rfl⟩ | ⟨rfl,rfl⟩ | ⟨rfl,rfl⟩ | ⟨rfl,rfl⟩ | ⟨rfl,rfl⟩ | ⟨rfl,rfl⟩ | ⟨rfl,rfl⟩
  ·refine ⟨_,rfl,_,_,_,ht,rfl,at0 _ _,isS ?_⟩;refine ⟨_,rfl,_,_,_,hd,rfl,at0 _ _,isS ?_⟩;refine ⟨[.str _],.cons .str .nil,sz1,fun v4 H4 g4 hv4=>?_⟩;replace ht:=ht.same g4;replace hd:=hd.same g4;replace q:=fun H' g=>q H' (g4.trans g);refine ⟨_,rfl,167,_,rfl,.inr (s_TURN_SORTS (167,["number"]) (by simp) _),rfl,rfl,_,rfl,aA (fun c=>q _ (Same.refl _)) (fun c=>absurd ?_ c)⟩;simp at hu ⊢;simp [inV,eqV,hu];exact fun c=>hu c.symm
  ·refine ⟨_,rfl,_,_,_,ht,rfl,at0 _ _,isS ?_⟩;refine ⟨_,rfl,_,_,_,hd,rfl,at0 _ _,isS ?_⟩;refine ⟨[.str _],.cons .str .nil,sz1,fun v4 H4 g4 hv4=>?_⟩;replace ht:=ht.same g4;replace hd:=hd.same g4;replace q:=fun H' g=>q H' (g4.trans g);refine ⟨_,rfl,168,_,rfl,.inr (s_TURN_SORTS (168,["number"]) (by simp) _),rfl,rfl,_,rfl,aA (fun c=>q _ (Same.refl _)) (fun c=>absurd ?_ c)⟩;simp at hu ⊢;simp [inV,eqV,hu];exact fun c=>hu c.symm
  ·refine ⟨_,rfl,_,_,_,ht,rfl,at0 _ _,isS ?_⟩;refine ⟨_,rfl,_,_,_,hd,rfl,at0 _ _,isS ?_⟩;refine ⟨[.str _],.cons .str .nil,sz1,fun v4 H4 g4 hv4=>?_⟩;replace ht:=ht.same g4;replace hd:=hd.same g4;replace q:=fun H' g=>q H' (g4.trans g);refine ⟨_,rfl,169,_,rfl,.inr (s_TURN_SORTS (169,["number"]) (by simp) _),rfl,rfl,_,rfl,aA (fun c=>q _ (Same.refl _)) (fun c=>absurd ?_ c)⟩;simp at hu ⊢;simp [inV,eqV,hu];exact fun c=>hu c.symm
  ·refine ⟨_,rfl,_,_,_,ht,rfl,at0 _ _,isS ?_⟩;refine ⟨_,rfl,_,_,_,hd,rfl,at0 _ _,isS ?_⟩;refine ⟨[.str _],.cons .str .nil,sz1,fun v4 H4 g4 hv4=>?_⟩;replace ht:=ht.same g4;replace hd:=hd.same g4;replace q:=fun H' g=>q H' (g4.trans g);refine ⟨_,rfl,170,_,rfl,.inr (s_TURN_SORTS (170,["number"]) (by simp) _),rfl,rfl,_,rfl,aA (fun c=>q _ (Same.refl _)) (fun c=>absurd ?_ c)⟩;simp at hu ⊢;simp [inV,eqV,hu];exact fun c=>hu c.symm
  ·refine ⟨_,rfl,_,_,_,ht,rfl,at0 _ _,isS ?_⟩;refine ⟨_,rfl,_,_,_,hd,rfl,at0 _ _,isS ?_⟩;refine ⟨[.str _],.cons .str .nil,sz1,fun v4 H4 g4 hv4=>?_⟩;replace ht:=ht.same g4;replace hd:=hd.same g4;replace q:=fun H' g=>q H' (g4.trans g);refine ⟨_,rfl,171,_,rfl,.inr (s_TURN_SORTS (171,["text"]) (by simp) _),rfl,rfl,_,rfl,aA (fun c=>q _ (Same.refl _)) (fun c=>absurd ?_ c)⟩;simp at hu ⊢;simp [inV,eqV,hu];exact fun c=>hu c.symm
  ·refine ⟨_,rfl,_,_,_,ht,rfl,at0 _ _,isS ?_⟩;refine ⟨_,rfl,_,_,_,hd,rfl,at0 _ _,isS ?_⟩;refine ⟨[.str _],.cons .str .nil,sz1,fun v4 H4 g4 hv4=>?_⟩;replace ht:=ht.same g4;replace hd:=hd.same g4;replace q:=fun H' g=>q H' (g4.trans g);refine ⟨_,rfl,172,_,rfl,.inr (s_TURN_SORTS (172,["choice"]) (by simp) _),rfl,rfl,_,rfl,aA (fun c=>q _ (Same.refl _)) (fun c=>absurd ?_ c)⟩;simp at hu ⊢;simp [inV,eqV,hu];exact fun c=>hu c.symm
  ·refine ⟨_,rfl,_,_,_,ht,rfl,at0 _ _,isS ?_⟩;refine ⟨_,rfl,_,_,_,hd,rfl,at0 _ _,isS ?_⟩;refine ⟨[.str _],.cons .str .nil,sz1,fun v4 H4 g4 hv4=>?_⟩;replace ht:=ht.same g4;replace hd:=hd.same g4;replace q:=fun H' g=>q H' (g4.trans g);refine ⟨_,rfl,173,_,rfl,.inr (s_TURN_SORTS (173,["text"]) (by simp) _),rfl,rfl,_,rfl,aA (fun c=>q _ (Same.refl _)) (fun c=>absurd ?_ c)⟩;simp at hu ⊢;simp [inV,eqV,hu];exact fun c=>hu c.symm
  ·refine ⟨_,rfl,_,_,_,ht,rfl,at0 _ _,isS ?_⟩;refine ⟨_,rfl,_,_,_,hd,rfl,at0 _ _,isS ?_⟩;refine ⟨[.str _],.cons .str .nil,sz1,fun v4 H4 g4 hv4=>?_⟩;replace ht:=ht.same g4;replace hd:=hd.same g4;replace q:=fun H' g=>q H' (g4.trans g);refine ⟨_,rfl,174,_,rfl,.inr (s_TURN_SORTS (174,["list","rows"]) (by simp) _),rfl,rfl,_,rfl,aA (fun c=>q _ (Same.refl _)) (fun c=>absurd ?_ c)⟩;simp at hu ⊢;simp [inV,eqV,hu];exact ⟨fun c=>hu.1 c.symm,fun c=>hu.2 c.symm⟩
  ·refine ⟨_,rfl,_,_,_,ht,rfl,at0 _ _,isS ?_⟩;refine ⟨_,rfl,_,_,_,hd,rfl,at0 _ _,isS ?_⟩;refine ⟨[.str _],.cons .str .nil,sz1,fun v4 H4 g4 hv4=>?_⟩;replace ht:=ht.same g4;replace hd:=hd.same g4;replace q:=fun H' g=>q H' (g4.trans g);refine ⟨_,rfl,175,_,rfl,.inr (s_TURN_SORTS (175,["list"]) (by simp) _),rfl,rfl,_,rfl,aA (fun c=>q _ (Same.refl _)) (fun c=>absurd ?_ c)⟩;simp at hu ⊢;simp [inV,eqV,hu];exact fun c=>hu c.symm
  ·refine ⟨_,rfl,_,_,_,ht,rfl,at0 _ _,isS ?_⟩;refine ⟨_,rfl,_,_,_,hd,rfl,at0 _ _,isS ?_⟩;refine ⟨[.str _],.cons .str .nil,sz1,fun v4 H4 g4 hv4=>?_⟩;replace ht:=ht.same g4;replace hd:=hd.same g4;replace q:=fun H' g=>q H' (g4.trans g);refine ⟨_,rfl,176,_,rfl,.inr (s_TURN_SORTS (176,["list"]) (by simp) _),rfl,rfl,_,rfl,aA (fun c=>q _ (Same.refl _)) (fun c=>absurd ?_ c)⟩;simp at hu ⊢;simp [inV,eqV,hu];exact fun c=>hu c.symm
 | bounds x y i j =>
  cases ed
  refine ⟨_,rfl,_,_,_,ht,rfl,rfl,isS ?_⟩;refine ⟨_,rfl,_,_,_,hd,rfl,at0 _ _,isS ?_⟩;refine ⟨[.str _],.cons .str .nil,sz1,fun v4 H4 g4 hv4=>?_⟩;replace ht:=ht.same g4;replace hd:=hd.same g4;replace q:=fun H' g=>q H' (g4.trans g);refine ⟨_,rfl,167,_,rfl,.inr (s_TURN_SORTS (167,["number"]) (by simp) _),rfl,rfl,_,rfl,aA (fun c=>absurd c (by decide +kernel)) (fun _=>?_)⟩;refine ⟨_,rfl,_,_,_,ht,rfl,rfl,isS ?_⟩;refine ⟨_,rfl,rfl,_,rfl,iteN (af (by decide)) ?_⟩;refine ⟨_,rfl,rfl,_,rfl,iteN (af (by decide)) ?_⟩;refine ⟨_,rfl,rfl,_,rfl,iteN (af (by decide)) ?_⟩;refine ⟨_,rfl,rfl,_,rfl,iteN (af (by decide)) ?_⟩;refine ⟨_,rfl,rfl,_,rfl,iteN (af (by decide)) ?_⟩;refine ⟨_,rfl,rfl,_,rfl,iteN (af (by decide)) ?_⟩;refine ⟨_,rfl,rfl,_,rfl,iteN (af (by decide)) ?_⟩;refine ⟨_,rfl,rfl,_,rfl,iteN (af (by decide)) ?_⟩;exact q _ (fun _ _ h=>h)
 | scale x i j okx =>
  cases ed
  refine ⟨_,rfl,_,_,_,ht,rfl,rfl,isS ?_⟩;refine ⟨_,rfl,_,_,_,hd,rfl,at0 _ _,isS ?_⟩;refine ⟨[.str _],.cons .str .nil,sz1,fun v4 H4 g4 hv4=>?_⟩;replace ht:=ht.same g4;replace hd:=hd.same g4;replace q:=fun H' g=>q H' (g4.trans g);refine ⟨_,rfl,168,_,rfl,.inr (s_TURN_SORTS (168,["number"]) (by simp) _),rfl,rfl,_,rfl,aA (fun c=>absurd c (by decide +kernel)) (fun _=>?_)⟩;refine ⟨_,rfl,_,_,_,ht,rfl,rfl,isS ?_⟩;refine ⟨_,rfl,rfl,_,rfl,a5 ?_⟩;refine ⟨_,rfl,_,_,_,ht,rfl,rfl,fun v6 hv6=>?_⟩;refine ⟨_,v6,rfl,hv6,okx,?_⟩;exact q _ (fun _ _ h=>h)
 | shrink0 x i j okx hw =>
  cases ed
  refine ⟨_,rfl,_,_,_,ht,rfl,rfl,isS ?_⟩;refine ⟨_,rfl,_,_,_,hd,rfl,at0 _ _,isS ?_⟩;refine ⟨[.str _],.cons .str .nil,sz1,fun v4 H4 g4 hv4=>?_⟩;replace ht:=ht.same g4;replace hd:=hd.same g4;replace q:=fun H' g=>q H' (g4.trans g);refine ⟨_,rfl,169,_,rfl,.inr (s_TURN_SORTS (169,["number"]) (by simp) _),rfl,rfl,_,rfl,aA (fun c=>absurd c (by decide +kernel)) (fun _=>?_)⟩;refine ⟨_,rfl,_,_,_,ht,rfl,rfl,isS ?_⟩;refine ⟨_,rfl,rfl,_,rfl,iteN (af (by decide)) ?_⟩;refine ⟨_,rfl,rfl,_,rfl,a5 ?_⟩;refine ⟨_,rfl,_,_,_,ht,rfl,rfl,fun v6 hv6=>?_⟩;refine ⟨_,v6,rfl,hv6,okx,?_⟩;rw [hw];exact ⟨_,rfl,aV (q _ (fun _ _ h=>h))⟩
 | shrink1 k i j h1 h2 h3 =>
  cases ed
  refine ⟨_,rfl,_,_,_,ht,rfl,rfl,isS ?_⟩;refine ⟨_,rfl,_,_,_,hd,rfl,at0 _ _,isS ?_⟩;refine ⟨[.str _],.cons .str .nil,sz1,fun v4 H4 g4 hv4=>?_⟩;replace ht:=ht.same g4;replace hd:=hd.same g4;replace q:=fun H' g=>q H' (g4.trans g);refine ⟨_,rfl,169,_,rfl,.inr (s_TURN_SORTS (169,["number"]) (by simp) _),rfl,rfl,_,rfl,aA (fun c=>absurd c (by decide +kernel)) (fun _=>?_)⟩;refine ⟨_,rfl,_,_,_,ht,rfl,rfl,isS ?_⟩;refine ⟨_,rfl,rfl,_,rfl,iteN (af (by decide)) ?_⟩;refine ⟨_,rfl,rfl,_,rfl,a5 ?_⟩;refine ⟨_,rfl,_,_,_,ht,rfl,rfl,fun v6 hv6=>?_⟩;have hw:aN (.int k) 2 1000=true:=by show (decide (2≤k) && decide (k≤1000))=true;rw [decide_eq_true h1,decide_eq_true h2];rfl
  refine ⟨_,v6,rfl,hv6,rfl,?_⟩;rw [hw];refine ⟨_,rfl,ax ?_⟩;refine ⟨_,rfl,_,_,_,hd,rfl,rfl,isI ?_⟩;refine ⟨_,rfl,_,_,_,ht,rfl,rfl,isI ?_⟩;refine ⟨_,_,rfl,rfl,(by show (0:Int) < k;lia),?_⟩;exact ⟨rfl,_,rfl,iteN (fun c=>h3 (V.int.inj c)) (q _ (fun _ _ h=>h))⟩
 | shrink2 k i j h1 h2 h3 h4 =>
  cases ed
  refine ⟨_,rfl,_,_,_,ht,rfl,rfl,isS ?_⟩;refine ⟨_,rfl,_,_,_,hd,rfl,at0 _ _,isS ?_⟩;refine ⟨[.str _],.cons .str .nil,sz1,fun v4 H4 g4 hv4=>?_⟩;replace ht:=ht.same g4;replace hd:=hd.same g4;replace q:=fun H' g=>q H' (g4.trans g);refine ⟨_,rfl,169,_,rfl,.inr (s_TURN_SORTS (169,["number"]) (by simp) _),rfl,rfl,_,rfl,aA (fun c=>absurd c (by decide +kernel)) (fun _=>?_)⟩;refine ⟨_,rfl,_,_,_,ht,rfl,rfl,isS ?_⟩;refine ⟨_,rfl,rfl,_,rfl,iteN (af (by decide)) ?_⟩;refine ⟨_,rfl,rfl,_,rfl,a5 ?_⟩;refine ⟨_,rfl,_,_,_,ht,rfl,rfl,fun v6 hv6=>?_⟩;have hw:aN (.int k) 2 1000=true:=by show (decide (2≤k) && decide (k≤1000))=true;rw [decide_eq_true h1,decide_eq_true h2];rfl
  refine ⟨_,v6,rfl,hv6,rfl,?_⟩;rw [hw];refine ⟨_,rfl,ax ?_⟩;refine ⟨_,rfl,_,_,_,hd,rfl,rfl,isI ?_⟩;refine ⟨_,rfl,_,_,_,ht,rfl,rfl,isI ?_⟩;refine ⟨_,_,rfl,rfl,(by show (0:Int) < k;lia),?_⟩;rw [h3];refine ⟨rfl,_,rfl,a5 ?_⟩;refine ⟨_,rfl,_,_,_,hd,rfl,rfl,isI ?_⟩;refine ⟨_,rfl,_,_,_,ht,rfl,rfl,isI ?_⟩;refine ⟨_,_,rfl,rfl,(by show (0:Int) < k;lia),?_⟩;refine ⟨rfl,?_⟩;rw [decide_eq_false (fun c=>h4 (V.int.inj c))];exact q _ (fun _ _ h=>h)
 | figures0 z i j hz =>
  cases ed
  refine ⟨_,rfl,_,_,_,ht,rfl,rfl,isS ?_⟩;refine ⟨_,rfl,_,_,_,hd,rfl,at0 _ _,isS ?_⟩;refine ⟨[.str _],.cons .str .nil,sz1,fun v4 H4 g4 hv4=>?_⟩;replace ht:=ht.same g4;replace hd:=hd.same g4;replace q:=fun H' g=>q H' (g4.trans g);refine ⟨_,rfl,170,_,rfl,.inr (s_TURN_SORTS (170,["number"]) (by simp) _),rfl,rfl,_,rfl,aA (fun c=>absurd c (by decide +kernel)) (fun _=>?_)⟩;refine ⟨_,rfl,_,_,_,ht,rfl,rfl,isS ?_⟩;refine ⟨_,rfl,rfl,_,rfl,iteN (af (by decide)) ?_⟩;refine ⟨_,rfl,rfl,_,rfl,iteN (af (by decide)) ?_⟩;refine ⟨_,rfl,rfl,_,rfl,a5 ?_⟩;refine ⟨_,rfl,_,_,_,ht,rfl,rfl,fun v6 hv6=>?_⟩;refine ⟨_,v6,rfl,hv6,decide_eq_true hz,?_⟩;exact ⟨_,rfl,aV (q _ (fun _ _ h=>h))⟩
 | figures m i j h1 h2 =>
  cases ed
  refine ⟨_,rfl,_,_,_,ht,rfl,rfl,isS ?_⟩;refine ⟨_,rfl,_,_,_,hd,rfl,at0 _ _,isS ?_⟩;refine ⟨[.str _],.cons .str .nil,sz1,fun v4 H4 g4 hv4=>?_⟩;replace ht:=ht.same g4;replace hd:=hd.same g4;replace q:=fun H' g=>q H' (g4.trans g);refine ⟨_,rfl,170,_,rfl,.inr (s_TURN_SORTS (170,["number"]) (by simp) _),rfl,rfl,_,rfl,aA (fun c=>absurd c (by decide +kernel)) (fun _=>?_)⟩;refine ⟨_,rfl,_,_,_,ht,rfl,rfl,isS ?_⟩;refine ⟨_,rfl,rfl,_,rfl,iteN (af (by decide)) ?_⟩;refine ⟨_,rfl,rfl,_,rfl,iteN (af (by decide)) ?_⟩;refine ⟨_,rfl,rfl,_,rfl,a5 ?_⟩;refine ⟨_,rfl,_,_,_,ht,rfl,rfl,fun v6 hv6=>?_⟩;refine ⟨_,v6,rfl,hv6,rfl,?_⟩;refine ⟨_,rfl,ax ?_⟩;refine ⟨_,rfl,_,_,_,hd,rfl,rfl,isI ?_⟩;refine ⟨_,rfl,_,_,_,hd,rfl,rfl,isI ?_⟩;refine ⟨i,j,rfl,h1,h2,?_⟩;refine ⟨_,rfl,_,_,_,ht,rfl,rfl,isI ?_⟩;exact ⟨_,_,rfl,rfl,q _ (fun _ _ h=>h)⟩
 | number0 x y m okx oky hb =>
  cases ed
  refine ⟨_,rfl,_,_,_,ht,rfl,rfl,isS ?_⟩;refine ⟨_,rfl,_,_,_,hd,rfl,at0 _ _,isS ?_⟩;refine ⟨[.str _],.cons .str .nil,sz1,fun v4 H4 g4 hv4=>?_⟩;replace ht:=ht.same g4;replace hd:=hd.same g4;replace q:=fun H' g=>q H' (g4.trans g);refine ⟨_,rfl,171,_,rfl,.inr (s_TURN_SORTS (171,["text"]) (by simp) _),rfl,rfl,_,rfl,aA (fun c=>absurd c (by decide +kernel)) (fun _=>?_)⟩;refine ⟨_,rfl,_,_,_,ht,rfl,rfl,isS ?_⟩;refine ⟨_,rfl,rfl,_,rfl,iteN (af (by decide)) ?_⟩;refine ⟨_,rfl,rfl,_,rfl,iteN (af (by decide)) ?_⟩;refine ⟨_,rfl,rfl,_,rfl,iteN (af (by decide)) ?_⟩;refine ⟨_,rfl,rfl,_,rfl,a5 ?_⟩;refine ⟨_,rfl,_,_,_,ht,rfl,rfl,fun v6 hv6=>?_⟩;refine ⟨_,rfl,_,_,_,ht,rfl,rfl,fun v7 hv7=>?_⟩;refine ⟨_,_,v6,v7,rfl,hv6,hv7,okx,oky,?_⟩;rw [hb];exact ⟨_,rfl,aV (q _ (fun _ _ h=>h))⟩
 | number i j m h1 h2 h3 =>
  cases ed
  refine ⟨_,rfl,_,_,_,ht,rfl,rfl,isS ?_⟩;refine ⟨_,rfl,_,_,_,hd,rfl,at0 _ _,isS ?_⟩;refine ⟨[.str _],.cons .str .nil,sz1,fun v4 H4 g4 hv4=>?_⟩;replace ht:=ht.same g4;replace hd:=hd.same g4;replace q:=fun H' g=>q H' (g4.trans g);refine ⟨_,rfl,171,_,rfl,.inr (s_TURN_SORTS (171,["text"]) (by simp) _),rfl,rfl,_,rfl,aA (fun c=>absurd c (by decide +kernel)) (fun _=>?_)⟩;refine ⟨_,rfl,_,_,_,ht,rfl,rfl,isS ?_⟩;refine ⟨_,rfl,rfl,_,rfl,iteN (af (by decide)) ?_⟩;refine ⟨_,rfl,rfl,_,rfl,iteN (af (by decide)) ?_⟩;refine ⟨_,rfl,rfl,_,rfl,iteN (af (by decide)) ?_⟩;refine ⟨_,rfl,rfl,_,rfl,a5 ?_⟩;refine ⟨_,rfl,_,_,_,ht,rfl,rfl,fun v6 hv6=>?_⟩;refine ⟨_,rfl,_,_,_,ht,rfl,rfl,fun v7 hv7=>?_⟩;have hb:bI (.int i) (.int j)=true:=by
   show _=true;simp only [bI,ja,Bool.and_eq_true,decide_eq_true_eq];exact ⟨⟨h1.1,h2⟩,h3.2⟩
  refine ⟨_,_,v6,v7,rfl,hv6,hv7,rfl,rfl,?_⟩;rw [hb];refine ⟨_,rfl,ax ?_⟩;refine ⟨_,rfl,_,_,_,ht,rfl,rfl,isI ?_⟩;refine ⟨_,rfl,_,_,_,ht,rfl,rfl,isI ?_⟩;refine ⟨i,j,rfl,h1,h3,?_⟩;refine ⟨_,rfl,_,_,_,hd,rfl,rfl,isI ?_⟩;exact ⟨_,_,rfl,rfl,q _ (fun _ _ h=>h)⟩
 | words f b ws hw nl =>
  cases ed
  refine ⟨_,rfl,_,_,_,ht,rfl,rfl,isS ?_⟩;refine ⟨_,rfl,_,_,_,hd,rfl,at0 _ _,isS ?_⟩;refine ⟨[.str _],.cons .str .nil,sz1,fun v4 H4 g4 hv4=>?_⟩;replace ht:=ht.same g4;replace hd:=hd.same g4;replace q:=fun H' g=>q H' (g4.trans g);refine ⟨_,rfl,172,_,rfl,.inr (s_TURN_SORTS (172,["choice"]) (by simp) _),rfl,rfl,_,rfl,aA (fun c=>absurd c (by decide +kernel)) (fun _=>?_)⟩;refine ⟨_,rfl,_,_,_,ht,rfl,rfl,isS ?_⟩;refine ⟨_,rfl,rfl,_,rfl,iteN (af (by decide)) ?_⟩;refine ⟨_,rfl,rfl,_,rfl,iteN (af (by decide)) ?_⟩;refine ⟨_,rfl,rfl,_,rfl,iteN (af (by decide)) ?_⟩;refine ⟨_,rfl,rfl,_,rfl,iteN (af (by decide)) ?_⟩;refine ⟨_,rfl,rfl,_,rfl,a5 ?_⟩;refine ⟨_,rfl,_,_,_,ht,rfl,rfl,fun v6 hv6=>?_⟩;refine ⟨_,rfl,_,_,_,ht,rfl,rfl,fun v7 hv7=>?_⟩;refine ⟨_,rfl,_,_,_,hd,rfl,rfl,fun v8 hv8=>?_⟩;exact ⟨f,b,ws,v6,v7,v8,rfl,hv6,hv7,hv8,hw,nl,q⟩
 | cut x m =>
  cases ed
  refine ⟨_,rfl,_,_,_,ht,rfl,rfl,isS ?_⟩;refine ⟨_,rfl,_,_,_,hd,rfl,at0 _ _,isS ?_⟩;refine ⟨[.str _],.cons .str .nil,sz1,fun v4 H4 g4 hv4=>?_⟩;replace ht:=ht.same g4;replace hd:=hd.same g4;replace q:=fun H' g=>q H' (g4.trans g);refine ⟨_,rfl,173,_,rfl,.inr (s_TURN_SORTS (173,["text"]) (by simp) _),rfl,rfl,_,rfl,aA (fun c=>absurd c (by decide +kernel)) (fun _=>?_)⟩;refine ⟨_,rfl,_,_,_,ht,rfl,rfl,isS ?_⟩;refine ⟨_,rfl,rfl,_,rfl,iteN (af (by decide)) ?_⟩;refine ⟨_,rfl,rfl,_,rfl,iteN (af (by decide)) ?_⟩;refine ⟨_,rfl,rfl,_,rfl,iteN (af (by decide)) ?_⟩;refine ⟨_,rfl,rfl,_,rfl,iteN (af (by decide)) ?_⟩;refine ⟨_,rfl,rfl,_,rfl,iteN (af (by decide)) ?_⟩;refine ⟨_,rfl,rfl,_,rfl,iteN (af (by decide)) ?_⟩;refine ⟨_,rfl,rfl,_,rfl,iteN (af (by decide)) ?_⟩;refine ⟨_,rfl,rfl,_,rfl,iteN (af (by decide)) ?_⟩;exact q _ (fun _ _ h=>h)
 | firstL x k m =>
  cases ed
  refine ⟨_,rfl,_,_,_,ht,rfl,rfl,isS ?_⟩;refine ⟨_,rfl,_,_,_,hd,rfl,at0 _ _,isS ?_⟩;refine ⟨[.str _],.cons .str .nil,sz1,fun v4 H4 g4 hv4=>?_⟩;replace ht:=ht.same g4;replace hd:=hd.same g4;replace q:=fun H' g=>q H' (g4.trans g);refine ⟨_,rfl,174,_,rfl,.inr (s_TURN_SORTS (174,["list","rows"]) (by simp) _),rfl,rfl,_,rfl,aA (fun c=>absurd c (by decide +kernel)) (fun _=>?_)⟩;refine ⟨_,rfl,_,_,_,ht,rfl,rfl,isS ?_⟩;refine ⟨_,rfl,rfl,_,rfl,iteN (af (by decide)) ?_⟩;refine ⟨_,rfl,rfl,_,rfl,iteN (af (by decide)) ?_⟩;refine ⟨_,rfl,rfl,_,rfl,iteN (af (by decide)) ?_⟩;refine ⟨_,rfl,rfl,_,rfl,iteN (af (by decide)) ?_⟩;refine ⟨_,rfl,rfl,_,rfl,iteN (af (by decide)) ?_⟩;refine ⟨_,rfl,rfl,_,rfl,iteN (af (by decide)) ?_⟩;refine ⟨_,rfl,rfl,_,rfl,iteN (af (by decide)) ?_⟩;refine ⟨_,rfl,rfl,_,rfl,iteN (af (by decide)) ?_⟩;exact q _ (fun _ _ h=>h)
 | firstR x z k m =>
  cases ed
  refine ⟨_,rfl,_,_,_,ht,rfl,rfl,isS ?_⟩;refine ⟨_,rfl,_,_,_,hd,rfl,at0 _ _,isS ?_⟩;refine ⟨[.str _],.cons .str .nil,sz1,fun v4 H4 g4 hv4=>?_⟩;replace ht:=ht.same g4;replace hd:=hd.same g4;replace q:=fun H' g=>q H' (g4.trans g);refine ⟨_,rfl,174,_,rfl,.inr (s_TURN_SORTS (174,["list","rows"]) (by simp) _),rfl,rfl,_,rfl,aA (fun c=>absurd c (by decide +kernel)) (fun _=>?_)⟩;refine ⟨_,rfl,_,_,_,ht,rfl,rfl,isS ?_⟩;refine ⟨_,rfl,rfl,_,rfl,iteN (af (by decide)) ?_⟩;refine ⟨_,rfl,rfl,_,rfl,iteN (af (by decide)) ?_⟩;refine ⟨_,rfl,rfl,_,rfl,iteN (af (by decide)) ?_⟩;refine ⟨_,rfl,rfl,_,rfl,iteN (af (by decide)) ?_⟩;refine ⟨_,rfl,rfl,_,rfl,iteN (af (by decide)) ?_⟩;refine ⟨_,rfl,rfl,_,rfl,iteN (af (by decide)) ?_⟩;refine ⟨_,rfl,rfl,_,rfl,iteN (af (by decide)) ?_⟩;refine ⟨_,rfl,rfl,_,rfl,iteN (af (by decide)) ?_⟩;exact q _ (fun _ _ h=>h)
 | one i _ =>
  refine ⟨_,rfl,_,_,_,ht,rfl,rfl,isS ?_⟩;refine ⟨_,rfl,_,_,_,(by rw [← ed];exact hd),rfl,at0 _ _,isS ?_⟩;refine ⟨[.str _],.cons .str .nil,sz1,fun v4 H4 g4 hv4=>?_⟩;replace ht:=ht.same g4;replace hd:=hd.same g4;replace q:=fun H' g=>q H' (g4.trans g);obtain ⟨p4,zs,rfl,hz,_,rz⟩:=id hv4.unref;obtain rfl:=qx rz;refine ⟨_,rfl,p4,_,rfl,.inr hz,rfl,rfl,_,rfl,aA (fun c=>absurd c (by simp [o8])) (fun _=>?_)⟩;refine ⟨_,rfl,_,_,_,ht,rfl,rfl,isS ?_⟩;refine ⟨_,rfl,rfl,_,rfl,iteN (af (by decide)) ?_⟩;refine ⟨_,rfl,rfl,_,rfl,iteN (af (by decide)) ?_⟩;refine ⟨_,rfl,rfl,_,rfl,iteN (af (by decide)) ?_⟩;refine ⟨_,rfl,rfl,_,rfl,iteN (af (by decide)) ?_⟩;refine ⟨_,rfl,rfl,_,rfl,iteN (af (by decide)) ?_⟩;refine ⟨_,rfl,rfl,_,rfl,a5 ?_⟩;refine ⟨_,rfl,_,_,_,ht,rfl,rfl,fun v6 hv6=>?_⟩;refine ⟨_,v6,rfl,hv6,rfl,?_⟩;refine ⟨_,rfl,ax ?_⟩;refine ⟨_,rfl,_,_,_,ht,rfl,rfl,isI ?_⟩;exact ⟨_,_,rfl,rfl,q _ (fun _ _ h=>h)⟩
 | out k m =>
  cases ed
  refine ⟨_,rfl,_,_,_,ht,rfl,rfl,isS ?_⟩;refine ⟨_,rfl,_,_,_,hd,rfl,at0 _ _,isS ?_⟩;refine ⟨[.str _],.cons .str .nil,sz1,fun v4 H4 g4 hv4=>?_⟩;replace ht:=ht.same g4;replace hd:=hd.same g4;replace q:=fun H' g=>q H' (g4.trans g);refine ⟨_,rfl,175,_,rfl,.inr (s_TURN_SORTS (175,["list"]) (by simp) _),rfl,rfl,_,rfl,aA (fun c=>absurd c (by decide +kernel)) (fun _=>?_)⟩;refine ⟨_,rfl,_,_,_,ht,rfl,rfl,isS ?_⟩;refine ⟨_,rfl,rfl,_,rfl,iteN (af (by decide)) ?_⟩;refine ⟨_,rfl,rfl,_,rfl,iteN (af (by decide)) ?_⟩;refine ⟨_,rfl,rfl,_,rfl,iteN (af (by decide)) ?_⟩;refine ⟨_,rfl,rfl,_,rfl,iteN (af (by decide)) ?_⟩;refine ⟨_,rfl,rfl,_,rfl,iteN (af (by decide)) ?_⟩;refine ⟨_,rfl,rfl,_,rfl,iteN (af (by decide)) ?_⟩;refine ⟨_,rfl,rfl,_,rfl,a5 ?_⟩;refine ⟨_,rfl,_,_,_,hd,rfl,rfl,isI ?_⟩;exact ⟨_,_,rfl,rfl,q _ (fun _ _ h=>h)⟩
 | @items t k b m okt' gi =>
  cases ed
  refine ⟨_,rfl,_,_,_,ht,rfl,rfl,isS ?_⟩;refine ⟨_,rfl,_,_,_,hd,rfl,at0 _ _,isS ?_⟩;refine ⟨[.str _],.cons .str .nil,sz1,fun v4 H4 g4 hv4=>?_⟩;replace ht:=ht.same g4;replace hd:=hd.same g4;replace q:=fun H' g=>q H' (g4.trans g);refine ⟨_,rfl,176,_,rfl,.inr (s_TURN_SORTS (176,["list"]) (by simp) _),rfl,rfl,_,rfl,aA (fun c=>absurd c (by decide +kernel)) (fun _=>?_)⟩;refine ⟨_,rfl,_,_,_,ht,rfl,rfl,isS ?_⟩;refine ⟨_,rfl,rfl,_,rfl,iteN (af (by decide)) ?_⟩;refine ⟨_,rfl,rfl,_,rfl,iteN (af (by decide)) ?_⟩;refine ⟨_,rfl,rfl,_,rfl,iteN (af (by decide)) ?_⟩;refine ⟨_,rfl,rfl,_,rfl,iteN (af (by decide)) ?_⟩;refine ⟨_,rfl,rfl,_,rfl,iteN (af (by decide)) ?_⟩;refine ⟨_,rfl,rfl,_,rfl,iteN (af (by decide)) ?_⟩;refine ⟨_,rfl,rfl,_,rfl,iteN (af (by decide)) ?_⟩;refine ⟨_,rfl,rfl,_,rfl,a5 ?_⟩
  cases fk with
  | list fk f1 f2 =>
   refine ⟨_,rfl,_,_,_,ht,rfl,rfl,fun v6 hv6=>?_⟩;refine ⟨_,rfl,_,_,_,hd,rfl,rfl,fun v7 hv7=>?_⟩;exact ⟨_,_,t,k,_,v6,v7,by lia,rfl,hv6,hv7,okt',fk,gi,q⟩
theorem ph (i:Nat):bls (List.replicate i true)++[V.bl true]=bls (List.replicate (i+1) true):=by simp [bls,List.replicate_succ']
theorem qy {i:Nat} (h:i≤999):(bls (List.replicate i true)).length < sizeLine:=by
 simp only [bls,List.length_map,List.length_replicate];exact ao (by lia)
theorem qz (i:Nat):(List.replicate i true).all id=true:=by simp
theorem pi {u:Str} {ws:List Str} (h:u∈ws):inV (.str u) (ws.map V.str)=true:=by
 unfold inV;rw [List.any_map,List.any_eq_true];exact ⟨u,h,by simp [eqV]⟩
theorem iA (ws:List Str):(ws.map V.str).all di=true:=by simp [di]
theorem eI:∀ {l:List (Str×Dt)} {z:Str} {d:Dt},(l.map (·.1)).Nodup→(z,d)∈l→aS l z=some d
 | (y,e) :: l,z,d,nd,h=>by
  have nd':=List.nodup_cons.mp nd;rcases List.mem_cons.mp h with h | h
  ·injection h with h1 h2
   subst h1;subst h2;simp [aS]
  ·have:y≠z:=fun c=>nd'.1 (List.mem_map.mpr ⟨(z,d),h,c.symm⟩);have e:aS ((y,e) :: l) z=aS l z:=by simp [aS,this]
   rw [e];exact eI nd'.2 h
theorem eJ {K:PySem.W.Frag} {H:Hp} {p:Str×Str} {v:V} (h:IsP K H (prS p) v):∃ b,v=.ref b∧SqT K H b [.str p.1,.str p.2]:=by
 obtain ⟨b,ys,rfl,hb,pb,rb⟩:=h.unref
 cases rb with
 | cons r1 rb =>
  cases rb with
  | @cons _ _ y2 _ r2 rb =>
   cases rb
   obtain rfl:=aL r1;obtain rfl:=aL r2;exact ⟨b,rfl,hb⟩
theorem DicP.same {K:PySem.W.Frag} {H H':Hp} {p:Addr} {fs:List (Str×Dt)} (h:DicP K H p fs) (g:Same H H'):DicP K H' p fs:=by
 obtain ⟨kvs,e,k⟩:=h;refine ⟨kvs,g _ _ e,fun z=>⟨(k z).1,fun d l=>?_⟩⟩;obtain ⟨v,l1,l2⟩:=(k z).2 d l;exact ⟨v,l1,l2.same g⟩
theorem qA {ws:List Str} (hw:bE ws=true):jb (.tup (ws.map Dt.str))=true:=by
 obtain ⟨h1,h2,hn,nd⟩:=bq hw;show (decide (1≤(ws.map Dt.str).length) && decide ((ws.map Dt.str).length≤8) && (ws.map Dt.str).all ba && decide (ix ((ws.map Dt.str).map kB)=(ws.map Dt.str).length))=_;have e1:(ws.map Dt.str).map kB=ws:=by rw [List.map_map];exact List.map_id _
 have e2:(ws.map Dt.str).all ba=true:=by rw [List.all_map];exact hn
 rw [e1,e2,List.length_map,gq nd];simp [h1,h2]
theorem qB (ws fs:List Str):ws.zip (fs.map Dt.str)=(ws.zip fs).map fun p=>(p.1,Dt.str p.2):=by
 rw [List.zip_map_right]
 rfl
theorem kP:∀ {ws fs:List Str},fs.length=ws.length→(ws.zip (fs.map Dt.str)).map (·.1)=ws
 | [],_,_=>by simp
 | w :: ws,[],h=>by simp at h
 | w :: ws,f :: fs,h=>by
  have:=kP (ws:=ws) (fs:=fs) (by simpa using h);simp only [List.map_cons,List.zip_cons_cons,this]
theorem kQ {ws fs:List Str} {w f:Str} (nd:ws.Nodup) (hl:fs.length=ws.length) (h:(w,f)∈ws.zip fs):aS (ws.zip (fs.map Dt.str)) w=some (.str f):=by
 refine eI (by rw [kP hl];exact nd) ?_;rw [qB];exact List.mem_map.mpr ⟨(w,f),h,rfl⟩
theorem my {bs:List (Str×Str)} {w f:Str} (nd:(bs.map (·.1)).Nodup) (h:(w,f)∈bs):aS (bs.map fun p=>(p.1,Dt.str p.2)) w=some (.str f):=by
 refine eI (by rw [List.map_map];exact nd) (List.mem_map.mpr ⟨(w,f),h,rfl⟩)
theorem DicP.at {K:PySem.W.Frag} {H:Hp} {p:Addr} {fs:List (Str×Dt)} {z u:Str} (h:DicP K H p fs) (l:aS fs z=some (.str u)):DGet H p (.str z) (some (.str u)):=by
 obtain ⟨v,hv,r⟩:=h.get l;obtain rfl:=aL r;exact hv
theorem jt {l:List (Str×Str)} {z:Str} (h:z∈l.map (·.1)):(z,lkS l z)∈l:=by
 obtain ⟨p,hp,e⟩:=List.mem_map.mp h;unfold lkS
 cases hf:l.find? (fun p=>decide (p.1=z)) with
 | none=>exact absurd (List.find?_eq_none.mp hf p hp) (by simp [e])
 | some q =>
  have h1:=List.find?_some hf;have h2:q.1=z:=by simpa using h1
  rw [← h2];exact List.mem_of_find?_eq_some hf
theorem ju:∀ {ws fs:List Str},fs.length=ws.length→(ws.zip fs).map (·.1)=ws
 | [],_,_=>by simp
 | w :: ws,[],h=>by simp at h
 | w :: ws,f :: fs,h=>by
  have:=ju (ws:=ws) (fs:=fs) (by simpa using h);simp only [List.zip_cons_cons,List.map_cons,this]
theorem dJ (a b:Str):decide (V.str a=V.str b)=decide (a=b):=by
 by_cases h:a=b
 ·rw [h,decide_eq_true rfl,decide_eq_true rfl]
 ·rw [decide_eq_false h,decide_eq_false (fun c=>h (V.str.inj c))]
theorem mz (u:Str) (ws:List Str):(if false=true then !inV (.str u) (ws.map V.str) else inV (.str u) (ws.map V.str))=decide (u∈ws):=by
 rw [if_neg (by decide)]
 by_cases h:u∈ws
 ·rw [pi h,decide_eq_true h]
 ·rw [decide_eq_false h];unfold inV;rw [List.any_map,List.any_eq_false];intro w hw c;have:w=u:=by simpa [eqV] using c
  exact h (this ▸ hw)
theorem d8 {α:Type} {l:List α} {i:Nat} {x:α} (F:α→Bool) (h:l[i]?=some x):bls ((l.take i).map F)++[V.bl (F x)]=bls ((l.take (i+1)).map F):=by
 show List.map V.bl _++[V.bl (F x)]=List.map V.bl _;rw [List.map_map,List.map_map];exact bz (V.bl ∘ F) h
theorem fA {α:Type} {l:List α} (F:α→Bool) (i:Nat) (h:l.length≤999):(bls ((l.take i).map F)).length < sizeLine:=by
 simp only [bls,List.length_map,List.length_take];exact ao (by lia)
theorem jv {α:Type} (l:List α) (F:α→Bool):(l.map F).all id=l.all F:=by rw [List.all_map];rfl
theorem eK (T:Tx K mg ad) {f:Addr} {fd:FuncData} (F:Gn K mg "are_led_words" ay ["forth","back","elder"] f fd):FnOk P w K mg base CX0 3 f fd ["forth","back","elder"] (cj K ad):=by
 obtain ⟨_,_,uO⟩:=T.words_behind;have vd:=cF (P:=P) (w:=w) (base:=base) T uO;obtain ⟨_,_,uU⟩:=T.are_words;have vz:=dX (P:=P) (w:=w) (base:=base) T uU;refine F.F.ok sc_are_led_words (fun vs H Q E h=>?_) (fun cdv A outer s H vs Q E hr h=>?_)
 ·obtain ⟨f,b,ws,x,y,z,rfl,_⟩:=h
  rfl
 obtain ⟨f,b,ws,x,y,z,rfl,hf,hb,hw,ww,nl,q⟩:=h;refine ⟨_,(@pss_cons _ _ _ _ _ (@ps_if _ _ _ _ _ _ _ _ (PW.pt (@pw_or _ _ _ _ _ _ _ (@pt_not _ _ _ _ (@pt_val _ _ _ (pe_callB (aD (K:=K) rfl) rfl T.z_isinstance boot_isinstance (@pa2 _ _ _ _ _ (pv 0) (bp rfl T.z_tuple boot_tuple) (by rfl) (by rfl))) (by intro _;rfl))) (@pw_or1 _ _ _ _ (pt_cmpR op_ne (pe_callB (call_lenDN (K:=K) rfl) rfl T.z_len PySem.boot_len (@pa1 _ _ _ (pv 0) (by rfl))) (pe_callB (call_lenDN (K:=K) rfl) rfl T.z_len PySem.boot_len (@pa1 _ _ _ (pv 2) (by rfl))) (nomark _))))) (@pss_one _ _ _ (@ps_ret _ _ _ _ pe_bl)) pss_nil) (@pss_cons _ _ _ _ _ (@ps_if _ _ _ _ _ _ _ _ (PW.pt (@pw_or _ _ _ _ _ _ _ (@pt_not _ _ _ _ (@pt_val _ _ _ (pe_callB (aD (K:=K) rfl) rfl T.z_isinstance boot_isinstance (@pa2 _ _ _ _ _ (pv 1) (bp rfl T.z_tuple boot_tuple) (by rfl) (by rfl))) (by intro _;rfl))) (@pw_or1 _ _ _ _ (@pt_not _ _ _ _ (@pt_val _ _ _ (pe_callB (call_allN (K:=K) rfl rfl) rfl T.z_all boot_all (@pa1 _ _ _ (a7 rfl (cs0 (NL:=["pair"]) rfl (by decide +kernel) (by decide +kernel)) (be (K:=K) rfl (pv 1)) (fun _ _ _ _=>(pg_name (i:=0) (show List.Nodup (α:=Str) ["pair"] by decide +kernel) rfl (Or.inl rfl))) (fun _ _ _ _=>(pe_and (pe_callB (aD (K:=K) rfl) rfl T.z_isinstance boot_isinstance (@pa2 _ _ _ _ _ (pv 0) (bp rfl T.z_tuple boot_tuple) (by rfl) (by rfl))) (pe_one (pe_cmpR op_eq (pe_callB (call_lenDN (K:=K) rfl) rfl T.z_len PySem.boot_len (@pa1 _ _ _ (pv 0) (by rfl))) pe_int (nomark _)))))) (by rfl))) (by intro _;rfl)))))) (@pss_one _ _ _ (@ps_ret _ _ _ _ pe_bl)) pss_nil) (@pss_cons _ _ _ _ _ (@ps_set _ _ 3 _ _ _ _ sc_are_led_words.nd rfl (Or.inr rfl) (pcl uO vd (hr.mono (by lia)) rfl (@pa1 _ _ _ (pv 1) (by rfl))) (by rfl) (by first | exact .inl rfl | exact .inr rfl | assumption)) (@pss_cons _ _ _ _ _ (@ps_if _ _ _ _ _ _ _ _ (PW.pt (@pw_or _ _ _ _ _ _ _ (@pt_not _ _ _ _ (@pt_val _ _ _ (pcl uU vz (hr.mono (by lia)) rfl (@pa1 _ _ _ (pv 3) (by rfl))) (by intro _;rfl))) (@pw_or1 _ _ _ _ (@pt_not _ _ _ _ (@pt_val _ _ _ (pe_callB (call_allN (K:=K) rfl rfl) rfl T.z_all boot_all (@pa1 _ _ _ (a7 rfl (csR (sc:=ae ay) (NL:=["word"]) (N:=["forth","back","elder","behind","there","again"]) (ρ:=[3]) (N':=["word","behind"]) rfl rfl rfl (by decide +kernel) (by decide +kernel) (by decide +kernel) rfl (by decide +kernel)) (be (K:=K) rfl (pv 0)) (fun _ _ _ _=>(pg_name (i:=0) (show List.Nodup (α:=Str) ["word","behind"] by decide +kernel) rfl (Or.inl rfl))) (fun _ _ _ _=>(pe_cmpR (op_in_seqK (K:=K) rfl) (pv 0) (pv 1) rfl))) (by rfl))) (by intro _;rfl)))))) (@pss_one _ _ _ (@ps_ret _ _ _ _ pe_bl)) pss_nil) (@pss_cons _ _ _ _ _ (@ps_if _ _ _ _ _ _ _ _ (@pt_not _ _ _ _ (@pt_val _ _ _ (pe_callB (call_allN (K:=K) rfl rfl) rfl T.z_all boot_all (@pa1 _ _ _ (a7 rfl (csR (sc:=ae ay) (NL:=["first","word"]) (N:=["forth","back","elder","behind","there","again"]) (ρ:=[2]) (N':=["first","word","elder"]) rfl rfl rfl (by decide +kernel) (by decide +kernel) (by decide +kernel) rfl (by decide +kernel)) (be (K:=K) rfl (pv 1)) (fun _ _ _ _=>(cv (K:=K) (n:=2) rfl rfl (pgs_cons (pg_name (i:=0) (show List.Nodup (α:=Str) ["first","word","elder"] by decide +kernel) rfl (Or.inl rfl)) (pgs_cons (pg_name (i:=1) (show List.Nodup (α:=Str) ["first","word","elder"] by decide +kernel) rfl (Or.inl rfl)) bG)))) (fun _ _ _ _=>(pe_cmpR (op_in_seqK (K:=K) rfl) (pv 1) (pv 2) rfl))) (by rfl))) (by intro _;rfl))) (@pss_one _ _ _ (@ps_ret _ _ _ _ pe_bl)) pss_nil) (@pss_cons _ _ _ _ _ (@ps_set _ _ 4 _ _ _ _ sc_are_led_words.nd rfl (Or.inr rfl) (pe_dictZ rfl rfl T.z_dict rfl T.z_zip (@pa2 _ _ _ _ _ (pv 2) (pv 0) (by rfl) (by rfl))) (by rfl) (by first | exact .inl rfl | exact .inr rfl | assumption)) (@pss_cons _ _ _ _ _ (@ps_set _ _ 5 _ _ _ _ sc_are_led_words.nd rfl (Or.inr rfl) (pe_callTy (call_dictPN (K:=K) rfl rfl) rfl T.z_dict boot_dict (@pa1 _ _ _ (pv 1) (by rfl))) (by rfl) (by first | exact .inl rfl | exact .inr rfl | assumption)) (@pss_cons _ _ _ _ _ (@ps_if _ _ _ _ _ _ _ _ (@pt_not _ _ _ _ (@pt_val _ _ _ (pe_callB (call_allN (K:=K) rfl rfl) rfl T.z_all boot_all (@pa1 _ _ _ (a7 rfl (csR (sc:=ae ay) (NL:=["word"]) (N:=["forth","back","elder","behind","there","again"]) (ρ:=[4,5]) (N':=["word","there","again"]) rfl rfl rfl (by decide +kernel) (by decide +kernel) (by decide +kernel) rfl (by decide +kernel)) (be (K:=K) rfl (pv 0)) (fun _ _ _ _=>(pg_name (i:=0) (show List.Nodup (α:=Str) ["word","there","again"] by decide +kernel) rfl (Or.inl rfl))) (fun _ _ _ _=>(pe_cmpR op_eq (fu (u1 hr.units) (pv 1) (fu (u1 hr.units) (pv 2) (pv 0) (fun _ _=>rfl)) (fun _ _=>rfl)) (pv 0) (nomark _)))) (by rfl))) (by intro _;rfl))) (@pss_one _ _ _ (@ps_ret _ _ _ _ pe_bl)) pss_nil) (@pss_one _ _ _ (@ps_ret _ _ _ _ (pe_callB (call_allN (K:=K) rfl rfl) rfl T.z_all boot_all (@pa1 _ _ _ (a7 rfl (csR (sc:=ae ay) (NL:=["first","word"]) (N:=["forth","back","elder","behind","there","again"]) (ρ:=[4,5]) (N':=["first","word","there","again"]) rfl rfl rfl (by decide +kernel) (by decide +kernel) (by decide +kernel) rfl (by decide +kernel)) (be (K:=K) rfl (pv 1)) (fun _ _ _ _=>(cv (K:=K) (n:=2) rfl rfl (pgs_cons (pg_name (i:=0) (show List.Nodup (α:=Str) ["first","word","there","again"] by decide +kernel) rfl (Or.inl rfl)) (pgs_cons (pg_name (i:=1) (show List.Nodup (α:=Str) ["first","word","there","again"] by decide +kernel) rfl (Or.inl rfl)) bG)))) (fun _ _ _ _=>(pe_cmpR op_eq (fu (u1 hr.units) (pv 3) (fu (u1 hr.units) (pv 2) (pv 1) (fun _ _=>rfl)) (fun _ _=>rfl)) (pv 1) (nomark _)))) (by rfl))))))))))))),?_⟩;obtain ⟨_,lw8,_,ndw⟩:=bq ww
 cases nl with
 | len fs b ws hl =>
  obtain ⟨a1,xs1,rfl,hT1,pa1,ra1⟩:=id hf.unref;refine ⟨_,rfl,_,_,_,rfl,.tup_tuple hT1,_,rfl,aV ?_⟩;refine ⟨_,rfl,_,_,rfl,hf.d,_,rfl,_,_,rfl,hw.d,?_⟩;rw [List.length_map];refine ⟨rfl,_,rfl,oS (fun c=>hl (by injection c with c;lia)) (q H (Same.refl H))⟩
 | led fs bs ws lf lb8 okb alt =>
 obtain ⟨a1,xs1,rfl,hT1,pa1,ra1⟩:=id hf.unref;obtain ⟨a2,xs2,rfl,hT2,pa2,ra2⟩:=id hb.unref;obtain ⟨a3,xs3,rfl,hT3,pa3,ra3⟩:=id hw.unref;have e1:=bA ra1;have e3:=bA ra3;subst e1;subst e3;have l2:=ra2.length;rw [List.length_map] at l2;refine ⟨_,rfl,_,_,_,rfl,.tup_tuple hT1,_,rfl,aV ?_⟩;refine ⟨_,rfl,_,_,rfl,hf.d,_,rfl,_,_,rfl,hw.d,?_⟩;rw [List.length_map,List.length_map,lf];refine ⟨rfl,_,rfl,mo ?_⟩;refine ⟨_,rfl,_,_,_,rfl,.tup_tuple hT2,_,rfl,aV ?_⟩;refine ⟨_,rfl,a2,rfl,⟨_,hT2⟩,fun l hln=>?_⟩;refine aT (K:=K) (xs:=xs2) (fun i ys σ H'=>ys=bls (List.replicate i true)∧Same H H'∧H' l=some (.lst ys)∧σ.length=1) ⟨rfl,ag hln _,ac,rfl⟩ (fun i ys σ H' _ r=>r.2.1.tup hT2) ?_ ?_
 ·rintro i y ys σ H1 N hy ⟨rfl,g,e1,hσ⟩ next;obtain ⟨d,hdi,hp⟩:=ra2.get' hy;rw [List.getElem?_map] at hdi;obtain ⟨p,hfi,rfl⟩:=Option.map_eq_some_iff.mp hdi;have hil:=(List.getElem?_eq_some_iff.mp hfi).1;replace hp:=hp.same g;obtain ⟨b,rfl,hb2⟩:=eJ hp
  match σ,hσ with
  | [_],_ =>
   refine ⟨_,rfl,_,_,_,rfl,.tup_tuple hb2,_,rfl,ax ?_⟩;refine ⟨_,rfl,_,_,rfl,hp.d,rfl,?_⟩;have e2:decide ((V.int ((2:Nat):Int))=.int 2)=true:=rfl;exact ⟨e1,qy (by lia),next _ _ _ ⟨ph i,aU hln g,ac,rfl⟩⟩
 rintro ys σ H1 ⟨rfl,g1,e1,_⟩;refine ⟨l,_,rfl,rfl,SqL.of e1,_,rfl,?_⟩;rw [qz];refine aV ?_
 clear e1 hln l
 have hb1:=hb.same g1;have eb:bs.map prS=(bs.map fun p=>(Dt.str p.1,Dt.str p.2)).map prT:=by rw [List.map_map];rfl
 refine ⟨_,rfl,_,_,rfl,(by rw [← eb];exact hb1),(by rw [List.length_map];lia),fun v3 H2 g2 hv3=>?_⟩;have ev:(bs.map fun p=>(Dt.str p.1,Dt.str p.2)).map (·.1)=(bs.map (·.1)).map Dt.str:=by rw [List.map_map,List.map_map];rfl
 rw [ev] at hv3;refine ⟨_,rfl,_,_,rfl,hv3,okb,fun H3 g3=>?_⟩;rcases alt with wf | ⟨wB,lb⟩
 ·rw [wf];exact ⟨_,rfl,ax (q H3 ((g1.trans g2).trans g3))⟩
 rw [qA wB];obtain ⟨_,_,_,ndb⟩:=bq wB;refine ⟨_,rfl,aV ?_⟩;replace hv3:=hv3.same g3;replace g3:=(g1.trans g2).trans g3
 clear hb1
 obtain ⟨a4,xs4,rfl,hT4,pa4,ra4⟩:=id hv3.unref;have e4:=bA ra4;subst e4;have hT1':=g3.tup hT1;refine ⟨_,rfl,a1,rfl,⟨_,hT1'⟩,fun l hln=>?_⟩;refine aT (K:=K) (xs:=fs.map V.str) (fun i ys σ H'=>ys=bls ((fs.take i).map fun f=>decide (f∈bs.map (·.1)))∧Same H3 H'∧H' l=some (.lst ys)∧∃ w,σ=[w,some (.ref a4)]) ⟨rfl,ag hln _,ac,_,rfl⟩ (fun i ys σ H' _ r=>r.2.1.tup hT1') ?_ ?_
 ·rintro i y ys σ H1 N hy ⟨rfl,g,e1,w1,rfl⟩ next;rw [List.getElem?_map] at hy;obtain ⟨f1,hfi,rfl⟩:=Option.map_eq_some_iff.mp hy;have hil:=(List.getElem?_eq_some_iff.mp hfi).1;refine ⟨_,rfl,_,rfl,a4,_,rfl,.inr (g.tup hT4),rfl,iA _,?_⟩;rw [mz];exact ⟨e1,fA _ _ (by lia),next _ _ _ ⟨d8 (fun f=>decide (f∈bs.map (·.1))) hfi,aU hln g,ac,_,rfl⟩⟩
 rintro ys σ H4 ⟨rfl,g4,e1,_⟩;refine ⟨l,_,rfl,rfl,SqL.of e1,_,rfl,?_⟩;rw [List.length_map,List.take_length,jv]
 cases hA1:fs.all (fun f=>decide (f∈bs.map (·.1))) with
 | false=>exact ax (q H4 (g3.trans g4))
 | true =>
 rw [tY,hA1,Bool.true_and] at lb;have in1:∀ f∈fs,f∈bs.map (·.1):=fun f hf=>of_decide_eq_true (List.all_eq_true.mp hA1 f hf);refine aV ?_
 clear e1 hln l
 replace g4:=g3.trans g4
 clear g3 hT1'
 have hT2':=g4.tup hT2;have hT3':=g4.tup hT3;refine ⟨_,rfl,a2,rfl,⟨_,hT2'⟩,fun l hln=>?_⟩;refine aT (K:=K) (xs:=xs2) (fun i ys σ H'=>ys=bls ((bs.take i).map fun b=>decide (b.2∈ws))∧Same H4 H'∧H' l=some (.lst ys)∧∃ w w2,σ=[w,w2,some (.ref a3)]) ⟨rfl,ag hln _,ac,_,_,rfl⟩ (fun i ys σ H' _ r=>r.2.1.tup hT2') ?_ ?_
 ·rintro i y ys σ H1 N hy ⟨rfl,g,e1,w1,w2,rfl⟩ next;obtain ⟨d,hdi,hp⟩:=ra2.get' hy;rw [List.getElem?_map] at hdi;obtain ⟨p,hfi,rfl⟩:=Option.map_eq_some_iff.mp hdi;have hil:=(List.getElem?_eq_some_iff.mp hfi).1;have hm:=List.mem_of_getElem? hfi;replace hp:=hp.same (g4.trans g);obtain ⟨b,rfl,hb2⟩:=eJ hp;refine ⟨b,_,rfl,hb2,rfl,_,_,rfl,_,_,rfl,rfl,?_⟩;refine ⟨_,rfl,_,rfl,a3,_,rfl,.inr (g.tup hT3'),rfl,iA _,?_⟩;rw [mz];exact ⟨e1,fA _ _ (by lia),next _ _ _ ⟨d8 (fun b:Str×Str=>decide (b.2∈ws)) hfi,aU hln g,ac,_,_,rfl⟩⟩
 rintro ys σ H5 ⟨rfl,g5,e1,_⟩;refine ⟨l,_,rfl,rfl,SqL.of e1,_,rfl,?_⟩;rw [← l2,List.take_length,jv]
 cases hA2:bs.all (fun b=>decide (b.2∈ws)) with
 | false=>exact ax (q H5 (g4.trans g5))
 | true =>
 rw [hA2,Bool.true_and] at lb;have in2:∀ b∈bs,b.2∈ws:=fun b hb=>of_decide_eq_true (List.all_eq_true.mp hA2 b hb);refine aV ?_
 clear e1 hln l
 replace g5:=g4.trans g5
 clear g4 hT2' hT3'
 refine ⟨_,rfl,_,rfl,_,_,ws,fs.map Dt.str,rfl,hw.same g5,hf.same g5,(by rw [List.length_map];exact lf),ndw,(by lia),fun p6 H6 g6 _ dq=>?_⟩;replace g6:=g5.trans g6;have eb2:bs.map prS=(bs.map fun p=>(p.1,Dt.str p.2)).map prD:=by rw [List.map_map];rfl
 refine ⟨_,rfl,_,_,rfl,(by rw [← eb2];exact hb.same g6),(by rw [List.map_map];exact ndb),(by rw [List.length_map];lia),fun p7 H7 g7 dp=>?_⟩;have dz:=DicP.same dq.p g7;replace g7:=g6.trans g7
 clear dq
 have hT1':=g7.tup hT1;have hT2':=g7.tup hT2;refine ⟨_,rfl,a1,rfl,⟨_,hT1'⟩,fun l hln=>?_⟩;refine aT (K:=K) (xs:=fs.map V.str) (fun i ys σ H'=>ys=bls ((fs.take i).map fun f=>decide (lkS (ws.zip fs) (lkS bs f)=f))∧Same H7 H'∧H' l=some (.lst ys)∧∃ w,σ=[w,some (.ref p6),some (.ref p7)]) ⟨rfl,ag hln _,ac,_,rfl⟩ (fun i ys σ H' _ r=>r.2.1.tup hT1') ?_ ?_
 ·rintro i y ys σ H1 N hy ⟨rfl,g,e1,w1,rfl⟩ next;rw [List.getElem?_map] at hy;obtain ⟨f1,hfi,rfl⟩:=Option.map_eq_some_iff.mp hy;have hil:=(List.getElem?_eq_some_iff.mp hfi).1;have hm:=List.mem_of_getElem? hfi;have hu:=jt (in1 f1 hm);have hz:=jt (l:=ws.zip fs) (z:=lkS bs f1) (by rw [ju lf];exact in2 _ hu);refine ⟨_,rfl,_,rfl,_,rfl,p7,_,rfl,DicP.at (K:=K) (DicP.same dp g) (my ndb hu),p6,_,rfl,DicP.at (K:=K) (DicP.same dz g) (kQ ndw lf hz),?_⟩;refine ⟨_,rfl,rfl,?_⟩;rw [dJ];exact ⟨e1,fA _ _ (by lia),next _ _ _ ⟨d8 (fun f=>decide (lkS (ws.zip fs) (lkS bs f)=f)) hfi,aU hln g,ac,_,rfl⟩⟩
 rintro ys σ H8 ⟨rfl,g8,e1,_⟩;refine ⟨l,_,rfl,rfl,SqL.of e1,_,rfl,?_⟩;rw [List.length_map,List.take_length,jv]
 cases hA3:fs.all (fun f=>decide (lkS (ws.zip fs) (lkS bs f)=f)) with
 | false=>exact ax (q H8 (g7.trans g8))
 | true =>
 rw [hA3,Bool.true_and] at lb;refine aV ?_
 clear e1 hln l
 replace dz:=DicP.same dz g8;replace dp:=DicP.same dp g8;replace g8:=g7.trans g8
 clear g7 hT1' hT2'
 have hT2':=g8.tup hT2;refine ⟨_,rfl,a2,rfl,⟨_,hT2'⟩,fun l hln=>?_⟩;refine aT (K:=K) (xs:=xs2) (fun i ys σ H'=>ys=bls ((bs.take i).map fun b=>decide (lkS bs (lkS (ws.zip fs) b.2)=b.2))∧Same H8 H'∧H' l=some (.lst ys)∧∃ w w2,σ=[w,w2,some (.ref p6),some (.ref p7)]) ⟨rfl,ag hln _,ac,_,_,rfl⟩ (fun i ys σ H' _ r=>r.2.1.tup hT2') ?_ ?_
 ·rintro i y ys σ H1 N hy ⟨rfl,g,e1,w1,w2,rfl⟩ next;obtain ⟨d,hdi,hp⟩:=ra2.get' hy;rw [List.getElem?_map] at hdi;obtain ⟨p,hfi,rfl⟩:=Option.map_eq_some_iff.mp hdi;have hil:=(List.getElem?_eq_some_iff.mp hfi).1;have hm:=List.mem_of_getElem? hfi;have hu:=jt (l:=ws.zip fs) (z:=p.2) (by rw [ju lf];exact in2 _ hm);have hz:=jt (in1 _ (List.of_mem_zip hu).2);replace hp:=hp.same (g8.trans g);obtain ⟨b,rfl,hb2⟩:=eJ hp;refine ⟨b,_,rfl,hb2,rfl,_,_,rfl,_,_,rfl,rfl,?_⟩;refine ⟨_,rfl,_,rfl,_,rfl,p6,_,rfl,DicP.at (K:=K) (DicP.same dz g) (kQ ndw lf hu),p7,_,rfl,DicP.at (K:=K) (DicP.same dp g) (my ndb hz),?_⟩;refine ⟨_,rfl,rfl,?_⟩;rw [dJ];exact ⟨e1,fA _ _ (by lia),next _ _ _ ⟨d8 (fun b:Str×Str=>decide (lkS bs (lkS (ws.zip fs) b.2)=b.2)) hfi,aU hln g,ac,_,_,rfl⟩⟩
 rintro ys σ H9 ⟨rfl,g9,e1,_⟩;refine ⟨l,_,rfl,rfl,SqL.of e1,?_⟩;rw [← l2,List.take_length,jv,lb];exact q H9 (g8.trans g9)
theorem kR (T:Tx K mg ad) {f fl:Addr} {fd fdl:FuncData} (A:Gn K mg "is_turn_of" bJ ["turn","kind"] f fd) (L:Gn K mg "are_led_words" ay ["forth","back","elder"] fl fdl):∀ n,FnOk P w K mg base CX0 (n+3) f fd ["turn","kind"] (o9 K n)
 | 0=>bH fun vs H Q E z=>by obtain ⟨_,_,_,_,_,_,_,h,_,_,_,_,pk,_⟩:=z;have:=pk.pos;lia
 | n+1=>gW T n A (kR T A L n) L (eK T L)
def gu (i j:Int):Int:=if 0 < i then i else if j < 0 then j else 0
def aX:Nat→Dt→Dt
 | 0,_=>.non
 | n+1,.tup (.str w :: r) =>
  if w= "number" then (match r with
   | [.int i,.int j]=>.int (gu i j)
   | _=>.non)
  else if w= "text" then .str ""
  else if w= "choice" then (match r with
   | [.tup (z :: _)]=>z
   | _=>.non)
  else if w= "record" then (match r with
   | [.tup l]=>.tup [.str "record",.tup (l.map fun p=>match p with
    | .tup [a,k]=>.tup [a,aX n k]
    | p=>p)]
   | _=>.non)
  else .tup [.str w,.tup []]
 | _+1,_=>.non
theorem jw (n:Nat) (i j:Int):aX (n+1) (.tup [.str "number",.int i,.int j])=.int (gu i j):=by simp [aX]
theorem lS (n:Nat) (i:Int):aX (n+1) (.tup [.str "text",.int i])=.str "" :=by
 simp only [aX];rw [if_neg (by decide),if_pos trivial]
theorem jx (n:Nat) (z:Str) (r:List Dt):aX (n+1) (.tup [.str "choice",.tup (.str z :: r)])=.str z:=by
 simp only [aX];rw [if_neg (by decide),if_neg (by decide),if_pos trivial]
theorem jy (n:Nat) (fs:List (Str×Dt)):aX (n+1) (.tup [.str "record",.tup (fs.map prD)])=.tup [.str "record",.tup ((fs.map fun f=>(f.1,aX n f.2)).map prD)]:=by
 simp only [aX];rw [if_neg (by decide),if_neg (by decide),if_neg (by decide),if_pos trivial,List.map_map,List.map_map]
 rfl
theorem lT (n:Nat) (r:List Dt):aX (n+1) (.tup (.str "list" :: r))=.tup [.str "list",.tup []]:=by
 simp only [aX];rw [if_neg (by decide),if_neg (by decide),if_neg (by decide),if_neg (by decide)]
theorem lU (n:Nat) (r:List Dt):aX (n+1) (.tup (.str "rows" :: r))=.tup [.str "rows",.tup []]:=by
 simp only [aX];rw [if_neg (by decide),if_neg (by decide),if_neg (by decide),if_neg (by decide)]
theorem lV {ws:List Str} (hw:bE ws=true):∃ z r,ws=z :: r:=by
 unfold bE at hw;simp only [Bool.and_eq_true,decide_eq_true_eq] at hw
 cases ws with
 | nil=>simp at hw
 | cons z r=>exact ⟨z,r,rfl⟩
def lW (K:PySem.W.Frag) (n:Nat):Sp:=fun vs H Q _=>∃ (a ct:Nat) (d:Dt) (x:V),a≤n∧vs=[x]∧IsP K H d x∧FK a ct d∧∀ v H',Same H H'→IsP K H' (aX n d) v→Q v H'
theorem gv (T:Tx K mg ad) {f:Addr} {fd:FuncData} (n:Nat) (uM:Gn K mg "least_value" bD ["kind"] f fd) (uW:FnOk P w K mg base CX0 n f fd ["kind"] (lW K n)):FnOk P w K mg base CX0 (n+1) f fd ["kind"] (lW K (n+1)):=by
 refine uM.F.ok c7 (fun vs H Q E h=>?_) (fun cdv A outer s H vs Q E hr h=>?_)
 ·obtain ⟨a,ct,d,x,_,rfl,_⟩:=h
  rfl
 obtain ⟨a,ct,d,x,ha,rfl,hd,gk,q⟩:=h;refine ⟨_,(@pss_cons _ _ _ _ _ (@ps_set _ _ 1 _ _ _ _ c7.nd rfl (Or.inl rfl) (@pi1 K _ _ _ _ _ _ _ rfl (pv 0)) (by rfl) (by first | exact .inl rfl | exact .inr rfl | assumption)) (@pss_cons _ _ _ _ _ (@ps_if _ _ _ _ _ _ _ _ (pt_cmpR op_eq (pv 1) pe_str (nomark _)) (@pss_one _ _ _ (@ps_ret _ _ _ _ (pe_callB (ia rfl) rfl T.z_min boot_min (@pa2 _ _ _ _ _ (pe_callB (h9 rfl) rfl T.z_max boot_max (@pa2 _ _ _ _ _ pe_int (@pi1 K _ _ _ _ _ _ _ rfl (pv 0)) (by rfl) (by rfl))) (@pi1 K _ _ _ _ _ _ _ rfl (pv 0)) (by rfl) (by rfl))))) pss_nil) (@pss_cons _ _ _ _ _ (@ps_if _ _ _ _ _ _ _ _ (pt_cmpR op_eq (pv 1) pe_str (nomark _)) (@pss_one _ _ _ (@ps_ret _ _ _ _ pe_str)) pss_nil) (@pss_cons _ _ _ _ _ (@ps_if _ _ _ _ _ _ _ _ (pt_cmpR op_eq (pv 1) pe_str (nomark _)) (@pss_one _ _ _ (@ps_ret _ _ _ _ (@pi1 K _ _ _ _ _ _ _ rfl (@pi1 K _ _ _ _ _ _ _ rfl (pv 0))))) pss_nil) (@pss_cons _ _ _ _ _ (@ps_if _ _ _ _ _ _ _ _ (pt_cmpR op_eq (pv 1) pe_str (nomark _)) (@pss_one _ _ _ (@ps_ret _ _ _ _ (@pe_tupPK _ K _ _ _ _ rfl (@pa2 _ _ _ _ _ pe_str (pe_callTy (cw (K:=K) rfl) rfl T.z_tuple boot_tuple (@pa1 _ _ _ (a7 rfl (cs0 (NL:=["name","inner"]) rfl (by decide +kernel) (by decide +kernel)) (be (K:=K) rfl (@pi1 K _ _ _ _ _ _ _ rfl (pv 0))) (fun _ _ _ _=>(cv (K:=K) (n:=2) rfl rfl (pgs_cons (pg_name (i:=0) (show List.Nodup (α:=Str) ["name","inner"] by decide +kernel) rfl (Or.inl rfl)) (pgs_cons (pg_name (i:=1) (show List.Nodup (α:=Str) ["name","inner"] by decide +kernel) rfl (Or.inl rfl)) bG)))) (fun _ _ _ _=>(pe_tupPK (K:=K) rfl (@pa2 _ _ _ _ _ (pv 0) (pcl uM uW (hr.mono (by lia)) rfl (@pa1 _ _ _ (pv 1) (by rfl))) (by rfl) (by rfl))))) (by rfl))) (by rfl) (by rfl))))) pss_nil) (@pss_one _ _ _ (@ps_ret _ _ _ _ (@pe_tupPK _ K _ _ _ _ rfl (@pa2 _ _ _ _ _ (pv 1) (@pe_tupPK _ K _ _ _ _ rfl bX) (by rfl) (by rfl)))))))))),?_⟩
 cases gk with
 | number i j b1 b2 b3 =>
  refine ⟨_,rfl,_,_,_,hd,rfl,rfl,isS ?_⟩;refine ⟨_,rfl,rfl,_,rfl,a5 ?_⟩;refine ⟨_,rfl,_,_,_,hd,rfl,rfl,isI ?_⟩;refine ⟨_,_,rfl,?_⟩;refine ⟨_,rfl,_,_,_,hd,rfl,rfl,isI ?_⟩;refine ⟨_,_,rfl,?_⟩;refine q _ H (Same.refl _) ?_;rw [jw];have e':∀ x:Int,x=gu i j→IsP K H (.int (gu i j)) (.int x):=fun x h=>by rw [h];exact .int
  refine e' _ ?_;unfold gu
  (repeat' split) <;> lia
 | text i b1 b2 =>
  refine ⟨_,rfl,_,_,_,hd,rfl,rfl,isS ?_⟩;refine ⟨_,rfl,rfl,_,rfl,iteN (af (by decide)) ?_⟩;refine ⟨_,rfl,rfl,_,rfl,a5 ?_⟩;refine q _ H (Same.refl _) ?_;rw [lS];exact .str
 | choice ws hw =>
  obtain ⟨z,r,rfl⟩:=lV hw;refine ⟨_,rfl,_,_,_,hd,rfl,rfl,isS ?_⟩;refine ⟨_,rfl,rfl,_,rfl,iteN (af (by decide)) ?_⟩;refine ⟨_,rfl,rfl,_,rfl,iteN (af (by decide)) ?_⟩;refine ⟨_,rfl,rfl,_,rfl,a5 ?_⟩;refine ⟨_,rfl,_,_,_,hd,rfl,rfl,fun v1 hv1=>?_⟩;refine ⟨_,_,_,hv1,rfl,(show atI (List.map Dt.str (z :: r)) 0=some (Dt.str z) from at0 (Dt.str z) (r.map Dt.str)),fun v hv=>?_⟩;refine q _ H (Same.refl _) ?_;rw [show ((z :: r).map Dt.str)=Dt.str z :: r.map Dt.str from rfl,jx];exact hv
 | @list a' c' k i g b1 b2 =>
  refine ⟨_,rfl,_,_,_,hd,rfl,rfl,isS ?_⟩;refine ⟨_,rfl,rfl,_,rfl,iteN (af (by decide)) ?_⟩;refine ⟨_,rfl,rfl,_,rfl,iteN (af (by decide)) ?_⟩;refine ⟨_,rfl,rfl,_,rfl,iteN (af (by decide)) ?_⟩;refine ⟨_,rfl,rfl,_,rfl,iteN (af (by decide)) ?_⟩;refine ⟨_,rfl,[],.nil,(by show 0≤sizeLine;decide),fun v1 H1 g1 hv1=>?_⟩;refine ⟨[.str "list",.tup []],.cons .str (.cons hv1 .nil),sz2,fun v2 H2 g2 hv2=>?_⟩;refine q v2 H2 (g1.trans g2) ?_;rw [lT];exact hv2
 | @rows a' c' z l i g kl b1 b2 =>
  refine ⟨_,rfl,_,_,_,hd,rfl,rfl,isS ?_⟩;refine ⟨_,rfl,rfl,_,rfl,iteN (af (by decide)) ?_⟩;refine ⟨_,rfl,rfl,_,rfl,iteN (af (by decide)) ?_⟩;refine ⟨_,rfl,rfl,_,rfl,iteN (af (by decide)) ?_⟩;refine ⟨_,rfl,rfl,_,rfl,iteN (af (by decide)) ?_⟩;refine ⟨_,rfl,[],.nil,(by show 0≤sizeLine;decide),fun v1 H1 g1 hv1=>?_⟩;refine ⟨[.str "rows",.tup []],.cons .str (.cons hv1 .nil),sz2,fun v2 H2 g2 hv2=>?_⟩;refine q v2 H2 (g1.trans g2) ?_;rw [lU];exact hv2
 | @rcd gs g asc nm hl =>
  obtain ⟨fs,efs⟩:∃ fs:List (Str×Dt),fs=gs.map nk:=⟨_,rfl⟩;have ep:gs.map prG=fs.map prD:=by rw [efs,List.map_map];rfl
  rw [ep] at hd q;rw [jy] at q;have hl8:fs.length≤8:=by rw [efs,List.length_map];exact hl
  refine ⟨_,rfl,_,_,_,hd,rfl,rfl,isS ?_⟩;refine ⟨_,rfl,rfl,_,rfl,iteN (af (by decide)) ?_⟩;refine ⟨_,rfl,rfl,_,rfl,iteN (af (by decide)) ?_⟩;refine ⟨_,rfl,rfl,_,rfl,iteN (af (by decide)) ?_⟩;refine ⟨_,rfl,rfl,_,rfl,a5 ?_⟩;refine ⟨_,rfl,_,_,_,hd,rfl,rfl,fun v hv=>?_⟩;obtain ⟨aa,xs,rfl,ha',pa,ra⟩:=hv.unref;have el:=ra.length;rw [List.length_map] at el;refine ⟨aa,rfl,⟨xs,ha'⟩,fun l hln=>?_⟩;refine aT (K:=K) (xs:=xs) (fun i ys σ H'=>Same H H'∧H' l=some (.lst ys)∧IsPs K H' (((fs.take i).map fun f=>(f.1,aX n f.2)).map prD) ys∧ys.length=i∧∃ v1 v2,σ=[v1,v2])
   ⟨ag hln _,ac,.nil,rfl,none,none,rfl⟩ (fun i ys σ H' _ p=>p.1.tup ha') ?_ ?_
  ·rintro i u ys σ H1 N hu ⟨g1,e1,hp,le1,v1,v2,rfl⟩ next;have hi:i < xs.length:=(List.getElem?_eq_some_iff.mp hu).1;obtain ⟨e,he,hx⟩:=ra.get' hu;rw [List.getElem?_map] at he;obtain ⟨⟨w',d'⟩,hf,rfl⟩:=Option.map_eq_some_iff.mp he;obtain ⟨b,zs,rfl,hb,pb,rb⟩:=(hx.same g1).unref
   cases rb with
   | cons r1 rb =>
    cases rb with
    | @cons _ _ y2 _ r2 rb =>
     cases rb
     obtain rfl:=aL r1;have hm:=List.mem_of_getElem? hf;rw [efs] at hm;obtain ⟨x',hx',ex'⟩:=List.mem_map.mp hm;have l9:=iY (List.mem_map_of_mem (f:=fun g:G4=>g.2.2.1) hx');have fk9:FK x'.2.2.1 x'.2.2.2 d':=by
      have:=g x' hx';rw [show x'.2.1=d' from congrArg Prod.snd ex'] at this;exact this
     refine ⟨b,_,rfl,hb,rfl,_,_,rfl,_,_,rfl,rfl,?_⟩;refine ⟨_,rfl,_,rfl,_,_,d',y2,by lia,rfl,r2,fk9,fun v H2 g2 hv2=>?_⟩;refine ⟨[.str w',aX n d'],.cons .str (.cons hv2 .nil),sz2,fun v4 H4 g4 hv4=>?_⟩;have f4:=g4 _ _ (g2 _ _ e1);have b5:But l H4 (upd H4 l (.lst (ys++[v4]))):=But.put;refine ⟨f4,ao (by lia),next _ _ _ ⟨aU hln ((g1.trans g2).trans g4),ac,?_,by rw [List.length_append,le1];rfl,_,_,rfl⟩⟩;rw [List.take_add_one,hf,List.map_append,List.map_append];exact (((hp.same g2).same g4).but f4 b5).append (.cons (hv4.but f4 b5) .nil)
  ·rintro ys σ H1 ⟨g1,e1,hp,le1,v1,v2,rfl⟩;rw [← el,List.take_length] at hp;refine ⟨l,ys,_,rfl,SqL.of e1,hp,fun v2 H2 g2 hv2=>?_⟩;refine ⟨[.str "record",.tup ((fs.map fun f=>(f.1,aX n f.2)).map prD)],.cons .str (.cons hv2 .nil),sz2,fun v H3 g3 hv=>?_⟩;exact q v H3 ((g1.trans g2).trans g3) hv
theorem cG (T:Tx K mg ad) {f:Addr} {fd:FuncData} (D:Gn K mg "least_value" bD ["kind"] f fd):∀ n,FnOk P w K mg base CX0 n f fd ["kind"] (lW K n)
 | 0=>bH fun vs H Q E z=>by
  obtain ⟨a,_,_,_,h1,_,_,g,_⟩:=z;have:=g.pos;lia
 | n+1=>gv T n D (cG T D n)
theorem bf {K:PySem.W.Frag} {H:Hp} {a b:Str} {zs:List V} (r:IsPs K H [.str a,.str b] zs):zs=[.str a,.str b]:=by
 cases r with
 | cons r1 r =>
  cases r with
  | cons r2 r =>
   cases r
   rw [aL r1,aL r2]
inductive LK:Dt→Dt→Dt→Prop
 | bounds (x y:Dt) (i j:Int):LK (.tup [.str "bounds",x,y]) (d7 i j) (.tup [.str "number",x,y])
 | scale (i j k:Int):2≤k→k≤1000→LK (.tup [.str "scale",.int k]) (d7 i j) (d7 (i*k) (j*k))
 | figures (x:Dt) (i j:Int):LK (.tup [.str "figures",x]) (d7 i j) (.tup [.str "text",x])
 | cut (x:Dt) (m:Int):LK (.tup [.str "cut",x]) (.tup [.str "text",.int m]) (.tup [.str "text",x])
 | firstL (x k:Dt) (m:Int):LK (.tup [.str "first",x]) (.tup [.str "list",k,.int m]) (.tup [.str "list",k,x])
 | firstR (x:Dt) (z:Str) (k:Dt) (m:Int):LK (.tup [.str "first",x]) (.tup [.str "rows",.str z,k,.int m]) (.tup [.str "rows",.str z,k,x])
 | one (x d:Dt):LK (.tup [.str "one",x]) d (.tup [.str "list",d,x])
def tZ (K:PySem.W.Frag) (n:Nat):Sp:=fun vs H Q _=>∃ (t d e:Dt) (x y:V),0 < n∧vs=[x,y]∧IsP K H t x∧IsP K H d y∧LK t d e∧∀ v H',Same H H'→IsP K H' e v→Q v H'
theorem kS (T:Tx K mg ad) {f:Addr} {fd:FuncData} (uX:Gn K mg "led_kind" dG ["turn","kind"] f fd):FnOk P w K mg base CX0 4 f fd ["turn","kind"] (tZ K 1):=by
 obtain ⟨_,_,uO⟩:=T.words_behind;have vd:=cF (P:=P) (w:=w) (base:=base) T uO;have vF:FnOk P w K mg base CX0 3 f fd ["turn","kind"] (tZ K 0):=bH fun vs H Q E z=>by obtain ⟨_,_,_,_,_,h,_⟩:=z;exact absurd h (Nat.lt_irrefl _)
 refine uX.F.ok eU (fun vs H Q E h=>?_) (fun cdv A outer s H vs Q E hr h=>?_)
 ·obtain ⟨t,d,e,x,y,_,rfl,_⟩:=h
  rfl
 obtain ⟨t,d,e,x,y,_,rfl,ht,hd,g,q⟩:=h;refine ⟨_,(@pss_cons _ _ _ _ _ (@ps_set _ _ 2 _ _ _ _ eU.nd rfl (Or.inl rfl) (@pi1 K _ _ _ _ _ _ _ rfl (pv 0)) (by rfl) (by first | exact .inl rfl | exact .inr rfl | assumption)) (@pss_cons _ _ _ _ _ (@ps_if _ _ _ _ _ _ _ _ (pt_cmpR (op_in_seqK (K:=K) rfl) (pv 2) (@pe_tupPK _ K _ _ _ _ rfl (@pa2 _ _ _ _ _ pe_str pe_str (by rfl) (by rfl))) rfl) (@pss_one _ _ _ (@ps_ret _ _ _ _ (@pe_tupPK _ K _ _ _ _ rfl (@pa3 _ _ _ _ _ _ _ pe_str (@pi1 K _ _ _ _ _ _ _ rfl (pv 0)) (@pi1 K _ _ _ _ _ _ _ rfl (pv 0)) (by rfl) (by rfl) (by rfl))))) pss_nil) (@pss_cons _ _ _ _ _ (@ps_if _ _ _ _ _ _ _ _ (pt_cmpR op_eq (pv 2) pe_str (nomark _)) (@pss_one _ _ _ (@ps_ret _ _ _ _ (@pe_tupPK _ K _ _ _ _ rfl (@pa3 _ _ _ _ _ _ _ pe_str (@pe_op _ _ _ _ _ _ _ _ cm (@pi1 K _ _ _ _ _ _ _ rfl (pv 1)) (@pi1 K _ _ _ _ _ _ _ rfl (pv 0))) (@pe_op _ _ _ _ _ _ _ _ cm (@pi1 K _ _ _ _ _ _ _ rfl (pv 1)) (@pi1 K _ _ _ _ _ _ _ rfl (pv 0))) (by rfl) (by rfl) (by rfl))))) pss_nil) (@pss_cons _ _ _ _ _ (@ps_if _ _ _ _ _ _ _ _ (pt_cmpR op_eq (pv 2) pe_str (nomark _)) (@pss_one _ _ _ (@ps_ret _ _ _ _ (@pe_tupPK _ K _ _ _ _ rfl (@pa3 _ _ _ _ _ _ _ pe_str (@pe_op _ _ _ _ _ _ _ _ dW (@pi1 K _ _ _ _ _ _ _ rfl (pv 1)) (@pi1 K _ _ _ _ _ _ _ rfl (pv 0))) (@pe_op _ _ _ _ _ _ _ _ dW (@pi1 K _ _ _ _ _ _ _ rfl (pv 1)) (@pi1 K _ _ _ _ _ _ _ rfl (pv 0))) (by rfl) (by rfl) (by rfl))))) pss_nil) (@pss_cons _ _ _ _ _ (@ps_if _ _ _ _ _ _ _ _ (pt_cmpR (op_in_seqK (K:=K) rfl) (pv 2) (@pe_tupPK _ K _ _ _ _ rfl (@pa2 _ _ _ _ _ pe_str pe_str (by rfl) (by rfl))) rfl) (@pss_one _ _ _ (@ps_ret _ _ _ _ (@pe_tupPK _ K _ _ _ _ rfl (@pa2 _ _ _ _ _ pe_str (@pi1 K _ _ _ _ _ _ _ rfl (pv 0)) (by rfl) (by rfl))))) pss_nil) (@pss_cons _ _ _ _ _ (@ps_if _ _ _ _ _ _ _ _ (pt_cmpR op_eq (pv 2) pe_str (nomark _)) (@pss_one _ _ _ (@ps_ret _ _ _ _ (@pe_tupPK _ K _ _ _ _ rfl (@pa2 _ _ _ _ _ pe_str (pcl uO vd (hr.mono (by lia)) rfl (@pa1 _ _ _ (@pi1 K _ _ _ _ _ _ _ rfl (pv 0)) (by rfl))) (by rfl) (by rfl))))) pss_nil) (@pss_cons _ _ _ _ _ (@ps_if _ _ _ _ _ _ _ _ (pt_cmpR op_eq (pv 2) pe_str (nomark _)) (@pss_one _ _ _ (@ps_ret _ _ _ _ (@pe_op _ _ _ _ _ _ _ _ (ko (K:=K) rfl) (dN (kr (K:=K) rfl) (pv 1) iH (dM (@pe_un _ _ _ _ _ _ un_neg pe_int))) (@pe_tupPK _ K _ _ _ _ rfl (@pa1 _ _ _ (@pi1 K _ _ _ _ _ _ _ rfl (pv 0)) (by rfl)))))) pss_nil) (@pss_cons _ _ _ _ _ (@ps_if _ _ _ _ _ _ _ _ (pt_cmpR op_eq (pv 2) pe_str (nomark _)) (@pss_one _ _ _ (@ps_ret _ _ _ _ (@pe_tupPK _ K _ _ _ _ rfl (@pa3 _ _ _ _ _ _ _ pe_str (pv 1) (@pi1 K _ _ _ _ _ _ _ rfl (pv 0)) (by rfl) (by rfl) (by rfl))))) pss_nil) (@pss_cons _ _ _ _ _ (@ps_if _ _ _ _ _ _ _ _ (pt_cmpR op_eq (pv 2) pe_str (nomark _)) (@pss_one _ _ _ (@ps_ret _ _ _ _ (@pi1 K _ _ _ _ _ _ _ rfl (pv 1)))) pss_nil) (@pss_one _ _ _ (@ps_ret _ _ _ _ (@pe_tupPK _ K _ _ _ _ rfl (@pa3 _ _ _ _ _ _ _ pe_str (pcl uX vF (hr.mono (by lia)) rfl (@pa2 _ _ _ _ _ (@pi1 K _ _ _ _ _ _ _ rfl (pv 0)) (@pi1 K _ _ _ _ _ _ _ rfl (pv 1)) (by rfl) (by rfl))) (@pi1 K _ _ _ _ _ _ _ rfl (pv 1)) (by rfl) (by rfl) (by rfl)))))))))))))),?_⟩
 cases g with
 | bounds x y i j =>
  refine ⟨_,rfl,_,_,_,ht,rfl,rfl,fun v hv=>?_⟩;obtain rfl:=aL hv;refine ⟨_,rfl,[.str "bounds",.str "number"],.cons .str (.cons .str .nil),sz2,fun u1 H1 j1 hu1=>?_⟩;obtain ⟨p1,zs1,rfl,hz1,_,rz1⟩:=id hu1.unref;obtain rfl:=bf rz1;replace ht:=ht.same j1;replace hd:=hd.same j1;replace q:=fun v H' g hv=>q v H' (j1.trans g) hv;refine ⟨p1,_,rfl,.inr hz1,rfl,rfl,_,rfl,aA (fun _=>?_) (fun c=>absurd (by decide +kernel) c)⟩;refine ⟨_,rfl,_,_,_,ht,rfl,rfl,fun v2 hv2=>?_⟩;refine ⟨_,rfl,_,_,_,ht,rfl,rfl,fun v3 hv3=>?_⟩;exact ⟨[.str "number",x,y],.cons .str (.cons hv2 (.cons hv3 .nil)),sz3,fun v H' g hv=>q v H' g hv⟩
 | scale i j k h1 h2 =>
  refine ⟨_,rfl,_,_,_,ht,rfl,rfl,fun v hv=>?_⟩;obtain rfl:=aL hv;refine ⟨_,rfl,[.str "bounds",.str "number"],.cons .str (.cons .str .nil),sz2,fun u2 H2 j2 hu2=>?_⟩;obtain ⟨p2,zs2,rfl,hz2,_,rz2⟩:=id hu2.unref;obtain rfl:=bf rz2;replace ht:=ht.same j2;replace hd:=hd.same j2;replace q:=fun v H' g hv=>q v H' (j2.trans g) hv;refine ⟨p2,_,rfl,.inr hz2,rfl,rfl,_,rfl,aA (fun c=>absurd c (by decide +kernel)) (fun _=>?_)⟩;refine ⟨_,rfl,rfl,_,rfl,a5 ?_⟩;refine ⟨_,rfl,_,_,_,hd,rfl,rfl,isI ?_⟩;refine ⟨_,rfl,_,_,_,ht,rfl,rfl,isI ?_⟩;refine ⟨_,_,rfl,rfl,.inr ⟨by lia,by lia⟩,?_⟩;refine ⟨_,rfl,_,_,_,hd,rfl,rfl,isI ?_⟩;refine ⟨_,rfl,_,_,_,ht,rfl,rfl,isI ?_⟩;refine ⟨_,_,rfl,rfl,.inr ⟨by lia,by lia⟩,?_⟩;exact ⟨[.str "number",.int (i*k),.int (j*k)],.cons .str (.cons .int (.cons .int .nil)),sz3,fun v H' g hv=>q v H' g hv⟩
 | figures x i j =>
  refine ⟨_,rfl,_,_,_,ht,rfl,rfl,fun v hv=>?_⟩;obtain rfl:=aL hv;refine ⟨_,rfl,[.str "bounds",.str "number"],.cons .str (.cons .str .nil),sz2,fun u3 H3 j3 hu3=>?_⟩;obtain ⟨p3,zs3,rfl,hz3,_,rz3⟩:=id hu3.unref;obtain rfl:=bf rz3;replace ht:=ht.same j3;replace hd:=hd.same j3;replace q:=fun v H' g hv=>q v H' (j3.trans g) hv;refine ⟨p3,_,rfl,.inr hz3,rfl,rfl,_,rfl,aA (fun c=>absurd c (by decide +kernel)) (fun _=>?_)⟩;refine ⟨_,rfl,rfl,_,rfl,iteN (af (by decide)) ?_⟩;refine ⟨_,rfl,rfl,_,rfl,iteN (af (by decide)) ?_⟩;refine ⟨_,rfl,[.str "figures",.str "cut"],.cons .str (.cons .str .nil),sz2,fun u4 H4 j4 hu4=>?_⟩;obtain ⟨p4,zs4,rfl,hz4,_,rz4⟩:=id hu4.unref;obtain rfl:=bf rz4;replace ht:=ht.same j4;replace hd:=hd.same j4;replace q:=fun v H' g hv=>q v H' (j4.trans g) hv;refine ⟨p4,_,rfl,.inr hz4,rfl,rfl,_,rfl,aA (fun _=>?_) (fun c=>absurd (by decide +kernel) c)⟩;refine ⟨_,rfl,_,_,_,ht,rfl,rfl,fun v2 hv2=>?_⟩;exact ⟨[.str "text",x],.cons .str (.cons hv2 .nil),sz2,fun v H' g hv=>q v H' g hv⟩
 | cut x m =>
  refine ⟨_,rfl,_,_,_,ht,rfl,rfl,fun v hv=>?_⟩;obtain rfl:=aL hv;refine ⟨_,rfl,[.str "bounds",.str "number"],.cons .str (.cons .str .nil),sz2,fun u5 H5 j5 hu5=>?_⟩;obtain ⟨p5,zs5,rfl,hz5,_,rz5⟩:=id hu5.unref;obtain rfl:=bf rz5;replace ht:=ht.same j5;replace hd:=hd.same j5;replace q:=fun v H' g hv=>q v H' (j5.trans g) hv;refine ⟨p5,_,rfl,.inr hz5,rfl,rfl,_,rfl,aA (fun c=>absurd c (by decide +kernel)) (fun _=>?_)⟩;refine ⟨_,rfl,rfl,_,rfl,iteN (af (by decide)) ?_⟩;refine ⟨_,rfl,rfl,_,rfl,iteN (af (by decide)) ?_⟩;refine ⟨_,rfl,[.str "figures",.str "cut"],.cons .str (.cons .str .nil),sz2,fun u6 H6 j6 hu6=>?_⟩;obtain ⟨p6,zs6,rfl,hz6,_,rz6⟩:=id hu6.unref;obtain rfl:=bf rz6;replace ht:=ht.same j6;replace hd:=hd.same j6;replace q:=fun v H' g hv=>q v H' (j6.trans g) hv;refine ⟨p6,_,rfl,.inr hz6,rfl,rfl,_,rfl,aA (fun _=>?_) (fun c=>absurd (by decide +kernel) c)⟩;refine ⟨_,rfl,_,_,_,ht,rfl,rfl,fun v2 hv2=>?_⟩;exact ⟨[.str "text",x],.cons .str (.cons hv2 .nil),sz2,fun v H' g hv=>q v H' g hv⟩
 | firstL x k m =>
  refine ⟨_,rfl,_,_,_,ht,rfl,rfl,fun v hv=>?_⟩;obtain rfl:=aL hv;refine ⟨_,rfl,[.str "bounds",.str "number"],.cons .str (.cons .str .nil),sz2,fun u7 H7 j7 hu7=>?_⟩;obtain ⟨p7,zs7,rfl,hz7,_,rz7⟩:=id hu7.unref;obtain rfl:=bf rz7;replace ht:=ht.same j7;replace hd:=hd.same j7;replace q:=fun v H' g hv=>q v H' (j7.trans g) hv;refine ⟨p7,_,rfl,.inr hz7,rfl,rfl,_,rfl,aA (fun c=>absurd c (by decide +kernel)) (fun _=>?_)⟩;refine ⟨_,rfl,rfl,_,rfl,iteN (af (by decide)) ?_⟩;refine ⟨_,rfl,rfl,_,rfl,iteN (af (by decide)) ?_⟩;refine ⟨_,rfl,[.str "figures",.str "cut"],.cons .str (.cons .str .nil),sz2,fun u8 H8 j8 hu8=>?_⟩;obtain ⟨p8,zs8,rfl,hz8,_,rz8⟩:=id hu8.unref;obtain rfl:=bf rz8;replace ht:=ht.same j8;replace hd:=hd.same j8;replace q:=fun v H' g hv=>q v H' (j8.trans g) hv;refine ⟨p8,_,rfl,.inr hz8,rfl,rfl,_,rfl,aA (fun c=>absurd c (by decide +kernel)) (fun _=>?_)⟩;refine ⟨_,rfl,rfl,_,rfl,iteN (af (by decide)) ?_⟩;refine ⟨_,rfl,rfl,_,rfl,a5 ?_⟩;refine ⟨_,rfl,_,rfl,_,rfl,?_⟩;refine ⟨_,hd,fun v3 H3 g3 hv3=>?_⟩;refine ⟨_,rfl,_,_,_,ht.same g3,rfl,rfl,fun v4 hv4=>?_⟩;refine ⟨[x],.cons hv4 .nil,sz1,fun v5 H5 g5 hv5=>?_⟩;refine ⟨_,_,hv3.same g5,hv5,sz3,fun v6 H6 g6 hv6=>?_⟩;exact q v6 H6 ((g3.trans g5).trans g6) hv6
 | firstR x z k m =>
  refine ⟨_,rfl,_,_,_,ht,rfl,rfl,fun v hv=>?_⟩;obtain rfl:=aL hv;refine ⟨_,rfl,[.str "bounds",.str "number"],.cons .str (.cons .str .nil),sz2,fun u9 H9 j9 hu9=>?_⟩;obtain ⟨p9,zs9,rfl,hz9,_,rz9⟩:=id hu9.unref;obtain rfl:=bf rz9;replace ht:=ht.same j9;replace hd:=hd.same j9;replace q:=fun v H' g hv=>q v H' (j9.trans g) hv;refine ⟨p9,_,rfl,.inr hz9,rfl,rfl,_,rfl,aA (fun c=>absurd c (by decide +kernel)) (fun _=>?_)⟩;refine ⟨_,rfl,rfl,_,rfl,iteN (af (by decide)) ?_⟩;refine ⟨_,rfl,rfl,_,rfl,iteN (af (by decide)) ?_⟩;refine ⟨_,rfl,[.str "figures",.str "cut"],.cons .str (.cons .str .nil),sz2,fun u10 H10 j10 hu10=>?_⟩;obtain ⟨p10,zs10,rfl,hz10,_,rz10⟩:=id hu10.unref;obtain rfl:=bf rz10;replace ht:=ht.same j10;replace hd:=hd.same j10;replace q:=fun v H' g hv=>q v H' (j10.trans g) hv;refine ⟨p10,_,rfl,.inr hz10,rfl,rfl,_,rfl,aA (fun c=>absurd c (by decide +kernel)) (fun _=>?_)⟩;refine ⟨_,rfl,rfl,_,rfl,iteN (af (by decide)) ?_⟩;refine ⟨_,rfl,rfl,_,rfl,a5 ?_⟩;refine ⟨_,rfl,_,rfl,_,rfl,?_⟩;refine ⟨_,hd,fun v3 H3 g3 hv3=>?_⟩;refine ⟨_,rfl,_,_,_,ht.same g3,rfl,rfl,fun v4 hv4=>?_⟩;refine ⟨[x],.cons hv4 .nil,sz1,fun v5 H5 g5 hv5=>?_⟩;refine ⟨_,_,hv3.same g5,hv5,(by show 4≤sizeLine;decide),fun v6 H6 g6 hv6=>?_⟩;exact q v6 H6 ((g3.trans g5).trans g6) hv6
 | one x _ =>
  refine ⟨_,rfl,_,_,_,ht,rfl,rfl,fun v hv=>?_⟩;obtain rfl:=aL hv;refine ⟨_,rfl,[.str "bounds",.str "number"],.cons .str (.cons .str .nil),sz2,fun u11 H11 j11 hu11=>?_⟩;obtain ⟨p11,zs11,rfl,hz11,_,rz11⟩:=id hu11.unref;obtain rfl:=bf rz11;replace ht:=ht.same j11;replace hd:=hd.same j11;replace q:=fun v H' g hv=>q v H' (j11.trans g) hv;refine ⟨p11,_,rfl,.inr hz11,rfl,rfl,_,rfl,aA (fun c=>absurd c (by decide +kernel)) (fun _=>?_)⟩;refine ⟨_,rfl,rfl,_,rfl,iteN (af (by decide)) ?_⟩;refine ⟨_,rfl,rfl,_,rfl,iteN (af (by decide)) ?_⟩;refine ⟨_,rfl,[.str "figures",.str "cut"],.cons .str (.cons .str .nil),sz2,fun u12 H12 j12 hu12=>?_⟩;obtain ⟨p12,zs12,rfl,hz12,_,rz12⟩:=id hu12.unref;obtain rfl:=bf rz12;replace ht:=ht.same j12;replace hd:=hd.same j12;replace q:=fun v H' g hv=>q v H' (j12.trans g) hv;refine ⟨p12,_,rfl,.inr hz12,rfl,rfl,_,rfl,aA (fun c=>absurd c (by decide +kernel)) (fun _=>?_)⟩;refine ⟨_,rfl,rfl,_,rfl,iteN (af (by decide)) ?_⟩;refine ⟨_,rfl,rfl,_,rfl,iteN (af (by decide)) ?_⟩;refine ⟨_,rfl,rfl,_,rfl,a5 ?_⟩;refine ⟨_,rfl,_,rfl,_,_,_,ht,rfl,rfl,fun v2 hv2=>?_⟩;exact ⟨[.str "list",d,x],.cons .str (.cons hd (.cons hv2 .nil)),sz3,fun v H' g hv=>q v H' g hv⟩
def Bad (t d:Dt):Prop:=okD t=true∧(∃ a c,a≤4∧FK a c d)∧(TT t d false∨(TT t d true∧∃ e,LK t d e∧okD e=true∧am 5 e=false))
def cR (K:PySem.W.Frag) (ad:Ads):Sp:=fun vs H Q E=>∃ (t d:Dt) (x y:V),vs=[x,y]∧IsP K H t x∧IsP K H d y∧Bad t d∧∀ H',Same H H'→E (.ref ad.BadTurn) none H'
theorem br (T:Tx K mg ad) {f:Addr} {fd:FuncData} (F:Gn K mg "kind_behind" bY ["turn","kind"] f fd):FnOk P w K mg base (CXE P w) 24 f fd ["turn","kind"] (cR K ad):=by
 obtain ⟨_,_,uS⟩:=T.is_turn_of;obtain ⟨fl,fdl,DL⟩:=T.are_led_words;have vv:=kR (P:=P) (w:=w) (base:=base) T uS DL 4;obtain ⟨_,_,vg⟩:=T.made_kind;have wm:=jo (P:=P) (w:=w) (base:=base) T vg;obtain ⟨_,_,uX⟩:=T.led_kind;have vF:=kS (P:=P) (w:=w) (base:=base) T uX;refine F.F.okE gB (fun vs H Q E h=>?_) (fun cdv A outer s H vs Q E hr h=>?_)
 ·obtain ⟨t,d,x,y,rfl,_⟩:=h
  rfl
 obtain ⟨t,d,x,y,rfl,ht,hd,⟨okt,⟨a,c,ha,fk⟩,alt⟩,q⟩:=h;refine ⟨_,(@pss_cons _ _ _ _ _ (@ps_if _ _ _ _ _ _ _ _ (@pt_not _ _ _ _ (@pt_val _ _ _ (pcl uS vv (hr.mono (by lia)) rfl (@pa2 _ _ _ _ _ (pv 0) (pv 1) (by rfl) (by rfl))) (by intro _;rfl))) (@pss_one _ _ _ (ps_raise xeOf rfl rfl rfl rfl T.x_BadTurn rfl (@pa1 _ _ _ pe_str (by rfl)))) pss_nil) (@pss_one _ _ _ (ps_tryRF xeOf rfl rfl rfl (px_call2 wm (hr.mono (by first | decide | lia)) rfl vg.m vg.F.kp vg.b (@pa1 _ _ _ (pcl uX vF (hr.mono (by lia)) rfl (@pa2 _ _ _ _ _ (pv 0) (pv 1) (by rfl) (by rfl))) (by rfl))) T.x_BadKind.m rfl T.x_BadTurn rfl (fun _=>(@pa1 _ _ _ pe_str (by rfl)))))),?_⟩;rcases alt with tf | ⟨tt,e,lk,oke,nf⟩
 ·exact ⟨_,rfl,_,rfl,a,c,t,d,false,x,y,ha,rfl,ht,hd,okt,fk,tf,fun H1 g1=>⟨_,rfl,ax ⟨sz1,q H1 g1⟩⟩⟩
 refine ⟨_,rfl,_,rfl,a,c,t,d,true,x,y,ha,rfl,ht,hd,okt,fk,tt,fun H1 g1=>⟨_,rfl,aV ?_⟩⟩;refine ⟨_,rfl,_,rfl,t,d,e,x,y,Nat.one_pos,rfl,ht.same g1,hd.same g1,lk,fun v H2 g2 hv=>⟨e,v,rfl,hv,oke,.inl ⟨nf,fun H3 g3=>⟨ad.BadKind,rfl,T.exk,?_⟩⟩⟩⟩;exact ⟨sz1,q H3 ((g1.trans g2).trans g3)⟩
def gX (K:PySem.W.Frag) (ad:Ads):Sp:=cR K ad
def iB (K:PySem.W.Frag) (ad:Ads):Sp:=fun vs H Q E=>∃ (t d:Dt) (x y z:V),vs=[x,y,z]∧IsP K H t x∧IsP K H d y∧Bad t d∧∀ H',Same H H'→E (.ref ad.BadTurn) none H'
def lX (K:PySem.W.Frag) (ad:Ads):Sp:=iB K ad
def t6:Sp:=fun _ _ _ _=>False
theorem mB {P:Program} {w:World} {K:PySem.W.Frag} {mg:Str→Option Value} {base:Heap} {k:Nat} {f:Addr} {fd:FuncData} {ps:List Str}:FnOk P w K mg base CX0 k f fd ps t6:=bH fun _ _ _ _ z=>z
theorem gY (T:Tx K mg ad) {f:Addr} {fd:FuncData} (F:Gn K mg "turn_about" cA ["turn","kind"] f fd):FnOk P w K mg base (CXE P w) 25 f fd ["turn","kind"] (gX K ad):=by
 obtain ⟨_,_,uF⟩:=T.kind_behind;have uK:=br (P:=P) (w:=w) (base:=base) T uF;obtain ⟨q7a,q8a,vx⟩:=T.led_about;have vB:=mB (P:=P) (w:=w) (K:=K) (mg:=mg) (base:=base) (k:=1) (f:=q7a) (fd:=q8a) (ps:=["turn","kind"]);refine F.F.okW hU (fun vs H Q E h=>?_) (fun cdv A outer s H vs Q E hr h=>?_)
 ·obtain ⟨t,d,x,y,rfl,_⟩:=h
  rfl
 obtain ⟨t,d,x,y,rfl,ht,hd,bad,q⟩:=h;refine ⟨_,(@pss_cons _ _ _ _ _ (@iE _ _ _ _ (bT uK (hr.mono (by first | decide | lia)) rfl uF.m uF.F.kp uF.b .nil (cu rfl rfl rfl) (@pa2 _ _ _ _ _ (pv 0) (pv 1) (by rfl) (by rfl))) (by rfl)) (@pss_one _ _ _ (@ps_ret _ _ _ _ (pcl vx vB (hr.mono (by lia)) rfl (@pa2 _ _ _ _ _ (pv 0) (pv 1) (by rfl) (by rfl)))))),?_⟩;exact ⟨_,rfl,_,rfl,t,d,x,y,rfl,ht,hd,bad,q⟩
theorem nz (T:Tx K mg ad) {f:Addr} {fd:FuncData} (F:Gn K mg "turned" gA ["turn","kind","value"] f fd):FnOk P w K mg base (CXE P w) 25 f fd ["turn","kind","value"] (iB K ad):=by
 obtain ⟨_,_,uF⟩:=T.kind_behind;have uK:=br (P:=P) (w:=w) (base:=base) T uF;obtain ⟨q7v,q8v,ve⟩:=T.led_value;have vh:=mB (P:=P) (w:=w) (K:=K) (mg:=mg) (base:=base) (k:=1) (f:=q7v) (fd:=q8v) (ps:=["turn","kind","value"]);refine F.F.okW nB (fun vs H Q E h=>?_) (fun cdv A outer s H vs Q E hr h=>?_)
 ·obtain ⟨t,d,x,y,z,rfl,_⟩:=h
  rfl
 obtain ⟨t,d,x,y,z,rfl,ht,hd,bad,q⟩:=h;refine ⟨_,(@pss_cons _ _ _ _ _ (@iE _ _ _ _ (bT uK (hr.mono (by first | decide | lia)) rfl uF.m uF.F.kp uF.b .nil (cu rfl rfl rfl) (@pa2 _ _ _ _ _ (pv 0) (pv 1) (by rfl) (by rfl))) (by rfl)) (@pss_one _ _ _ (@ps_ret _ _ _ _ (pcl ve vh (hr.mono (by lia)) rfl (@pa3 _ _ _ _ _ _ _ (pv 0) (pv 1) (pv 2) (by rfl) (by rfl) (by rfl)))))),?_⟩;exact ⟨_,rfl,_,rfl,t,d,x,y,rfl,ht,hd,bad,q⟩
theorem lY (T:Tx K mg ad) {f:Addr} {fd:FuncData} (F:Gn K mg "twin_of" eP ["turn","kind","value"] f fd):FnOk P w K mg base (CXE P w) 25 f fd ["turn","kind","value"] (lX K ad):=by
 obtain ⟨_,_,uF⟩:=T.kind_behind;have uK:=br (P:=P) (w:=w) (base:=base) T uF;obtain ⟨q7v,q8v,ve⟩:=T.led_value;have vh:=mB (P:=P) (w:=w) (K:=K) (mg:=mg) (base:=base) (k:=1) (f:=q7v) (fd:=q8v) (ps:=["turn","kind","value"]);obtain ⟨q7a,q8a,vx⟩:=T.led_about;have vB:=mB (P:=P) (w:=w) (K:=K) (mg:=mg) (base:=base) (k:=1) (f:=q7a) (fd:=q8a) (ps:=["turn","kind"]);refine F.F.okW gC (fun vs H Q E h=>?_) (fun cdv A outer s H vs Q E hr h=>?_)
 ·obtain ⟨t,d,x,y,z,rfl,_⟩:=h
  rfl
 obtain ⟨t,d,x,y,z,rfl,ht,hd,bad,q⟩:=h;refine ⟨_,(@pss_cons _ _ _ _ _ (@ps_set _ _ 3 _ _ _ _ gC.nd rfl (Or.inl rfl) (bT uK (hr.mono (by first | decide | lia)) rfl uF.m uF.F.kp uF.b .nil (cu rfl rfl rfl) (@pa2 _ _ _ _ _ (pv 0) (pv 1) (by rfl) (by rfl))) (by rfl) (by first | exact .inl rfl | exact .inr rfl | assumption)) (@pss_one _ _ _ (@ps_ret _ _ _ _ (pcl ve vh (hr.mono (by lia)) rfl (@pa3 _ _ _ _ _ _ _ (pcl vx vB (hr.mono (by lia)) rfl (@pa2 _ _ _ _ _ (pv 0) (pv 1) (by rfl) (by rfl))) (pv 3) (pcl ve vh (hr.mono (by lia)) rfl (@pa3 _ _ _ _ _ _ _ (pv 0) (pv 1) (pv 2) (by rfl) (by rfl) (by rfl))) (by rfl) (by rfl) (by rfl)))))),?_⟩;exact ⟨_,rfl,_,rfl,t,d,x,y,rfl,ht,hd,bad,q⟩
def jz (K:PySem.W.Frag) (ad:Ads):Sp:=fun vs H Q E=>∃ (t d:Dt) (i:Int) (x y:V),vs=[.int i,x,y]∧IsP K H t x∧IsP K H d y∧Bad t d∧∀ H',Same H H'→E (.ref ad.BadTurn) none H'
theorem jA (T:Tx K mg ad) {f:Addr} {fd:FuncData} (F:Gn K mg "_law_asked" cZ ["way","turn","kind"] f fd):FnOk P w K mg base (CXE P w) 26 f fd ["way","turn","kind"] (jz K ad):=by
 obtain ⟨_,_,uF⟩:=T.kind_behind;have uK:=br (P:=P) (w:=w) (base:=base) T uF;obtain ⟨_,_,uY⟩:=T.turn_about;have vZ:=gY (P:=P) (w:=w) (base:=base) T uY;obtain ⟨_,_,vE⟩:=T.turned;have wC:=nz (P:=P) (w:=w) (base:=base) T vE;obtain ⟨_,_,vw⟩:=T.twin_of;have wA:=lY (P:=P) (w:=w) (base:=base) T vw;obtain ⟨_,_,uM⟩:=T.least_value;have uW:=cG (P:=P) (w:=w) (base:=base) T uM 4;refine F.F.okW jJ (fun vs H Q E h=>?_) (fun cdv A outer s H vs Q E hr h=>?_)
 ·obtain ⟨t,d,i,x,y,rfl,_⟩:=h
  rfl
 obtain ⟨t,d,i,x,y,rfl,ht,hd,bad,q⟩:=h;obtain ⟨a,c,ha,fk⟩:=bad.2.1;refine ⟨_,(@pss_cons _ _ _ _ _ (@ps_if _ _ _ _ _ _ _ _ (pt_cmpR op_eq (pv 0) pe_int (nomark _)) (@pss_one _ _ _ (@ps_ret _ _ _ _ (bT uK (hr.mono (by first | decide | lia)) rfl uF.m uF.F.kp uF.b .nil (cu rfl rfl rfl) (@pa2 _ _ _ _ _ (pv 1) (pv 2) (by rfl) (by rfl))))) pss_nil) (@pss_cons _ _ _ _ _ (@ps_if _ _ _ _ _ _ _ _ (pt_cmpR op_eq (pv 0) pe_int (nomark _)) (@pss_one _ _ _ (@ps_ret _ _ _ _ (bT vZ (hr.mono (by first | decide | lia)) rfl uY.m uY.F.kp uY.b .nil (cu rfl rfl rfl) (@pa2 _ _ _ _ _ (pv 1) (pv 2) (by rfl) (by rfl))))) pss_nil) (@pss_cons _ _ _ _ _ (@ps_if _ _ _ _ _ _ _ _ (pt_cmpR op_eq (pv 0) pe_int (nomark _)) (@pss_one _ _ _ (@ps_ret _ _ _ _ (bT wC (hr.mono (by first | decide | lia)) rfl vE.m vE.F.kp vE.b .nil (cu rfl rfl rfl) (@pa3 _ _ _ _ _ _ _ (pv 1) (pv 2) (pcl uM uW (hr.mono (by lia)) rfl (@pa1 _ _ _ (pv 2) (by rfl))) (by rfl) (by rfl) (by rfl))))) pss_nil) (@pss_one _ _ _ (@ps_ret _ _ _ _ (bT wA (hr.mono (by first | decide | lia)) rfl vw.m vw.F.kp vw.b .nil (cu rfl rfl rfl) (@pa3 _ _ _ _ _ _ _ (pv 1) (pv 2) (pcl uM uW (hr.mono (by lia)) rfl (@pa1 _ _ _ (pv 2) (by rfl))) (by rfl) (by rfl) (by rfl)))))))),?_⟩;refine ⟨_,rfl,rfl,_,rfl,aA (fun _=>?_) (fun _=>?_)⟩
 ·exact ⟨_,rfl,_,rfl,t,d,x,y,rfl,ht,hd,bad,q⟩
 refine ⟨_,rfl,rfl,_,rfl,aA (fun _=>?_) (fun _=>?_)⟩
 ·exact ⟨_,rfl,_,rfl,t,d,x,y,rfl,ht,hd,bad,q⟩
 refine ⟨_,rfl,rfl,_,rfl,aA (fun _=>?_) (fun _=>?_)⟩
 ·exact ⟨_,rfl,_,rfl,_,rfl,a,c,d,y,ha,rfl,hd,fk,fun v H1 g1 hv=>⟨t,d,x,y,v,rfl,ht.same g1,hd.same g1,bad,fun H' g=>q H' (g1.trans g)⟩⟩
 ·exact ⟨_,rfl,_,rfl,_,rfl,a,c,d,y,ha,rfl,hd,fk,fun v H1 g1 hv=>⟨t,d,x,y,v,rfl,ht.same g1,hd.same g1,bad,fun H' g=>q H' (g1.trans g)⟩⟩
def Lit (K:PySem.W.Frag) (σ:L2.St) (t:TE) (d:Dt):Prop:=∀ (H:Hp) (Q:VK),(∀ v H',Same H H'→IsP K H' d v→Q v H')→t σ H Q
def jB (K:PySem.W.Frag) (σ:L2.St) (t:TA) (ds:List Dt):Prop:=∀ (H:Hp) (Q:List V→Hp→Prop),(∀ vs H',Same H H'→IsPs K H' ds vs→Q vs H')→t σ H Q
section
variable {K:PySem.W.Frag} {σ:L2.St}
theorem aF {i:Int}:Lit K σ (tC (.int i)) (.int i):=fun H Q q=>q _ H (Same.refl H) .int
theorem aG {z:Str}:Lit K σ (tC (.str z)) (.str z):=fun H Q q=>q _ H (Same.refl H) .str
theorem aH {i:Nat} {n:Int} (h:σ[i]?=some (some (.int n))):Lit K σ (fU i) (.int n):=fun H Q q=>⟨.int n,h,q _ H (Same.refl H) .int⟩
theorem aI {t:TE} {i:Int} (h:Lit K σ t (.int i)):Lit K σ (tUn (rU fun i=>V.int (-i)) t) (.int (-i)):=fun H Q q=>h H _ fun v H1 g hv=>by
 obtain rfl:=gr hv;exact ⟨i,rfl,q _ H1 g .int⟩
theorem ak {ta tb:TE} {i j:Int} {g:Int→Int→Int} (ha:Lit K σ ta (.int i)) (hb:Lit K σ tb (.int j)):Lit K σ (tOp (rI0 fun i j=>V.int (g i j)) ta tb) (.int (g i j)):=fun H Q q=>ha H _ fun v H1 g1 hv=>hb H1 _ fun u H2 g2 hu=>by
 obtain rfl:=gr hv;obtain rfl:=gr hu;exact ⟨i,j,rfl,rfl,q _ H2 (g1.trans g2) .int⟩
theorem aq {C:Int→Int→Prop} {ta tb:TE} {i j:Int} {g:Int→Int→Int} (hc:C i j) (ha:Lit K σ ta (.int i)) (hb:Lit K σ tb (.int j)):Lit K σ (tOp (rI C fun i j=>V.int (g i j)) ta tb) (.int (g i j)):=fun H Q q=>ha H _ fun v H1 g1 hv=>hb H1 _ fun u H2 g2 hu=>by
 obtain rfl:=gr hv;obtain rfl:=gr hu;exact ⟨i,j,rfl,rfl,hc,q _ H2 (g1.trans g2) .int⟩
theorem aB:jB K σ jO []:=fun H Q q=>q [] H (Same.refl H) .nil
theorem aw {t:TE} {ts:TA} {d:Dt} {ds:List Dt} (h:Lit K σ t d) (hs:jB K σ ts ds):jB K σ (ce t ts) (d :: ds):=fun H Q q=>h H _ fun v H1 g1 hv=>hs H1 _ fun vs H2 g2 hvs=>q (v :: vs) H2 (g1.trans g2) (.cons (hv.same g2) hvs)
theorem aJ {ts:TA} {ds:List Dt} (hs:jB K σ ts ds) (hl:Nat.ble ds.length 1000=true:=by rfl):Lit K σ (ow K ts) (.tup ds):=fun H Q q=>hs H _ fun vs H1 g1 hvs=>⟨ds,hvs,by rw [← hvs.length];exact Nat.le_of_lt (ao (Nat.le_of_ble_eq_true hl)),fun v H' g hv=>q v H' (g1.trans g) hv⟩
theorem mC {ts:TA} {ds:List Dt} (hs:jB K σ ts ds) (hl:ds.length≤1000) {H:Hp} {Q:VK} (q:∀ p vs H',Same H H'→H p=none→H' p=some (.lst vs)→IsPs K H' ds vs→Q (.ref p) H'):gD ts σ H Q:=hs H _ fun vs H1 g1 hvs=>⟨by rw [← hvs.length];exact Nat.le_of_lt (ao hl),fun p hp=>q p vs _ (g1.trans (ag hp _)) (g1.free hp) ac (hvs.same (ag hp _))⟩
theorem mD {ts:TA} {d0 ds:List Dt} {i:Nat} {a:Addr} {xs:List V} {H:Hp} {Q:VK} (hi:σ[i]?=some (some (.ref a))) (ha:H a=some (.lst xs)) (h0:IsPs K H d0 xs) (hs:jB K σ ts ds) (hl:d0.length+ds.length≤1000)
  (q:∀ p vs H',Same H H'→H p=none→H' p=some (.lst vs)→IsPs K H' (d0++ds) vs→Q (.ref p) H'):tOp (gc K) (fU i) (gD ts) σ H Q :=
 ⟨.ref a,hi,mC hs (by lia) fun p vs H1 g1 hn e1 hvs=>⟨a,p,xs,vs,rfl,rfl,SqL.of (g1 _ _ ha),SqL.of e1,by rw [← h0.length,← hvs.length];exact Nat.le_of_lt (ao hl),fun r hr=>q r _ _ (g1.trans (ag hr _)) (g1.free hr) ac (((h0.same g1).append hvs).same (ag hr _))⟩⟩
theorem mE {ts:TA} {ds:List Dt} {i:Nat} {u:TS} {D:Ends} {H:Hp} (hs:jB K σ ts ds) (hl:ds.length≤1000) (q:∀ p vs H',Same H H'→H p=none→H' p=some (.lst vs)→IsPs K H' ds vs→u D (σ.set i (some (.ref p))) H'):rj (mK (gD ts) (eQ i)) u D σ H:=show gD ts σ H (fun x H1=>u D (σ.set i (some x)) H1) from mC hs hl q
theorem aR {ts:TA} {d0 ds:List Dt} {i:Nat} {a:Addr} {xs:List V} {u:TS} {D:Ends} {H:Hp} (hi:σ[i]?=some (some (.ref a))) (ha:H a=some (.lst xs)) (h0:IsPs K H d0 xs) (hs:jB K σ ts ds) (hl:d0.length+ds.length≤1000)
  (q:∀ p vs H',Same H H'→H p=none→H' p=some (.lst vs)→IsPs K H' (d0++ds) vs→u D (σ.set i (some (.ref p))) H'):rj (mK (tOp (gc K) (fU i) (gD ts)) (eQ i)) u D σ H:=show tOp (gc K) (fU i) (gD ts) σ H (fun x H1=>u D (σ.set i (some x)) H1) from mD hi ha h0 hs hl q
theorem qC {ts:TA} {d0 ds:List Dt} {i:Nat} {a:Addr} {xs:List V} {D:Ends} {H:Hp} (hi:σ[i]?=some (some (.ref a))) (ha:H a=some (.lst xs)) (h0:IsPs K H d0 xs) (hs:jB K σ ts ds) (hl:d0.length+ds.length≤1000)
  (q:∀ p vs H',Same H H'→H p=none→H' p=some (.lst vs)→IsPs K H' (d0++ds) vs→D.rt (.ref p) H'):rl (tOp (gc K) (fU i) (gD ts)) D σ H:=show tOp (gc K) (fU i) (gD ts) σ H D.rt from mD hi ha h0 hs hl q
theorem sC {i:Nat} {v:V} {H:Hp} {Q:L2.St→Hp→Prop} (h:Q (σ.set i (some v)) H):eQ i v σ H Q:=h
end
def fB:List Dt:=[.tup [],
 .tup [.str "bound",.int 0,.int 1],
 .tup [.str "bounds",.int 0],
 .tup [.str "bounds",.int 0,.int 1,.int 2],
 .tup [.str "bounds",.str "0",.int 1],
 .tup [.str "bounds",.int 3,.int 2]]
def fC:List Dt:=[.tup [.str "scale"],
 .tup [.str "scale",.int 1],
 .tup [.str "scale",.int 1001],
 .tup [.str "scale",.int (-2)],
 .tup [.str "scale",.str "2"],
 .tup [.str "shrink",.int 0]]
def fD:List Dt:=[.tup [.str "figures",.str "3"],
 .tup [.str "figures",.int 61],
 .tup [.str "cut",.int (-1)],
 .tup [.str "cut",.int 61],
 .tup [.str "cut"],
 .tup [.str "first",.int 9]]
def fE:List Dt:=[.tup [.str "first",.int (-1)],
 .tup [.str "one",.int 0],
 .tup [.str "one",.int 9],
 .tup [.str "one"],
 .tup [.str "out",.int 1],
 .tup [.str "items",.str "out"],
 .tup [.str "items"]]
def fF:List Dt:=[.tup [.str "words",.tup [.str "x"]],
 .tup [.str "words",.tup [.int 1],.tup [.tup [.str "x",.str "b"]]],
 .tup [.str "words",.tup [.str "x"],.tup [.str "x"]],
 .tup [.tup [.str "out"]]]
def fG:List Dt:=[.tup [.str "number",.int 0],
 .tup [.str "number",.int 5,.int 4],
 .tup [.int 7],
 .tup [.str "items",.tup []]]
def fH (f:Int):List Dt:=[.tup [.tup [.str "bounds",.int 0,.int 9],.tup [.str "text",.int 3]],
 .tup [.tup [.str "cut",.int 2],.tup [.str "number",.int 0,.int 9]],
 .tup [.tup [.str "scale",.int 2],.tup [.str "choice",.tup [.str "a",.str "b"]]]]
def fI (f:Int):List Dt:=[.tup [.tup [.str "first",.int 1],.tup [.str "text",.int 3]],
 .tup [.tup [.str "out"],.tup [.str "list",.tup [.str "text",.int 3],.int 0]],
 .tup [.tup [.str "out"],.tup [.str "text",.int 1]]]
def fJ (f:Int):List Dt:=[.tup [.tup [.str "items",.tup [.str "cut",.int 1]],.tup [.str "list",.tup [.str "number",.int 0,.int 9],.int 2]],
 .tup [.tup [.str "items",.tup [.str "out"]],.tup [.str "record",.tup []]]]
def fK (f:Int):List Dt:=[.tup [.tup [.str "shrink",.int 7],.tup [.str "number",.int 0,.int ((7*f)+1)]],
 .tup [.tup [.str "shrink",.int 2],.tup [.str "number",.int (-3),.int 4]]]
def fM (f:Int):List Dt:=[.tup [.tup [.str "figures",.int 2],.tup [.str "number",.int 0,.int (100+f)]],
 .tup [.tup [.str "figures",.int 1],.tup [.str "number",.int ((-1) - f),.int 3]]]
def fN (f:Int):List Dt:=[.tup [.tup [.str "number",.int 0,.int 100],.tup [.str "text",.int 2]],
 .tup [.tup [.str "number",.int (-1),.int 3],.tup [.str "text",.int 1]]]
def fO (f:Int):List Dt:=[.tup [.tup [.str "scale",.int 11],.tup [.str "number",.int 0,.int (((10:Int) ^ (29:Int).toNat)+f)]],
 .tup [.tup [.str "scale",.int 1000],.tup [.str "number",.int (-((10:Int) ^ (28:Int).toNat)),.int (f)]]]
def fP (f:Int):List Dt:=[.tup [.tup [.str "words",.tup [.str "x"],.tup [.tup [.str "x",.str "a"]]],.tup [.str "choice",.tup [.str "a",.str "b"]]]]
def fQ (f:Int):List Dt:=[.tup [.tup [.str "words",.tup [.str "x",.str "y"],.tup [.tup [.str "x",.str "a"]]],.tup [.str "choice",.tup [.str "a",.str "b"]]]]
def fR (f:Int):List Dt:=[.tup [.tup [.str "words",.tup [.str "x",.str "x"],.tup [.tup [.str "x",.str "c"]]],.tup [.str "choice",.tup [.str "a",.str "b"]]]]
def d9 (f:Int):List Dt:=[.tup [.tup [.str "words",.tup [.str "x",.str "y"],.tup [.tup [.str "x",.str "b"],.tup [.str "y",.str "a"]]],.tup [.str "choice",.tup [.str "a",.str "b"]]]]
def ee (f:Int):List Dt:=[.tup [.tup [.str "words",.tup [.str "x",.str "x"],.tup [.tup [.str "x",.str "a"],.tup [.str "y",.str "b"]]],.tup [.str "choice",.tup [.str "a",.str "b"]]]]
def eg (f:Int):List Dt:=[.tup [.tup [.str "words",.tup [.str "x",.str "x"],.tup [.tup [.str "x",.str "a"],.tup [.str "x",.str "a"]]],.tup [.str "choice",.tup [.str "a",.str "b"]]]]
def formsL:List Dt:=(((((fB)++fC)++fD)++fE)++fF)++fG
def pairsL (f:Int):List Dt:=((((((((((((fH f)++fI f)++fJ f)++fK f)++fM f)++fN f)++fO f)++fP f)++fQ f)++fR f)++d9 f)++ee f)++eg f
def eL (K:PySem.W.Frag) (_:Ads):Sp:=fun vs H Q _=>vs=[]∧∀ (r:Addr) (ys:List V) (H':Hp),Same H H'→H r=none→H' r=some (.lst ys)→IsPs K H' formsL ys→Q (.ref r) H'
theorem eM (T:Tx K mg ad) {f:Addr} {fd:FuncData} (F:Gn K mg "_law_bad_forms" bF [] f fd):FnOk P w K mg base CX0 1 f fd [] (eL K ad):=by
 refine F.F.ok aK (fun vs H Q E h=>?_) (fun cdv A outer s H vs Q E hr h=>?_)
 ·obtain ⟨rfl,_⟩:=h
  rfl
 obtain ⟨rfl,q⟩:=h;refine ⟨_,(@pss_cons _ _ _ _ _ (@ps_set _ _ 0 _ _ _ _ aK.nd rfl (Or.inl rfl) (@ar _ _ _ _ (@al _ _ _ _ _ (@pe_tupPK _ K _ _ _ _ rfl bX) (@al _ _ _ _ _ (@pe_tupPK _ K _ _ _ _ rfl (@pa3 _ _ _ _ _ _ _ pe_str pe_int pe_int (by rfl) (by rfl) (by rfl))) (@al _ _ _ _ _ (@pe_tupPK _ K _ _ _ _ rfl (@pa2 _ _ _ _ _ pe_str pe_int (by rfl) (by rfl))) (@pa3 _ _ _ _ _ _ _ (@pe_tupPK _ K _ _ _ _ rfl (@al _ _ _ _ _ pe_str (@pa3 _ _ _ _ _ _ _ pe_int pe_int pe_int (by rfl) (by rfl) (by rfl)) (by rfl))) (@pe_tupPK _ K _ _ _ _ rfl (@pa3 _ _ _ _ _ _ _ pe_str pe_str pe_int (by rfl) (by rfl) (by rfl))) (@pe_tupPK _ K _ _ _ _ rfl (@pa3 _ _ _ _ _ _ _ pe_str pe_int pe_int (by rfl) (by rfl) (by rfl))) (by rfl) (by rfl) (by rfl)) (by rfl)) (by rfl)) (by rfl))) (by rfl) (by first | exact .inl rfl | exact .inr rfl | assumption)) (@pss_cons _ _ _ _ _ (@ps_set _ _ 0 _ _ _ _ aK.nd rfl (Or.inl rfl) (@pe_op _ _ _ _ _ _ _ _ (aC (K:=K) rfl) (pv 0) (@ar _ _ _ _ (@al _ _ _ _ _ (@pe_tupPK _ K _ _ _ _ rfl (@pa1 _ _ _ pe_str (by rfl))) (@al _ _ _ _ _ (@pe_tupPK _ K _ _ _ _ rfl (@pa2 _ _ _ _ _ pe_str pe_int (by rfl) (by rfl))) (@al _ _ _ _ _ (@pe_tupPK _ K _ _ _ _ rfl (@pa2 _ _ _ _ _ pe_str pe_int (by rfl) (by rfl))) (@pa3 _ _ _ _ _ _ _ (@pe_tupPK _ K _ _ _ _ rfl (@pa2 _ _ _ _ _ pe_str (@pe_un _ _ _ _ _ _ un_neg pe_int) (by rfl) (by rfl))) (@pe_tupPK _ K _ _ _ _ rfl (@pa2 _ _ _ _ _ pe_str pe_str (by rfl) (by rfl))) (@pe_tupPK _ K _ _ _ _ rfl (@pa2 _ _ _ _ _ pe_str pe_int (by rfl) (by rfl))) (by rfl) (by rfl) (by rfl)) (by rfl)) (by rfl)) (by rfl)))) (by rfl) (by first | exact .inl rfl | exact .inr rfl | assumption)) (@pss_cons _ _ _ _ _ (@ps_set _ _ 0 _ _ _ _ aK.nd rfl (Or.inl rfl) (@pe_op _ _ _ _ _ _ _ _ (aC (K:=K) rfl) (pv 0) (@ar _ _ _ _ (@al _ _ _ _ _ (@pe_tupPK _ K _ _ _ _ rfl (@pa2 _ _ _ _ _ pe_str pe_str (by rfl) (by rfl))) (@al _ _ _ _ _ (@pe_tupPK _ K _ _ _ _ rfl (@pa2 _ _ _ _ _ pe_str pe_int (by rfl) (by rfl))) (@al _ _ _ _ _ (@pe_tupPK _ K _ _ _ _ rfl (@pa2 _ _ _ _ _ pe_str (@pe_un _ _ _ _ _ _ un_neg pe_int) (by rfl) (by rfl))) (@pa3 _ _ _ _ _ _ _ (@pe_tupPK _ K _ _ _ _ rfl (@pa2 _ _ _ _ _ pe_str pe_int (by rfl) (by rfl))) (@pe_tupPK _ K _ _ _ _ rfl (@pa1 _ _ _ pe_str (by rfl))) (@pe_tupPK _ K _ _ _ _ rfl (@pa2 _ _ _ _ _ pe_str pe_int (by rfl) (by rfl))) (by rfl) (by rfl) (by rfl)) (by rfl)) (by rfl)) (by rfl)))) (by rfl) (by first | exact .inl rfl | exact .inr rfl | assumption)) (@pss_cons _ _ _ _ _ (@ps_set _ _ 0 _ _ _ _ aK.nd rfl (Or.inl rfl) (@pe_op _ _ _ _ _ _ _ _ (aC (K:=K) rfl) (pv 0) (@ar _ _ _ _ (@al _ _ _ _ _ (@pe_tupPK _ K _ _ _ _ rfl (@pa2 _ _ _ _ _ pe_str (@pe_un _ _ _ _ _ _ un_neg pe_int) (by rfl) (by rfl))) (@al _ _ _ _ _ (@pe_tupPK _ K _ _ _ _ rfl (@pa2 _ _ _ _ _ pe_str pe_int (by rfl) (by rfl))) (@al _ _ _ _ _ (@pe_tupPK _ K _ _ _ _ rfl (@pa2 _ _ _ _ _ pe_str pe_int (by rfl) (by rfl))) (@al _ _ _ _ _ (@pe_tupPK _ K _ _ _ _ rfl (@pa1 _ _ _ pe_str (by rfl))) (@pa3 _ _ _ _ _ _ _ (@pe_tupPK _ K _ _ _ _ rfl (@pa2 _ _ _ _ _ pe_str pe_int (by rfl) (by rfl))) (@pe_tupPK _ K _ _ _ _ rfl (@pa2 _ _ _ _ _ pe_str pe_str (by rfl) (by rfl))) (@pe_tupPK _ K _ _ _ _ rfl (@pa1 _ _ _ pe_str (by rfl))) (by rfl) (by rfl) (by rfl)) (by rfl)) (by rfl)) (by rfl)) (by rfl)))) (by rfl) (by first | exact .inl rfl | exact .inr rfl | assumption)) (@pss_cons _ _ _ _ _ (@ps_set _ _ 0 _ _ _ _ aK.nd rfl (Or.inl rfl) (@pe_op _ _ _ _ _ _ _ _ (aC (K:=K) rfl) (pv 0) (@ar _ _ _ _ (@al _ _ _ _ _ (@pe_tupPK _ K _ _ _ _ rfl (@pa2 _ _ _ _ _ pe_str (@pe_tupPK _ K _ _ _ _ rfl (@pa1 _ _ _ pe_str (by rfl))) (by rfl) (by rfl))) (@pa3 _ _ _ _ _ _ _ (@pe_tupPK _ K _ _ _ _ rfl (@pa3 _ _ _ _ _ _ _ pe_str (@pe_tupPK _ K _ _ _ _ rfl (@pa1 _ _ _ pe_int (by rfl))) (@pe_tupPK _ K _ _ _ _ rfl (@pa1 _ _ _ (@pe_tupPK _ K _ _ _ _ rfl (@pa2 _ _ _ _ _ pe_str pe_str (by rfl) (by rfl))) (by rfl))) (by rfl) (by rfl) (by rfl))) (@pe_tupPK _ K _ _ _ _ rfl (@pa3 _ _ _ _ _ _ _ pe_str (@pe_tupPK _ K _ _ _ _ rfl (@pa1 _ _ _ pe_str (by rfl))) (@pe_tupPK _ K _ _ _ _ rfl (@pa1 _ _ _ pe_str (by rfl))) (by rfl) (by rfl) (by rfl))) (@pe_tupPK _ K _ _ _ _ rfl (@pa1 _ _ _ (@pe_tupPK _ K _ _ _ _ rfl (@pa1 _ _ _ pe_str (by rfl))) (by rfl))) (by rfl) (by rfl) (by rfl)) (by rfl)))) (by rfl) (by first | exact .inl rfl | exact .inr rfl | assumption)) (@pss_one _ _ _ (@ps_ret _ _ _ _ (@pe_op _ _ _ _ _ _ _ _ (aC (K:=K) rfl) (pv 0) (@ar _ _ _ _ (@al _ _ _ _ _ (@pe_tupPK _ K _ _ _ _ rfl (@pa2 _ _ _ _ _ pe_str pe_int (by rfl) (by rfl))) (@pa3 _ _ _ _ _ _ _ (@pe_tupPK _ K _ _ _ _ rfl (@pa3 _ _ _ _ _ _ _ pe_str pe_int pe_int (by rfl) (by rfl) (by rfl))) (@pe_tupPK _ K _ _ _ _ rfl (@pa1 _ _ _ pe_int (by rfl))) (@pe_tupPK _ K _ _ _ _ rfl (@pa2 _ _ _ _ _ pe_str (@pe_tupPK _ K _ _ _ _ rfl bX) (by rfl) (by rfl))) (by rfl) (by rfl) (by rfl)) (by rfl))))))))))),?_⟩;refine mE (K:=K) (ds:=fB) ?_ (by decide) fun p0 x0 H0 g0 n0 e0 i0=>?_
 ·unfold fB
  (repeat' first | with_reducible refine aw ?_ ?_ | with_reducible exact aB | with_reducible exact aG | with_reducible exact aF | refine aJ ?_ | exact aH rfl | refine aI ?_ | refine ak (g:=fun i j=>i+j) ?_ ?_ | refine ak (g:=fun i j=>i - j) ?_ ?_ | refine aq (g:=fun i j=>i*j) (.inr ⟨by lia,by lia⟩) ?_ ?_ | refine aq (g:=fun i j=>i ^ j.toNat) ⟨by decide,by decide,by decide⟩ ?_ ?_)
 refine aR (K:=K) (ds:=fC) rfl e0 i0 ?_ (by decide) fun p1 x1 H1 g1 n1 e1 i1=>?_
 ·unfold fC
  (repeat' first | with_reducible refine aw ?_ ?_ | with_reducible exact aB | with_reducible exact aG | with_reducible exact aF | refine aJ ?_ | exact aH rfl | refine aI ?_ | refine ak (g:=fun i j=>i+j) ?_ ?_ | refine ak (g:=fun i j=>i - j) ?_ ?_ | refine aq (g:=fun i j=>i*j) (.inr ⟨by lia,by lia⟩) ?_ ?_ | refine aq (g:=fun i j=>i ^ j.toNat) ⟨by decide,by decide,by decide⟩ ?_ ?_)
 refine aR (K:=K) (ds:=fD) rfl e1 i1 ?_ (by decide) fun p2 x2 H2 g2 n2 e2 i2=>?_
 ·unfold fD
  (repeat' first | with_reducible refine aw ?_ ?_ | with_reducible exact aB | with_reducible exact aG | with_reducible exact aF | refine aJ ?_ | exact aH rfl | refine aI ?_ | refine ak (g:=fun i j=>i+j) ?_ ?_ | refine ak (g:=fun i j=>i - j) ?_ ?_ | refine aq (g:=fun i j=>i*j) (.inr ⟨by lia,by lia⟩) ?_ ?_ | refine aq (g:=fun i j=>i ^ j.toNat) ⟨by decide,by decide,by decide⟩ ?_ ?_)
 refine aR (K:=K) (ds:=fE) rfl e2 i2 ?_ (by decide) fun p3 x3 H3 g3 n3 e3 i3=>?_
 ·unfold fE
  (repeat' first | with_reducible refine aw ?_ ?_ | with_reducible exact aB | with_reducible exact aG | with_reducible exact aF | refine aJ ?_ | exact aH rfl | refine aI ?_ | refine ak (g:=fun i j=>i+j) ?_ ?_ | refine ak (g:=fun i j=>i - j) ?_ ?_ | refine aq (g:=fun i j=>i*j) (.inr ⟨by lia,by lia⟩) ?_ ?_ | refine aq (g:=fun i j=>i ^ j.toNat) ⟨by decide,by decide,by decide⟩ ?_ ?_)
 refine aR (K:=K) (ds:=fF) rfl e3 i3 ?_ (by decide) fun p4 x4 H4 g4 n4 e4 i4=>?_
 ·unfold fF
  (repeat' first | with_reducible refine aw ?_ ?_ | with_reducible exact aB | with_reducible exact aG | with_reducible exact aF | refine aJ ?_ | exact aH rfl | refine aI ?_ | refine ak (g:=fun i j=>i+j) ?_ ?_ | refine ak (g:=fun i j=>i - j) ?_ ?_ | refine aq (g:=fun i j=>i*j) (.inr ⟨by lia,by lia⟩) ?_ ?_ | refine aq (g:=fun i j=>i ^ j.toNat) ⟨by decide,by decide,by decide⟩ ?_ ?_)
 refine qC (K:=K) (ds:=fG) rfl e4 i4 ?_ (by decide) fun p5 x5 H5 g5 n5 e5 i5=>?_
 ·unfold fG
  (repeat' first | with_reducible refine aw ?_ ?_ | with_reducible exact aB | with_reducible exact aG | with_reducible exact aF | refine aJ ?_ | exact aH rfl | refine aI ?_ | refine ak (g:=fun i j=>i+j) ?_ ?_ | refine ak (g:=fun i j=>i - j) ?_ ?_ | refine aq (g:=fun i j=>i*j) (.inr ⟨by lia,by lia⟩) ?_ ?_ | refine aq (g:=fun i j=>i ^ j.toNat) ⟨by decide,by decide,by decide⟩ ?_ ?_)
 exact q p5 x5 H5 (((((g0.trans g1).trans g2).trans g3).trans g4).trans g5) (((((g0.trans g1).trans g2).trans g3).trans g4).free n5) e5 i5
def eh (K:PySem.W.Frag) (_:Ads):Sp:=fun vs H Q _=>∃ (r:Addr) (c:Int),vs=[.ref r]∧H r=some (.lst [.int c])∧∀ (v:V) (f:Nat) (p:Dt) (c':Int) (H':Hp),But r H H'→H' r=some (.lst [.int c'])→IsP K H' p v→f≤8→p∈pairsL f→Q v H'
theorem em (T:Tx K mg ad) {f:Addr} {fd:FuncData} (F:Gn K mg "_law_other_kind" bC ["row"] f fd):FnOk P w K mg base CX0 2 f fd ["row"] (eh K ad):=by
 obtain ⟨_,_,uE⟩:=T.law_digit;have uG:=a8 (P:=P) (w:=w) (base:=base) T uE;refine F.F.ok ai (fun vs H Q E h=>?_) (fun cdv A outer s H vs Q E hr h=>?_)
 ·obtain ⟨r,c,rfl,_⟩:=h
  rfl
 obtain ⟨r,c,rfl,hr0,q⟩:=h;refine ⟨_,(@pss_cons _ _ _ _ _ (@ps_set _ _ 1 _ _ _ _ ai.nd rfl (Or.inl rfl) (pcl uE uG (hr.mono (by lia)) rfl (@pa2 _ _ _ _ _ (pv 0) pe_int (by rfl) (by rfl))) (by rfl) (by first | exact .inl rfl | exact .inr rfl | assumption)) (@pss_cons _ _ _ _ _ (@ps_set _ _ 2 _ _ _ _ ai.nd rfl (Or.inl rfl) (@ar _ _ _ _ (@pa3 _ _ _ _ _ _ _ (@pe_tupPK _ K _ _ _ _ rfl (@pa2 _ _ _ _ _ (@pe_tupPK _ K _ _ _ _ rfl (@pa3 _ _ _ _ _ _ _ pe_str pe_int pe_int (by rfl) (by rfl) (by rfl))) (@pe_tupPK _ K _ _ _ _ rfl (@pa2 _ _ _ _ _ pe_str pe_int (by rfl) (by rfl))) (by rfl) (by rfl))) (@pe_tupPK _ K _ _ _ _ rfl (@pa2 _ _ _ _ _ (@pe_tupPK _ K _ _ _ _ rfl (@pa2 _ _ _ _ _ pe_str pe_int (by rfl) (by rfl))) (@pe_tupPK _ K _ _ _ _ rfl (@pa3 _ _ _ _ _ _ _ pe_str pe_int pe_int (by rfl) (by rfl) (by rfl))) (by rfl) (by rfl))) (@pe_tupPK _ K _ _ _ _ rfl (@pa2 _ _ _ _ _ (@pe_tupPK _ K _ _ _ _ rfl (@pa2 _ _ _ _ _ pe_str pe_int (by rfl) (by rfl))) (@pe_tupPK _ K _ _ _ _ rfl (@pa2 _ _ _ _ _ pe_str (@pe_tupPK _ K _ _ _ _ rfl (@pa2 _ _ _ _ _ pe_str pe_str (by rfl) (by rfl))) (by rfl) (by rfl))) (by rfl) (by rfl))) (by rfl) (by rfl) (by rfl))) (by rfl) (by first | exact .inl rfl | exact .inr rfl | assumption)) (@pss_cons _ _ _ _ _ (@ps_set _ _ 2 _ _ _ _ ai.nd rfl (Or.inl rfl) (@pe_op _ _ _ _ _ _ _ _ (aC (K:=K) rfl) (pv 2) (@ar _ _ _ _ (@pa3 _ _ _ _ _ _ _ (@pe_tupPK _ K _ _ _ _ rfl (@pa2 _ _ _ _ _ (@pe_tupPK _ K _ _ _ _ rfl (@pa2 _ _ _ _ _ pe_str pe_int (by rfl) (by rfl))) (@pe_tupPK _ K _ _ _ _ rfl (@pa2 _ _ _ _ _ pe_str pe_int (by rfl) (by rfl))) (by rfl) (by rfl))) (@pe_tupPK _ K _ _ _ _ rfl (@pa2 _ _ _ _ _ (@pe_tupPK _ K _ _ _ _ rfl (@pa1 _ _ _ pe_str (by rfl))) (@pe_tupPK _ K _ _ _ _ rfl (@pa3 _ _ _ _ _ _ _ pe_str (@pe_tupPK _ K _ _ _ _ rfl (@pa2 _ _ _ _ _ pe_str pe_int (by rfl) (by rfl))) pe_int (by rfl) (by rfl) (by rfl))) (by rfl) (by rfl))) (@pe_tupPK _ K _ _ _ _ rfl (@pa2 _ _ _ _ _ (@pe_tupPK _ K _ _ _ _ rfl (@pa1 _ _ _ pe_str (by rfl))) (@pe_tupPK _ K _ _ _ _ rfl (@pa2 _ _ _ _ _ pe_str pe_int (by rfl) (by rfl))) (by rfl) (by rfl))) (by rfl) (by rfl) (by rfl)))) (by rfl) (by first | exact .inl rfl | exact .inr rfl | assumption)) (@pss_cons _ _ _ _ _ (@ps_set _ _ 2 _ _ _ _ ai.nd rfl (Or.inl rfl) (@pe_op _ _ _ _ _ _ _ _ (aC (K:=K) rfl) (pv 2) (@ar _ _ _ _ (@pa2 _ _ _ _ _ (@pe_tupPK _ K _ _ _ _ rfl (@pa2 _ _ _ _ _ (@pe_tupPK _ K _ _ _ _ rfl (@pa2 _ _ _ _ _ pe_str (@pe_tupPK _ K _ _ _ _ rfl (@pa2 _ _ _ _ _ pe_str pe_int (by rfl) (by rfl))) (by rfl) (by rfl))) (@pe_tupPK _ K _ _ _ _ rfl (@pa3 _ _ _ _ _ _ _ pe_str (@pe_tupPK _ K _ _ _ _ rfl (@pa3 _ _ _ _ _ _ _ pe_str pe_int pe_int (by rfl) (by rfl) (by rfl))) pe_int (by rfl) (by rfl) (by rfl))) (by rfl) (by rfl))) (@pe_tupPK _ K _ _ _ _ rfl (@pa2 _ _ _ _ _ (@pe_tupPK _ K _ _ _ _ rfl (@pa2 _ _ _ _ _ pe_str (@pe_tupPK _ K _ _ _ _ rfl (@pa1 _ _ _ pe_str (by rfl))) (by rfl) (by rfl))) (@pe_tupPK _ K _ _ _ _ rfl (@pa2 _ _ _ _ _ pe_str (@pe_tupPK _ K _ _ _ _ rfl bX) (by rfl) (by rfl))) (by rfl) (by rfl))) (by rfl) (by rfl)))) (by rfl) (by first | exact .inl rfl | exact .inr rfl | assumption)) (@pss_cons _ _ _ _ _ (@ps_set _ _ 2 _ _ _ _ ai.nd rfl (Or.inl rfl) (@pe_op _ _ _ _ _ _ _ _ (aC (K:=K) rfl) (pv 2) (@ar _ _ _ _ (@pa2 _ _ _ _ _ (@pe_tupPK _ K _ _ _ _ rfl (@pa2 _ _ _ _ _ (@pe_tupPK _ K _ _ _ _ rfl (@pa2 _ _ _ _ _ pe_str pe_int (by rfl) (by rfl))) (@pe_tupPK _ K _ _ _ _ rfl (@pa3 _ _ _ _ _ _ _ pe_str pe_int (@pe_op _ _ _ _ _ _ _ _ bx (@pe_op _ _ _ _ _ _ _ _ cm pe_int (pv 1)) pe_int) (by rfl) (by rfl) (by rfl))) (by rfl) (by rfl))) (@pe_tupPK _ K _ _ _ _ rfl (@pa2 _ _ _ _ _ (@pe_tupPK _ K _ _ _ _ rfl (@pa2 _ _ _ _ _ pe_str pe_int (by rfl) (by rfl))) (@pe_tupPK _ K _ _ _ _ rfl (@pa3 _ _ _ _ _ _ _ pe_str (@pe_un _ _ _ _ _ _ un_neg pe_int) pe_int (by rfl) (by rfl) (by rfl))) (by rfl) (by rfl))) (by rfl) (by rfl)))) (by rfl) (by first | exact .inl rfl | exact .inr rfl | assumption)) (@pss_cons _ _ _ _ _ (@ps_set _ _ 2 _ _ _ _ ai.nd rfl (Or.inl rfl) (@pe_op _ _ _ _ _ _ _ _ (aC (K:=K) rfl) (pv 2) (@ar _ _ _ _ (@pa2 _ _ _ _ _ (@pe_tupPK _ K _ _ _ _ rfl (@pa2 _ _ _ _ _ (@pe_tupPK _ K _ _ _ _ rfl (@pa2 _ _ _ _ _ pe_str pe_int (by rfl) (by rfl))) (@pe_tupPK _ K _ _ _ _ rfl (@pa3 _ _ _ _ _ _ _ pe_str pe_int (@pe_op _ _ _ _ _ _ _ _ bx pe_int (pv 1)) (by rfl) (by rfl) (by rfl))) (by rfl) (by rfl))) (@pe_tupPK _ K _ _ _ _ rfl (@pa2 _ _ _ _ _ (@pe_tupPK _ K _ _ _ _ rfl (@pa2 _ _ _ _ _ pe_str pe_int (by rfl) (by rfl))) (@pe_tupPK _ K _ _ _ _ rfl (@pa3 _ _ _ _ _ _ _ pe_str (@pe_op _ _ _ _ _ _ _ _ op_sub (@pe_un _ _ _ _ _ _ un_neg pe_int) (pv 1)) pe_int (by rfl) (by rfl) (by rfl))) (by rfl) (by rfl))) (by rfl) (by rfl)))) (by rfl) (by first | exact .inl rfl | exact .inr rfl | assumption)) (@pss_cons _ _ _ _ _ (@ps_set _ _ 2 _ _ _ _ ai.nd rfl (Or.inl rfl) (@pe_op _ _ _ _ _ _ _ _ (aC (K:=K) rfl) (pv 2) (@ar _ _ _ _ (@pa2 _ _ _ _ _ (@pe_tupPK _ K _ _ _ _ rfl (@pa2 _ _ _ _ _ (@pe_tupPK _ K _ _ _ _ rfl (@pa3 _ _ _ _ _ _ _ pe_str pe_int pe_int (by rfl) (by rfl) (by rfl))) (@pe_tupPK _ K _ _ _ _ rfl (@pa2 _ _ _ _ _ pe_str pe_int (by rfl) (by rfl))) (by rfl) (by rfl))) (@pe_tupPK _ K _ _ _ _ rfl (@pa2 _ _ _ _ _ (@pe_tupPK _ K _ _ _ _ rfl (@pa3 _ _ _ _ _ _ _ pe_str (@pe_un _ _ _ _ _ _ un_neg pe_int) pe_int (by rfl) (by rfl) (by rfl))) (@pe_tupPK _ K _ _ _ _ rfl (@pa2 _ _ _ _ _ pe_str pe_int (by rfl) (by rfl))) (by rfl) (by rfl))) (by rfl) (by rfl)))) (by rfl) (by first | exact .inl rfl | exact .inr rfl | assumption)) (@pss_cons _ _ _ _ _ (@ps_set _ _ 2 _ _ _ _ ai.nd rfl (Or.inl rfl) (@pe_op _ _ _ _ _ _ _ _ (aC (K:=K) rfl) (pv 2) (@ar _ _ _ _ (@pa2 _ _ _ _ _ (@pe_tupPK _ K _ _ _ _ rfl (@pa2 _ _ _ _ _ (@pe_tupPK _ K _ _ _ _ rfl (@pa2 _ _ _ _ _ pe_str pe_int (by rfl) (by rfl))) (@pe_tupPK _ K _ _ _ _ rfl (@pa3 _ _ _ _ _ _ _ pe_str pe_int (@pe_op _ _ _ _ _ _ _ _ bx (@pe_op _ _ _ _ _ _ _ _ op_pow pe_int pe_int) (pv 1)) (by rfl) (by rfl) (by rfl))) (by rfl) (by rfl))) (@pe_tupPK _ K _ _ _ _ rfl (@pa2 _ _ _ _ _ (@pe_tupPK _ K _ _ _ _ rfl (@pa2 _ _ _ _ _ pe_str pe_int (by rfl) (by rfl))) (@pe_tupPK _ K _ _ _ _ rfl (@pa3 _ _ _ _ _ _ _ pe_str (@pe_un _ _ _ _ _ _ un_neg (@pe_op _ _ _ _ _ _ _ _ op_pow pe_int pe_int)) (pv 1) (by rfl) (by rfl) (by rfl))) (by rfl) (by rfl))) (by rfl) (by rfl)))) (by rfl) (by first | exact .inl rfl | exact .inr rfl | assumption)) (@pss_cons _ _ _ _ _ (@ps_set _ _ 2 _ _ _ _ ai.nd rfl (Or.inl rfl) (@pe_op _ _ _ _ _ _ _ _ (aC (K:=K) rfl) (pv 2) (@ar _ _ _ _ (@pa1 _ _ _ (@pe_tupPK _ K _ _ _ _ rfl (@pa2 _ _ _ _ _ (@pe_tupPK _ K _ _ _ _ rfl (@pa3 _ _ _ _ _ _ _ pe_str (@pe_tupPK _ K _ _ _ _ rfl (@pa1 _ _ _ pe_str (by rfl))) (@pe_tupPK _ K _ _ _ _ rfl (@pa1 _ _ _ (@pe_tupPK _ K _ _ _ _ rfl (@pa2 _ _ _ _ _ pe_str pe_str (by rfl) (by rfl))) (by rfl))) (by rfl) (by rfl) (by rfl))) (@pe_tupPK _ K _ _ _ _ rfl (@pa2 _ _ _ _ _ pe_str (@pe_tupPK _ K _ _ _ _ rfl (@pa2 _ _ _ _ _ pe_str pe_str (by rfl) (by rfl))) (by rfl) (by rfl))) (by rfl) (by rfl))) (by rfl)))) (by rfl) (by first | exact .inl rfl | exact .inr rfl | assumption)) (@pss_cons _ _ _ _ _ (@ps_set _ _ 2 _ _ _ _ ai.nd rfl (Or.inl rfl) (@pe_op _ _ _ _ _ _ _ _ (aC (K:=K) rfl) (pv 2) (@ar _ _ _ _ (@pa1 _ _ _ (@pe_tupPK _ K _ _ _ _ rfl (@pa2 _ _ _ _ _ (@pe_tupPK _ K _ _ _ _ rfl (@pa3 _ _ _ _ _ _ _ pe_str (@pe_tupPK _ K _ _ _ _ rfl (@pa2 _ _ _ _ _ pe_str pe_str (by rfl) (by rfl))) (@pe_tupPK _ K _ _ _ _ rfl (@pa1 _ _ _ (@pe_tupPK _ K _ _ _ _ rfl (@pa2 _ _ _ _ _ pe_str pe_str (by rfl) (by rfl))) (by rfl))) (by rfl) (by rfl) (by rfl))) (@pe_tupPK _ K _ _ _ _ rfl (@pa2 _ _ _ _ _ pe_str (@pe_tupPK _ K _ _ _ _ rfl (@pa2 _ _ _ _ _ pe_str pe_str (by rfl) (by rfl))) (by rfl) (by rfl))) (by rfl) (by rfl))) (by rfl)))) (by rfl) (by first | exact .inl rfl | exact .inr rfl | assumption)) (@pss_cons _ _ _ _ _ (@ps_set _ _ 2 _ _ _ _ ai.nd rfl (Or.inl rfl) (@pe_op _ _ _ _ _ _ _ _ (aC (K:=K) rfl) (pv 2) (@ar _ _ _ _ (@pa1 _ _ _ (@pe_tupPK _ K _ _ _ _ rfl (@pa2 _ _ _ _ _ (@pe_tupPK _ K _ _ _ _ rfl (@pa3 _ _ _ _ _ _ _ pe_str (@pe_tupPK _ K _ _ _ _ rfl (@pa2 _ _ _ _ _ pe_str pe_str (by rfl) (by rfl))) (@pe_tupPK _ K _ _ _ _ rfl (@pa1 _ _ _ (@pe_tupPK _ K _ _ _ _ rfl (@pa2 _ _ _ _ _ pe_str pe_str (by rfl) (by rfl))) (by rfl))) (by rfl) (by rfl) (by rfl))) (@pe_tupPK _ K _ _ _ _ rfl (@pa2 _ _ _ _ _ pe_str (@pe_tupPK _ K _ _ _ _ rfl (@pa2 _ _ _ _ _ pe_str pe_str (by rfl) (by rfl))) (by rfl) (by rfl))) (by rfl) (by rfl))) (by rfl)))) (by rfl) (by first | exact .inl rfl | exact .inr rfl | assumption)) (@pss_cons _ _ _ _ _ (@ps_set _ _ 2 _ _ _ _ ai.nd rfl (Or.inl rfl) (@pe_op _ _ _ _ _ _ _ _ (aC (K:=K) rfl) (pv 2) (@ar _ _ _ _ (@pa1 _ _ _ (@pe_tupPK _ K _ _ _ _ rfl (@pa2 _ _ _ _ _ (@pe_tupPK _ K _ _ _ _ rfl (@pa3 _ _ _ _ _ _ _ pe_str (@pe_tupPK _ K _ _ _ _ rfl (@pa2 _ _ _ _ _ pe_str pe_str (by rfl) (by rfl))) (@pe_tupPK _ K _ _ _ _ rfl (@pa2 _ _ _ _ _ (@pe_tupPK _ K _ _ _ _ rfl (@pa2 _ _ _ _ _ pe_str pe_str (by rfl) (by rfl))) (@pe_tupPK _ K _ _ _ _ rfl (@pa2 _ _ _ _ _ pe_str pe_str (by rfl) (by rfl))) (by rfl) (by rfl))) (by rfl) (by rfl) (by rfl))) (@pe_tupPK _ K _ _ _ _ rfl (@pa2 _ _ _ _ _ pe_str (@pe_tupPK _ K _ _ _ _ rfl (@pa2 _ _ _ _ _ pe_str pe_str (by rfl) (by rfl))) (by rfl) (by rfl))) (by rfl) (by rfl))) (by rfl)))) (by rfl) (by first | exact .inl rfl | exact .inr rfl | assumption)) (@pss_cons _ _ _ _ _ (@ps_set _ _ 2 _ _ _ _ ai.nd rfl (Or.inl rfl) (@pe_op _ _ _ _ _ _ _ _ (aC (K:=K) rfl) (pv 2) (@ar _ _ _ _ (@pa1 _ _ _ (@pe_tupPK _ K _ _ _ _ rfl (@pa2 _ _ _ _ _ (@pe_tupPK _ K _ _ _ _ rfl (@pa3 _ _ _ _ _ _ _ pe_str (@pe_tupPK _ K _ _ _ _ rfl (@pa2 _ _ _ _ _ pe_str pe_str (by rfl) (by rfl))) (@pe_tupPK _ K _ _ _ _ rfl (@pa2 _ _ _ _ _ (@pe_tupPK _ K _ _ _ _ rfl (@pa2 _ _ _ _ _ pe_str pe_str (by rfl) (by rfl))) (@pe_tupPK _ K _ _ _ _ rfl (@pa2 _ _ _ _ _ pe_str pe_str (by rfl) (by rfl))) (by rfl) (by rfl))) (by rfl) (by rfl) (by rfl))) (@pe_tupPK _ K _ _ _ _ rfl (@pa2 _ _ _ _ _ pe_str (@pe_tupPK _ K _ _ _ _ rfl (@pa2 _ _ _ _ _ pe_str pe_str (by rfl) (by rfl))) (by rfl) (by rfl))) (by rfl) (by rfl))) (by rfl)))) (by rfl) (by first | exact .inl rfl | exact .inr rfl | assumption)) (@pss_cons _ _ _ _ _ (@ps_set _ _ 2 _ _ _ _ ai.nd rfl (Or.inl rfl) (@pe_op _ _ _ _ _ _ _ _ (aC (K:=K) rfl) (pv 2) (@ar _ _ _ _ (@pa1 _ _ _ (@pe_tupPK _ K _ _ _ _ rfl (@pa2 _ _ _ _ _ (@pe_tupPK _ K _ _ _ _ rfl (@pa3 _ _ _ _ _ _ _ pe_str (@pe_tupPK _ K _ _ _ _ rfl (@pa2 _ _ _ _ _ pe_str pe_str (by rfl) (by rfl))) (@pe_tupPK _ K _ _ _ _ rfl (@pa2 _ _ _ _ _ (@pe_tupPK _ K _ _ _ _ rfl (@pa2 _ _ _ _ _ pe_str pe_str (by rfl) (by rfl))) (@pe_tupPK _ K _ _ _ _ rfl (@pa2 _ _ _ _ _ pe_str pe_str (by rfl) (by rfl))) (by rfl) (by rfl))) (by rfl) (by rfl) (by rfl))) (@pe_tupPK _ K _ _ _ _ rfl (@pa2 _ _ _ _ _ pe_str (@pe_tupPK _ K _ _ _ _ rfl (@pa2 _ _ _ _ _ pe_str pe_str (by rfl) (by rfl))) (by rfl) (by rfl))) (by rfl) (by rfl))) (by rfl)))) (by rfl) (by first | exact .inl rfl | exact .inr rfl | assumption)) (@pss_one _ _ _ (@ps_ret _ _ _ _ (@cD _ _ _ _ _ _ _ (aY (K:=K) rfl) (pv 2) (pcl uE uG (hr.mono (by lia)) rfl (@pa2 _ _ _ _ _ (pv 0) (pe_callB (bc (K:=K) rfl) rfl T.z_len PySem.boot_len (@pa1 _ _ _ (pv 2) (by rfl))) (by rfl) (by rfl))) (fun _ _=>rfl)))))))))))))))))),?_⟩;obtain ⟨f,ef,hf⟩:∃ f:Nat,c % 9=f∧f≤8:=⟨(c % 9).toNat,by lia,by lia⟩;refine ⟨_,rfl,r,c,9,rfl,hr0,by decide,by decide,?_⟩;rw [ef];have bb:But r H (upd H r (.lst [.int (c / 9)])):=But.put;have rb:(upd H r (.lst [.int (c / 9)])) r=some (.lst [.int (c / 9)]):=ac
 generalize upd H r (.lst [.int (c / 9)])=Hb at bb rb ⊢
 generalize c / 9=cb at rb
 refine sC ?_;dsimp only [];refine mE (K:=K) (ds:=fH f) ?_ (by show 3≤1000;decide) fun p0 x0 H0 g0 n0 e0 i0=>?_
 ·unfold fH
  (repeat' first | with_reducible refine aw ?_ ?_ | with_reducible exact aB | with_reducible exact aG | with_reducible exact aF | refine aJ ?_ | exact aH rfl | refine aI ?_ | refine ak (g:=fun i j=>i+j) ?_ ?_ | refine ak (g:=fun i j=>i - j) ?_ ?_ | refine aq (g:=fun i j=>i*j) (.inr ⟨by lia,by lia⟩) ?_ ?_ | refine aq (g:=fun i j=>i ^ j.toNat) ⟨by decide,by decide,by decide⟩ ?_ ?_)
 refine aR (K:=K) (ds:=fI f) rfl e0 i0 ?_ (by show 3+3≤1000;decide) fun p1 x1 H1 g1 n1 e1 i1=>?_
 ·unfold fI
  (repeat' first | with_reducible refine aw ?_ ?_ | with_reducible exact aB | with_reducible exact aG | with_reducible exact aF | refine aJ ?_ | exact aH rfl | refine aI ?_ | refine ak (g:=fun i j=>i+j) ?_ ?_ | refine ak (g:=fun i j=>i - j) ?_ ?_ | refine aq (g:=fun i j=>i*j) (.inr ⟨by lia,by lia⟩) ?_ ?_ | refine aq (g:=fun i j=>i ^ j.toNat) ⟨by decide,by decide,by decide⟩ ?_ ?_)
 refine aR (K:=K) (ds:=fJ f) rfl e1 i1 ?_ (by show 6+2≤1000;decide) fun p2 x2 H2 g2 n2 e2 i2=>?_
 ·unfold fJ
  (repeat' first | with_reducible refine aw ?_ ?_ | with_reducible exact aB | with_reducible exact aG | with_reducible exact aF | refine aJ ?_ | exact aH rfl | refine aI ?_ | refine ak (g:=fun i j=>i+j) ?_ ?_ | refine ak (g:=fun i j=>i - j) ?_ ?_ | refine aq (g:=fun i j=>i*j) (.inr ⟨by lia,by lia⟩) ?_ ?_ | refine aq (g:=fun i j=>i ^ j.toNat) ⟨by decide,by decide,by decide⟩ ?_ ?_)
 refine aR (K:=K) (ds:=fK f) rfl e2 i2 ?_ (by show 8+2≤1000;decide) fun p3 x3 H3 g3 n3 e3 i3=>?_
 ·unfold fK
  (repeat' first | with_reducible refine aw ?_ ?_ | with_reducible exact aB | with_reducible exact aG | with_reducible exact aF | refine aJ ?_ | exact aH rfl | refine aI ?_ | refine ak (g:=fun i j=>i+j) ?_ ?_ | refine ak (g:=fun i j=>i - j) ?_ ?_ | refine aq (g:=fun i j=>i*j) (.inr ⟨by lia,by lia⟩) ?_ ?_ | refine aq (g:=fun i j=>i ^ j.toNat) ⟨by decide,by decide,by decide⟩ ?_ ?_)
 refine aR (K:=K) (ds:=fM f) rfl e3 i3 ?_ (by show 10+2≤1000;decide) fun p4 x4 H4 g4 n4 e4 i4=>?_
 ·unfold fM
  (repeat' first | with_reducible refine aw ?_ ?_ | with_reducible exact aB | with_reducible exact aG | with_reducible exact aF | refine aJ ?_ | exact aH rfl | refine aI ?_ | refine ak (g:=fun i j=>i+j) ?_ ?_ | refine ak (g:=fun i j=>i - j) ?_ ?_ | refine aq (g:=fun i j=>i*j) (.inr ⟨by lia,by lia⟩) ?_ ?_ | refine aq (g:=fun i j=>i ^ j.toNat) ⟨by decide,by decide,by decide⟩ ?_ ?_)
 refine aR (K:=K) (ds:=fN f) rfl e4 i4 ?_ (by show 12+2≤1000;decide) fun p5 x5 H5 g5 n5 e5 i5=>?_
 ·unfold fN
  (repeat' first | with_reducible refine aw ?_ ?_ | with_reducible exact aB | with_reducible exact aG | with_reducible exact aF | refine aJ ?_ | exact aH rfl | refine aI ?_ | refine ak (g:=fun i j=>i+j) ?_ ?_ | refine ak (g:=fun i j=>i - j) ?_ ?_ | refine aq (g:=fun i j=>i*j) (.inr ⟨by lia,by lia⟩) ?_ ?_ | refine aq (g:=fun i j=>i ^ j.toNat) ⟨by decide,by decide,by decide⟩ ?_ ?_)
 refine aR (K:=K) (ds:=fO f) rfl e5 i5 ?_ (by show 14+2≤1000;decide) fun p6 x6 H6 g6 n6 e6 i6=>?_
 ·unfold fO
  (repeat' first | with_reducible refine aw ?_ ?_ | with_reducible exact aB | with_reducible exact aG | with_reducible exact aF | refine aJ ?_ | exact aH rfl | refine aI ?_ | refine ak (g:=fun i j=>i+j) ?_ ?_ | refine ak (g:=fun i j=>i - j) ?_ ?_ | refine aq (g:=fun i j=>i*j) (.inr ⟨by lia,by lia⟩) ?_ ?_ | refine aq (g:=fun i j=>i ^ j.toNat) ⟨by decide,by decide,by decide⟩ ?_ ?_)
 refine aR (K:=K) (ds:=fP f) rfl e6 i6 ?_ (by show 16+1≤1000;decide) fun p7 x7 H7 g7 n7 e7 i7=>?_
 ·unfold fP
  (repeat' first | with_reducible refine aw ?_ ?_ | with_reducible exact aB | with_reducible exact aG | with_reducible exact aF | refine aJ ?_ | exact aH rfl | refine aI ?_ | refine ak (g:=fun i j=>i+j) ?_ ?_ | refine ak (g:=fun i j=>i - j) ?_ ?_ | refine aq (g:=fun i j=>i*j) (.inr ⟨by lia,by lia⟩) ?_ ?_ | refine aq (g:=fun i j=>i ^ j.toNat) ⟨by decide,by decide,by decide⟩ ?_ ?_)
 refine aR (K:=K) (ds:=fQ f) rfl e7 i7 ?_ (by show 17+1≤1000;decide) fun p8 x8 H8 g8 n8 e8 i8=>?_
 ·unfold fQ
  (repeat' first | with_reducible refine aw ?_ ?_ | with_reducible exact aB | with_reducible exact aG | with_reducible exact aF | refine aJ ?_ | exact aH rfl | refine aI ?_ | refine ak (g:=fun i j=>i+j) ?_ ?_ | refine ak (g:=fun i j=>i - j) ?_ ?_ | refine aq (g:=fun i j=>i*j) (.inr ⟨by lia,by lia⟩) ?_ ?_ | refine aq (g:=fun i j=>i ^ j.toNat) ⟨by decide,by decide,by decide⟩ ?_ ?_)
 refine aR (K:=K) (ds:=fR f) rfl e8 i8 ?_ (by show 18+1≤1000;decide) fun p9 x9 H9 g9 n9 e9 i9=>?_
 ·unfold fR
  (repeat' first | with_reducible refine aw ?_ ?_ | with_reducible exact aB | with_reducible exact aG | with_reducible exact aF | refine aJ ?_ | exact aH rfl | refine aI ?_ | refine ak (g:=fun i j=>i+j) ?_ ?_ | refine ak (g:=fun i j=>i - j) ?_ ?_ | refine aq (g:=fun i j=>i*j) (.inr ⟨by lia,by lia⟩) ?_ ?_ | refine aq (g:=fun i j=>i ^ j.toNat) ⟨by decide,by decide,by decide⟩ ?_ ?_)
 refine aR (K:=K) (ds:=d9 f) rfl e9 i9 ?_ (by show 19+1≤1000;decide) fun p10 x10 H10 g10 n10 e10 i10=>?_
 ·unfold d9
  (repeat' first | with_reducible refine aw ?_ ?_ | with_reducible exact aB | with_reducible exact aG | with_reducible exact aF | refine aJ ?_ | exact aH rfl | refine aI ?_ | refine ak (g:=fun i j=>i+j) ?_ ?_ | refine ak (g:=fun i j=>i - j) ?_ ?_ | refine aq (g:=fun i j=>i*j) (.inr ⟨by lia,by lia⟩) ?_ ?_ | refine aq (g:=fun i j=>i ^ j.toNat) ⟨by decide,by decide,by decide⟩ ?_ ?_)
 refine aR (K:=K) (ds:=ee f) rfl e10 i10 ?_ (by show 20+1≤1000;decide) fun p11 x11 H11 g11 n11 e11 i11=>?_
 ·unfold ee
  (repeat' first | with_reducible refine aw ?_ ?_ | with_reducible exact aB | with_reducible exact aG | with_reducible exact aF | refine aJ ?_ | exact aH rfl | refine aI ?_ | refine ak (g:=fun i j=>i+j) ?_ ?_ | refine ak (g:=fun i j=>i - j) ?_ ?_ | refine aq (g:=fun i j=>i*j) (.inr ⟨by lia,by lia⟩) ?_ ?_ | refine aq (g:=fun i j=>i ^ j.toNat) ⟨by decide,by decide,by decide⟩ ?_ ?_)
 refine aR (K:=K) (ds:=eg f) rfl e11 i11 ?_ (by show 21+1≤1000;decide) fun p12 x12 H12 g12 n12 e12 i12=>?_
 ·unfold eg
  (repeat' first | with_reducible refine aw ?_ ?_ | with_reducible exact aB | with_reducible exact aG | with_reducible exact aF | refine aJ ?_ | exact aH rfl | refine aI ?_ | refine ak (g:=fun i j=>i+j) ?_ ?_ | refine ak (g:=fun i j=>i - j) ?_ ?_ | refine aq (g:=fun i j=>i*j) (.inr ⟨by lia,by lia⟩) ?_ ?_ | refine aq (g:=fun i j=>i ^ j.toNat) ⟨by decide,by decide,by decide⟩ ?_ ?_)
 have G:=((((((((((((g0.trans g1).trans g2).trans g3).trans g4).trans g5).trans g6).trans g7).trans g8).trans g9).trans g10).trans g11).trans g12);have rL:=G _ _ rb;have len:x12.length=22:=by rw [← i12.length];rfl
 have npr:p12≠r:=fun c=>by rw [c,rL] at e12;simp at e12;rw [← e12] at len;cases len
 refine ⟨_,rfl,_,rfl,_,rfl,p12,x12,rfl,.inl (SqL.of e12),r,cb,(x12.length:Int),rfl,rL,by lia,by lia,?_⟩;obtain ⟨j,ej,hj⟩:∃ j:Nat,cb % (x12.length:Int)=j∧j < x12.length:=by
  have h1:=Int.emod_nonneg cb (by lia:(x12.length:Int)≠0);have h2:=Int.emod_lt_of_pos cb (by lia:(0:Int) < (x12.length:Int));exact ⟨(cb % (x12.length:Int)).toNat,by lia,by lia⟩
 rw [ej];have b2:But r H12 (upd H12 r (.lst [.int (cb / (x12.length:Int))])):=But.put;obtain ⟨u,hu⟩:∃ u,x12[j]?=some u:=⟨_,List.getElem?_eq_getElem hj⟩;obtain ⟨du,hdu,hiu⟩:=(i12.but rL b2).get' hu;refine ⟨p12,x12,_,u,rfl,rfl,SqL.of (b2 _ _ npr e12),dO hu,?_⟩;exact q u f du _ _ ((bb.trans (But.same G)).trans b2) ac hiu hf (List.mem_of_getElem? hdu)
theorem ok3 {u:Str} {k:Dt} {i:Int} (hu:okD (.str u)=true) (h:okD k=true):okD (.tup [.str u,k,.int i])=true:=by
 show (okD (.str u) && (okD k && (true && true)))=true;rw [hu,h]
 rfl
theorem ok4 {u z:Str} {k:Dt} {i:Int} (hu:okD (.str u)=true) (hz:okD (.str z)=true) (h:okD k=true):okD (.tup [.str u,.str z,k,.int i])=true:=by
 show (okD (.str u) && (okD (.str z) && (okD k && (true && true))))=true;rw [hu,hz,h]
 rfl
theorem jC {k:Dt} {i:Int} (h:aN (.int i) 0 8=false):am 5 (.tup [.str "list",k,.int i])=false:=by
 show (am 4 k && aN (.int i) 0 8)=false;rw [h,Bool.and_false]
theorem mF {z:Str} {k:Dt} {i:Int} (h:aN (.int i) 0 8=false):am 5 (.tup [.str "rows",.str z,k,.int i])=false:=by
 show (cN (am 4) (.str z) k && aN (.int i) 0 8)=false;rw [h,Bool.and_false]
theorem pj {i j:Int} (h:bI (.int i) (.int j)=false):am 5 (d7 i j)=false:=by
 have e:am 5 (d7 i j)=bI (.int i) (.int j):=by simp [am]
 rw [e];exact h
theorem qD {i j:Int} (h1:ci i) (h2:ci j):d4 i j≤61:=by
 have a:=jq h1;have b:=jq h2;unfold d4
 split <;> lia
theorem qX {l:List Dt} {z:Str} {a c:Nat} (kl:tP l z) (g:FK a c (.tup [.str "record",.tup l])):okD (.str z)=true:=by
 obtain ⟨w,r,hm,_⟩:=kl;have h1:=aO (aO (aO (iz g) (.tup l) (by simp)) _ hm) (.str z) (by simp);exact h1
theorem pp:∀ t∈formsL,∀ {a c:Nat} {d:Dt},a≤4→FK a c d→Bad t d:=by
 intro t ht a c d ha fk;simp only [formsL,fB,fC,fD,fE,fF,fG,List.cons_append,List.nil_append,List.append_assoc,List.mem_cons,List.not_mem_nil,or_false] at ht;rcases ht with rfl | rfl | rfl | rfl | rfl | rfl | rfl | rfl | rfl | rfl | rfl | rfl | rfl | rfl | rfl | rfl | rfl | rfl | rfl | rfl | rfl | rfl | rfl | rfl | rfl | rfl | rfl | rfl | rfl | rfl | rfl | rfl | rfl
 ·-- ()
  refine ⟨by decide +kernel,⟨a,c,ha,fk⟩,?_⟩;exact .inl (.parts _ _ (by decide +kernel))
 ·-- ('bound',0,1)
  refine ⟨by decide +kernel,⟨a,c,ha,fk⟩,?_⟩;exact .inl (.parts _ _ (by decide +kernel))
 ·-- ('bounds',0)
  refine ⟨by decide +kernel,⟨a,c,ha,fk⟩,?_⟩;exact .inl (.parts _ _ (by decide +kernel))
 ·-- ('bounds',0,1,2)
  refine ⟨by decide +kernel,⟨a,c,ha,fk⟩,?_⟩;exact .inl (.parts _ _ (by decide +kernel))
 ·-- ('bounds','0',1)
  refine ⟨by decide +kernel,⟨a,c,ha,fk⟩,?_⟩
  cases fk with
  | number i j b1 b2 b3 =>
   exact .inr ⟨.bounds _ _ i j,_,.bounds _ _ i j,by decide +kernel,by decide +kernel⟩
  | _=>exact .inl (.sort "bounds" _ _ _ ["number"] (by simp [aE]) (by decide) (by decide +kernel))
 ·-- ('bounds',3,2)
  refine ⟨by decide +kernel,⟨a,c,ha,fk⟩,?_⟩
  cases fk with
  | number i j b1 b2 b3 =>
   exact .inr ⟨.bounds _ _ i j,_,.bounds _ _ i j,by decide +kernel,by decide +kernel⟩
  | _=>exact .inl (.sort "bounds" _ _ _ ["number"] (by simp [aE]) (by decide) (by decide +kernel))
 ·-- ('scale',)
  refine ⟨by decide +kernel,⟨a,c,ha,fk⟩,?_⟩;exact .inl (.parts _ _ (by decide +kernel))
 ·-- ('scale',1)
  refine ⟨by decide +kernel,⟨a,c,ha,fk⟩,?_⟩
  cases fk with
  | number i j b1 b2 b3 =>
   exact .inl (.scale _ i j rfl)
  | _=>exact .inl (.sort "scale" _ _ _ ["number"] (by simp [aE]) (by decide) (by decide +kernel))
 ·-- ('scale',1001)
  refine ⟨by decide +kernel,⟨a,c,ha,fk⟩,?_⟩
  cases fk with
  | number i j b1 b2 b3 =>
   exact .inl (.scale _ i j rfl)
  | _=>exact .inl (.sort "scale" _ _ _ ["number"] (by simp [aE]) (by decide) (by decide +kernel))
 ·-- ('scale',-2)
  refine ⟨by decide +kernel,⟨a,c,ha,fk⟩,?_⟩
  cases fk with
  | number i j b1 b2 b3 =>
   exact .inl (.scale _ i j rfl)
  | _=>exact .inl (.sort "scale" _ _ _ ["number"] (by simp [aE]) (by decide) (by decide +kernel))
 ·-- ('scale','2')
  refine ⟨by decide +kernel,⟨a,c,ha,fk⟩,?_⟩
  cases fk with
  | number i j b1 b2 b3 =>
   exact .inl (.scale _ i j rfl)
  | _=>exact .inl (.sort "scale" _ _ _ ["number"] (by simp [aE]) (by decide) (by decide +kernel))
 ·-- ('shrink',0)
  refine ⟨by decide +kernel,⟨a,c,ha,fk⟩,?_⟩
  cases fk with
  | number i j b1 b2 b3 =>
   exact .inl (.shrink0 _ i j rfl rfl)
  | _=>exact .inl (.sort "shrink" _ _ _ ["number"] (by simp [aE]) (by decide) (by decide +kernel))
 ·-- ('figures','3')
  refine ⟨by decide +kernel,⟨a,c,ha,fk⟩,?_⟩
  cases fk with
  | number i j b1 b2 b3 =>
   exact .inl (.figures0 _ i j (by decide))
  | _=>exact .inl (.sort "figures" _ _ _ ["number"] (by simp [aE]) (by decide) (by decide +kernel))
 ·-- ('figures',61)
  refine ⟨by decide +kernel,⟨a,c,ha,fk⟩,?_⟩
  cases fk with
  | number i j b1 b2 b3 =>
   have h1:ci i:=⟨b1,by lia⟩;have h2:ci j:=⟨by lia,b3⟩;have tt:=TT.figures 61 i j h1 h2;rw [decide_eq_true (qD h1 h2)] at tt;exact .inr ⟨tt,_,.figures _ i j,by decide +kernel,by decide +kernel⟩
  | _=>exact .inl (.sort "figures" _ _ _ ["number"] (by simp [aE]) (by decide) (by decide +kernel))
 ·-- ('cut',-1)
  refine ⟨by decide +kernel,⟨a,c,ha,fk⟩,?_⟩
  cases fk with
  | text m b1 b2 =>
   exact .inr ⟨.cut _ m,_,.cut _ m,by decide +kernel,by decide +kernel⟩
  | _=>exact .inl (.sort "cut" _ _ _ ["text"] (by simp [aE]) (by decide) (by decide +kernel))
 ·-- ('cut',61)
  refine ⟨by decide +kernel,⟨a,c,ha,fk⟩,?_⟩
  cases fk with
  | text m b1 b2 =>
   exact .inr ⟨.cut _ m,_,.cut _ m,by decide +kernel,by decide +kernel⟩
  | _=>exact .inl (.sort "cut" _ _ _ ["text"] (by simp [aE]) (by decide) (by decide +kernel))
 ·-- ('cut',)
  refine ⟨by decide +kernel,⟨a,c,ha,fk⟩,?_⟩;exact .inl (.parts _ _ (by decide +kernel))
 ·-- ('first',9)
  refine ⟨by decide +kernel,⟨a,c,ha,fk⟩,?_⟩
  cases fk with
  | @list a c k m g b1 b2 =>
   exact .inr ⟨.firstL _ k m,_,.firstL _ k m,ok3 rfl (iz g),jC rfl⟩
  | @rows a c z l m g kl b1 b2 =>
   exact .inr ⟨.firstR _ z _ m,_,.firstR _ z _ m,ok4 rfl (qX kl g) (iz g),mF rfl⟩
  | _=>exact .inl (.sort "first" _ _ _ ["list","rows"] (by simp [aE]) (by decide) (by decide +kernel))
 ·-- ('first',-1)
  refine ⟨by decide +kernel,⟨a,c,ha,fk⟩,?_⟩
  cases fk with
  | @list a c k m g b1 b2 =>
   exact .inr ⟨.firstL _ k m,_,.firstL _ k m,ok3 rfl (iz g),jC rfl⟩
  | @rows a c z l m g kl b1 b2 =>
   exact .inr ⟨.firstR _ z _ m,_,.firstR _ z _ m,ok4 rfl (qX kl g) (iz g),mF rfl⟩
  | _=>exact .inl (.sort "first" _ _ _ ["list","rows"] (by simp [aE]) (by decide) (by decide +kernel))
 ·-- ('one',0)
  refine ⟨by decide +kernel,⟨a,c,ha,fk⟩,?_⟩;exact .inl (.one 0 d)
 ·-- ('one',9)
  refine ⟨by decide +kernel,⟨a,c,ha,fk⟩,?_⟩;exact .inr ⟨.one 9 d,_,.one _ d,ok3 rfl (iz fk),jC rfl⟩
 ·-- ('one',)
  refine ⟨by decide +kernel,⟨a,c,ha,fk⟩,?_⟩;exact .inl (.parts _ _ (by decide +kernel))
 ·-- ('out',1)
  refine ⟨by decide +kernel,⟨a,c,ha,fk⟩,?_⟩;exact .inl (.parts _ _ (by decide +kernel))
 ·-- ('items','out')
  refine ⟨by decide +kernel,⟨a,c,ha,fk⟩,?_⟩
  cases fk with
  | @list a c k m g b1 b2 =>
   exact .inl (.items m rfl (.parts _ _ (by decide +kernel)))
  | _=>exact .inl (.sort "items" _ _ _ ["list"] (by simp [aE]) (by decide) (by decide +kernel))
 ·-- ('items',)
  refine ⟨by decide +kernel,⟨a,c,ha,fk⟩,?_⟩;exact .inl (.parts _ _ (by decide +kernel))
 ·-- ('words',('x',))
  refine ⟨by decide +kernel,⟨a,c,ha,fk⟩,?_⟩;exact .inl (.parts _ _ (by decide +kernel))
 ·-- ('words',(1,),(('x','b'),))
  refine ⟨by decide +kernel,⟨a,c,ha,fk⟩,?_⟩
  cases fk with
  | choice ws hw hl =>
   exact .inl (.words _ _ ws hw (.len _ _ ws (fun c=>hl c.symm)))
  | _=>exact .inl (.sort "words" _ _ _ ["choice"] (by simp [aE]) (by decide) (by decide +kernel))
 ·-- ('words',('x',),('x',))
  refine ⟨by decide +kernel,⟨a,c,ha,fk⟩,?_⟩
  cases fk with
  | choice ws hw hl =>
   exact .inl (.words _ _ ws hw (.len _ _ ws (fun c=>hl c.symm)))
  | _=>exact .inl (.sort "words" _ _ _ ["choice"] (by simp [aE]) (by decide) (by decide +kernel))
 ·-- (('out',),)
  refine ⟨by decide +kernel,⟨a,c,ha,fk⟩,?_⟩;exact .inl (.parts _ _ (by decide +kernel))
 ·-- ('number',0)
  refine ⟨by decide +kernel,⟨a,c,ha,fk⟩,?_⟩;exact .inl (.parts _ _ (by decide +kernel))
 ·-- ('number',5,4)
  refine ⟨by decide +kernel,⟨a,c,ha,fk⟩,?_⟩
  cases fk with
  | text m b1 b2 =>
   exact .inl (.number0 _ _ m rfl rfl (by decide +kernel))
  | _=>exact .inl (.sort "number" _ _ _ ["text"] (by simp [aE]) (by decide) (by decide +kernel))
 ·-- (7,)
  refine ⟨by decide +kernel,⟨a,c,ha,fk⟩,?_⟩;exact .inl (.parts _ _ (by decide +kernel))
 ·-- ('items',())
  refine ⟨by decide +kernel,⟨a,c,ha,fk⟩,?_⟩
  cases fk with
  | @list a c k m g b1 b2 =>
   exact .inl (.items m rfl (.parts _ _ (by decide +kernel)))
  | _=>exact .inl (.sort "items" _ _ _ ["list"] (by simp [aE]) (by decide) (by decide +kernel))
theorem dE {i j:Int} (h1:-1000000000000000000000000000000≤i) (h2:i≤j) (h3:j≤1000000000000000000000000000000):∃ a c,a≤4∧FK a c (d7 i j):=⟨1,1,by decide,.number i j h1 h2 h3⟩
theorem gw {i:Int} (h1:0≤i) (h2:i≤60):∃ a c,a≤4∧FK a c (.tup [.str "text",.int i]):=⟨1,1,by decide,.text i h1 h2⟩
theorem gx:∃ a c,a≤4∧FK a c (.tup [.str "choice",.tup [.str "a",.str "b"]]):=⟨1,1,by decide,.choice ["a","b"] (by decide +kernel) (by decide)⟩
theorem p29:(10:Int) ^ (29:Int).toNat=100000000000000000000000000000:=by decide +kernel
theorem p28:(10:Int) ^ (28:Int).toNat=10000000000000000000000000000:=by decide +kernel
theorem ux:∀ f:Fin 9,decide (d4 0 (100+(f.val:Int))≤2)=false:=by decide +kernel
theorem uy:∀ f:Fin 9,decide (d4 (-1 - (f.val:Int)) 3≤1)=false:=by decide +kernel
def PB (p:Dt):Prop:=∃ t d,p=.tup [t,d]∧Bad t d
theorem pq (f:Nat) (hf:f≤8):∀ p∈pairsL f,PB p:=by
 intro p hp;simp only [pairsL,fH,fI,fJ,fK,fM,fN,fO,fP,fQ,fR,d9,ee,eg,List.cons_append,List.nil_append,List.append_assoc,List.mem_cons,List.not_mem_nil,or_false] at hp;rcases hp with rfl | rfl | rfl | rfl | rfl | rfl | rfl | rfl | rfl | rfl | rfl | rfl | rfl | rfl | rfl | rfl | rfl | rfl | rfl | rfl | rfl | rfl
 ·-- (('bounds',0,9),('text',3))
  refine ⟨_,_,rfl,by decide +kernel,gw (by decide) (by decide),?_⟩;exact .inl (.sort "bounds" _ _ _ ["number"] (by simp [aE]) (by decide) (by decide +kernel))
 ·-- (('cut',2),('number',0,9))
  refine ⟨_,_,rfl,by decide +kernel,dE (by lia) (by lia) (by lia),?_⟩;exact .inl (.sort "cut" _ _ _ ["text"] (by simp [aE]) (by decide) (by decide +kernel))
 ·-- (('scale',2),('choice',('a','b')))
  refine ⟨_,_,rfl,by decide +kernel,gx,?_⟩;exact .inl (.sort "scale" _ _ _ ["number"] (by simp [aE]) (by decide) (by decide +kernel))
 ·-- (('first',1),('text',3))
  refine ⟨_,_,rfl,by decide +kernel,gw (by decide) (by decide),?_⟩;exact .inl (.sort "first" _ _ _ ["list","rows"] (by simp [aE]) (by decide) (by decide +kernel))
 ·-- (('out',),('list',('text',3),0))
  refine ⟨_,_,rfl,by decide +kernel,⟨_,_,by decide,FK.list (FK.text 3 (by decide) (by decide)) (by decide) (by decide)⟩,?_⟩;exact .inl (.out _ 0)
 ·-- (('out',),('text',1))
  refine ⟨_,_,rfl,by decide +kernel,gw (by decide) (by decide),?_⟩;exact .inl (.sort "out" _ _ _ ["list"] (by simp [aE]) (by decide) (by decide +kernel))
 ·-- (('items',('cut',1)),('list',('number',0,9),2))
  refine ⟨_,_,rfl,by decide +kernel,⟨_,_,by decide,FK.list (FK.number 0 9 (by decide) (by decide) (by decide)) (by decide) (by decide)⟩,?_⟩;exact .inl (.items 2 rfl (.sort "cut" _ _ _ ["text"] (by simp [aE]) (by decide) (by decide +kernel)))
 ·-- (('items',('out',)),('record',()))
  refine ⟨_,_,rfl,by decide +kernel,⟨_,_,by decide,FK.rcd (gs:=[]) (fun g h=>by cases h) (by decide) (fun g h=>by cases h) (by decide)⟩,?_⟩;exact .inl (.sort "items" _ _ _ ["list"] (by simp [aE]) (by decide) (by decide +kernel))
 ·-- (('shrink',7),('number',0,7*far+1))
  refine ⟨_,_,rfl,by decide +kernel,dE (by lia) (by lia) (by lia),?_⟩;exact .inl (.shrink2 7 0 _ (by decide) (by decide) (by decide) (by lia))
 ·-- (('shrink',2),('number',-3,4))
  refine ⟨_,_,rfl,by decide +kernel,dE (by lia) (by lia) (by lia),?_⟩;exact .inl (.shrink1 2 (-3) 4 (by decide) (by decide) (by decide))
 ·-- (('figures',2),('number',0,100+far))
  refine ⟨_,_,rfl,by decide +kernel,dE (by lia) (by lia) (by lia),?_⟩;have tt:=TT.figures 2 0 (100+(f:Int)) ⟨by lia,by lia⟩ ⟨by lia,by lia⟩;rw [ux ⟨f,by lia⟩] at tt;exact .inl tt
 ·-- (('figures',1),('number',-1 - far,3))
  refine ⟨_,_,rfl,by decide +kernel,dE (by lia) (by lia) (by lia),?_⟩;have tt:=TT.figures 1 (-1 - (f:Int)) 3 ⟨by lia,by lia⟩ ⟨by lia,by lia⟩;rw [uy ⟨f,by lia⟩] at tt;exact .inl tt
 ·-- (('number',0,100),('text',2))
  refine ⟨_,_,rfl,by decide +kernel,gw (by decide) (by decide),?_⟩;have tt:=TT.number 0 100 2 ⟨by decide,by decide⟩ (by decide) ⟨by decide,by decide⟩;rw [show decide (d4 0 100≤2)=false from by decide +kernel] at tt;exact .inl tt
 ·-- (('number',-1,3),('text',1))
  refine ⟨_,_,rfl,by decide +kernel,gw (by decide) (by decide),?_⟩;have tt:=TT.number (-1) 3 1 ⟨by decide,by decide⟩ (by decide) ⟨by decide,by decide⟩;rw [show decide (d4 (-1) 3≤1)=false from by decide +kernel] at tt;exact .inl tt
 ·-- (('scale',11),('number',0,10 ** 29+far))
  simp only [p29,p28];refine ⟨_,_,rfl,by decide +kernel,dE (by lia) (by lia) (by lia),?_⟩;have tt:=TT.scale (.int 11) 0 (100000000000000000000000000000+(f:Int)) rfl;refine .inr ⟨tt,_,.scale _ _ 11 (by decide) (by decide),rfl,?_⟩;refine pj ?_;simp only [bI,ja,Bool.and_eq_false_iff,decide_eq_false_iff_not];lia
 ·-- (('scale',1000),('number',-10 ** 28,far))
  simp only [p29,p28];refine ⟨_,_,rfl,by decide +kernel,dE (by lia) (by lia) (by lia),?_⟩;have tt:=TT.scale (.int 1000) (-10000000000000000000000000000) (f:Int) rfl;refine .inr ⟨tt,_,.scale _ _ 1000 (by decide) (by decide),rfl,?_⟩;refine pj ?_;simp only [bI,ja,Bool.and_eq_false_iff,decide_eq_false_iff_not];lia
 ·-- (('words',('x',),(('x','a'),)),('choice',('a','b')))
  refine ⟨_,_,rfl,by decide +kernel,gx,?_⟩;exact .inl (TT.words _ _ [("a" : Str),("b" : Str)] (by decide +kernel) (NL.len _ _ _ (by decide)))
 ·-- (('words',('x','y'),(('x','a'),)),('choice',('a','b')))
  refine ⟨_,_,rfl,by decide +kernel,gx,?_⟩;exact .inl (TT.words _ _ [("a" : Str),("b" : Str)] (by decide +kernel) (NL.led [("x" : Str),("y" : Str)] [(("x" : Str),("a" : Str))] [("a" : Str),("b" : Str)] rfl (by decide) rfl (.inr ⟨by decide +kernel,by decide +kernel⟩)))
 ·-- (('words',('x','x'),(('x','c'),)),('choice',('a','b')))
  refine ⟨_,_,rfl,by decide +kernel,gx,?_⟩;exact .inl (TT.words _ _ [("a" : Str),("b" : Str)] (by decide +kernel) (NL.led [("x" : Str),("x" : Str)] [(("x" : Str),("c" : Str))] [("a" : Str),("b" : Str)] rfl (by decide) rfl (.inr ⟨by decide +kernel,by decide +kernel⟩)))
 ·-- (('words',('x','y'),(('x','b'),('y','a'))),('choice',('a','b')))
  refine ⟨_,_,rfl,by decide +kernel,gx,?_⟩;exact .inl (TT.words _ _ [("a" : Str),("b" : Str)] (by decide +kernel) (NL.led [("x" : Str),("y" : Str)] [(("x" : Str),("b" : Str)),(("y" : Str),("a" : Str))] [("a" : Str),("b" : Str)] rfl (by decide) rfl (.inr ⟨by decide +kernel,by decide +kernel⟩)))
 ·-- (('words',('x','x'),(('x','a'),('y','b'))),('choice',('a','b')))
  refine ⟨_,_,rfl,by decide +kernel,gx,?_⟩;exact .inl (TT.words _ _ [("a" : Str),("b" : Str)] (by decide +kernel) (NL.led [("x" : Str),("x" : Str)] [(("x" : Str),("a" : Str)),(("y" : Str),("b" : Str))] [("a" : Str),("b" : Str)] rfl (by decide) rfl (.inr ⟨by decide +kernel,by decide +kernel⟩)))
 ·-- (('words',('x','x'),(('x','a'),('x','a'))),('choice',('a','b')))
  refine ⟨_,_,rfl,by decide +kernel,gx,?_⟩;exact .inl (TT.words _ _ [("a" : Str),("b" : Str)] (by decide +kernel) (NL.led [("x" : Str),("x" : Str)] [(("x" : Str),("a" : Str)),(("x" : Str),("a" : Str))] [("a" : Str),("b" : Str)] rfl (by decide) rfl (.inl (by decide +kernel))))
theorem gy (T:Tx K mg ad) {f:Addr} {fd:FuncData} (F:Gn K mg "_law_refused" bZ ["turn","kind"] f fd):FnOk P w K mg base CX0 27 f fd ["turn","kind"] (fun vs H Q _=>∃ (t d:Dt) (x y:V),vs=[x,y]∧IsP K H t x∧IsP K H d y∧Bad t d∧∀ H',Same H H'→Q (.bl true) H'):=by
 obtain ⟨_,_,vf⟩:=T.law_asked;have wk:=jA (P:=P) (w:=w) (base:=base) T vf;refine F.F.ok a6 (fun vs H Q E h=>?_) (fun cdv A outer s H vs Q E hr h=>?_)
 ·obtain ⟨t,d,x,y,rfl,_⟩:=h
  rfl
 obtain ⟨t,d,x,y,rfl,ht,hd,bad,q⟩:=h;refine ⟨_,(@pss_cons _ _ _ _ _ (eC PassesOwn.never rfl (eB rfl T.z_range (@pa1 _ _ _ pe_int (by rfl))) (pg_name (i:=2) a6.nd rfl (Or.inl rfl))
    (@pss_cons _ _ _ _ _ (@ps_set _ _ 3 _ _ _ _ a6.nd rfl (Or.inl rfl) (@ar _ _ _ _ bX) (by rfl) (by first | exact .inl rfl | exact .inr rfl | assumption)) (@pss_cons _ _ _ _ _ (pR (i:=4) rfl rfl (pQ wk (hr.mono (by first | decide | lia)) rfl vf.m vf.F.kp vf.b (@pa3 _ _ _ _ _ _ _ (pv 2) (pv 0) (pv 1) (by rfl) (by rfl) (by rfl))) T.x_HandError.m rfl a6.nd rfl rfl (fun _=>(@pss_one _ _ _ (@ps_set _ _ 3 _ _ _ _ a6.nd rfl (Or.inl rfl) (@ar _ _ _ _ (@al _ _ _ _ _ (pe_callB (eF (K:=K) rfl) rfl T.z_isinstance boot_isinstance (@pa2 _ _ _ _ _ (pv 4) (iR rfl T.x_BadTurn.m) (by rfl) (by rfl))) (@pa3 _ _ _ _ _ _ _ (pe_callB (lE (K:=K) rfl) rfl T.z_isinstance boot_isinstance (@pa2 _ _ _ _ _ (pv 4) (bp rfl T.z_ValueError rO) (by rfl) (by rfl))) (pe_callB (eF (K:=K) rfl) rfl T.z_isinstance boot_isinstance (@pa2 _ _ _ _ _ (pv 4) (iR rfl T.x_BadKind.m) (by rfl) (by rfl))) (pe_callB (eF (K:=K) rfl) rfl T.z_isinstance boot_isinstance (@pa2 _ _ _ _ _ (pv 4) (iR rfl T.x_BadPiece.m) (by rfl) (by rfl))) (by rfl) (by rfl) (by rfl)) (by rfl))) (by rfl) (by first | exact .inl rfl | exact .inr rfl | assumption))))) (@pss_one _ _ _ (@ps_if _ _ _ _ _ _ _ _ (pt_cmpR (rN hr.units) (pv 3) (@ar _ _ _ _ (@al _ _ _ _ _ pe_bl (@pa3 _ _ _ _ _ _ _ pe_bl pe_bl pe_bl (by rfl) (by rfl) (by rfl)) (by rfl))) (nomark _)) (@pss_one _ _ _ (@ps_ret _ _ _ _ pe_bl)) pss_nil))))) (@pss_one _ _ _ (@ps_ret _ _ _ _ pe_bl))),?_⟩
 have kk:=T.kits;simp only [Bool.and_eq_true] at kk;obtain ⟨⟨⟨k1,k2⟩,k3⟩,k4⟩:=kk;refine ⟨4,rfl,by decide,by decide,eD (lo:=0) (n:=(4:Int).toNat) (fun i σ H'=>Same H H'∧∃ v2 v3 v4,σ=[some x,some y,v2,v3,v4]) ⟨Same.refl _,_,_,_,rfl⟩ ?_ ?_⟩
 ·rintro i σ H1 hi ⟨s1,w2,w3,w4,rfl⟩;refine ⟨(by show 0≤sizeLine;decide),fun l0 hl0=>?_⟩;have s2:=s1.trans (ag hl0 (.lst []));refine ⟨_,rfl,_,rfl,_,rfl,t,d,_,x,y,rfl,ht.same s2,hd.same s2,bad,fun H3 g3=>⟨ad.BadTurn,rfl,T.exm,fun ea hea=>?_⟩⟩;have X:=T.x_BadTurn.k;have he':=ac (H:=H3) (a:=ea) (o:=xO ea ad.BadTurn);have ge:=ag hea (xO ea ad.BadTurn);refine ⟨_,rfl,ea,_,_,_,rfl,he',X,beq_iff_eq.mp k1,_,rfl,ea,_,_,_,rfl,he',X,beq_iff_eq.mp k2,_,rfl,ea,_,_,_,rfl,he',X,beq_iff_eq.mp k3,_,rfl,ea,_,_,_,rfl,he',X,beq_iff_eq.mp k4,(by show 4≤sizeLine;decide),fun l1 n1=>?_⟩;refine ⟨_,rfl,(by show 4≤sizeLine;decide),fun l2 n2=>?_⟩;have g4:=ag n2 (.lst [V.bl true,.bl true,.bl false,.bl false]);refine ⟨l1,l2,_,_,[.bl true,.bl true,.bl false,.bl false],[.bl true,.bl true,.bl false,.bl false],rfl,rfl,SqL.of (g4 _ _ ac),SqL.of ac,.cons .bl (.cons .bl (.cons .bl (.cons .bl .nil))),.cons .bl (.cons .bl (.cons .bl (.cons .bl .nil))),by decide,_,rfl,?_⟩;refine aV ⟨(((s2.trans g3).trans ge).trans (ag n1 _)).trans g4,_,_,_,rfl⟩
 ·rintro σ H1 ⟨s1,w2,w3,w4,rfl⟩;exact q H1 s1
theorem pw (ms:List Int) (lo hi:Option Int):∃ ks:List Int,eX (ms.map V.int) lo hi=ks.map V.int∧ks.length≤ms.length:=by
 refine ⟨(ms.drop (HT.sIx (ms.map V.int).length 0 lo)).take (HT.sIx (ms.map V.int).length (ms.map V.int).length hi - HT.sIx (ms.map V.int).length 0 lo),?_,?_⟩
 ·unfold eX;rw [List.map_take,List.map_drop]
 ·rw [List.length_take,List.length_drop];lia
theorem t8 (T:Tx K mg ad) {fk:Addr} {fdk:FuncData} (D:Gn K mg "_law_kind" bS ["row","deep"] fk fdk):FnOk P w K mg base CX0 12 fk fdk ["row","deep"] (kL K 3):=by
 obtain ⟨fr,fdr,R⟩:=T.law_record;obtain ⟨fw,fdw,W⟩:=T.law_rows;have k0:FnOk P w K mg base CX0 (3*0+3) fk fdk ["row","deep"] (kL K 0):=bH fun vs H Q E z=>by obtain ⟨_,_,m,e,_⟩:=z;cases e
 have r0:FnOk P w K mg base CX0 (3*0+3+1) fr fdr ["row","deep","names"] (dY K 0):=bH fun vs H Q E z=>by obtain ⟨_,_,_,_,m,e,_⟩:=z;cases e
 have w0:=cP (P:=P) (w:=w) (base:=base) T 0 0 (by decide) W R (bH fun vs H Q E z=>by obtain ⟨_,_,_,_,m,e,_⟩:=z;cases e);have k1:=cQ T 0 D R W k0 r0 w0;have r1:=dk T 1 R D k1;have w1:=cP T 1 (3*0+3+1) (by decide) W R r0;have k2:=cQ T 1 D R W k1 r1 w1;have r2:=dk T 2 R D k2;have w2:=cP T 2 (3*1+3+1) (by decide) W R r1;exact cQ T 2 D R W k2 r2 w2
theorem uz (T:Tx K mg ad) {f:Addr} {fd:FuncData} (F:Gn K mg "law" mG ["script"] f fd):FnOk P w K mg base CX0 depth f fd ["script"] (rW K ad):=by
 obtain ⟨_,_,vJ⟩:=T.law_stream;have vX:=gR (P:=P) (w:=w) (base:=base) T vJ;obtain ⟨_,_,uQ⟩:=T.law_kind;have uZ:=t8 (P:=P) (w:=w) (base:=base) T uQ;obtain ⟨_,_,uE⟩:=T.law_digit;have uG:=a8 (P:=P) (w:=w) (base:=base) T uE;obtain ⟨_,_,uR⟩:=T.law_bad_forms;have vU:=eM (P:=P) (w:=w) (base:=base) T uR;obtain ⟨_,_,vn⟩:=T.law_other_kind;have vP:=em (P:=P) (w:=w) (base:=base) T vn;obtain ⟨_,_,vj⟩:=T.law_refused;have vG:=gy (P:=P) (w:=w) (base:=base) T vj;refine F.F.ok c9 (fun vs H Q E h=>?_) (fun cdv A outer s H vs Q E hr h=>?_)
 ·obtain ⟨a,ns,rfl,_⟩:=h
  rfl
 obtain ⟨a,ns,rfl,hS,h63,q⟩:=h;refine ⟨_,(@pss_cons _ _ _ _ _ (@ps_set _ _ 1 _ _ _ _ c9.nd rfl (Or.inl rfl) (nO vU (hr.mono (by first | decide | lia)) rfl uR.m uR.F.kp uR.b .nil qM) (by rfl) (by first | exact .inl rfl | exact .inr rfl | assumption)) (@pss_cons _ _ _ _ _ (eC PassesOwn.never rfl (eB rfl T.z_range (@pa1 _ _ _ (@pe_op _ _ _ _ _ _ _ _ bx pe_int (pe_callB (bc (K:=K) rfl) rfl T.z_len PySem.boot_len (@pa1 _ _ _ (pv 0) (by rfl)))) (by rfl))) (pg_name (i:=2) c9.nd rfl (Or.inl rfl))
    (@pss_cons _ _ _ _ _ (@ps_set _ _ 3 _ _ _ _ c9.nd rfl (Or.inl rfl) (pcl vJ vX (hr.mono (by lia)) rfl (@pa2 _ _ _ _ _ (dN (kt (K:=K) rfl) (@pe_op _ _ _ _ _ _ _ _ (aC (K:=K) rfl) (@ar _ _ _ _ (@pa1 _ _ _ pe_int (by rfl))) (pv 0)) (dM (pv 2)) (dM (@pe_op _ _ _ _ _ _ _ _ bx (pv 2) pe_int))) pe_int (by rfl) (by rfl))) (by rfl) (by first | exact .inl rfl | exact .inr rfl | assumption)) (@pss_cons _ _ _ _ _ (@ps_set _ _ 4 _ _ _ _ c9.nd rfl (Or.inl rfl) (pcl uQ uZ (hr.mono (by lia)) rfl (@pa2 _ _ _ _ _ (pv 3) pe_int (by rfl) (by rfl))) (by rfl) (by first | exact .inl rfl | exact .inr rfl | assumption)) (@pss_cons _ _ _ _ _ (@ps_set _ _ 5 _ _ _ _ c9.nd rfl (Or.inl rfl) (@cD _ _ _ _ _ _ _ (aY (K:=K) rfl) (pv 1) (pcl uE uG (hr.mono (by lia)) rfl (@pa2 _ _ _ _ _ (pv 3) (pe_callB (bc (K:=K) rfl) rfl T.z_len PySem.boot_len (@pa1 _ _ _ (pv 1) (by rfl))) (by rfl) (by rfl))) (fun _ _=>rfl)) (by rfl) (by first | exact .inl rfl | exact .inr rfl | assumption)) (@pss_cons _ _ _ _ _ (@ps_if _ _ _ _ _ _ _ _ (@pt_not _ _ _ _ (@pt_val _ _ _ (pcl vj vG (hr.mono (by lia)) rfl (@pa2 _ _ _ _ _ (pv 5) (pv 4) (by rfl) (by rfl))) (by intro _;rfl))) (@pss_one _ _ _ (@ps_ret _ _ _ _ pe_bl)) pss_nil) (@pss_cons _ _ _ _ _ (ps_asg (pcl vn vP (hr.mono (by lia)) rfl (@pa1 _ _ _ (pv 3) (by rfl))) (pg_tup rfl (pgs_cons (pg_name (i:=5) c9.nd rfl (Or.inl rfl)) (pgs_cons (pg_name (i:=4) c9.nd rfl (Or.inl rfl)) bG)))) (@pss_one _ _ _ (@ps_if _ _ _ _ _ _ _ _ (@pt_not _ _ _ _ (@pt_val _ _ _ (pcl vj vG (hr.mono (by lia)) rfl (@pa2 _ _ _ _ _ (pv 5) (pv 4) (by rfl) (by rfl))) (by intro _;rfl))) (@pss_one _ _ _ (@ps_ret _ _ _ _ pe_bl)) pss_nil)))))))) (@pss_one _ _ _ (@ps_ret _ _ _ _ pe_bl)))),?_⟩
 refine ⟨rfl,fun fr fx H0 s0 n0 e0 i0=>?_⟩;have lfx:fx.length=33:=by rw [← i0.length];rfl
 have hlen:(ns.map V.int).length=ns.length:=List.length_map _;have hS0:=s0.seq hS;refine ⟨_,rfl,a,_,rfl,.inl hS0,_,_,rfl,rfl,_,rfl,by rw [hlen];lia,by rw [hlen];lia,eD (lo:=0) (fun i σ H'=>Same H0 H'∧∃ v2 v3 v4 v5,σ=[some (.ref a),some (.ref fr),v2,v3,v4,v5]) ⟨Same.refl H0,_,_,_,_,rfl⟩ ?_ ?_⟩
 rotate_left
 ·rintro σ H1 ⟨g1,v2,v3,v4,v5,rfl⟩;exact q H1
 rintro i σ H1 hi ⟨g1,v2,v3,v4,v5,rfl⟩;refine ⟨sz1,fun p0 hp0=>?_⟩;have g2:=g1.trans (ag hp0 (.lst [.int 0]));refine ⟨_,rfl,p0,a,_,_,rfl,rfl,SqL.of ac,g2.seq hS0,(by show 1+(ns.map V.int).length≤sizeLine;rw [hlen];exact Nat.le_of_lt (ao (by lia))),fun p1 hp1=>?_⟩;have g3:=g2.trans (ag hp1 (.lst ([.int 0]++ns.map V.int)));refine ⟨_,rfl,_,rfl,_,rfl,_,_,rfl,rfl,_,rfl,p1,_,rfl,SqL.of ac,fun p2 hp2=>?_⟩;obtain ⟨ks,ek,lk⟩:=pw (0 :: ns) (some (0+(i:Int))) (some (0+(i:Int)+1));have lk':ks.length≤ns.length+1:=lk;have g4:=g3.trans (ag hp2 (.lst (eX ([V.int 0]++ns.map V.int) (some (0+(i:Int))) (some (0+(i:Int)+1)))));refine ⟨p2,ks,0,rfl,SqL.of (by rw [ac];exact congrArg (fun l=>some (HO.lst l)) ek),by lia,by decide,by decide,fun r n H2 hr2 s2 e2=>?_⟩;have hrH:H0 r=none:=g4.free hr2;have keep:∀ {H3 H4:Hp},Same H0 H3→But r H3 H4→Same H0 H4:=fun s b c o e=>b c o (aj e hrH) (s c o e);have g5:=g4.trans s2;refine ⟨_,rfl,r,n,2,rfl,rfl,e2,fun v d c3 H3 b3 e3 hv gk=>?_⟩;obtain ⟨ka,kc,fk,la,lc⟩:=gk;have S3:=keep g5 b3;have f3:=S3 _ _ e0;obtain ⟨j,ej,hj⟩:∃ j:Nat,c3 % (fx.length:Int)=j∧j < fx.length:=by
  have h1:=Int.emod_nonneg c3 (by lia:(fx.length:Int)≠0);have h2:=Int.emod_lt_of_pos c3 (by lia:(0:Int) < (fx.length:Int));exact ⟨(c3 % (fx.length:Int)).toNat,by lia,by lia⟩
 obtain ⟨u,hu⟩:∃ u,fx[j]?=some u:=⟨_,List.getElem?_eq_getElem hj⟩;refine ⟨_,rfl,_,rfl,_,rfl,fr,fx,rfl,.inl (SqL.of f3),r,c3,(fx.length:Int),rfl,e3,by lia,by lia,?_⟩;rw [ej];have b4:But r H3 (upd H3 r (.lst [.int (c3 / (fx.length:Int))])):=But.put;have e4:(upd H3 r (.lst [.int (c3 / (fx.length:Int))])) r=some (.lst [.int (c3 / (fx.length:Int))]):=ac
 generalize upd H3 r (.lst [.int (c3 / (fx.length:Int))])=H4 at b4 e4 ⊢
 generalize c3 / (fx.length:Int)=c4 at e4
 have S4:=keep S3 b4;refine ⟨fr,fx,_,u,rfl,rfl,SqL.of (S4 _ _ e0),dO hu,?_⟩;obtain ⟨t,ht,hit⟩:=(i0.same S4).get' hu;have bad:=pp t (List.mem_of_getElem? ht) (by lia:ka≤4) fk;refine ⟨_,rfl,_,rfl,t,d,u,v,rfl,hit,hv.but e3 b4,bad,fun H5 g5'=>⟨_,rfl,aV ?_⟩⟩;have S5:=S4.trans g5';refine ⟨_,rfl,r,c4,rfl,g5' _ _ e4,fun v6 fv p6 c6 H6 b6 e6 hp6 hf6 hm6=>?_⟩;obtain ⟨t2,d2,rfl,bad2⟩:=pq fv hf6 p6 hm6;have S6:=keep S5 b6;obtain ⟨b,us,rfl,hb,pb,rb⟩:=hp6.unref
 cases rb with
 | @cons _ _ y1 _ q1 rb =>
 cases rb with
 | @cons _ _ y2 _ q2 rb =>
 cases rb
 refine ⟨b,_,rfl,hb,rfl,_,_,rfl,_,_,rfl,rfl,?_⟩;exact ⟨_,rfl,_,rfl,t2,d2,y1,y2,rfl,q1,q2,bad2,fun H7 g7=>⟨_,rfl,aV ⟨S6.trans g7,_,_,_,_,rfl⟩⟩⟩
end
@[elab_as_elim] theorem qE {α:Type} {p:List α→Prop} {us:List α} (hl:us.length=0) (h:p []):p us:=by
 cases us with
 | nil=>exact h
 | cons a r=>cases hl
@[elab_as_elim] theorem qF {α:Type} {p:List α→Prop} {us:List α} (hl:us.length=1) (h:∀ x0,p [x0]):p us:=by
 cases us with
 | nil=>cases hl
 | cons a r=>exact qE (p:=fun r=>p (a :: r)) (Nat.succ.inj hl) (h a)
@[elab_as_elim] theorem qG {α:Type} {p:List α→Prop} {us:List α} (hl:us.length=2) (h:∀ x0 x1,p [x0,x1]):p us:=by
 cases us with
 | nil=>cases hl
 | cons a r=>exact qF (p:=fun r=>p (a :: r)) (Nat.succ.inj hl) (h a)
@[elab_as_elim] theorem qH {α:Type} {p:List α→Prop} {us:List α} (hl:us.length=3) (h:∀ x0 x1 x2,p [x0,x1,x2]):p us:=by
 cases us with
 | nil=>cases hl
 | cons a r=>exact qG (p:=fun r=>p (a :: r)) (Nat.succ.inj hl) (h a)
@[elab_as_elim] theorem qI {α:Type} {p:List α→Prop} {us:List α} (hl:us.length=4) (h:∀ x0 x1 x2 x3,p [x0,x1,x2,x3]):p us:=by
 cases us with
 | nil=>cases hl
 | cons a r=>exact qH (p:=fun r=>p (a :: r)) (Nat.succ.inj hl) (h a)
@[elab_as_elim] theorem qJ {α:Type} {p:List α→Prop} {us:List α} (hl:us.length=5) (h:∀ x0 x1 x2 x3 x4,p [x0,x1,x2,x3,x4]):p us:=by
 cases us with
 | nil=>cases hl
 | cons a r=>exact qI (p:=fun r=>p (a :: r)) (Nat.succ.inj hl) (h a)
@[elab_as_elim] theorem t9 {α:Type} {p:List α→Prop} {us:List α} (hl:us.length=6) (h:∀ x0 x1 x2 x3 x4 x5,p [x0,x1,x2,x3,x4,x5]):p us:=by
 cases us with
 | nil=>cases hl
 | cons a r=>exact qJ (p:=fun r=>p (a :: r)) (Nat.succ.inj hl) (h a)
theorem gnM {K:PySem.W.Frag} {h:Heap} {mg:Str→Option Value} (X:K.In h) (G:h.Ns mainGlobals mg) {x:Str} {st:Stmt} {ps:List Str} {f:Addr} {od an:Option Addr} {sl:Array (Option Value)} {oc kV dc pm cd ct:Value}
  (a:PySem.W.nsIn K mainGlobals x=some (some (.ref f))) (l:K.lookup f=some ⟨oc,od,.func (PySem.W.fnOf x x (ck st) (bo st) (ae st) .none kV dc pm an cd ct),sl⟩) (c:PySem.W.codeIn K cd x=true) (k:PySem.W.keepIn K (.ref f)=true)
  (b:∀ (kV doc pm:Value) (an:Option Addr) (cdv ct:Value) (us:List Value),us.length=ps.length→bindArgs (PySem.W.fnOf x x (ck st) (bo st) (ae st) .none kV doc pm an cdv ct) ⟨us,[]⟩=pure (ps.zip us)):∃ f fd,Gn K mg x st ps f fd :=
 ⟨f,_,nV (st:=st) l c k,(nV (st:=st) l c k).binds b,PySem.W.mg_of X G a⟩
theorem exM {K:PySem.W.Frag} {h:Heap} {mg:Str→Option Value} (X:K.In h) (G:h.Ns mainGlobals mg) {x:Str} {C:Addr} {d:ClassData} (xa:PySem.W.nsIn K mainGlobals x=some (some (.ref C))) (xq:PySem.W.excIn K C bmV "ValueError.__new__" = true) (xg:PySem.W.findIn K (.ref C) "__getattribute__" = some (some (.builtin "BaseException.__getattribute__"))) (xt:PySem.W.findIn K (.ref C) "__getattr__" = some none) (xc:PySem.W.findIn K (.ref C) "__class__" = some (some (.builtin "object.__class__"))) (xb:PySem.W.mroIn K C (.type "BaseException")=some true) (xo:PySem.W.mroIn K C (.type "object")=some true) (xd:PySem.W.clsIn K C=some d) (xk:PySem.W.keepIn K (.ref C)=true):ExC K mg x C:=⟨PySem.W.mg_of X G xa,xq,⟨xg,xt,xc,xb,xo,_,xd⟩,xk⟩
theorem csM {K:PySem.W.Frag} {h:Heap} {mg:Str→Option Value} (X:K.In h) (G:h.Ns mainGlobals mg) {x z:Str} {t:Tok} (g:PySem.W.nsIn K mainGlobals x=some (some (.str z t))):∃ t,mg x=some (.str z t):=⟨_,PySem.W.mg_of X G g⟩
theorem ciM {K:PySem.W.Frag} {h:Heap} {mg:Str→Option Value} (X:K.In h) (G:h.Ns mainGlobals mg) {x:Str} {i:Int} {t:Tok} (g:PySem.W.nsIn K mainGlobals x=some (some (.int i t))):∃ t,mg x=some (.int i t):=⟨_,PySem.W.mg_of X G g⟩
theorem cdM {K:PySem.W.Frag} {h:Heap} {mg:Str→Option Value} (X:K.In h) (G:h.Ns mainGlobals mg) {x:Str} {a:Addr} {l:List (Str×Int)} (g:PySem.W.nsIn K mainGlobals x=some (some (.ref a))) (d:KTD.tabLook (KTD.datLooks fun b=>K.lookup b) (fun b=>K.lookup b) a (gF l)=true):∃ a,mg x=some (.ref a)∧ke K a l:=⟨_,PySem.W.mg_of X G g,oo d⟩
theorem txI {K:PySem.W.Frag} {mg:Str→Option Value} {a0 a1 a2 a3:Addr} (T:Tx K mg ⟨a0,a1,a2,a3⟩):∃ ad,Tx K mg ad:=⟨_,T⟩
theorem sE {K:PySem.W.Frag} {f:Addr} {fd:FuncData} (F:Fun K "law" "law" mG f fd):∀ (s:Shared) (u:Value),BindsTo s fd ⟨[u],[]⟩ [("script",u)]:=by
 obtain ⟨oc,od,kV,doc,pm,an,cdv,ct,osl,rfl,lk,hcd⟩:=F.ex;exact fun s u=>.of_eq rfl
end K16
open PySem PySem.W PyProof.Rows
set_option maxRecDepth 100000 in
set_option maxHeartbeats 0 in
theorem PySem.Challenge.cw_oldhands_k16_turns_refused_holds : PySem.Challenge.rw_oldhands_k16_turns_refused.Holds := by
 w_on
 refine PySem.W.holds_law K16.said fun said=>?_;refine PySem.W.holds_open (q:=K16.hQ) (loose:=K16.hW) (Xt:=K16.hX) (XP:=fun _ _=>True) (Yf:=K16.hH.obs) (Ya:=K16.hH.val) (YP:=PySem.W.InK K16.hK) (N:=5720) K16.hl K16.hH.of K16.hH.keeps (fun _ _=>trivial) (fun _ _ _ _ _=>trivial) (by rfl) (by rfl) (by rfl) (fun s e=>PySem.W.recFacts_of e) (by rfl) said (by decide +kernel) ⟨rfl,rfl,rfl,rfl,rfl,by decide +kernel⟩ ?hw ?hc
 case hw=>w_witness2
 k_fill
 refine L2.sV (l:=PySem.Challenge.rw_oldhands_k16_turns_refused) (K:=K16.hK) (n:=63) (k:=K16.depth) (x:= "script") (CX:=L2.CX0) (sp:=K16.tT) rfl (by decide) rfl ⟨rfl,by decide,by decide⟩ (fun w h Y=>Y) ?F (fun _ _ a ns hl _ hS=>⟨a,ns,rfl,hS,hl,fun _=>rfl⟩) (fun _ _ _ _ z=>z)
 case F =>
  intro w mg fa h KX G hmg;have T:∃ ad,K16.Tx (L2.KOf KX) mg ad:=by
   dsimp only [L2.KOf];refine' K16.txI ⟨K16.gnM KX G ?_ ?_ ?_ ?_ ?_,K16.gnM KX G ?_ ?_ ?_ ?_ ?_,K16.gnM KX G ?_ ?_ ?_ ?_ ?_,K16.gnM KX G ?_ ?_ ?_ ?_ ?_,K16.gnM KX G ?_ ?_ ?_ ?_ ?_,K16.gnM KX G ?_ ?_ ?_ ?_ ?_,K16.gnM KX G ?_ ?_ ?_ ?_ ?_,K16.gnM KX G ?_ ?_ ?_ ?_ ?_,K16.gnM KX G ?_ ?_ ?_ ?_ ?_,K16.gnM KX G ?_ ?_ ?_ ?_ ?_,K16.gnM KX G ?_ ?_ ?_ ?_ ?_,K16.gnM KX G ?_ ?_ ?_ ?_ ?_,K16.gnM KX G ?_ ?_ ?_ ?_ ?_,K16.gnM KX G ?_ ?_ ?_ ?_ ?_,K16.gnM KX G ?_ ?_ ?_ ?_ ?_,K16.gnM KX G ?_ ?_ ?_ ?_ ?_,K16.gnM KX G ?_ ?_ ?_ ?_ ?_,K16.gnM KX G ?_ ?_ ?_ ?_ ?_,K16.gnM KX G ?_ ?_ ?_ ?_ ?_,K16.gnM KX G ?_ ?_ ?_ ?_ ?_,K16.gnM KX G ?_ ?_ ?_ ?_ ?_,K16.gnM KX G ?_ ?_ ?_ ?_ ?_,K16.gnM KX G ?_ ?_ ?_ ?_ ?_,K16.gnM KX G ?_ ?_ ?_ ?_ ?_,K16.gnM KX G ?_ ?_ ?_ ?_ ?_,K16.gnM KX G ?_ ?_ ?_ ?_ ?_,K16.gnM KX G ?_ ?_ ?_ ?_ ?_,K16.gnM KX G ?_ ?_ ?_ ?_ ?_,K16.gnM KX G ?_ ?_ ?_ ?_ ?_,K16.gnM KX G ?_ ?_ ?_ ?_ ?_,K16.gnM KX G ?_ ?_ ?_ ?_ ?_,K16.gnM KX G ?_ ?_ ?_ ?_ ?_,K16.gnM KX G ?_ ?_ ?_ ?_ ?_,K16.gnM KX G ?_ ?_ ?_ ?_ ?_,K16.gnM KX G ?_ ?_ ?_ ?_ ?_,K16.gnM KX G ?_ ?_ ?_ ?_ ?_,K16.gnM KX G ?_ ?_ ?_ ?_ ?_,K16.gnM KX G ?_ ?_ ?_ ?_ ?_,K16.gnM KX G ?_ ?_ ?_ ?_ ?_,K16.gnM KX G ?_ ?_ ?_ ?_ ?_,K16.gnM KX G ?_ ?_ ?_ ?_ ?_,K16.gnM KX G ?_ ?_ ?_ ?_ ?_,K16.gnM KX G ?_ ?_ ?_ ?_ ?_,K16.gnM KX G ?_ ?_ ?_ ?_ ?_,K16.gnM KX G ?_ ?_ ?_ ?_ ?_,K16.exM KX G ?_ ?_ ?_ ?_ ?_ ?_ ?_ ?_ ?_,K16.exM KX G ?_ ?_ ?_ ?_ ?_ ?_ ?_ ?_ ?_,K16.exM KX G ?_ ?_ ?_ ?_ ?_ ?_ ?_ ?_ ?_,K16.exM KX G ?_ ?_ ?_ ?_ ?_ ?_ ?_ ?_ ?_,K16.csM KX G ?_,K16.ciM KX G ?_,K16.csM KX G ?_,K16.ciM KX G ?_,K16.ciM KX G ?_,K16.ciM KX G ?_,K16.ciM KX G ?_,K16.ciM KX G ?_,K16.ciM KX G ?_,K16.cdM KX G ?_ ?_,K16.csM KX G ?_,K16.ciM KX G ?_,K16.ciM KX G ?_,K16.cdM KX G ?_ ?_,⟨PySem.W.mg_of KX G ?_,L2.sD ?_,L2.tN ?_⟩,PySem.W.mg_none_of KX G ?_,PySem.W.mg_none_of KX G ?_,PySem.W.mg_none_of KX G ?_,PySem.W.mg_none_of KX G ?_,PySem.W.mg_none_of KX G ?_,PySem.W.mg_none_of KX G ?_,PySem.W.mg_none_of KX G ?_,PySem.W.mg_none_of KX G ?_,PySem.W.mg_none_of KX G ?_,PySem.W.mg_none_of KX G ?_,PySem.W.mg_none_of KX G ?_,PySem.W.mg_none_of KX G ?_,PySem.W.mg_none_of KX G ?_,PySem.W.mg_none_of KX G ?_,PySem.W.mg_none_of KX G ?_,?_,?_,?_⟩
   any_goals (first | k_is | kernel_rfl | exact fun _ _ _ _ _ _ _ e=>K16.qE e rfl | exact fun _ _ _ _ _ _ _ e=>K16.qF e fun _=>rfl | exact fun _ _ _ _ _ _ _ e=>K16.qG e fun _ _=>rfl | exact fun _ _ _ _ _ _ _ e=>K16.qH e fun _ _ _=>rfl | exact fun _ _ _ _ _ _ _ e=>K16.qI e fun _ _ _ _=>rfl | exact fun _ _ _ _ _ _ _ e=>K16.qJ e fun _ _ _ _ _=>rfl | exact fun _ _ _ _ _ _ _ e=>K16.t9 e fun _ _ _ _ _ _=>rfl)
  obtain ⟨ad,T⟩:=T;obtain ⟨fL,dL,L⟩:=T.law;have e:=hmg.symm.trans L.m
  cases e
  exact ⟨dL,K16.sE L.F,fun base _ _=>K16.uz T L⟩
#print axioms PySem.Challenge.cw_oldhands_k16_turns_refused_holds
