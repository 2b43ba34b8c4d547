import PyProof.Rows.All
import Wide.All
import OpenK.AllK
import Wide.FinOn
import Lean
import PyProof.EqAt
import PyProof.EqKinds
import PyProof.TupleCall
import PyProof.NeKinds
import KE.KIntText
import PyProof.StrCalls
import PyProof.ZipIter
import PyProof.Rows.SetFrom
import PyProof.SetRoads
import PyProof.CompUse
import PyProof.Rows.MinMaxN
import PyProof.Rows.SortStr
import PyProof.Rows.SortWalk
import PyProof.Rows.SeqMore2
import KE.KMinKey
import PyProof.Rows.CallKwBuiltin
import PyProof.TupleOfStr
import PyProof.Draws
import PyProof.Rows.TupIter
import KE.KxText
import PyProof.FString5
import PyProof.DictWalks
import PyProof.CollectStr
import PyProof.FactsAll.set_1
import KE.KDictLaws
import PySem.Challenge.RW_oldhands_k14_whole_paths_put_together
set_option Elab.async false
set_option linter.all false
set_option maxHeartbeats 4000000
set_option maxRecDepth 100000
namespace L2
open PySem PySem.Spec PyProof.Rows
def dq (s:Stmt):Arguments:=match s with
 | .FunctionDef _ a _ _ _ _ _ _ _ _=>a
 | _=>{ posonlyargs:=[],args:=[],vararg:=none,kwonlyargs:=[],kw_defaults:=[],kwarg:=none,defaults:=[] }
def cH (s:Stmt):List Stmt:=match s with
 | .FunctionDef _ _ b _ _ _ _ _ _ _=>b
 | _=>[]
def ac (s:Stmt):Scope:=match s with
 | .FunctionDef _ _ _ _ _ _ sc _ _ _=>sc
 | _=>{ kind:=.function,names:=[],isGenerator:=false,isCoroutine:=false }
end L2
namespace K14
open PySem L2 PyProof.Rows
def top (i:Nat):Stmt:=PySem.Challenge.pw_oldhands_k14_whole_paths_put_together.main.body.getD i (.Pass ⟨0,0,0,0⟩)
def hT (t:Nat):Value:=.str "/claim/cut.py" t
def hE (P:Params) (x:Str) (t:Nat) (v:Value):DictEntry:={ hash:=PyData.keyHash P x,key:=.str x t,val:=v }
def hF (x y m:Str) (st:Stmt) (t c:Nat):Obj:={ cls:=.type "function",data:=.func (PySem.W.fnOf x y (dq st) (cH st) (ac st) .none .none .none (.str m t) none (.ref c) .none) }
def hC (x y:Str) (t u v:Nat) (r:List Value):Obj:={ cls:=.type "code",data:=.fields (Array.mk (.str x t :: .str y u :: hT v :: r)) }
def hK:Params→PySem.W.Frag:=fun P =>
 (nat_lit 2,{ cls:=.none,data:=.dict #[] }) ::
 (nat_lit 3,{ cls:=.type "dict",data:=.dict #[hE P "__name__" 165 (.str ("law_oldhands_k14_whole_paths_put_together") 485),hE P "__doc__" 166 (.none),hE P "__package__" 167 (.none),hE P "__loader__" 168 (.builtin "__main__.__loader__#opaque"),hE P "__spec__" 169 (.none),hE P "__annotations__" 170 (.ref 6),hE P "__builtins__" 171 (.ref 4),hE P "__file__" 173 (.str ("/claim/cut.py") 172),hE P "__cached__" 174 (.none),hE P "HandError" 206 (.ref 24),hE P "BadKind" 222 (.ref 37),hE P "BadPath" 238 (.ref 49),hE P "LETTERS" 242 (.str ("abcdefghijklmnopqrstuvwxyz") 241),hE P "LONGEST_NAME" 244 (.int 8 243),hE P "EACH" 246 (.str ("each") 245),hE P "MOST_SIGNS" 248 (.int 60 247),hE P "MOST_WORDS" 250 (.int 8 249),hE P "MOST_FIELDS" 252 (.int 8 251),hE P "MOST_ITEMS" 254 (.int 8 253),hE P "MOST_KINDS" 256 (.int 40 255),hE P "DEEPEST" 258 (.int 5 257),hE P "PART_COUNTS" 277 (.ref 52),hE P "is_name" 283 (.ref 57),hE P "is_whole" 290 (.ref 64),hE P "is_whole_within" 299 (.ref 71),hE P "made_kind" 306 (.ref 78),hE P "is_formed" 315 (.ref 85),hE P "has_parts" 322 (.ref 92),hE P "are_bounds" 330 (.ref 99),hE P "are_words" 336 (.ref 104),hE P "are_fields" 342 (.ref 109),hE P "is_field" 350 (.ref 116),hE P "are_rows" 360 (.ref 123),hE P "field_kind" 370 (.ref 130),hE P "item_kind" 377 (.ref 137),hE P "kinds_within" 383 (.ref 142),hE P "kind_many" 389 (.ref 147),hE P "field_of" 401 (.ref 154),hE P "entries" 409 (.ref 159),hE P "inner_kind" 417 (.ref 166),hE P "wheres" 423 (.ref 171),hE P "places" 429 (.ref 176),hE P "value_at" 435 (.ref 181),hE P "with_values" 441 (.ref 186),hE P "LONGEST_PATH" 445 (.int 8 444),hE P "is_path" 451 (.ref 191),hE P "kind_along" 459 (.ref 198),hE P "kind_at" 469 (.ref 205),hE P "kind_with" 478 (.ref 212),hE P "kind_put" 484 (.ref 217),hE P "_law_mixed" 495 (.ref 224),hE P "_law_stream" 506 (.ref 231),hE P "_law_digit" 515 (.ref 238),hE P "_law_leaf" 524 (.ref 245),hE P "_law_record" 535 (.ref 252),hE P "_law_rows" 546 (.ref 259),hE P "_law_kind" 555 (.ref 266),hE P "_law_shape" 563 (.ref 273),hE P "_law_text" 573 (.ref 280),hE P "_law_number" 583 (.ref 287),hE P "_law_pairs" 589 (.ref 292),hE P "_law_value" 595 (.ref 297),hE P "_law_ways" 606 (.ref 304),hE P "_law_parted" 622 (.ref 311),hE P "_law_put_good" 638 (.ref 318),hE P "law" 644 (.ref 323)] 66 }) ::
 (nat_lit 15,{ cls:=.type "tuple",data:=.seq #[.type "ValueError"] }) ::
 (nat_lit 22,{ cls:=.type "tuple",data:=.seq #[] }) ::
 (nat_lit 23,{ cls:=.type "dict",data:=.dict #[{ hash:=PyData.keyHash P ("__module__"),key:=.str ("__module__") 196,val:=.str ("oldhands.errors") 187 },{ hash:=PyData.keyHash P ("__firstlineno__"),key:=.str ("__firstlineno__") 200,val:=.int 2 199 },{ hash:=PyData.keyHash P ("__static_attributes__"),key:=.str ("__static_attributes__") 201,val:=.ref 22 },{ hash:=PyData.keyHash P ("__weakref__"),key:=.str ("__weakref__") 203,val:=.ref 25 },{ hash:=PyData.keyHash P ("__doc__"),key:=.str ("__doc__") 204,val:=.none }] 3 }) ::
 (nat_lit 24,{ cls:=.type "type",data:=.cls { name:= "HandError",bases:=[.type "ValueError"],mro:=[.ref 24,.type "ValueError",.type "Exception",.type "BaseException",.type "object"],ns:=23,qualname:= "HandError",subclasses:=[.ref 37,.ref 49] },slots:=#[Option.some (.ref 15),Option.none,Option.some (.str ("HandError") 189),Option.some (.str ("HandError") 197),Option.some (.builtin "ValueError.__new__"),Option.some (.bool Bool.true)] }) ::
 (nat_lit 25,{ cls:=.type "getset_descriptor",data:=.fields #[.str ("__weakref__") 202,.ref 24,.builtin "ExceptionGroup.__weakref__",.none] }) ::
 (nat_lit 28,{ cls:=.type "tuple",data:=.seq #[.ref 24] }) ::
 (nat_lit 35,{ cls:=.type "tuple",data:=.seq #[] }) ::
 (nat_lit 36,{ cls:=.type "dict",data:=.dict #[{ hash:=PyData.keyHash P ("__module__"),key:=.str ("__module__") 214,val:=.str ("oldhands.errors") 187 },{ hash:=PyData.keyHash P ("__firstlineno__"),key:=.str ("__firstlineno__") 218,val:=.int 4 217 },{ hash:=PyData.keyHash P ("__static_attributes__"),key:=.str ("__static_attributes__") 219,val:=.ref 35 },{ hash:=PyData.keyHash P ("__doc__"),key:=.str ("__doc__") 220,val:=.none }] 2 }) ::
 (nat_lit 37,{ cls:=.type "type",data:=.cls { name:= "BadKind",bases:=[.ref 24],mro:=[.ref 37,.ref 24,.type "ValueError",.type "Exception",.type "BaseException",.type "object"],ns:=36,qualname:= "BadKind" },slots:=#[Option.some (.ref 28),Option.none,Option.some (.str ("BadKind") 207),Option.some (.str ("BadKind") 215),Option.some (.builtin "ValueError.__new__"),Option.some (.bool Bool.true)] }) ::
 (nat_lit 40,{ cls:=.type "tuple",data:=.seq #[.ref 24] }) ::
 (nat_lit 47,{ cls:=.type "tuple",data:=.seq #[] }) ::
 (nat_lit 48,{ cls:=.type "dict",data:=.dict #[{ hash:=PyData.keyHash P ("__module__"),key:=.str ("__module__") 230,val:=.str ("oldhands.errors") 187 },{ hash:=PyData.keyHash P ("__firstlineno__"),key:=.str ("__firstlineno__") 234,val:=.int 6 233 },{ hash:=PyData.keyHash P ("__static_attributes__"),key:=.str ("__static_attributes__") 235,val:=.ref 47 },{ hash:=PyData.keyHash P ("__doc__"),key:=.str ("__doc__") 236,val:=.none }] 2 }) ::
 (nat_lit 49,{ cls:=.type "type",data:=.cls { name:= "BadPath",bases:=[.ref 24],mro:=[.ref 49,.ref 24,.type "ValueError",.type "Exception",.type "BaseException",.type "object"],ns:=48,qualname:= "BadPath" },slots:=#[Option.some (.ref 40),Option.none,Option.some (.str ("BadPath") 223),Option.some (.str ("BadPath") 231),Option.some (.builtin "ValueError.__new__"),Option.some (.bool Bool.true)] }) ::
 (nat_lit 52,{ cls:=.type "dict",data:=.dict #[{ hash:=PyData.keyHash P ("number"),key:=.str ("number") 259,val:=.int 3 260 },{ hash:=PyData.keyHash P ("text"),key:=.str ("text") 261,val:=.int 2 262 },{ hash:=PyData.keyHash P ("choice"),key:=.str ("choice") 263,val:=.int 2 264 },{ hash:=PyData.keyHash P ("list"),key:=.str ("list") 265,val:=.int 3 266 },{ hash:=PyData.keyHash P ("record"),key:=.str ("record") 267,val:=.int 2 268 },{ hash:=PyData.keyHash P ("rows"),key:=.str ("rows") 269,val:=.int 4 270 }] 6 }) ::
 (nat_lit 56,hC "is_name" "is_name" 278 279 280 [.int 19 0,.int 1 0,.int 0 0,.int 0 0,.int 3 0,.ref 53,.bool Bool.true,.int 181 0,.ref 54,.none,.none,.none,.ref 55,.int 281 0,.int 19 0,hT 282]) ::
 (nat_lit 57,hF "is_name" "is_name" "oldhands.kinds" (top 15) 239 56) ::
 (nat_lit 63,hC "is_whole" "is_whole" 284 285 286 [.int 23 0,.int 1 0,.int 0 0,.int 0 0,.int 3 0,.ref 58,.bool Bool.true,.int 181 0,.ref 59,.none,.ref 60,.ref 61,.ref 62,.int 288 0,.int 23 0,hT 289]) ::
 (nat_lit 64,hF "is_whole" "is_whole" "oldhands.kinds" (top 16) 239 63) ::
 (nat_lit 70,hC "is_whole_within" "is_whole_within" 291 292 293 [.int 25 0,.int 3 0,.int 0 0,.int 0 0,.int 3 0,.ref 65,.bool Bool.true,.int 181 0,.ref 66,.none,.ref 67,.ref 68,.ref 69,.int 297 0,.int 25 0,hT 298]) ::
 (nat_lit 71,hF "is_whole_within" "is_whole_within" "oldhands.kinds" (top 17) 239 70) ::
 (nat_lit 77,hC "made_kind" "made_kind" 300 301 302 [.int 27 0,.int 1 0,.int 0 0,.int 0 0,.int 3 0,.ref 72,.bool Bool.true,.int 181 0,.ref 73,.none,.ref 74,.ref 75,.ref 76,.int 304 0,.int 27 0,hT 305]) ::
 (nat_lit 78,hF "made_kind" "made_kind" "oldhands.kinds" (top 18) 239 77) ::
 (nat_lit 84,hC "is_formed" "is_formed" 307 308 309 [.int 33 0,.int 2 0,.int 0 0,.int 0 0,.int 3 0,.ref 79,.bool Bool.true,.int 181 0,.ref 80,.none,.ref 81,.ref 82,.ref 83,.int 313 0,.int 33 0,hT 314]) ::
 (nat_lit 85,hF "is_formed" "is_formed" "oldhands.kinds" (top 19) 239 84) ::
 (nat_lit 91,hC "has_parts" "has_parts" 316 317 318 [.int 48 0,.int 1 0,.int 0 0,.int 0 0,.int 3 0,.ref 86,.bool Bool.true,.int 181 0,.ref 87,.none,.ref 88,.ref 89,.ref 90,.int 320 0,.int 48 0,hT 321]) ::
 (nat_lit 92,hF "has_parts" "has_parts" "oldhands.kinds" (top 20) 239 91) ::
 (nat_lit 98,hC "are_bounds" "are_bounds" 323 324 325 [.int 52 0,.int 2 0,.int 0 0,.int 0 0,.int 3 0,.ref 93,.bool Bool.true,.int 181 0,.ref 94,.none,.ref 95,.ref 96,.ref 97,.int 328 0,.int 52 0,hT 329]) ::
 (nat_lit 99,hF "are_bounds" "are_bounds" "oldhands.kinds" (top 21) 239 98) ::
 (nat_lit 103,hC "are_words" "are_words" 331 332 333 [.int 56 0,.int 1 0,.int 0 0,.int 0 0,.int 3 0,.ref 100,.bool Bool.true,.int 181 0,.ref 101,.none,.none,.none,.ref 102,.int 334 0,.int 56 0,hT 335]) ::
 (nat_lit 104,hF "are_words" "are_words" "oldhands.kinds" (top 22) 239 103) ::
 (nat_lit 108,hC "are_fields" "are_fields" 337 338 339 [.int 60 0,.int 2 0,.int 0 0,.int 0 0,.int 3 0,.ref 105,.bool Bool.true,.int 181 0,.ref 106,.none,.none,.none,.ref 107,.int 340 0,.int 60 0,hT 341]) ::
 (nat_lit 109,hF "are_fields" "are_fields" "oldhands.kinds" (top 23) 239 108) ::
 (nat_lit 115,hC "is_field" "is_field" 343 344 345 [.int 67 0,.int 2 0,.int 0 0,.int 0 0,.int 3 0,.ref 110,.bool Bool.true,.int 181 0,.ref 111,.none,.ref 112,.ref 113,.ref 114,.int 348 0,.int 67 0,hT 349]) ::
 (nat_lit 116,hF "is_field" "is_field" "oldhands.kinds" (top 24) 239 115) ::
 (nat_lit 122,hC "are_rows" "are_rows" 351 352 353 [.int 71 0,.int 3 0,.int 0 0,.int 0 0,.int 3 0,.ref 117,.bool Bool.true,.int 181 0,.ref 118,.none,.ref 119,.ref 120,.ref 121,.int 358 0,.int 71 0,hT 359]) ::
 (nat_lit 123,hF "are_rows" "are_rows" "oldhands.kinds" (top 25) 239 122) ::
 (nat_lit 129,hC "field_kind" "field_kind" 361 362 363 [.int 76 0,.int 2 0,.int 0 0,.int 0 0,.int 3 0,.ref 124,.bool Bool.true,.int 181 0,.ref 125,.none,.ref 126,.ref 127,.ref 128,.int 368 0,.int 76 0,hT 369]) ::
 (nat_lit 130,hF "field_kind" "field_kind" "oldhands.kinds" (top 26) 239 129) ::
 (nat_lit 136,hC "item_kind" "item_kind" 371 372 373 [.int 83 0,.int 1 0,.int 0 0,.int 0 0,.int 3 0,.ref 131,.bool Bool.true,.int 181 0,.ref 132,.none,.ref 133,.ref 134,.ref 135,.int 375 0,.int 83 0,hT 376]) ::
 (nat_lit 137,hF "item_kind" "item_kind" "oldhands.kinds" (top 27) 239 136) ::
 (nat_lit 141,hC "kinds_within" "kinds_within" 378 379 380 [.int 89 0,.int 1 0,.int 0 0,.int 0 0,.int 3 0,.ref 138,.bool Bool.true,.int 181 0,.ref 139,.none,.none,.none,.ref 140,.int 381 0,.int 89 0,hT 382]) ::
 (nat_lit 142,hF "kinds_within" "kinds_within" "oldhands.kinds" (top 28) 239 141) ::
 (nat_lit 146,hC "kind_many" "kind_many" 384 385 386 [.int 94 0,.int 1 0,.int 0 0,.int 0 0,.int 3 0,.ref 143,.bool Bool.true,.int 181 0,.ref 144,.none,.none,.none,.ref 145,.int 387 0,.int 94 0,hT 388]) ::
 (nat_lit 147,hF "kind_many" "kind_many" "oldhands.kinds" (top 29) 239 146) ::
 (nat_lit 153,hC "field_of" "field_of" 392 393 394 [.int 97 0,.int 2 0,.int 0 0,.int 0 0,.int 3 0,.ref 148,.bool Bool.true,.int 181 0,.ref 149,.none,.ref 150,.ref 151,.ref 152,.int 399 0,.int 97 0,hT 400]) ::
 (nat_lit 154,hF "field_of" "field_of" "oldhands.values" (top 31) 390 153) ::
 (nat_lit 158,hC "entries" "entries" 404 405 406 [.int 103 0,.int 2 0,.int 0 0,.int 0 0,.int 3 0,.ref 155,.bool Bool.true,.int 181 0,.ref 156,.none,.none,.none,.ref 157,.int 407 0,.int 103 0,hT 408]) ::
 (nat_lit 159,hF "entries" "entries" "oldhands.spots" (top 33) 402 158) ::
 (nat_lit 165,hC "inner_kind" "inner_kind" 410 411 412 [.int 111 0,.int 2 0,.int 0 0,.int 0 0,.int 3 0,.ref 160,.bool Bool.true,.int 181 0,.ref 161,.none,.ref 162,.ref 163,.ref 164,.int 415 0,.int 111 0,hT 416]) ::
 (nat_lit 166,hF "inner_kind" "inner_kind" "oldhands.spots" (top 34) 402 165) ::
 (nat_lit 170,hC "wheres" "wheres" 418 419 420 [.int 115 0,.int 3 0,.int 0 0,.int 0 0,.int 3 0,.ref 167,.bool Bool.true,.int 181 0,.ref 168,.none,.none,.none,.ref 169,.int 421 0,.int 115 0,hT 422]) ::
 (nat_lit 171,hF "wheres" "wheres" "oldhands.spots" (top 35) 402 170) ::
 (nat_lit 175,hC "places" "places" 424 425 426 [.int 117 0,.int 3 0,.int 0 0,.int 0 0,.int 3 0,.ref 172,.bool Bool.true,.int 181 0,.ref 173,.none,.none,.none,.ref 174,.int 427 0,.int 117 0,hT 428]) ::
 (nat_lit 176,hF "places" "places" "oldhands.spots" (top 36) 402 175) ::
 (nat_lit 180,hC "value_at" "value_at" 430 431 432 [.int 126 0,.int 3 0,.int 0 0,.int 0 0,.int 3 0,.ref 177,.bool Bool.true,.int 181 0,.ref 178,.none,.none,.none,.ref 179,.int 433 0,.int 126 0,hT 434]) ::
 (nat_lit 181,hF "value_at" "value_at" "oldhands.spots" (top 37) 402 180) ::
 (nat_lit 185,hC "with_values" "with_values" 436 437 438 [.int 136 0,.int 3 0,.int 0 0,.int 0 0,.int 3 0,.ref 182,.bool Bool.true,.int 181 0,.ref 183,.none,.none,.none,.ref 184,.int 439 0,.int 136 0,hT 440]) ::
 (nat_lit 186,hF "with_values" "with_values" "oldhands.spots" (top 38) 402 185) ::
 (nat_lit 190,hC "is_path" "is_path" 446 447 448 [.int 152 0,.int 1 0,.int 0 0,.int 0 0,.int 3 0,.ref 187,.bool Bool.true,.int 181 0,.ref 188,.none,.none,.none,.ref 189,.int 449 0,.int 152 0,hT 450]) ::
 (nat_lit 191,hF "is_path" "is_path" "oldhands.shapes" (top 41) 442 190) ::
 (nat_lit 197,hC "kind_along" "kind_along" 452 453 454 [.int 156 0,.int 2 0,.int 0 0,.int 0 0,.int 3 0,.ref 192,.bool Bool.true,.int 181 0,.ref 193,.none,.ref 194,.ref 195,.ref 196,.int 457 0,.int 156 0,hT 458]) ::
 (nat_lit 198,hF "kind_along" "kind_along" "oldhands.shapes" (top 42) 442 197) ::
 (nat_lit 204,hC "kind_at" "kind_at" 460 461 462 [.int 160 0,.int 2 0,.int 0 0,.int 0 0,.int 3 0,.ref 199,.bool Bool.true,.int 181 0,.ref 200,.none,.ref 201,.ref 202,.ref 203,.int 467 0,.int 160 0,hT 468]) ::
 (nat_lit 205,hF "kind_at" "kind_at" "oldhands.shapes" (top 43) 442 204) ::
 (nat_lit 211,hC "kind_with" "kind_with" 470 471 472 [.int 169 0,.int 3 0,.int 0 0,.int 0 0,.int 3 0,.ref 206,.bool Bool.true,.int 181 0,.ref 207,.none,.ref 208,.ref 209,.ref 210,.int 476 0,.int 169 0,hT 477]) ::
 (nat_lit 212,hF "kind_with" "kind_with" "oldhands.shapes" (top 44) 442 211) ::
 (nat_lit 216,hC "kind_put" "kind_put" 479 480 481 [.int 172 0,.int 3 0,.int 0 0,.int 0 0,.int 3 0,.ref 213,.bool Bool.true,.int 181 0,.ref 214,.none,.none,.none,.ref 215,.int 482 0,.int 172 0,hT 483]) ::
 (nat_lit 217,hF "kind_put" "kind_put" "oldhands.shapes" (top 45) 442 216) ::
 (nat_lit 223,hC "_law_mixed" "_law_mixed" 487 488 489 [.int 182 0,.int 2 0,.int 0 0,.int 0 0,.int 3 0,.ref 218,.bool Bool.true,.int 181 0,.ref 219,.none,.ref 220,.ref 221,.ref 222,.int 493 0,.int 182 0,hT 494]) ::
 (nat_lit 224,hF "_law_mixed" "_law_mixed" "law_oldhands_k14_whole_paths_put_together" (top 47) 485 223) ::
 (nat_lit 230,hC "_law_stream" "_law_stream" 496 497 498 [.int 185 0,.int 2 0,.int 0 0,.int 0 0,.int 3 0,.ref 225,.bool Bool.true,.int 181 0,.ref 226,.none,.ref 227,.ref 228,.ref 229,.int 504 0,.int 185 0,hT 505]) ::
 (nat_lit 231,hF "_law_stream" "_law_stream" "law_oldhands_k14_whole_paths_put_together" (top 48) 485 230) ::
 (nat_lit 237,hC "_law_digit" "_law_digit" 507 508 509 [.int 195 0,.int 2 0,.int 0 0,.int 0 0,.int 3 0,.ref 232,.bool Bool.true,.int 181 0,.ref 233,.none,.ref 234,.ref 235,.ref 236,.int 513 0,.int 195 0,hT 514]) ::
 (nat_lit 238,hF "_law_digit" "_law_digit" "law_oldhands_k14_whole_paths_put_together" (top 49) 485 237) ::
 (nat_lit 244,hC "_law_leaf" "_law_leaf" 516 517 518 [.int 199 0,.int 1 0,.int 0 0,.int 0 0,.int 3 0,.ref 239,.bool Bool.true,.int 181 0,.ref 240,.none,.ref 241,.ref 242,.ref 243,.int 522 0,.int 199 0,hT 523]) ::
 (nat_lit 245,hF "_law_leaf" "_law_leaf" "law_oldhands_k14_whole_paths_put_together" (top 50) 485 244) ::
 (nat_lit 251,hC "_law_record" "_law_record" 525 526 527 [.int 207 0,.int 3 0,.int 0 0,.int 0 0,.int 3 0,.ref 246,.bool Bool.true,.int 181 0,.ref 247,.none,.ref 248,.ref 249,.ref 250,.int 533 0,.int 207 0,hT 534]) ::
 (nat_lit 252,hF "_law_record" "_law_record" "law_oldhands_k14_whole_paths_put_together" (top 51) 485 251) ::
 (nat_lit 258,hC "_law_rows" "_law_rows" 536 537 538 [.int 213 0,.int 2 0,.int 0 0,.int 0 0,.int 3 0,.ref 253,.bool Bool.true,.int 181 0,.ref 254,.none,.ref 255,.ref 256,.ref 257,.int 544 0,.int 213 0,hT 545]) ::
 (nat_lit 259,hF "_law_rows" "_law_rows" "law_oldhands_k14_whole_paths_put_together" (top 52) 485 258) ::
 (nat_lit 265,hC "_law_kind" "_law_kind" 547 548 549 [.int 218 0,.int 2 0,.int 0 0,.int 0 0,.int 3 0,.ref 260,.bool Bool.true,.int 181 0,.ref 261,.none,.ref 262,.ref 263,.ref 264,.int 553 0,.int 218 0,hT 554]) ::
 (nat_lit 266,hF "_law_kind" "_law_kind" "law_oldhands_k14_whole_paths_put_together" (top 53) 485 265) ::
 (nat_lit 272,hC "_law_shape" "_law_shape" 556 557 558 [.int 227 0,.int 1 0,.int 0 0,.int 0 0,.int 3 0,.ref 267,.bool Bool.true,.int 181 0,.ref 268,.none,.ref 269,.ref 270,.ref 271,.int 561 0,.int 227 0,hT 562]) ::
 (nat_lit 273,hF "_law_shape" "_law_shape" "law_oldhands_k14_whole_paths_put_together" (top 54) 485 272) ::
 (nat_lit 279,hC "_law_text" "_law_text" 564 565 566 [.int 232 0,.int 2 0,.int 0 0,.int 0 0,.int 3 0,.ref 274,.bool Bool.true,.int 181 0,.ref 275,.none,.ref 276,.ref 277,.ref 278,.int 571 0,.int 232 0,hT 572]) ::
 (nat_lit 280,hF "_law_text" "_law_text" "law_oldhands_k14_whole_paths_put_together" (top 55) 485 279) ::
 (nat_lit 286,hC "_law_number" "_law_number" 574 575 576 [.int 237 0,.int 3 0,.int 0 0,.int 0 0,.int 3 0,.ref 281,.bool Bool.true,.int 181 0,.ref 282,.none,.ref 283,.ref 284,.ref 285,.int 581 0,.int 237 0,hT 582]) ::
 (nat_lit 287,hF "_law_number" "_law_number" "law_oldhands_k14_whole_paths_put_together" (top 56) 485 286) ::
 (nat_lit 291,hC "_law_pairs" "_law_pairs" 584 585 586 [.int 244 0,.int 2 0,.int 0 0,.int 0 0,.int 3 0,.ref 288,.bool Bool.true,.int 181 0,.ref 289,.none,.none,.none,.ref 290,.int 587 0,.int 244 0,hT 588]) ::
 (nat_lit 292,hF "_law_pairs" "_law_pairs" "law_oldhands_k14_whole_paths_put_together" (top 57) 485 291) ::
 (nat_lit 296,hC "_law_value" "_law_value" 590 591 592 [.int 246 0,.int 2 0,.int 0 0,.int 0 0,.int 3 0,.ref 293,.bool Bool.true,.int 181 0,.ref 294,.none,.none,.none,.ref 295,.int 593 0,.int 246 0,hT 594]) ::
 (nat_lit 297,hF "_law_value" "_law_value" "law_oldhands_k14_whole_paths_put_together" (top 58) 485 296) ::
 (nat_lit 303,hC "_law_ways" "_law_ways" 596 597 598 [.int 262 0,.int 2 0,.int 0 0,.int 0 0,.int 3 0,.ref 298,.bool Bool.true,.int 181 0,.ref 299,.none,.ref 300,.ref 301,.ref 302,.int 604 0,.int 262 0,hT 605]) ::
 (nat_lit 304,hF "_law_ways" "_law_ways" "law_oldhands_k14_whole_paths_put_together" (top 59) 485 303) ::
 (nat_lit 310,hC "_law_parted" "_law_parted" 607 608 609 [.int 272 0,.int 4 0,.int 0 0,.int 0 0,.int 3 0,.ref 305,.bool Bool.true,.int 181 0,.ref 306,.none,.ref 307,.ref 308,.ref 309,.int 620 0,.int 272 0,hT 621]) ::
 (nat_lit 311,hF "_law_parted" "_law_parted" "law_oldhands_k14_whole_paths_put_together" (top 60) 485 310) ::
 (nat_lit 317,hC "_law_put_good" "_law_put_good" 623 624 625 [.int 285 0,.int 5 0,.int 0 0,.int 0 0,.int 3 0,.ref 312,.bool Bool.true,.int 181 0,.ref 313,.none,.ref 314,.ref 315,.ref 316,.int 636 0,.int 285 0,hT 637]) ::
 (nat_lit 318,hF "_law_put_good" "_law_put_good" "law_oldhands_k14_whole_paths_put_together" (top 61) 485 317) ::
 (nat_lit 322,hC "law" "law" 639 640 641 [.int 291 0,.int 1 0,.int 0 0,.int 0 0,.int 3 0,.ref 319,.bool Bool.true,.int 181 0,.ref 320,.none,.none,.none,.ref 321,.int 642 0,.int 291 0,hT 643]) ::
 (nat_lit 323,hF "law" "law" "law_oldhands_k14_whole_paths_put_together" (top 62) 485 322) :: []
def hA:List Addr:=[2,3,15,22,23,24,25,28,35,36,37,40,47,48,49,52,56,57,63,64,70,71,77,78,84,85,91,92,98,99,103,104,108,109,115,116,122,123,129,130,136,137,141,142,146,147,153,154,158,159,165,166,170,171,175,176,180,181,185,186,190,191,197,198,204,205,211,212,216,217,223,224,230,231,237,238,244,245,251,252,258,259,265,266,272,273,279,280,286,287,291,292,296,297,303,304,310,311,317,318,322,323]
theorem hKA:∀ P,hA=(hK P).map (·.1):=fun _=>by kernel_rfl
abbrev hH:PySem.W.Hook:=PySem.W.kHook hK hA hKA
abbrev hQ:Program:=PySem.W.view PySem.Challenge.pw_oldhands_k14_whole_paths_put_together [62]
def hW:List Str:= "HandError" :: "BadKind" :: "BadPath" :: "LETTERS" :: "LONGEST_NAME" :: "EACH" :: "MOST_SIGNS" :: "MOST_WORDS" :: "MOST_FIELDS" :: "MOST_ITEMS" :: "MOST_KINDS" :: "DEEPEST" :: "PART_COUNTS" :: "is_name" :: "is_whole" :: "is_whole_within" :: "made_kind" :: "is_formed" :: "has_parts" :: "are_bounds" :: "are_words" :: "are_fields" :: "is_field" :: "are_rows" :: "field_kind" :: "item_kind" :: "kinds_within" :: "kind_many" :: "field_of" :: "entries" :: "inner_kind" :: "wheres" :: "places" :: "value_at" :: "with_values" :: "LONGEST_PATH" :: "is_path" :: "kind_along" :: "kind_at" :: "kind_with" :: "kind_put" :: "_law_mixed" :: "_law_stream" :: "_law_digit" :: "_law_leaf" :: "_law_record" :: "_law_rows" :: "_law_kind" :: "_law_shape" :: "_law_text" :: "_law_number" :: "_law_pairs" :: "_law_value" :: "_law_ways" :: "_law_parted" :: "_law_put_good" :: []
abbrev hX (s:Shared):Bool:=PySem.W.recOk (PySem.W.RowW.records (PySem.W.OpenRow.toRowW PySem.Challenge.rw_oldhands_k14_whole_paths_put_together.row)) s
theorem sR {p q:Program} {loose:List Str} {Xt:Shared→Bool} {α:Type} {Yf:Shared→α} {Ya:World→α} {N:Nat} (row:String) (h0:∀ w:World,(PySem.W.openEnds treeTable p (w.withFollow row false) N).map (fun s=>(PySem.W.openSeen q loose (importedModules p.main.body) Xt true s,Yf s))=some (PySem.W.openGood q loose,Ya (w.withFollow row false)))
  (h1:∀ w:World,(PySem.W.openEnds treeTable p (w.withFollow row true) N).map (fun s=>(PySem.W.openSeen q loose (importedModules p.main.body) Xt true s,Yf s))=some (PySem.W.openGood q loose,Ya (w.withFollow row true))):PySem.W.LeftO p q loose Xt Yf Ya N:=fun w=>by
 have e:=World.withFollow_self w row
 cases hb:w.params.followText row <;> rw [hb] at e
 ·have z:=h0 w;rw [e] at z;exact z
 ·have z:=h1 w;rw [e] at z;exact z
theorem hlF:∀ w:World,(PySem.W.openEnds treeTable PySem.Challenge.pw_oldhands_k14_whole_paths_put_together (w.withFollow "special-get-raises" false) 4384).map (fun s=>(PySem.W.openSeen hQ hW (importedModules PySem.Challenge.pw_oldhands_k14_whole_paths_put_together.main.body) hX true s,hH.obs s))=some (PySem.W.openGood hQ hW,hH.val (w.withFollow "special-get-raises" false)):=fun w=>by kernel_rfl
theorem hlT:∀ w:World,(PySem.W.openEnds treeTable PySem.Challenge.pw_oldhands_k14_whole_paths_put_together (w.withFollow "special-get-raises" true) 4384).map (fun s=>(PySem.W.openSeen hQ hW (importedModules PySem.Challenge.pw_oldhands_k14_whole_paths_put_together.main.body) hX true s,hH.obs s))=some (PySem.W.openGood hQ hW,hH.val (w.withFollow "special-get-raises" true)):=fun w=>by kernel_rfl
theorem hl:PySem.W.LeftO PySem.Challenge.pw_oldhands_k14_whole_paths_put_together hQ hW hX hH.obs hH.val 4384:=sR "special-get-raises" hlF hlT
theorem said:PySem.Challenge.rw_oldhands_k14_whole_paths_put_together.wellSaid=true:=by kernel_rfl
end K14
namespace L2
open PySem PySem.Spec PyProof.Rows
abbrev Key:=Sum Int Str
def ia:Key→Value→Bool
 | .inl k,v=>Value.isInt k v
 | .inr x,v=>Value.isStrOf x v
def xN (w:World):Key→Int
 | .inl k=>hashInt k
 | .inr x=>hashStr w x
theorem aE:∀ {k:Key} {v:Value},ia k v=true→(∃ i t,k=Sum.inl i∧v=Value.int i t)∨(∃ x t,k=Sum.inr x∧v=Value.str x t)
 | .inl i,v,h=>by
  obtain ⟨t,e⟩:=Value.isInt_shape (k:=i) (v:=v) h;exact .inl ⟨i,t,rfl,e⟩
 | .inr x,v,h=>by
  obtain ⟨t,e⟩:=Value.isStrOf_shape (x:=x) (v:=v) h;exact .inr ⟨x,t,rfl,e⟩
theorem pW (i:Int) (t:Tok):ia (.inl i) (.int i t)=true:=by simp [ia,Value.isInt]
theorem pX (x:Str) (t:Tok):ia (.inr x) (.str x t)=true:=by simp [ia,Value.isStrOf]
theorem uQ (a b:Int):decide ((Sum.inl a:Key)=Sum.inl b)=(a == b):=by
 by_cases e:a=b
 ·subst e;simp
 ·have h:¬ (Sum.inl a:Key)=Sum.inl b:=fun q=>e (Sum.inl.inj q);rw [decide_eq_false h];exact (beq_eq_false_iff_ne.mpr e).symm
theorem uR (a b:Str):decide ((Sum.inr a:Key)=Sum.inr b)=decide (a=b):=by
 by_cases e:a=b
 ·subst e;simp
 ·have h:¬ (Sum.inr a:Key)=Sum.inr b:=fun q=>e (Sum.inr.inj q);rw [decide_eq_false h,decide_eq_false e]
theorem uS (a:Int) (b:Str):decide ((Sum.inl a:Key)=Sum.inr b)=false:=decide_eq_false (fun q=>nomatch q)
theorem uT (a:Str) (b:Int):decide ((Sum.inr a:Key)=Sum.inl b)=false:=decide_eq_false (fun q=>nomatch q)
def aq (prog:Program) (w:World):PySem.KeyKind prog w Key where
 is:=ia
 hash:=xN w
 inj:=fun v a b ha hb=>by
  rcases aE ha with ⟨i,t,rfl,rfl⟩ | ⟨x,t,rfl,rfl⟩
  ·rcases aE hb with ⟨j,u,rfl,e⟩ | ⟨y,u,rfl,e⟩
   ·injection e with e1 _;rw [e1]
   ·exact nomatch e
  ·rcases aE hb with ⟨j,u,rfl,e⟩ | ⟨y,u,rfl,e⟩
   ·exact nomatch e
   ·injection e with e1 _;rw [e1]
 byValue:=fun k v h=>by
  rcases aE h with ⟨i,t,rfl,rfl⟩ | ⟨x,t,rfl,rfl⟩ <;> rfl
 pyHash:=fun hv h=>by
  rcases aE hv with ⟨i,t,rfl,rfl⟩ | ⟨x,t,rfl,rfl⟩
  ·exact wpAny_pyHash_int h
  ·exact wpAny_pyHash_str h
 eqBool:=fun hu hv h=>by
  rcases aE hu with ⟨i,t,rfl,rfl⟩ | ⟨x,t,rfl,rfl⟩
  ·rcases aE hv with ⟨j,u,rfl,rfl⟩ | ⟨y,u,rfl,rfl⟩
   ·rw [uQ] at h;exact wpAny_eqBool_int h
   ·rw [uS] at h;exact SeqAt.EqAt.int_str i t y u _ _ _ _ h
  ·rcases aE hv with ⟨j,u,rfl,rfl⟩ | ⟨y,u,rfl,rfl⟩
   ·rw [uT] at h;exact SeqAt.EqAt.str_int x t j u _ _ _ _ h
   ·rw [uR] at h;exact wpAny_eqBool_str h
 «strs»:=fun k x t v h=>by
  rcases aE h with ⟨i,u,rfl,e⟩ | ⟨y,u,rfl,e⟩
  ·exact nomatch e
  ·injection e with e1 _
   subst e1
   cases v <;> rfl
theorem lX (prog:Program) (w:World) (i:Int) (t:Tok):(aq prog w).is (.inl i) (.int i t)=true:=pW i t
theorem lY (prog:Program) (w:World) (x:Str) (t:Tok):(aq prog w).is (.inr x) (.str x t)=true:=pX x t
inductive V where
 | non | bl (b:Bool) | int (i:Int) | str (x:Str) | byt (b:Array UInt8) | flt (b:UInt64) | ref (a:Addr) | ty (n:String)
 deriving DecidableEq
def RelV:V→Value→Prop
 | .non,u=>u=Value.none
 | .bl b,u=>u=Value.bool b
 | .int i,u=>∃ t,u=Value.int i t
 | .str x,u=>∃ t,u=Value.str x t
 | .byt b,u=>∃ t,u=Value.bytes b t
 | .flt b,u=>∃ t,u=Value.float b t
 | .ref a,u=>u=Value.ref a
 | .ty n,u=>u=Value.type n
abbrev Vals:List V→List Value→Prop:=Paired RelV
theorem Vals.length {xs:List V} {us:List Value} (r:Vals xs us):xs.length=us.length:=Paired.length r
theorem Vals.get:∀ {xs:List V} {us:List Value} {i:Nat} {x:V},Vals xs us→xs[i]?=some x→∃ u,us[i]?=some u∧RelV x u
 | _,_,_,_,.nil,e=>by simp at e
 | _,_,0,_,.cons r _,e=>by simp at e;subst e;exact ⟨_,rfl,r⟩
 | _,_,i+1,x,.cons _ t,e=>by
  obtain ⟨u,h1,h2⟩:=Vals.get (i:=i) (x:=x) t (by simpa using e);exact ⟨u,by simpa using h1,h2⟩
theorem Vals.set {x:V} {u:Value} (r:RelV x u):∀ {xs:List V} {us:List Value} (i:Nat),Vals xs us→Vals (xs.set i x) (us.set i u)
 | _,_,_,.nil=>.nil
 | _,_,0,.cons _ t=>.cons r t
 | _,_,i+1,.cons q t=>.cons q (Vals.set r i t)
theorem Vals.append:∀ {xs ys:List V} {us ws:List Value},Vals xs us→Vals ys ws→Vals (xs++ys) (us++ws)
 | _,_,_,_,.nil,s=>s
 | _,_,_,_,.cons r t,s=>.cons r (Vals.append t s)
theorem Vals.take:∀ {xs:List V} {us:List Value} (n:Nat),Vals xs us→Vals (xs.take n) (us.take n)
 | _,_,0,_=>.nil
 | _,_,_+1,.nil=>.nil
 | _,_,n+1,.cons r t=>.cons r (Vals.take n t)
theorem Vals.drop:∀ {xs:List V} {us:List Value} (n:Nat),Vals xs us→Vals (xs.drop n) (us.drop n)
 | _,_,0,r=>r
 | _,_,_+1,.nil=>.nil
 | _,_,n+1,.cons _ t=>Vals.drop n t
def RelO:Option V→Option Value→Prop
 | some v,some u=>RelV v u
 | none,none=>True
 | _,_=>False
def KV {κ:Type}:List (κ×V)→List (κ×Value)→Prop:=Paired fun (p:κ×V) (q:κ×Value)=>p.1=q.1∧RelV p.2 q.2
def kV:Key→V
 | .inl i=>.int i
 | .inr x=>.str x
inductive HO where
 | lst (xs:List V)
 | tup (xs:List V)
 | dK (kvs:List (Key×V)) | dT (kvs:List (List Key×V))
 | set (S:Int→Bool) (n:Nat)
 | ins (C dx:Addr) (fs:List (Str×V))
 | own (x:Addr)
 | xd (fs:List (Str×V))
 | met (f x:Addr)
 | rng (lo hi:Int)
 | frz (o:Obj) (u:HO)
 | tbl (ps:Array Value)
 | ext (φ:Heap→Prop)
abbrev Hp:=Addr→Option HO
def upd (H:Hp) (a:Addr) (o:HO):Hp:=fun b=>if b=a then some o else H b
theorem aa {H:Hp} {a:Addr} {o:HO}:upd H a o a=some o:=by unfold upd;rw [if_pos rfl]
theorem af {H:Hp} {a b:Addr} {o:HO} (h:b≠a):upd H a o b=H b:=by unfold upd;rw [if_neg h]
theorem sS {H:Hp} {a:Addr} {o u:HO}:upd (upd H a o) a u=upd H a u:=by
 funext b;unfold upd;split <;> rfl
theorem gj {H:Hp} {a b:Addr} {o u:HO} (h:H a=some o) (h':H b=some u) (d:o≠u):a≠b:=by
 intro e;subst e;rw [h] at h';exact d (Option.some.inj h')
theorem ae {H:Hp} {a b:Addr} {o:HO} (h:H a=some o) (h':H b=none):a≠b:=by
 intro e;subst e;rw [h] at h';cases h'
section
variable (P:Program) (w:World)
def ObjOk (H:Hp) (h:Heap) (a:Addr):HO→Prop
 | .lst xs=>xs.length≤sizeLine∧∃ (its:List Value) (n:Nat),Vals xs its∧h.get? a=some { cls:=.type "list",data:=.seq its.toArray n }
 | .tup xs=>xs.length≤sizeLine∧∃ its:List Value,Vals xs its∧IsTup h a its.toArray
 | .dK kvs=>kvs.length≤sizeLine∧(a == sysModules)=false∧∃ vs,KV kvs vs∧h.DictOf (aq P w) a vs
 | .dT kvs=>kvs.length≤sizeLine∧(a == sysModules)=false∧∃ xs:List (List Key×Addr×Value),
   Paired (fun (p:List Key×V) (q:List Key×Addr×Value)=>p.1=q.1∧H q.2.1=some (.tup (p.1.map kV))∧RelV p.2 q.2.2) kvs xs ∧
   ∃ o es ep,h.get? a=some o∧o.ExactDict∧o.data=.dict es ep∧es.toList=xs.map (entryOfKey (tupleKind (aq P w)))∧(xs.map (·.1)).Nodup
 | .set S n=>h.SetOf (intKind P w) a S n
 | .ins C dx fs=>H dx=some (.own a)∧fs.length≤1000∧dx≠a∧h.get? a=some (PySem.W.instObj C dx) ∧
   ∃ mA,h.Ns1 dx mA∧(∀ f,RelO (fs.lookup f) (mA f))∧PySem.Within mA (fs.map (·.1))
 | .own _=>∃ o,h.get? a=some o
 | .xd fs=>∃ mA,h.Ns1 a mA∧∀ f,RelO (fs.lookup f) (mA f)
 | .rng lo hi=>∃ t u v,h.get? a=some { cls:=.type "range",data:=.fields #[.int lo t,.int hi u,.int 1 v] }
 | .frz o u=>h.get? a=some o∧ObjOk H h a u
 | .tbl ps=>h.get? a=some { cls:=.none,data:=.fields ps }
 | .met f x=>h.get? a=some (PySem.W.methodObj (.ref f) (.ref x))
 | .ext φ=>φ h∧(∃ o,h.get? a=some o)∧∀ h1 h2:Heap,φ h1→(∀ o,h1.get? a=some o→h2.get? a=some o)→φ h2
def HOk (H:Hp) (h:Heap):Prop:=∀ a o,H a=some o→ObjOk P w H h a o
end
section
variable {P:Program} {w:World} {H H':Hp} {h h':Heap} {a:Addr} {o:HO}
theorem ObjOk.lt (x:ObjOk P w H h a o):a < h.objs.size:=by
 cases o with
 | lst xs=>obtain ⟨_,_,_,_,e⟩:=x;exact Heap.lt_size e
 | tup xs=>obtain ⟨_,_,_,p⟩:=x;exact p.lt
 | dK kvs=>obtain ⟨_,_,_,_,o,_,_,e,_⟩:=x;exact Heap.lt_size e
 | dT kvs=>obtain ⟨_,_,_,_,o,_,_,e,_⟩:=x;exact Heap.lt_size e
 | set S n=>obtain ⟨o,_,_,_,e,_⟩:=x;exact Heap.lt_size e
 | ins C dx fs=>obtain ⟨_,_,_,e,_⟩:=x;exact Heap.lt_size e
 | own y=>obtain ⟨_,e⟩:=x;exact Heap.lt_size e
 | xd fs=>obtain ⟨_,⟨_,_,_,e,_⟩,_⟩:=x;exact Heap.lt_size e
 | rng lo hi=>obtain ⟨_,_,_,e⟩:=x;exact Heap.lt_size e
 | frz ob u=>obtain ⟨e,_⟩:=x;exact Heap.lt_size e
 | tbl ps=>exact Heap.lt_size (show h.get? a=some _ from x)
 | met f y=>exact Heap.lt_size (show h.get? a=some _ from x)
 | ext φ=>obtain ⟨_,⟨_,e⟩,_⟩:=x;exact Heap.lt_size e
theorem Paired.mapP {α β:Type} {F G:α→β→Prop}:∀ {l₁:List α} {l₂:List β},Paired F l₁ l₂→(∀ a b,F a b→G a b)→Paired G l₁ l₂
 | _,_,.nil,_=>.nil
 | _,_,.cons r t,f=>.cons (f _ _ r) (Paired.mapP t f)
theorem ObjOk.stay (x:ObjOk P w H h a o) (k:∀ b u,(b=a∨H b=some (.own a))→h.get? b=some u→h'.get? b=some u)
  (ho:∀ b,H b=some (.own a)→H' b=some (.own a)) (ht:∀ b xs,H b=some (.tup xs)→H' b=some (.tup xs)):ObjOk P w H' h' a o:=by
 induction o with
 | lst xs=>obtain ⟨z,its,n,r,e⟩:=x;exact ⟨z,its,n,r,k _ _ (.inl rfl) e⟩
 | tup xs=>obtain ⟨z,its,r,ob,e,c⟩:=x;exact ⟨z,its,r,ob,k _ _ (.inl rfl) e,c⟩
 | dK kvs=>obtain ⟨z,y,vs,r,ob,es,ep,e,c⟩:=x;exact ⟨z,y,vs,r,ob,es,ep,k _ _ (.inl rfl) e,c⟩
 | dT kvs =>
  obtain ⟨z,y,xs,r,ob,es,ep,e,c⟩:=x;exact ⟨z,y,xs,Paired.mapP r fun p q z=>⟨z.1,ht _ _ z.2.1,z.2.2⟩,ob,es,ep,k _ _ (.inl rfl) e,c⟩
 | set S n=>obtain ⟨ob,es,ep,t,e,c⟩:=x;exact ⟨ob,es,ep,t,k _ _ (.inl rfl) e,c⟩
 | ins C dx fs =>
  obtain ⟨d,z,ne,e,mA,⟨od,es,ep,e2,c⟩,r⟩:=x;exact ⟨ho _ d,z,ne,k _ _ (.inl rfl) e,mA,⟨od,es,ep,k _ _ (.inr d) e2,c⟩,r⟩
 | own y=>obtain ⟨ob,e⟩:=x;exact ⟨ob,k _ _ (.inl rfl) e⟩
 | xd fs=>obtain ⟨mA,⟨od,es,ep,e,c⟩,r⟩:=x;exact ⟨mA,⟨od,es,ep,k _ _ (.inl rfl) e,c⟩,r⟩
 | rng lo hi=>obtain ⟨t,u,v,e⟩:=x;exact ⟨t,u,v,k _ _ (.inl rfl) e⟩
 | frz ob u ih=>obtain ⟨e,q⟩:=x;exact ⟨k _ _ (.inl rfl) e,ih q⟩
 | tbl ps =>
  have e:h.get? a=some { cls:=.none,data:=.fields ps }:=x;show h'.get? a=some { cls:=.none,data:=.fields ps };exact k a _ (.inl rfl) e
 | met f y =>
  have e:h.get? a=some (PySem.W.methodObj (.ref f) (.ref y)):=x;show h'.get? a=some (PySem.W.methodObj (.ref f) (.ref y));exact k a _ (.inl rfl) e
 | ext φ=>obtain ⟨p,⟨o,e⟩,st⟩:=x;exact ⟨st _ _ p fun o q=>k _ _ (.inl rfl) q,⟨o,k _ _ (.inl rfl) e⟩,st⟩
theorem HOk.lt (x:HOk P w H h) (e:H a=some o):a < h.objs.size:=(x a o e).lt
theorem HOk.fresh (x:HOk P w H h) (e:h.objs.size≤a):H a=none:=by
 cases q:H a with
 | none=>rfl
 | some u=>exact absurd (Nat.lt_of_lt_of_le (x.lt q) e) (Nat.lt_irrefl _)
theorem HOk.kept (x:HOk P w H h) (k:∀ b u,h.get? b=some u→h'.get? b=some u):HOk P w H h':=fun a o e =>
 (x a o e).stay (fun b u _ q=>k b u q) (fun _ q=>q) fun _ _ q=>q
theorem HOk.laid (x:HOk P w H h) (k:∀ b u,h.get? b=some u→h'.get? b=some u) (hp:h.objs.size≤a) (new:ObjOk P w (upd H a o) h' a o):HOk P w (upd H a o) h':=fun b u e=>by
 have hn:=x.fresh hp
 by_cases hb:b=a
 ·subst hb;rw [aa] at e;cases e;exact new
 ·rw [af hb] at e;exact (x b u e).stay (fun c v _ q=>k c v q) (fun c q=>by rw [af (ae q hn)];exact q) fun c xs q=>by rw [af (ae q hn)];exact q
end
def Rd (H:Hp) (a:Addr) (u:HO):Prop:=H a=some u∨∃ o,H a=some (.frz o u)
theorem Rd.ok {P:Program} {w:World} {H:Hp} {h:Heap} {a:Addr} {u:HO} (r:Rd H a u) (x:HOk P w H h):ObjOk P w H h a u:=by
 rcases r with r | ⟨o,r⟩
 ·exact x a u r
 ·obtain ⟨_,q⟩:=x a _ r;exact q
def Mut:Option HO→Prop
 | some (.lst _)=>True
 | some (.dK _)=>True
 | some (.dT _)=>True
 | some (.set _ _)=>True
 | some (.ins _ _ _)=>True
 | some (.ext _)=>True
 | _=>False
section
variable {P:Program} {w:World} {H:Hp} {h h':Heap} {x e:Addr} {o':HO}
theorem HOk.write (ok:HOk P w H h) (mu:Mut (H x)) (he:e=x∨H e=some (.own x)) (k:∀ b u,b≠e→h.get? b=some u→h'.get? b=some u) (heo:∃ u,h'.get? e=some u)
  (new:ObjOk P w (upd H x o') h' x o'):HOk P w (upd H x o') h':=fun b u q=>by
 have nown:∀ c y,H c=some (.own y)→c≠x:=fun c y r z=>by subst z;rw [r] at mu;exact mu
 have ntup:∀ c xs,H c=some (.tup xs)→c≠x:=fun c xs r z=>by subst z;rw [r] at mu;exact mu
 by_cases hb:b=x
 ·subst hb;rw [aa] at q;cases q;exact new
 ·rw [af hb] at q
  by_cases hbe:b=e
  ·have q':H b=some (.own x):=by
    rcases he with z | z
    ·exact absurd (hbe.trans z) hb
    ·rw [hbe];exact z
   rw [q] at q';cases q';obtain ⟨v,hv⟩:=heo;exact ⟨v,by rw [hbe];exact hv⟩
  ·refine (ok b u q).stay (fun c v hc r=>k c v ?_ r) (fun c r=>by rw [af (nown c b r)];exact r) fun c xs r=>by rw [af (ntup c xs r)];exact r
   rcases hc with rfl | hc
   ·exact hbe
   ·rintro rfl;rcases he with z | z
    ·exact nown c b hc z
    ·rw [hc] at z;cases z;exact hb rfl
end
structure Un (fs ex:List Addr) (H H':Hp) (h h':Heap):Prop where
 keep:∀ b o,h.get? b=some o→H b=none→b∉fs→b∉ex→h'.get? b=some o
 slot:∀ b o,h.get? b=some o→H b=none→b∈fs→b∉ex→∃ sl,h'.get? b=some { o with slots:=sl }
 free:∀ b o,h.get? b=some o→H b=none→b∉ex→H' b=none
 there:∀ b o,h.get? b=some o→b∉ex→∃ o',h'.get? b=some o'
 tups:∀ b xs,H b=some (.tup xs)→H' b=some (.tup xs)
 frzs:∀ b o u,H b=some (.frz o u)→H' b=some (.frz o u)
 tbls:∀ b ps,H b=some (.tbl ps)→∃ more,H' b=some (.tbl (ps++more))
section
variable {fs fs' ex ex':List Addr} {H H1 H2:Hp} {h h1 h2 h':Heap} {a x e:Addr} {o:HO}
theorem Un.any (u:Un fs ex H H1 h h1) {b:Addr} {ob:Obj} (q:h.get? b=some ob) (n:H b=none) (hx:b∉ex):∃ sl,h1.get? b=some { ob with slots:=sl }:=by
 by_cases hb:b∈fs
 ·exact u.slot b ob q n hb hx
 ·exact ⟨ob.slots,u.keep b ob q n hb hx⟩
theorem Un.kept (k:∀ b u,h.get? b=some u→h'.get? b=some u):Un fs ex H H h h' :=
 ⟨fun b ob q _ _ _=>k b ob q,fun b ob q _ _ _=>⟨ob.slots,k b ob q⟩,fun _ _ _ n _=>n,fun b ob q _=>⟨ob,k b ob q⟩,fun _ _ q=>q,fun _ _ _ q=>q,fun _ ps q=>⟨#[],by rw [q];simp⟩⟩
theorem Un.refl:Un fs ex H H h h:=Un.kept fun _ _ q=>q
theorem Un.laid (k:∀ b u,h.get? b=some u→h'.get? b=some u) (hp:h.objs.size≤a) (hn:H a=none):Un fs ex H (upd H a o) h h' where
 keep:=fun b u q _ _ _=>k b u q
 slot:=fun b u q _ _ _=>⟨u.slots,k b u q⟩
 free:=fun b u q n _=>by rw [af (Nat.ne_of_lt (Nat.lt_of_lt_of_le (Heap.lt_size q) hp))];exact n
 there:=fun b u q _=>⟨u,k b u q⟩
 tups:=fun b xs q=>by rw [af (ae q hn)];exact q
 frzs:=fun b u xs q=>by rw [af (ae q hn)];exact q
 tbls:=fun b ps q=>⟨#[],by rw [af (ae q hn),q];simp⟩
theorem Un.write (mu:Mut (H x)) (he:e=x∨H e=some (.own x)) (k:∀ b u,b≠e→h.get? b=some u→h'.get? b=some u) (heo:∃ u,h'.get? e=some u):Un fs ex H (upd H x o) h h':=by
 have hx:∀ b,H b=none→b≠x:=fun b n z=>by subst z;rw [n] at mu;exact mu
 have hb:∀ b,H b=none→b≠e:=fun b n z=>by
  subst z;rcases he with r | r
  ·exact hx b n r
  ·rw [n] at r;cases r
 have hm:∀ b u,H b=some u→¬ Mut (some u)→b≠x:=fun b u q nm z=>by subst z;rw [q] at mu;exact nm mu
 refine ⟨fun b u q n _ _=>k b u (hb b n) q,fun b u q n _ _=>⟨u.slots,k b u (hb b n) q⟩,fun b u q n _=>by rw [af (hx b n)];exact n,fun b u q _=>?_,
  fun b xs q=>by rw [af (hm b _ q fun z=>z)];exact q,fun b u xs q=>by rw [af (hm b _ q fun z=>z)];exact q,fun b ps q=>⟨#[],by rw [af (hm b _ q fun z=>z),q];simp⟩⟩
 by_cases hbe:b=e
 ·subst hbe;exact heo
 ·exact ⟨u,k b u hbe q⟩
end
def trk (h:Heap) (H:Hp):List Addr:=(List.range h.objs.size).filter fun a=>(H a).isSome
def j3 (h:Heap) (H:Hp):Heap:=PySem.W.hideAll h (trk h H)
theorem pY (h:Heap) (H:Hp):(j3 h H).objs.size=h.objs.size:=PySem.W.hideAll_size _ _
theorem qK {h:Heap} {H:Hp} {b:Addr} {o:Obj} (e:h.get? b=some o) (n:H b=none):(j3 h H).get? b=some o :=
 PySem.W.hideAll_get _ e fun hm=>by
  have q:(H b).isSome=true:=(List.mem_filter.mp hm).2;rw [n] at q;simp at q
theorem sT {h:Heap} {H:Hp} {b:Addr} {o:Obj} (e:(j3 h H).get? b=some o):h.get? b=some o∧H b=none:=by
 have e':h.get? b=some o:=PySem.W.of_hideAll (trk h H) e;refine ⟨e',?_⟩
 cases q:H b with
 | none=>rfl
 | some x =>
  have hm:b∈trk h H:=List.mem_filter.mpr ⟨List.mem_range.mpr (Heap.lt_size e'),by simp [q]⟩;have z:(j3 h H).get? b=none:=PySem.W.hideAll_none (trk h H) hm;rw [z] at e;cases e
def sU (g h:Heap) (L:Addr):List (Addr×Obj):=(List.range h.objs.size).filterMap fun a=>if a=L∨(g.get? a).isSome=true then none else (h.get? a).map fun o=>(a,o)
def rest (g h:Heap) (L d:Addr):List (Addr×Obj):=(sU g h L).filter fun p=>decide (p.1≠d)
structure Mod (K:PySem.W.Frag) (mg:Str→Option Value) (base:Heap):Prop where
 kin:K.In base
 glob:base.Ns mainGlobals mg
 blt:∃ mb,base.Ns builtinsNs mb∧∀ x:Str,x≠ "__name__" →mb x=bootBuiltins x
 nolimit:base.NoLimit
structure Cx where
 prog:Program
 w:World
 K:PySem.W.Frag
 mg:Str→Option Value
 base:Heap
 A:Around
 N:List Str
 s₀:Shared
 H₀:Hp
 env:Env
 outer:List Env
 stack:List Env
 ex:List Addr
 fn:Str→Bool
 calm:Bool
 pn:List (Addr×Obj)
 xe:Value→Shared→Prop
def frs (l:List Env):List Addr:=l.filterMap (·.frame)
abbrev Cx.fs (X:Cx):List Addr:=frs X.outer
def Vis (sc:Scope) (x:Str):Prop:=sc.names.lookup x=some .local∨sc.names.lookup x=some .cell∨sc.names.lookup x=some .free
def Loc (sc:Scope) (x:Str):Prop:=sc.names.lookup x=some .local∨sc.names.lookup x=some .cell
def xO (env:Env) (h:Heap) (m:Str→Option Value) (x:Str) (u:Value):Prop :=
 (env.kindOf x=some .local∧m x=some u)∨((env.kindOf x=some .cell∨env.kindOf x=some .free)∧∃ c,env.cells.lookup x=some c∧h.IsCell c (some u))
structure Cx.Ok (X:Cx):Prop where
 mod:Mod X.K X.mg X.base
 kind:X.env.scope.kind=.function
 glob:X.env.globals=mainGlobals
 blt:X.env.builtins=builtinsNs
 above:X.s₀.heap.objs.size≤X.env.locals
 inj:∀ x y c,X.env.cells.lookup x=some c→X.env.cells.lookup y=some c→x=y
 has:∀ x,(X.env.kindOf x=some .cell∨X.env.kindOf x=some .free)→∃ c,X.env.cells.lookup x=some c
 cab:∀ x c,X.fn x=true→X.env.cells.lookup x=some c→X.s₀.heap.objs.size≤c
 hd:X.calm=true→X.A.handled=none
 frames:X.A.frames=some X.stack
 stk:X.stack=X.outer∨(X.stack=X.env :: X.outer∧X.env.frame=some X.env.locals)
 exf:∀ b∈X.ex,b≠X.env.locals∧∀ x c,X.env.cells.lookup x=some c→c≠b
 bs:∀ b o,X.base.get? b=some o→X.s₀.heap.get? b=some o∧X.H₀ b=none
 bsz:X.base.objs.size≤X.s₀.heap.objs.size
 noex:∀ b o,X.base.get? b=some o→b∉X.ex
 exfs:∀ b∈X.ex,b∉X.fs
 funs:X.s₀.heap.FunFrames X.base X.outer
 frf:∀ b∈X.fs,X.H₀ b=none
structure Inv (X:Cx) (pins:List (Addr×Obj)) (σ:List (Option V)) (H:Hp) (s:Shared):Prop where
 ok:X.Ok
 os:s.os=X.s₀.os
 bare:AllBare s.gens
 base:Un X.fs X.ex X.H₀ H X.s₀.heap s.heap
 loc:∃ m,s.heap.Ns X.env.locals m∧∀ (i:Nat) (x:Str) (v:V),X.N[i]?=some x→σ[i]?=some (some v)→Vis X.env.scope x→∃ u,RelV v u∧xO X.env s.heap m x u
 cell:∀ x c,X.env.cells.lookup x=some c→∃ v,s.heap.IsCell c v
 free:H X.env.locals=none
 freeC:∀ x c,X.env.cells.lookup x=some c→H c=none
 pin:∀ p∈X.pn++pins,s.heap.get? p.1=some p.2∧H p.1=none∧p.1≠X.env.locals∧p.1∉X.fs∧∀ v,p.2.data≠.cell v
 hok:HOk X.prog X.w H s.heap
 len:σ.length=X.N.length
section
variable {X:Cx} {pins:List (Addr×Obj)} {σ:List (Option V)} {H H':Hp} {s:Shared} {h':Heap}
theorem Cx.Ok.nofr (ok:X.Ok) {b:Addr} {o:Obj} (e:X.base.get? b=some o):b∉X.fs:=fun hb=>by
 have:=(ok.funs.mem hb).1;rw [e] at this;cases this
theorem Inv.bs (I:Inv X pins σ H s):∀ b o,X.base.get? b=some o→s.heap.get? b=some o∧H b=none:=fun b o e =>
 ⟨I.base.keep b o (I.ok.bs b o e).1 (I.ok.bs b o e).2 (I.ok.nofr e) (I.ok.noex b o e),I.base.free b o (I.ok.bs b o e).1 (I.ok.bs b o e).2 (I.ok.noex b o e)⟩
theorem Inv.bk (I:Inv X pins σ H s):∀ b o,X.base.get? b=some o→s.heap.get? b=some o:=fun b o e=>(I.bs b o e).1
theorem Inv.mod (I:Inv X pins σ H s):Mod X.K X.mg X.base:=I.ok.mod
theorem Inv.kIn (I:Inv X pins σ H s):X.K.In s.heap:=I.ok.mod.kin.keeps I.bk
theorem Inv.lt (I:Inv X pins σ H s):X.env.locals < s.heap.objs.size:=let ⟨_,hn,_⟩:=I.loc;hn.lt
theorem Inv.sz (I:Inv X pins σ H s):X.s₀.heap.objs.size≤s.heap.objs.size:=Nat.le_trans I.ok.above (Nat.le_of_lt I.lt)
theorem Inv.nofs (I:Inv X pins σ H s) {a:Addr} (h:s.heap.objs.size≤a):a∉X.fs:=fun hb=>by
 obtain ⟨_,o,ho,_⟩:=I.ok.funs.mem hb;exact absurd (Nat.lt_of_lt_of_le (Heap.lt_size ho) (Nat.le_trans I.sz h)) (Nat.lt_irrefl _)
theorem Inv.cne (I:Inv X pins σ H s):∀ x c,X.env.cells.lookup x=some c→c≠X.env.locals:=fun x c e z=>by
 obtain ⟨v,o,ho,hd⟩:=I.cell x c e;obtain ⟨m,⟨o',es,ep,ho',hd',_⟩,_⟩:=I.loc;rw [z,ho'] at ho;cases ho;rw [hd'] at hd;cases hd
theorem Inv.funs (I:Inv X pins σ H s):s.heap.FunFrames X.base X.outer:=by
 have all:∀ (l:List Env),(∀ b∈frs l,b∈X.fs)→X.s₀.heap.FunFrames X.base l→s.heap.FunFrames X.base l:=by
  intro l
  induction l with
  | nil=>intro _ _;trivial
  | cons env r ih =>
   intro hs hl;obtain ⟨hk,⟨L,o,hf,hn,ho,hd⟩,hr⟩:=hl;have hL:L∈X.fs:=hs L (by unfold frs;rw [List.filterMap_cons,hf];exact List.mem_cons_self);obtain ⟨sl,e⟩:=I.base.slot L o ho (I.ok.frf L hL) hL fun z=>I.ok.exfs L z hL;exact ⟨hk,⟨L,_,hf,hn,e,hd⟩,ih (fun b hb=>hs b (by unfold frs;rw [List.filterMap_cons,hf];exact List.mem_cons_of_mem _ hb)) hr⟩
 exact all X.outer (fun _ hb=>hb) I.ok.funs
theorem Inv.stack (I:Inv X pins σ H s):s.heap.FunFrames X.base X.stack:=by
 rcases I.ok.stk with e | ⟨e,hf⟩
 ·rw [e];exact I.funs
 ·rw [e];obtain ⟨m,hn,_⟩:=I.loc;refine .cons (by rw [I.ok.kind];decide) hf hn ?_ I.funs;exact Heap.get?_none_of_le (Nat.le_trans I.ok.bsz I.ok.above)
theorem Inv.stkSub (I:Inv X pins σ H s):∀ b∈frs X.stack,b∈X.env.locals :: X.fs:=fun b hb=>by
 rcases I.ok.stk with e | ⟨e,hf⟩
 ·rw [e] at hb;exact List.mem_cons_of_mem _ hb
 ·rw [e] at hb;unfold frs at hb;rw [List.filterMap_cons,hf] at hb;exact hb
theorem Inv.stkFree (I:Inv X pins σ H s):∀ b∈frs X.stack,H b=none:=fun b hb=>by
 rcases List.mem_cons.mp (I.stkSub b hb) with e | hb
 ·rw [e];exact I.free
 ·obtain ⟨_,o,ho,_⟩:=I.ok.funs.mem hb;exact I.base.free b o ho (I.ok.frf b hb) fun z=>I.ok.exfs b z hb
theorem Inv.step {g':Array GenState} {t':Nat} {d':Drawn} {ch:List Addr} (I:Inv X pins σ H s)
  (hch:∀ b∈ch,(b∈X.ex∨X.s₀.heap.objs.size≤b)∧b≠X.env.locals∧(∀ x c,X.env.cells.lookup x=some c→c≠b)∧∀ p∈X.pn++pins,p.1≠b)
  (keep:∀ b o,b≠X.env.locals→b∉X.fs→b∉ch→s.heap.get? b=some o→H b=none→h'.get? b=some o)
  (slot:∀ b o,b≠X.env.locals→b∈X.fs→b∉ch→s.heap.get? b=some o→H b=none→∃ sl,h'.get? b=some { o with slots:=sl }) (free:∀ b o,b∉ch→s.heap.get? b=some o→H b=none→H' b=none)
  (there:∀ b o,b∉ch→s.heap.get? b=some o→∃ o',h'.get? b=some o')
  (tups:∀ b xs,H b=some (.tup xs)→H' b=some (.tup xs)) (frzs:∀ b o u,H b=some (.frz o u)→H' b=some (.frz o u)) (tbls:∀ b ps,H b=some (.tbl ps)→∃ more,H' b=some (.tbl (ps++more)))
  (ns:∀ m,s.heap.Ns X.env.locals m→h'.Ns X.env.locals m) (hok:HOk X.prog X.w H' h') (hg:AllBare g') :
  Inv X pins σ H' { s with heap:=h',gens:=g',drawn:=d',toks:=t' }:=by
 have neL:∀ b o,X.s₀.heap.get? b=some o→b≠X.env.locals:=fun b o e=>Nat.ne_of_lt (Nat.lt_of_lt_of_le (Heap.lt_size e) I.ok.above);have neC:∀ b o,X.s₀.heap.get? b=some o→b∉X.ex→b∉ch:=fun b o e hx hb=>by
  rcases (hch b hb).1 with z | z
  ·exact hx z
  ·exact absurd (Nat.lt_of_lt_of_le (Heap.lt_size e) z) (Nat.lt_irrefl _)
 have cellK:∀ x c,X.env.cells.lookup x=some c→∀ v,s.heap.IsCell c v→h'.IsCell c v:=fun x c e v ⟨o,ho,hd⟩=>by
  have nch:c∉ch:=fun z=>(hch c z).2.2.1 x c e rfl
  by_cases hc:c∈X.fs
  ·obtain ⟨sl,q⟩:=slot c o (I.cne x c e) hc nch ho (I.freeC x c e);exact ⟨_,q,hd⟩
  ·exact ⟨o,keep c o (I.cne x c e) hc nch ho (I.freeC x c e),hd⟩
 refine ⟨I.ok,I.os,hg,⟨fun b o e n hb hx=>?_,fun b o e n hb hx=>?_,fun b o e n hx=>?_,fun b o e hx=>?_,fun b xs e=>tups b xs (I.base.tups b xs e),fun b o xs e=>frzs b o xs (I.base.frzs b o xs e),fun b ps e=>?_⟩,?_,fun x c e=>?_,?_,fun x c e=>?_,fun p hp=>?_,hok,I.len⟩
 ·exact keep b o (neL b o e) hb (neC b o e hx) (I.base.keep b o e n hb hx) (I.base.free b o e n hx)
 ·obtain ⟨sl,e1⟩:=I.base.slot b o e n hb hx;obtain ⟨sl',e2⟩:=slot b _ (neL b o e) hb (neC b o e hx) e1 (I.base.free b o e n hx);exact ⟨sl',e2⟩
 ·obtain ⟨o',e1⟩:=I.base.there b o e hx;exact free b o' (neC b o e hx) e1 (I.base.free b o e n hx)
 ·obtain ⟨o',e1⟩:=I.base.there b o e hx;exact there b o' (neC b o e hx) e1
 ·obtain ⟨m1,e1⟩:=I.base.tbls b ps e;obtain ⟨m2,e2⟩:=tbls b _ e1;exact ⟨m1++m2,by rw [e2,Array.append_assoc]⟩
 ·obtain ⟨m,hn,hl⟩:=I.loc;refine ⟨m,ns m hn,fun i x v e1 e2 e3=>?_⟩;obtain ⟨u,r,l⟩:=hl i x v e1 e2 e3;refine ⟨u,r,?_⟩;rcases l with l | ⟨k,c,e,z⟩
  ·exact .inl l
  ·exact .inr ⟨k,c,e,cellK x c e _ z⟩
 ·obtain ⟨v,z⟩:=I.cell x c e;exact ⟨v,cellK x c e v z⟩
 ·obtain ⟨m,⟨o,_,_,ho,_⟩,_⟩:=I.loc;exact free _ o (fun z=>(hch _ z).2.1 rfl) ho I.free
 ·obtain ⟨v,o,ho,hd⟩:=I.cell x c e;exact free c o (fun z=>(hch c z).2.2.1 x c e rfl) ho (I.freeC x c e)
 ·obtain ⟨e,n,ne,nf,d⟩:=I.pin p hp;have nch:p.1∉ch:=fun z=>(hch p.1 z).2.2.2 p hp rfl;exact ⟨keep p.1 p.2 ne nf nch e n,free p.1 p.2 nch e n,ne,nf,d⟩
theorem Inv.un {t':Nat} (I:Inv X pins σ H s) (u:Un X.fs [] H H' s.heap h') (hok:HOk X.prog X.w H' h'):Inv X pins σ H' { s with heap:=h',toks:=t' }:=by
 obtain ⟨m,⟨o,es,ep,ho,r⟩,_⟩:=id I.loc;obtain ⟨sl,hL⟩:=u.any ho I.free (by simp);exact I.step (g':=s.gens) (d':=s.drawn) (ch:=[]) (fun _ z=>nomatch z) (fun b o _ hb _ e n=>u.keep b o e n hb (by simp)) (fun b o _ hb _ e n=>u.slot b o e n hb (by simp)) (fun b o _ e n=>u.free b o e n (by simp)) (fun b o _ e=>u.there b o e (by simp)) u.tups u.frzs u.tbls (fun m' hm=>by
  obtain ⟨o',es',ep',ho',r'⟩:=hm;rw [ho] at ho';cases ho';exact ⟨_,es',ep',hL,r'⟩) hok I.bare
theorem Inv.call {g':Array GenState} {t':Nat} {d':Drawn} {ch:List Addr} (I:Inv X pins σ H s) (u:Un (frs X.stack) ch H H' s.heap h') (hok:HOk X.prog X.w H' h') (hg:AllBare g')
  (hch:∀ b∈ch,(b∈X.ex∨X.s₀.heap.objs.size≤b)∧b≠X.env.locals∧(∀ x c,X.env.cells.lookup x=some c→c≠b)∧∀ p∈X.pn++pins,p.1≠b) :
  Inv X pins σ H' { s with heap:=h',gens:=g',drawn:=d',toks:=t' }:=by
 obtain ⟨m,⟨o,es,ep,ho,r⟩,_⟩:=id I.loc;obtain ⟨sl,hL⟩:=u.any ho I.free fun z=>(hch _ z).2.1 rfl;exact I.step (ch:=ch) hch (fun b o hL hb hc e n=>u.keep b o e n (fun z=>(List.mem_cons.mp (I.stkSub b z)).elim hL hb) hc) (fun b o _ _ hc e n=>u.any e n hc) (fun b o hc e n=>u.free b o e n hc) (fun b o hc e=>u.there b o e hc) u.tups u.frzs u.tbls (fun m' hm=>by
  obtain ⟨o',es',ep',ho',r'⟩:=hm;rw [ho] at ho';cases ho';exact ⟨_,es',ep',hL,r'⟩) hok hg
theorem Inv.turned {t':Nat} {it:Addr} (I:Inv X pins σ H s) (k:∀ b o,b≠it→s.heap.get? b=some o→h'.get? b=some o) (hn:H it=none) (hL:it≠X.env.locals)
  (h1:it∈X.ex∨X.s₀.heap.objs.size≤it) (h2:∀ x c,X.env.cells.lookup x=some c→c≠it) (h3:∀ p∈X.pn++pins,p.1≠it):Inv X pins σ H { s with heap:=h',toks:=t' }:=by
 have nit:∀ b u,H b=some u→b≠it:=fun b u e z=>by rw [z,hn] at e;cases e
 refine I.step (g':=s.gens) (d':=s.drawn) (ch:=[it]) (fun b hb=>?_) (fun b o _ _ hc e _=>k b o (fun z=>hc (by simp [z])) e) (fun b o _ _ hc e _=>⟨o.slots,k b o (fun z=>hc (by simp [z])) e⟩) (fun _ _ _ _ n=>n)
  (fun b o hc e=>⟨o,k b o (fun z=>hc (by simp [z])) e⟩) (fun _ _ e=>e) (fun _ _ _ e=>e) (fun b ps e=>⟨#[],by rw [e];simp⟩) (fun m hm=>?_) (fun b u e=>?_) I.bare
 ·have e:b=it:=by simpa using hb
  subst e;exact ⟨h1,hL,h2,h3⟩
 ·obtain ⟨o,es,ep,ho,r⟩:=hm;exact ⟨o,es,ep,k _ o (Ne.symm hL) ho,r⟩
 ·refine (I.hok b u e).stay (fun c v hc q=>k c v ?_ q) (fun _ q=>q) fun _ _ q=>q;rcases hc with z | z
  ·rw [z];exact nit b u e
  ·exact nit c _ z
theorem Inv.tok (I:Inv X pins σ H s) (t:Nat):Inv X pins σ H { s with toks:=t }:=I.un (h':=s.heap) (t':=t) Un.refl I.hok
theorem Inv.kept {t':Nat} (I:Inv X pins σ H s) (k:∀ b u,s.heap.get? b=some u→h'.get? b=some u):Inv X pins σ H { s with heap:=h',toks:=t' }:=I.un (Un.kept k) (I.hok.kept k)
theorem Inv.laid {a:Addr} {o:HO} {t':Nat} (I:Inv X pins σ H s) (k:∀ b u,s.heap.get? b=some u→h'.get? b=some u) (hp:s.heap.objs.size≤a) (new:ObjOk X.prog X.w (upd H a o) h' a o) :
  Inv X pins σ (upd H a o) { s with heap:=h',toks:=t' }:=I.un (Un.laid k hp (I.hok.fresh hp)) (I.hok.laid k hp new)
theorem Inv.write {x e:Addr} {o:HO} {t':Nat} (I:Inv X pins σ H s) (mu:Mut (H x)) (he:e=x∨H e=some (.own x)) (k:∀ b u,b≠e→s.heap.get? b=some u→h'.get? b=some u) (heo:∃ u,h'.get? e=some u)
  (new:ObjOk X.prog X.w (upd H x o) h' x o):Inv X pins σ (upd H x o) { s with heap:=h',toks:=t' }:=I.un (Un.write mu he k heo) (I.hok.write mu he k heo new)
theorem Inv.pins_of {pins':List (Addr×Obj)} (I:Inv X pins σ H s) (h:∀ p∈pins',s.heap.get? p.1=some p.2∧H p.1=none∧p.1≠X.env.locals∧p.1∉X.fs∧∀ v,p.2.data≠.cell v):Inv X pins' σ H s :=
 ⟨I.ok,I.os,I.bare,I.base,I.loc,I.cell,I.free,I.freeC,fun p hp=>(List.mem_append.mp hp).elim (fun z=>I.pin p (List.mem_append_left _ z)) (h p),I.hok,I.len⟩
theorem lZ {N:List Str} (hN:N.Nodup) {i j:Nat} {x:Str} (a:N[i]?=some x) (b:N[j]?=some x):i=j:=by
 obtain ⟨h1,e1⟩:=List.getElem?_eq_some_iff.mp a;obtain ⟨h2,e2⟩:=List.getElem?_eq_some_iff.mp b;exact (List.getElem_inj hN).mp (e1.trans e2.symm)
theorem jt {M:Model} {A:Around} {E:Value→Shared→Prop} {i:Nat} {x:Str} {v:V} {u:Value} {Q:Unit→Shared→Prop} (I:Inv X pins σ H s) (hN:X.N.Nodup) (hi:X.N[i]?=some x) (hx:Loc X.env.scope x) (r:RelV v u)
  (h:∀ s',Inv X pins (σ.set i (some v)) H s'→(∃ a,Heap.SameBut a s.heap s'.heap∧(a=X.env.locals∨X.env.cells.lookup x=some a))→Q () s') (hf:X.fn x=true∨X.env.scope.names.lookup x=some .local:=by first | exact .inl rfl | exact .inr rfl | assumption):wpAny M A (storeName X.env x u) Q E s:=by
 obtain ⟨m,hn,hl⟩:=id I.loc;have hcls:(X.env.scope.kind == .class || (X.env.scope.kind == .module && X.env.locals != X.env.globals))=false:=by rw [I.ok.kind];rfl
 have hiσ:i < σ.length:=by rw [I.len];exact (List.getElem?_eq_some_iff.mp hi).1
 have cne:=I.cne;have tracked:∀ {a:Addr} {h':Heap},(∃ o,s.heap.get? a=some o∧H a=none)→Heap.SameBut a s.heap h'→HOk X.prog X.w H h':=fun {a h'} ha hs b ob e=>by
  obtain ⟨_,_,hfree⟩:=ha;refine (I.hok b ob e).stay (fun c w' hc q=>(hs.2 c ?_).trans q) (fun _ q=>q) fun _ _ q=>q;rintro rfl;rcases hc with rfl | hc
  ·rw [hfree] at e;cases e
  ·rw [hfree] at hc;cases hc
 rcases hx with hk | hk
 ·refine wpAny_storeName_local hk hn (fun h' hn' hs=>?_) hcls;obtain ⟨oL,_,_,hoL,_⟩:=id hn;refine h _ ⟨I.ok,I.os,I.bare,⟨fun b o e n hb hx=>?_,fun b o e n hb hx=>?_,I.base.free,fun b o e hx=>?_,I.base.tups,I.base.frzs,I.base.tbls⟩,⟨_,hn',fun j y v' e1 e2 e3=>?_⟩,fun y c e=>?_,I.free,I.freeC,fun p hp=>?_,tracked ⟨oL,hoL,I.free⟩ hs,by simpa using I.len⟩ ⟨_,hs,.inl rfl⟩
  ·exact (hs.2 b (Nat.ne_of_lt (Nat.lt_of_lt_of_le (Heap.lt_size e) I.ok.above))).trans (I.base.keep b o e n hb hx)
  ·obtain ⟨sl,e1⟩:=I.base.slot b o e n hb hx;exact ⟨sl,(hs.2 b (Nat.ne_of_lt (Nat.lt_of_lt_of_le (Heap.lt_size e) I.ok.above))).trans e1⟩
  ·obtain ⟨o',e1⟩:=I.base.there b o e hx;exact ⟨o',(hs.2 b (Nat.ne_of_lt (Nat.lt_of_lt_of_le (Heap.lt_size e) I.ok.above))).trans e1⟩
  ·by_cases hj:j=i
   ·subst hj;rw [hi] at e1;cases e1;rw [List.getElem?_set_self hiσ] at e2
    cases e2
    exact ⟨u,r,.inl ⟨hk,by simp⟩⟩
   ·rw [List.getElem?_set_ne (Ne.symm hj)] at e2;obtain ⟨u',r',q⟩:=hl j y v' e1 e2 e3;refine ⟨u',r',?_⟩;rcases q with ⟨k,e⟩ | ⟨k,c,e,z⟩
    ·refine .inl ⟨k,?_⟩;have:y≠x:=fun e=>hj (lZ hN e1 (e ▸ hi));simp [this,e]
    ·exact .inr ⟨k,c,e,z.sameBut hs (cne y c e)⟩
  ·obtain ⟨w',z⟩:=I.cell y c e;exact ⟨w',z.sameBut hs (cne y c e)⟩
  ·obtain ⟨e,n,ne,nf,d⟩:=I.pin p hp;exact ⟨(hs.2 p.1 ne).trans e,n,ne,nf,d⟩
 ·have hfn:X.fn x=true:=by
   rcases hf with z | z
   ·exact z
   ·rw [z] at hk;cases hk
  obtain ⟨c,hc⟩:=I.ok.has x (.inl hk);obtain ⟨w',z⟩:=I.cell x c hc;refine wpAny_storeName_cell I.ok.kind hk hc z (fun h' hc' hs=>?_);obtain ⟨oc,hoc,hocd⟩:=id z;refine h { s with heap:=h' } ⟨I.ok,I.os,I.bare,⟨fun b o e n hb hx=>?_,fun b o e n hb hx=>?_,I.base.free,fun b o e hx=>?_,I.base.tups,I.base.frzs,I.base.tbls⟩,⟨m,hn.sameBut hs (Ne.symm (cne x c hc)),fun j y v' e1 e2 e3=>?_⟩,fun y c' e=>?_,I.free,I.freeC,fun p hp=>?_,tracked ⟨oc,hoc,I.freeC x c hc⟩ hs,by simpa using I.len⟩ ⟨c,hs,.inr hc⟩
  ·exact (hs.2 b (Nat.ne_of_lt (Nat.lt_of_lt_of_le (Heap.lt_size e) (I.ok.cab x c hfn hc)))).trans (I.base.keep b o e n hb hx)
  ·obtain ⟨sl,e1⟩:=I.base.slot b o e n hb hx;exact ⟨sl,(hs.2 b (Nat.ne_of_lt (Nat.lt_of_lt_of_le (Heap.lt_size e) (I.ok.cab x c hfn hc)))).trans e1⟩
  ·obtain ⟨o',e1⟩:=I.base.there b o e hx;exact ⟨o',(hs.2 b (Nat.ne_of_lt (Nat.lt_of_lt_of_le (Heap.lt_size e) (I.ok.cab x c hfn hc)))).trans e1⟩
  ·by_cases hj:j=i
   ·subst hj;rw [hi] at e1;cases e1;rw [List.getElem?_set_self hiσ] at e2
    cases e2
    exact ⟨u,r,.inr ⟨.inl hk,c,hc,hc'⟩⟩
   ·rw [List.getElem?_set_ne (Ne.symm hj)] at e2;obtain ⟨u',r',q⟩:=hl j y v' e1 e2 e3;refine ⟨u',r',?_⟩;rcases q with q | ⟨k,c',e,z'⟩
    ·exact .inl q
    ·refine .inr ⟨k,c',e,z'.sameBut hs ?_⟩;rintro rfl;exact hj (lZ hN e1 (I.ok.inj _ _ _ e hc ▸ hi))
  ·by_cases hcc:c'=c
   ·subst hcc;exact ⟨_,hc'⟩
   ·obtain ⟨w2,z2⟩:=I.cell y c' e;exact ⟨w2,z2.sameBut hs hcc⟩
  ·obtain ⟨e,n,ne,nf,d⟩:=I.pin p hp;refine ⟨(hs.2 p.1 ?_).trans e,n,ne,nf,d⟩;intro q;rw [q,hoc] at e;have q':oc=p.2:=Option.some.inj e;exact d w' (by rw [← q'];exact hocd)
theorem l5 {M:Model} {A:Around} {E:Value→Shared→Prop} {i:Nat} {x:Str} {v:V} {u:Value} {Q:Unit→Shared→Prop} (I:Inv X pins σ H s) (hN:X.N.Nodup) (hi:X.N[i]?=some x) (hx:Loc X.env.scope x) (r:RelV v u)
  (h:∀ s',Inv X pins (σ.set i (some v)) H s'→Q () s') (hf:X.fn x=true∨X.env.scope.names.lookup x=some .local:=by first | exact .inl rfl | exact .inr rfl | assumption):wpAny M A (storeName X.env x u) Q E s :=
 jt I hN hi hx r (fun s' I' _=>h s' I') hf
theorem Inv.call' {s':Shared} {ch:List Addr} (I:Inv X pins σ H s) (ho:s'.os=s.os) (u:Un (frs X.stack) ch H H' s.heap s'.heap) (hok:HOk X.prog X.w H' s'.heap) (hg:AllBare s'.gens)
  (hch:∀ b∈ch,(b∈X.ex∨X.s₀.heap.objs.size≤b)∧b≠X.env.locals∧(∀ x c,X.env.cells.lookup x=some c→c≠b)∧∀ p∈X.pn++pins,p.1≠b):Inv X pins σ H' s':=by
 obtain ⟨h',g',d',t',o'⟩:=s';have e:o'=s.os:=ho;subst e;exact I.call (g':=g') (t':=t') (d':=d') u hok hg hch
end
abbrev XK:=Value→Option Addr→Hp→Prop
abbrev St:=List (Option V)
abbrev VK:=V→Hp→Prop
abbrev TE:=St→Hp→VK→Prop
abbrev TT:=St→Hp→(Bool→Hp→Prop)→Prop
abbrev TA:=St→Hp→(List V→Hp→Prop)→Prop
structure Ends where
 nx:St→Hp→Prop
 rt:VK
 bk:St→Hp→Prop:=fun _ _=>False
 ct:St→Hp→Prop:=fun _ _=>False
abbrev TS:=Ends→St→Hp→Prop
def EP (X:Cx) (pins:List (Addr×Obj)) (σ:St) (Q:VK) (u:Value) (s':Shared):Prop:=∃ v H',Inv X pins σ H' s'∧RelV v u∧Q v H'
def TP (X:Cx) (pins:List (Addr×Obj)) (σ:St) (Q:Bool→Hp→Prop) (b:Bool) (s':Shared):Prop:=∃ H',Inv X pins σ H' s'∧Q b H'
def AP (X:Cx) (pins:List (Addr×Obj)) (σ:St) (Q:List V→Hp→Prop) (us:List Value) (s':Shared):Prop:=∃ vs H',Inv X pins σ H' s'∧Vals vs us∧Q vs H'
def SP (X:Cx) (pins:List (Addr×Obj)) (D:Ends) (f:Flow) (s':Shared):Prop :=
 match f with
 | .next=>∃ σ' H',Inv X pins σ' H' s'∧D.nx σ' H'
 | .brk=>∃ σ' H',Inv X pins σ' H' s'∧D.bk σ' H'
 | .cont=>∃ σ' H',Inv X pins σ' H' s'∧D.ct σ' H'
 | .ret u=>∃ v σ' H',Inv X pins σ' H' s'∧RelV v u∧D.rt v H'
def PE (X:Cx) (e:Expr) (t:TE):Prop :=
 ∀ (pins:List (Addr×Obj)) (s:Shared) (σ:St) (H:Hp) (Q:VK),Inv X pins σ H s→t σ H Q→wpAny (model X.prog X.w) X.A (eval e X.env) (EP X pins σ Q) X.xe s
def PT (X:Cx) (e:Expr) (t:TT):Prop :=
 ∀ (pins:List (Addr×Obj)) (s:Shared) (σ:St) (H:Hp) (Q:Bool→Hp→Prop),Inv X pins σ H s→t σ H Q→wpAny (model X.prog X.w) X.A (isTrue e X.env (eval e X.env)) (TP X pins σ Q) X.xe s
def PW (X:Cx) (e:Expr) (t:TT):Prop :=
 ∀ (whole:Sem Value) (pins:List (Addr×Obj)) (s:Shared) (σ:St) (H:Hp) (Q:Bool→Hp→Prop),Inv X pins σ H s→t σ H Q→wpAny (model X.prog X.w) X.A (isTrue e X.env whole) (TP X pins σ Q) X.xe s
theorem PW.pt {X:Cx} {e:Expr} {t:TT} (h:PW X e t):PT X e t:=h _
def PA (X:Cx) (es:List Expr) (t:TA):Prop :=
 ∀ (pos:Pos) (pins:List (Addr×Obj)) (s:Shared) (σ:St) (H:Hp) (Q:List V→Hp→Prop),Inv X pins σ H s→t σ H Q→wpAny (model X.prog X.w) X.A (spliced (backTo pos (starEach es X.env))) (AP X pins σ Q) X.xe s
def PS (X:Cx) (st:Stmt) (t:TS):Prop :=
 ∀ (pins:List (Addr×Obj)) (s:Shared) (σ:St) (H:Hp) (D:Ends),Inv X pins σ H s→t D σ H→wpAny (model X.prog X.w) X.A (exec st X.env) (SP X pins D) X.xe s
def PSs (X:Cx) (st:List Stmt) (t:TS):Prop :=
 ∀ (pins:List (Addr×Obj)) (s:Shared) (σ:St) (H:Hp) (D:Ends),Inv X pins σ H s→t D σ H→wpAny (model X.prog X.w) X.A (execs st X.env) (SP X pins D) X.xe s
theorem thn {α:Type} {t:Sem α} {Q Q':α→Shared→Prop} {M:Model} {A:Around} {E:Value→Shared→Prop} {s:Shared} (h:wpAny M A t Q E s) (hQ:∀ a s,Q a s→Q' a s):wpAny M A t Q' E s:=wpAny_mono h hQ fun _ _ x=>x
section
variable {X:Cx}
inductive IVar (i:Nat) (σ:St) (H:Hp) (Q:VK):Prop
 | mk (v:V):(σ[i]?=some (some v))→(Q v H)→IVar i σ H Q
def qL (i:Nat):TE:=fun σ H Q=>IVar i σ H Q
def tC (v:V):TE:=fun _ H Q=>Q v H
theorem uU {i:Nat} {x:Str} {pos:Pos} (hN:X.N[i]?=some x) (hv:Vis X.env.scope x) (hd:(x == ("__debug__" : Str))=false:=by decide) (hcd:(x == ("__classdict__" : Str))=false:=by decide):PE X (.Name x pos) (qL i):=by
 intro pins s σ H Q I h;obtain ⟨v,e,h⟩:=h;obtain ⟨m,hn,hl⟩:=I.loc;obtain ⟨u,r,l⟩:=hl i x v hN e hv;have fin:EP X pins σ Q u s:=⟨v,H,I,r,h⟩;rcases l with ⟨hk,hm⟩ | ⟨hk,c,hc,hcell⟩
 ·exact wpAny_Name (wpAny_loadName_local I.ok.kind hk hn hm fin) hd
 ·rcases hk with hk | hk
  ·exact wpAny_Name (wpAny_loadName_cell I.ok.kind hk hc hcell fin) hd
  ·exact wpAny_Name (wpAny_loadName_free I.ok.kind hk hc hcell fin hcd) hd
theorem pe_int {i j pos}:PE X (.Constant (.int i) j pos) (tC (.int i)):=fun _ _ _ H _ I h=>wpAny_Constant_int ⟨.int i,H,I.tok _,⟨_,rfl⟩,h⟩
theorem pe_bl {b j pos}:PE X (.Constant (.bool b) j pos) (tC (.bl b)):=fun _ _ _ H _ I h=>Constant_bool ⟨.bl b,H,I,rfl,h⟩
theorem pe_non {j pos}:PE X (.Constant .none j pos) (tC .non):=fun _ _ _ H _ I h=>Constant_none ⟨.non,H,I,rfl,h⟩
theorem pe_str {x j pos}:PE X (.Constant (.str x) j pos) (tC (.str x)):=fun _ _ _ H _ I h=>Calls.Constant_str ⟨.str x,H,I.tok _,⟨_,rfl⟩,h⟩
def Gl (X:Cx) (x:Str):Prop:=X.env.kindOf x=some .globalImplicit
theorem j4 {E:Value→Shared→Prop} {pins:List (Addr×Obj)} {s:Shared} {σ:St} {H:Hp} {x:Str} {u:Value} {pos:Pos} {Q:Value→Shared→Prop} (I:Inv X pins σ H s) (hg:Gl X x) (hm:X.mg x=some u) (h:Q u s)
  (hd:(x == ("__debug__" : Str))=false:=by decide):wpAny (model X.prog X.w) X.A (eval (.Name x pos) X.env) Q E s :=
 Calls.Name_function_global I.ok.kind hg (Calls.loadGlobal_global (by rw [I.ok.glob];exact I.mod.glob.keeps I.bk) hm h) hd
theorem dZ {E:Value→Shared→Prop} {pins:List (Addr×Obj)} {s:Shared} {σ:St} {H:Hp} {x:Str} {u:Value} {pos:Pos} {Q:Value→Shared→Prop} (I:Inv X pins σ H s) (hg:Gl X x) (hm:X.mg x=none) (hv:bootBuiltins x=some u) (h:Q u s)
  (hn:x≠ "__name__" :=by decide) (hd:(x == ("__debug__" : Str))=false:=by decide):wpAny (model X.prog X.w) X.A (eval (.Name x pos) X.env) Q E s:=by
 obtain ⟨mb,h1,h2⟩:=I.mod.blt;exact Calls.Name_function_global I.ok.kind hg (Calls.loadGlobal_builtin (by rw [I.ok.glob];exact I.mod.glob.keeps I.bk) hm (by rw [I.ok.blt];exact h1.keeps I.bk) ((h2 x hn).trans hv) h) hd
theorem oV {x:Str} {v:V} {u:Value} {pos:Pos} (hg:Gl X x) (hm:X.mg x=some u) (r:RelV v u) (hd:(x == ("__debug__" : Str))=false:=by decide):PE X (.Name x pos) (tC v) :=
 fun _ _ _ H _ I h=>j4 I hg hm ⟨v,H,I,r,h⟩ hd
theorem sV {x:Str} {v:V} {u:Value} {pos:Pos} (hg:Gl X x) (hm:X.mg x=none) (hv:bootBuiltins x=some u) (r:RelV v u) (hn:x≠ "__name__" :=by decide) (hd:(x == ("__debug__" : Str))=false:=by decide):PE X (.Name x pos) (tC v) :=
 fun _ _ _ H _ I h=>dZ I hg hm hv ⟨v,H,I,r,h⟩ hn hd
variable {a b:Expr} {ta tb:TE} {pos:Pos}
def tB (t:TE):TT:=fun σ H Q=>t σ H fun x H1=>∃ c,x=.bl c∧Q c H1
theorem pt_val {e:Expr} {t:TE} (h:PE X e t) (he:∀ whole,isTrue e X.env whole=(do let v ← whole;standAt e.pos;holding [v] (truthy v)):=by intro _;rfl):PT X e (tB t):=by
 intro pins s σ H Q I hw;refine isTrue_plain (thn (h pins s σ H _ I hw) fun v s1 ⟨x,H1,I1,r1,q1⟩=>?_) (he _);obtain ⟨d,rfl,q⟩:=q1
 cases r1
 exact wpAny_truthy_bool ⟨H1,I1,q⟩
variable {tA tB':TT} {rest:List Expr}
def xP (t u:TT):TT:=fun σ H Q=>t σ H fun c H1=>if c=true then u σ H1 Q else Q false H1
def tOr (t u:TT):TT:=fun σ H Q=>t σ H fun c H1=>if c=true then Q true H1 else u σ H1 Q
def xQ (t:TT):TT:=fun σ H Q=>t σ H fun c H1=>Q (!c) H1
theorem oW (ha:PT X a tA):PW X (.BoolOp .And [a] pos) tA:=by
 intro wh pins s σ H Q I h;refine isTrue_and (thn (ha pins s σ H Q I h) fun c s1 e=>?_)
 cases c with
 | true=>exact isTrue_and_nil e
 | false=>exact e
theorem pw_or1 (ha:PT X a tA):PW X (.BoolOp .Or [a] pos) tA:=by
 intro wh pins s σ H Q I h;refine isTrue_or (thn (ha pins s σ H Q I h) fun c s1 e=>?_)
 cases c with
 | false=>exact isTrue_or_nil e
 | true=>exact e
theorem nI (ha:PT X a tA) (hb:PW X (.BoolOp .And (b :: rest) pos) tB'):PW X (.BoolOp .And (a :: b :: rest) pos) (xP tA tB'):=by
 intro wh pins s σ H Q I h;refine isTrue_and (thn (ha pins s σ H _ I h) fun c s1 ⟨H1,I1,q1⟩=>?_)
 cases c with
 | true=>exact hb wh pins s1 σ H1 Q I1 q1
 | false=>exact ⟨H1,I1,q1⟩
theorem pw_or (ha:PT X a tA) (hb:PW X (.BoolOp .Or (b :: rest) pos) tB'):PW X (.BoolOp .Or (a :: b :: rest) pos) (tOr tA tB'):=by
 intro wh pins s σ H Q I h;refine isTrue_or (thn (ha pins s σ H _ I h) fun c s1 ⟨H1,I1,q1⟩=>?_)
 cases c with
 | true=>exact ⟨H1,I1,q1⟩
 | false=>exact hb wh pins s1 σ H1 Q I1 q1
theorem pt_not (ha:PT X a tA):PT X (.UnaryOp .Not a pos) (xQ tA):=by
 intro pins s σ H Q I h;exact isTrue_not (ha pins s σ H (fun c H1=>Q (!c) H1) I h)
def ww (ta tb:TE):TE:=fun σ H Q=>ta σ H fun x H1=>∃ c,x=.bl c∧if c=true then tb σ H1 Q else Q (.bl false) H1
def xR (ta tb:TE):TE:=fun σ H Q=>ta σ H fun x H1=>∃ c,x=.bl c∧if c=true then Q (.bl true) H1 else tb σ H1 Q
def wx (ta:TE):TE:=fun σ H Q=>ta σ H fun x H1=>∃ c,x=.bl c∧Q (.bl (!c)) H1
theorem pe_one {op} {t:TE} (h:PE X a t):PE X (.BoolOp op [a] pos) t:=fun pins s σ H Q I hw=>BoolOp_one (h pins s σ H Q I hw)
theorem pe_and (ha:PE X a ta) (hb:PE X (.BoolOp .And (b :: rest) pos) tb):PE X (.BoolOp .And (a :: b :: rest) pos) (ww ta tb):=by
 intro pins s σ H Q I h;refine BoolOp_and (thn (ha pins s σ H _ I h) fun v s1 ⟨x,H1,I1,r1,q1⟩=>?_);obtain ⟨c,rfl,q1⟩:=q1
 cases r1
 refine wpAny_truthy_bool ?_
 cases c with
 | true=>exact hb pins s1 σ H1 Q I1 q1
 | false=>exact ⟨.bl false,H1,I1,rfl,q1⟩
theorem wy (ha:PE X a ta) (hb:PE X (.BoolOp .Or (b :: rest) pos) tb):PE X (.BoolOp .Or (a :: b :: rest) pos) (xR ta tb):=by
 intro pins s σ H Q I h;refine BoolOp_or (thn (ha pins s σ H _ I h) fun v s1 ⟨x,H1,I1,r1,q1⟩=>?_);obtain ⟨c,rfl,q1⟩:=q1
 cases r1
 refine wpAny_truthy_bool ?_
 cases c with
 | false=>exact hb pins s1 σ H1 Q I1 q1
 | true=>exact ⟨.bl true,H1,I1,rfl,q1⟩
theorem uV (ha:PE X a ta):PE X (.UnaryOp .Not a pos) (wx ta):=by
 intro pins s σ H Q I h;refine UnaryOp_ (thn (ha pins s σ H _ I h) fun v s1 ⟨x,H1,I1,r1,q1⟩=>?_);obtain ⟨c,rfl,q1⟩:=q1
 cases r1
 exact not_of (wpAny_truthy_bool ⟨.bl (!c),H1,I1,rfl,q1⟩)
def tIf (t:TT) (ta tb:TE):TE:=fun σ H Q=>t σ H fun c H1=>if c=true then ta σ H1 Q else tb σ H1 Q
theorem iF {c:Expr} (hc:PT X c tA) (ha:PE X a ta) (hb:PE X b tb):PE X (.IfExp c a b pos) (tIf tA ta tb):=by
 intro pins s σ H Q I h;refine wpAny_IfExp (thn (hc pins s σ H _ I h) fun d s1 ⟨H1,I1,q1⟩=>?_)
 cases d with
 | true=>exact ha pins s1 σ H1 Q I1 q1
 | false=>exact hb pins s1 σ H1 Q I1 q1
end
def SqL (K:PySem.W.Frag) (H:Hp) (a:Addr) (xs:List V):Prop :=
 Rd H a (.lst xs) ∨
  ∃ (o:Obj) (its:Array Value) (n:Nat),K.lookup a=some o∧o.cls=.type "list" ∧o.dict=none∧o.data=.seq its n∧its.size≤sizeLine∧Vals xs its.toList
def SqT (K:PySem.W.Frag) (H:Hp) (a:Addr) (xs:List V):Prop :=
 Rd H a (.tup xs) ∨
  ∃ (o:Obj) (its:Array Value) (n:Nat),K.lookup a=some o∧o.cls=.type "tuple" ∧o.data=.seq its n∧its.size≤sizeLine∧Vals xs its.toList
def xS:Value→Option V
 | .none=>some .non
 | .bool b=>some (.bl b)
 | .int i _=>some (.int i)
 | .str x _=>some (.str x)
 | .bytes b _=>some (.byt b)
 | .float b _=>some (.flt b)
 | .ref a=>some (.ref a)
 | .type n=>some (.ty n)
 | _=>none
theorem RelV.abs {x:V} {u:Value} (r:RelV x u):xS u=some x:=by
 cases x with
 | non=>cases r;rfl
 | bl _=>cases r;rfl
 | int _=>obtain ⟨t,rfl⟩:=r;rfl
 | str _=>obtain ⟨t,rfl⟩:=r;rfl
 | byt _=>obtain ⟨t,rfl⟩:=r;rfl
 | flt _=>obtain ⟨t,rfl⟩:=r;rfl
 | ref _=>cases r;rfl
 | ty _=>cases r;rfl
theorem RelV.inj {x y:V} {u:Value} (r:RelV x u) (q:RelV y u):x=y:=Option.some.inj (r.abs.symm.trans q.abs)
theorem Vals.inj:∀ {xs ys:List V} {us:List Value},Vals xs us→Vals ys us→xs=ys
 | _,_,_,.nil,.nil=>rfl
 | _,_,_,.cons r t,.cons r' t'=>by rw [r.inj r',Vals.inj t t']
section
variable {X:Cx} {pins:List (Addr×Obj)} {σ:St} {H:Hp} {s:Shared} {a:Addr} {xs ys:List V}
theorem SqL.of {K:PySem.W.Frag} (h:H a=some (.lst xs)):SqL K H a xs:=.inl (.inl h)
theorem Inv.list (I:Inv X pins σ H s) (h:SqL X.K H a xs):∃ its:List Value,Vals xs its∧PlainL s.heap a its.toArray∧xs.length≤sizeLine:=by
 rcases h with h | ⟨o,its,n,hk,hc,hd,hs,hz,r⟩
 ·obtain ⟨z,its,n,r,e⟩:=h.ok I.hok;exact ⟨its,r,⟨_,n,e,rfl,rfl,rfl⟩,z⟩
 ·refine ⟨its.toList,r,⟨o,n,I.kIn a o hk,hc,hd,by simpa using hs⟩,?_⟩;have e:=r.length;simp only [Array.length_toList] at e;lia
theorem Inv.tuple (I:Inv X pins σ H s) (h:SqT X.K H a xs):∃ its:List Value,Vals xs its∧IsTup s.heap a its.toArray∧xs.length≤sizeLine:=by
 rcases h with h | ⟨o,its,n,hk,hc,hs,hz,r⟩
 ·obtain ⟨z,its,r,p⟩:=h.ok I.hok;exact ⟨its,r,p,z⟩
 ·refine ⟨its.toList,r,⟨o,I.kIn a o hk,hc,n,by simpa using hs⟩,?_⟩;have e:=r.length;simp only [Array.length_toList] at e;lia
theorem Inv.list_inj (I:Inv X pins σ H s) (h:SqL X.K H a xs) (h':SqL X.K H a ys):xs=ys:=by
 obtain ⟨its,r,⟨o,n,e,_,_,d⟩,_⟩:=I.list h;obtain ⟨its',r',⟨o',n',e',_,_,d'⟩,_⟩:=I.list h';rw [e] at e';cases e';rw [d] at d';injection d' with d1 _
 have:its=its':=by simpa using congrArg Array.toList d1
 subst this;exact r.inj r'
theorem Inv.tuple_inj (I:Inv X pins σ H s) (h:SqT X.K H a xs) (h':SqT X.K H a ys):xs=ys:=by
 obtain ⟨its,r,⟨o,e,_,n,d⟩,_⟩:=I.tuple h;obtain ⟨its',r',⟨o',e',_,n',d'⟩,_⟩:=I.tuple h';rw [e] at e';cases e';rw [d] at d';injection d' with d1 _
 have:its=its':=by simpa using congrArg Array.toList d1
 subst this;exact r.inj r'
end
abbrev Cx.wish (X:Cx) (E:Value→Shared→Prop):Cx:={ X with xe:=E }
abbrev Cx.nox (X:Cx):Cx:=X.wish fun _ _=>False
theorem Cx.Ok.wish {X:Cx} (ok:X.Ok) (E:Value→Shared→Prop):(X.wish E).Ok :=
 ⟨ok.mod,ok.kind,ok.glob,ok.blt,ok.above,ok.inj,ok.has,ok.cab,ok.hd,ok.frames,ok.stk,ok.exf,ok.bs,ok.bsz,ok.noex,ok.exfs,ok.funs,ok.frf⟩
theorem Cx.Ok.unwish {X:Cx} {E:Value→Shared→Prop} (ok:(X.wish E).Ok):X.Ok :=
 ⟨ok.mod,ok.kind,ok.glob,ok.blt,ok.above,ok.inj,ok.has,ok.cab,ok.hd,ok.frames,ok.stk,ok.exf,ok.bs,ok.bsz,ok.noex,ok.exfs,ok.funs,ok.frf⟩
section
variable {X:Cx} {pins:List (Addr×Obj)} {σ:St} {H:Hp} {s:Shared} {E:Value→Shared→Prop}
theorem Inv.wish (I:Inv X pins σ H s) (E:Value→Shared→Prop):Inv (X.wish E) pins σ H s:=⟨I.ok.wish E,I.os,I.bare,I.base,I.loc,I.cell,I.free,I.freeC,I.pin,I.hok,I.len⟩
theorem Inv.unwish (I:Inv (X.wish E) pins σ H s):Inv X pins σ H s:=⟨I.ok.unwish,I.os,I.bare,I.base,I.loc,I.cell,I.free,I.freeC,I.pin,I.hok,I.len⟩
theorem SP.unwish {D:Ends} {f:Flow} {s':Shared} (h:SP (X.wish E) pins D f s'):SP X pins D f s':=by
 cases f with
 | next=>obtain ⟨σ',H',I,q⟩:=h;exact ⟨σ',H',I.unwish,q⟩
 | brk=>obtain ⟨σ',H',I,q⟩:=h;exact ⟨σ',H',I.unwish,q⟩
 | cont=>obtain ⟨σ',H',I,q⟩:=h;exact ⟨σ',H',I.unwish,q⟩
 | ret u=>obtain ⟨v,σ',H',I,r,q⟩:=h;exact ⟨v,σ',H',I.unwish,r,q⟩
theorem PSs.nox {st:List Stmt} {t:TS} (h:PSs X.nox st t):PSs X st t:=fun pins s σ H D I hw =>
 wpAny_mono (h pins s σ H D (I.wish _) hw) (fun _ _ q=>q.unwish) fun _ _ z=>False.elim z
end
section
variable {X:Cx} {st:Stmt} {rest:List Stmt} {t u:TS} {e:Expr} {te:TE} {pos:Pos}
def wz:TS:=fun D σ H=>D.nx σ H
def xT (t u:TS):TS:=fun D σ H=>t { D with nx:=u D } σ H
theorem pss_nil:PSs X [] wz:=fun _ _ σ H _ I h=>wpAny_execs_nil ⟨σ,H,I,h⟩
theorem pss_cons (h1:PS X st t) (h2:PSs X rest u):PSs X (st :: rest) (xT t u):=by
 intro pins s σ H D I h;refine wpAny_execs_cons (thn (h1 pins s σ H { D with nx:=u D } I h) fun f s1 q=>?_)
 cases f with
 | next =>
  obtain ⟨σ',H',I',q⟩:=q;exact h2 pins s1 σ' H' D I' q
 | ret v=>exact q
 | brk=>exact q
 | cont=>exact q
theorem pss_one (h1:PS X st t):PSs X [st] t:=by
 intro pins s σ H D I h;refine wpAny_execs_cons (thn (h1 pins s σ H D I h) fun f s1 q=>?_)
 cases f with
 | next=>exact wpAny_execs_nil q
 | ret v=>exact q
 | brk=>exact q
 | cont=>exact q
theorem Inv.quiet {pins:List (Addr×Obj)} {σ:St} {H:Hp} {s:Shared} (I:Inv X pins σ H s):interactive X.env=false:=by simp [interactive,I.ok.kind]
def wA (te:TE):TS:=fun D σ H=>te σ H fun _ H1=>D.nx σ H1
theorem eS (he:PE X e te) (hs:swapsWith e none pos.line X.env=pure false:=by rfl):PS X (.Expr e pos) (wA te):=by
 intro pins s σ H D I h;exact wpAny_Expr_any (thn (he pins s σ H _ I h) fun v s1 ⟨x,H1,I1,r1,q1⟩=>⟨σ,H1,I1,q1⟩) I.quiet hs
def wB (te:TE):TS:=fun D σ H=>te σ H D.rt
theorem ps_ret (he:PE X e te):PS X (.Return (some e) pos) (wB te):=by
 intro pins s σ H D I h;exact wpAny_Return_some (thn (he pins s σ H _ I h) fun v s1 ⟨x,H1,I1,r1,q1⟩=>⟨x,σ,H1,I1,r1,q1⟩)
def xU (c:TT) (t u:TS):TS:=fun D σ H=>c σ H fun b H1=>if b=true then t D σ H1 else u D σ H1
theorem ps_if {c:Expr} {a b:List Stmt} {tc:TT} (hc:PT X c tc) (ha:PSs X a t) (hb:PSs X b u):PS X (.If c a b pos) (xU tc t u):=by
 intro pins s σ H D I h;refine wpAny_If (thn (hc pins s σ H _ I h) fun d s1 ⟨H1,I1,q1⟩=>?_)
 cases d with
 | true=>exact ha pins s1 σ H1 D I1 q1
 | false=>exact hb pins s1 σ H1 D I1 q1
def uW:TS:=fun _ _ _=>False
theorem ps_never:PS X st uW:=fun _ _ _ _ _ _ h=>h.elim
end
abbrev TG:=V→St→Hp→(St→Hp→Prop)→Prop
abbrev TGs:=List V→St→Hp→(St→Hp→Prop)→Prop
def PG (X:Cx) (target:Expr) (t:TG):Prop :=
 ∀ (pins:List (Addr×Obj)) (s:Shared) (σ:St) (H:Hp) (v:V) (u:Value) (Q:St→Hp→Prop),Inv X pins σ H s→RelV v u→t v σ H Q →
  wpAny (model X.prog X.w) X.A (assign target X.env u) (fun _ s'=>∃ σ' H',Inv X pins σ' H' s'∧Q σ' H') X.xe s
def PGs (X:Cx) (ts:List Expr) (t:TGs):Prop :=
 ∀ (pins:List (Addr×Obj)) (s:Shared) (σ:St) (H:Hp) (vs:List V) (us:List Value) (Q:St→Hp→Prop),Inv X pins σ H s→Vals vs us→t vs σ H Q →
  wpAny (model X.prog X.w) X.A (assignInOrder ((assignEach ts X.env).map (·.2)) us) (fun _ s'=>∃ σ' H',Inv X pins σ' H' s'∧Q σ' H') X.xe s
abbrev uX:=V→V→V→Hp→(Hp→Prop)→Prop
def wC (X:Cx) (t:uX):Prop :=
 ∀ (pins:List (Addr×Obj)) (s:Shared) (σ:St) (H:Hp) (o i v:V) (ov iv u:Value) (Q:Hp→Prop),Inv X pins σ H s→RelV o ov→RelV i iv→RelV v u→t o i v H Q →
  wpAny (model X.prog X.w) X.A (setItem ov iv u) (fun _ s'=>∃ H',Inv X pins σ H' s'∧Q H') X.xe s
section
variable {X:Cx} {pos:Pos}
def ju (i:Nat):TG:=fun v σ H Q=>Q (σ.set i (some v)) H
theorem ah {i:Nat} {x:Str} (hN:X.N.Nodup) (hi:X.N[i]?=some x) (hx:Loc X.env.scope x) (hf:X.fn x=true∨X.env.scope.names.lookup x=some .local:=by first | exact .inl rfl | exact .inr rfl | assumption):PG X (.Name x pos) (ju i):=by
 intro pins s σ H v u Q I r h;exact wpAny_assign_Name (l5 I hN hi hx r (fun s' I'=>⟨_,H,I',h⟩) hf)
def xV:TGs:=fun vs σ H Q=>vs=[]∧Q σ H
def wD (t:TG) (u:TGs):TGs:=fun vs σ H Q=>∃ v r,vs=v :: r∧t v σ H fun σ' H'=>u r σ' H' Q
theorem aG:PGs X [] xV:=by
 intro pins s σ H vs us Q I r h;obtain ⟨e,h⟩:=h;subst e
 cases r
 exact assignInOrder_nil ⟨σ,H,I,h⟩
theorem am {e:Expr} {es:List Expr} {t:TG} {u:TGs} (h1:PG X e t) (h2:PGs X es u)
  (hs:(assignEach (e :: es) X.env).map (·.2)=assign e X.env :: (assignEach es X.env).map (·.2):=by rfl):PGs X (e :: es) (wD t u):=by
 intro pins s σ H vs us Q I r h;obtain ⟨v,vr,e1,h⟩:=h;subst e1
 cases r with
 | cons r rr =>
  rw [hs];refine assignInOrder_cons (thn (h1 pins s σ H _ _ _ I r h) fun _ s1 ⟨σ1,H1,I1,q1⟩=>?_);exact h2 pins s1 σ1 H1 _ _ Q I1 rr q1
def wE (K:PySem.W.Frag) (n:Nat) (t:TGs):TG:=fun v σ H Q=>∃ a xs,v=.ref a∧SqT K H a xs∧xs.length=n∧t xs σ H Q
theorem cS {es:List Expr} {k:Nat} {t:TGs} {n:Nat} (hc:X.calm=true) (h:PGs X es t)
  (hn:(assignEach es X.env).length=n:=by rfl) (hst:(assignEach es X.env).findIdx? (·.1)=none:=by rfl):PG X (.Tuple es k pos) (wE X.K n t):=by
 intro pins s σ H v u Q I r hw;obtain ⟨a,xs,e1,hq,hl,hw⟩:=hw;subst e1
 cases r
 obtain ⟨its,rv,ht,hz⟩:=I.tuple hq;refine assign_Tuple_tuple (I.ok.hd hc) ht (by simp [hn,← hl,rv.length]) hst fun h' hx=>?_;have I1:Inv X pins σ H { s with heap:=h' }:=I.kept (t':=s.toks) fun b o e=>hx b o (Nat.ne_of_lt (Heap.lt_size e)) e;exact h pins _ σ H xs _ Q I1 (by simpa using rv) hw
def gSub (to ti:TE) (t:uX):TG:=fun v σ H Q=>to σ H fun o H1=>ti σ H1 fun i H2=>t o i v H2 fun H3=>Q σ H3
theorem uY {o i:Expr} {to ti:TE} {t:uX} (ho:PE X o to) (hi:PE X i ti) (hs:wC X t)
  (ha:∀ v,assign (.Subscript o i pos) X.env v=(do
   let ov ← holding [v] (eval o X.env)
   let iv ← holding [v,ov] (eval i X.env)
   standAt pos
   holding [v,ov,iv] (setItem ov iv v)
   release [v,ov,iv] []):=by intro _;rfl):PG X (.Subscript o i pos) (gSub to ti t):=by
 intro pins s σ H v u Q I r h;rw [ha];refine wpAny_bind (wpAny_holding (thn (ho pins s σ H _ I h) fun ov s1 ⟨x,H1,I1,r1,q1⟩=>?_));refine wpAny_bind (wpAny_holding (thn (hi pins s1 σ H1 _ I1 q1) fun iv s2 ⟨y,H2,I2,r2,q2⟩=>?_));refine wpAny_bind (wpAny_standAt (wpAny_bind (wpAny_holding (thn (hs pins s2 σ H2 x y v ov iv u _ I2 r1 r2 r q2) fun _ s3 ⟨H3,I3,q3⟩=>?_))));exact wpAny_release ⟨σ,H3,I3,q3⟩
def qM (te:TE) (g:TG):TS:=fun D σ H=>te σ H fun x H1=>g x σ H1 D.nx
theorem qN {tg e:Expr} {te:TE} {g:TG} (he:PE X e te) (hg:PG X tg g) (hs:swapsWithSole [tg] e pos.line X.env=pure false:=by rfl) (hw:swappedStores [tg] e X.env=pure none:=by rfl)
  (h1:(assignEach [tg] X.env).map (·.2)=[assign tg X.env]:=by rfl):PS X (.Assign [tg] e pos) (qM te g):=by
 intro pins s σ H D I h;refine wpAny_Assign_stores (thn (he pins s σ H _ I h) fun v s1 ⟨x,H1,I1,r1,q1⟩=>?_) hs hw;rw [h1];exact thn (hg pins s1 σ H1 x v _ I1 r1 q1) fun _ s2 q=>q
theorem ps_set {i:Nat} {x:Str} {e:Expr} {te:TE} {pos':Pos} (hN:X.N.Nodup) (hi:X.N[i]?=some x) (hx:Loc X.env.scope x) (he:PE X e te) (hs:swapsWith e (some (.Name x pos')) pos.line X.env=pure false:=by rfl) (hf:X.fn x=true∨X.env.scope.names.lookup x=some .local:=by first | exact .inl rfl | exact .inr rfl | assumption) :
  PS X (.Assign [.Name x pos'] e pos) (qM te (ju i)):=by
 intro pins s σ H D I h;refine wpAny_Assign_Name (thn (he pins s σ H _ I h) fun v s1 ⟨y,H1,I1,r1,q1⟩=>?_) hs;exact l5 I1 hN hi hx r1 (fun s2 I2=>⟨_,H1,I2,q1⟩) hf
end
section
variable {X:Cx} {pos:Pos}
end
structure It where
 go:Nat→Hp→Prop
 yld:Nat→Hp→V→Hp→Prop
 stop:Nat→Hp→Prop
def fH (X:Cx) (pins:List (Addr×Obj)) (H:Hp) (b:Addr):Prop :=
 H b=none∧b≠X.env.locals∧b∉X.fs∧(b∈X.ex∨X.s₀.heap.objs.size≤b)∧(∀ x c,X.env.cells.lookup x=some c→c≠b)∧∀ p∈X.pn++pins,p.1≠b
theorem Inv.fpOk {X:Cx} {pins:List (Addr×Obj)} {σ:St} {H H':Hp} {s:Shared} {b:Addr} (I:Inv X pins σ H s) (hb:s.heap.objs.size≤b) (hn:H' b=none):fH X pins H' b:=by
 refine ⟨hn,Nat.ne_of_gt (Nat.lt_of_lt_of_le I.lt hb),I.nofs hb,.inr (Nat.le_trans I.sz hb),fun x c e z=>?_,fun p hp z=>?_⟩
 ·obtain ⟨v,q⟩:=I.cell x c e;exact absurd (Nat.lt_of_lt_of_le q.lt (by rw [z];exact hb)) (Nat.lt_irrefl _)
 ·exact absurd (Nat.lt_of_lt_of_le (Heap.lt_size (I.pin p hp).1) (by rw [z];exact hb)) (Nat.lt_irrefl _)
structure Turn (P:Program) (w:World) (K:PySem.W.Frag) (tg:Expr) (J:It) (fp:List Addr) (it:Addr) (tn:Nat→Heap→Prop):Prop where
 mem:it∈fp
 obj:∀ i h,tn i h→∀ b∈fp,∃ o,h.get? b=some o∧∀ v,o.data≠.cell v
 keep:∀ i h h',tn i h→(∀ b∈fp,∀ o,h.get? b=some o→h'.get? b=some o)→tn i h'
 item:∀ (X:Cx),X.prog=P→X.w=w→X.K=K→X.calm=true→∀ (i:Nat) (pins:List (Addr×Obj)) (s:Shared) (σ:St) (H:Hp) (E:Value→Shared→Prop),Inv X pins σ H s→(∀ b∈fp,fH X pins H b)→tn i s.heap→J.go i H →
  wpAny (model P w) X.A (pyNext (.ref it)) (fun r s1=>∃ u,r=some u ∧
   wpAny (model P w) X.A (letOwnedTupleGo tg (.ref it) u) (fun _ s2=>∃ x H',Inv X pins σ H' s2∧RelV x u∧J.yld i H x H'∧tn (i+1) s2.heap∧∀ b∈fp,H' b=none) E s1) E s
 done:∀ (X:Cx),X.prog=P→X.w=w→X.K=K→X.calm=true→∀ (i:Nat) (pins:List (Addr×Obj)) (s:Shared) (σ:St) (H:Hp) (E:Value→Shared→Prop),Inv X pins σ H s→(∀ b∈fp,fH X pins H b)→tn i s.heap→J.stop i H →
  wpAny (model P w) X.A (pyNext (.ref it)) (fun r s1=>r=none∧Inv X pins σ H s1) E s
 self:∀ (A:Around) (i:Nat) (s:Shared) (Q:Value→Shared→Prop) (E:Value→Shared→Prop),tn i s.heap→Q (.ref it) s→wpAny (model P w) A (pyIter (.ref it)) Q E s
abbrev TI:=St→Hp→(It→Hp→Prop)→Prop
def PIE (X:Cx) (pins:List (Addr×Obj)) (σ:St) (tg:Expr) (R:It→Hp→Prop) (itv:Value) (s2:Shared):Prop :=
 ∃ (it:Addr) (fp:List Addr) (tn:Nat→Heap→Prop) (J:It) (H':Hp),itv=.ref it∧Inv X pins σ H' s2∧Turn X.prog X.w X.K tg J fp it tn∧tn 0 s2.heap∧(∀ b∈fp,fH X pins H' b)∧R J H'
def PI (X:Cx) (tg iter:Expr) (wi:TI):Prop :=
 ∀ (pins:List (Addr×Obj)) (s:Shared) (σ:St) (H:Hp) (R:It→Hp→Prop),Inv X pins σ H s→wi σ H R →
  wpAny (model X.prog X.w) X.A (eval iter X.env) (fun v s1=>wpAny (model X.prog X.w) X.A (pyIter v) (PIE X pins σ tg R) X.xe s1) X.xe s
theorem l6 {M:Model} {A:Around} {E:Value→Shared→Prop} {s:Shared} {tg:Expr} {it:Addr} {u:Value} {o:Obj} {n:String} {vs:Array Value} {Q:Unit→Shared→Prop} (ho:s.heap.get? it=some o) (hc:o.cls=.type n) (hd:o.data=.fields vs)
    (hn:["enumerate","zip","dict_itemiterator","dict_reverseitemiterator","odict_iterator","itertools.zip_longest","itertools.pairwise"].contains n=false) (hQ:Q () s):wpAny M A (letOwnedTupleGo tg (.ref it) u) Q E s:=by
  unfold letOwnedTupleGo
  cases tg <;> first
    | exact wpAny_pure hQ
    | (cases u <;> first
        | exact wpAny_pure hQ
        | (refine wpAny_bind (wpAny_load ho ?_)
           rw [hc,hd];show wpAny M A (if (["enumerate","zip","dict_itemiterator","dict_reverseitemiterator","odict_iterator","itertools.zip_longest","itertools.pairwise"].contains n && vs[0]? == some (rawInt _))=true then _ else _) Q E s;rw [if_neg (by intro h;rw [hn,Bool.false_and] at h;cases h)];exact wpAny_pure hQ))
def Itl (K:PySem.W.Frag) (a:Addr):It :=
 ⟨fun i H=>∃ xs x,SqL K H a xs∧xs[i]?=some x,fun i H x H'=>H'=H∧∀ xs,SqL K H a xs→xs[i]?=some x,fun i H=>∃ xs,SqL K H a xs∧xs.length≤i⟩
def Itt (K:PySem.W.Frag) (a:Addr):It :=
 ⟨fun i H=>∃ xs x,SqT K H a xs∧xs[i]?=some x,fun i H x H'=>H'=H∧∀ xs,SqT K H a xs→xs[i]?=some x,fun i H=>∃ xs,SqT K H a xs∧xs.length≤i⟩
def Itr (lo:Int) (n:Nat):It:=⟨fun i _=>i < n,fun i H x H'=>H'=H∧x=.int (lo+i),fun i _=>n≤i⟩
theorem pZ {P:Program} {w:World} {K:PySem.W.Frag} {tg:Expr} (a it:Addr):Turn P w K tg (Itl K a) [it] it (fun i h=>h.IsListIter it a i) where
 mem:=by simp
 obj:=fun i h st b hb=>by
  have e:b=it:=by simpa using hb
  subst e;obtain ⟨o,e,c,d⟩:=st;exact ⟨o,e,fun v z=>by rw [d] at z;cases z⟩
 keep:=fun i h h' st k=>st.at fun o e=>k it (by simp) o e
 item:=by
  intro X hP hw hK hc i pins s σ H E I hf st hg;subst hP hw hK;obtain ⟨xs,x,hq,hx⟩:=hg;obtain ⟨its,rv,p,hz⟩:=I.list hq;obtain ⟨u,hu,ru⟩:=rv.get hx;obtain ⟨f0,f1,f2,f3,f4,f5⟩:=hf it (by simp);refine wpAny_pyNext_list_item st p.isList (x:=u) (by simpa using hu) fun h' st' sb=>?_;have I1:Inv X pins σ H { s with heap:=h' }:=I.turned (t':=s.toks) (fun b o hb e=>(sb.2 b hb).trans e) f0 f1 f3 f4 f5;obtain ⟨o,e,c,d⟩:=id st';exact ⟨u,rfl,l6 (s:={ s with heap:=h' }) e c d (by decide) ⟨x,H,I1,ru,⟨rfl,fun ys hy=>by rw [I.list_inj hy hq];exact hx⟩,st',fun b hb=>(hf b hb).1⟩⟩
 done:=by
  intro X hP hw hK hc i pins s σ H E I hf st hg;subst hP hw hK;obtain ⟨xs,hq,hx⟩:=hg;obtain ⟨its,rv,p,hz⟩:=I.list hq;obtain ⟨f0,f1,f2,f3,f4,f5⟩:=hf it (by simp);have hl:=rv.length;exact wpAny_pyNext_list_end (I.ok.hd hc) st p.isList (by simp;lia) fun h' eb=>⟨rfl,I.turned (t':=s.toks) (fun b o hb e=>eb b o hb e) f0 f1 f3 f4 f5⟩
 self:=fun _ _ _ _ _ st h=>wpAny_pyIter_listiter st h
theorem nJ {P:Program} {w:World} {K:PySem.W.Frag} {tg:Expr} (a it:Addr):Turn P w K tg (Itt K a) [it] it (fun i h=>h.IsTupleIter it a i) where
 mem:=by simp
 obj:=fun i h st b hb=>by
  have e:b=it:=by simpa using hb
  subst e;obtain ⟨o,e,c,d⟩:=st;exact ⟨o,e,fun v z=>by rw [d] at z;cases z⟩
 keep:=fun i h h' st k=>st.at fun o e=>k it (by simp) o e
 item:=by
  intro X hP hw hK hc i pins s σ H E I hf st hg;subst hP hw hK;obtain ⟨xs,x,hq,hx⟩:=hg;obtain ⟨its,rv,p,hz⟩:=I.tuple hq;obtain ⟨u,hu,ru⟩:=rv.get hx;obtain ⟨f0,f1,f2,f3,f4,f5⟩:=hf it (by simp);refine wpAny_pyNext_tuple_item st (show s.heap.IsTuple a its.toArray from p) (x:=u) (by simpa using hu) fun h' st' sb=>?_;have I1:Inv X pins σ H { s with heap:=h' }:=I.turned (t':=s.toks) (fun b o hb e=>(sb.2 b hb).trans e) f0 f1 f3 f4 f5;obtain ⟨o,e,c,d⟩:=id st';exact ⟨u,rfl,l6 (s:={ s with heap:=h' }) e c d (by decide) ⟨x,H,I1,ru,⟨rfl,fun ys hy=>by rw [I.tuple_inj hy hq];exact hx⟩,st',fun b hb=>(hf b hb).1⟩⟩
 done:=by
  intro X hP hw hK hc i pins s σ H E I hf st hg;subst hP hw hK;obtain ⟨xs,hq,hx⟩:=hg;obtain ⟨its,rv,p,hz⟩:=I.tuple hq;obtain ⟨f0,f1,f2,f3,f4,f5⟩:=hf it (by simp);have hl:=rv.length;exact wpAny_pyNext_tuple_end (I.ok.hd hc) st (show s.heap.IsTuple a its.toArray from p) (by simp;lia) fun h' eb=>⟨rfl,I.turned (t':=s.toks) (fun b o hb e=>eb b o hb e) f0 f1 f3 f4 f5⟩
 self:=fun _ _ _ _ _ st h=>wpAny_pyIter_tupleiter st h
theorem nK {P:Program} {w:World} {K:PySem.W.Frag} {tg:Expr} (it:Addr) (lo:Int) (n:Nat):Turn P w K tg (Itr lo n) [it] it (fun i h=>IsRangeIter h it (lo+(i:Nat)*1) ((n:Int) - (i:Nat)) 1) where
 mem:=by simp
 obj:=fun i h st b hb=>by
  have e:b=it:=by simpa using hb
  subst e;exact ⟨_,st,fun v z=>by
   have z':Data.fields _=Data.cell v:=z
   cases z'⟩
 keep:=fun i h h' st k=>k it (by simp) _ st
 item:=by
  intro X hP hw hK hc i pins s σ H E I hf st hg;subst hP hw hK;obtain ⟨f0,f1,f2,f3,f4,f5⟩:=hf it (by simp);have W:=Walks.range (prog:=X.prog) (w:=X.w) (I.ok.hd hc) it lo 1 n;refine W.item i s _ _ hg st fun v h' tk hv st' kk=>?_;obtain ⟨t,rfl⟩:=hv;have I1:Inv X pins σ H { s with heap:=h',toks:=tk }:=I.turned (fun b o hb e=>kk b o (by simpa using hb) e) f0 f1 f3 f4 f5;refine ⟨_,rfl,l6 (s:={ s with heap:=h',toks:=tk }) (n:= "range_iterator") st' rfl rfl (by decide) ⟨.int (lo+i),H,I1,⟨t,?_⟩,⟨rfl,rfl⟩,st',fun b hb=>(hf b hb).1⟩⟩;rw [Int.mul_one]
 done:=by
  intro X hP hw hK hc i pins s σ H E I hf st hg;subst hP hw hK;obtain ⟨f0,f1,f2,f3,f4,f5⟩:=hf it (by simp);exact wpAny_pyNext_range_end (I.ok.hd hc) st (by have:n≤i:=hg;lia) fun h' eb=>⟨rfl,I.turned (t':=s.toks) (fun b o hb e=>eb b o hb e) f0 f1 f3 f4 f5⟩
 self:=fun _ _ _ _ _ st h=>wpAny_pyIter_rangeiter st h
section
variable {X:Cx} {tg:Expr}
def uE (K:PySem.W.Frag) (tl:TE):TI:=fun σ H R=>tl σ H fun x H1=>∃ a,x=.ref a∧(∃ xs,SqL K H1 a xs)∧R (Itl K a) H1
def wF (K:PySem.W.Frag) (tl:TE):TI:=fun σ H R=>tl σ H fun x H1=>∃ a,x=.ref a∧(∃ xs,SqT K H1 a xs)∧R (Itt K a) H1
theorem sW {l:Expr} {tl:TE} (hl:PE X l tl):PI X tg l (uE X.K tl):=by
 intro pins s σ H R I h;refine thn (hl pins s σ H _ I h) fun v s1 ⟨x,H1,I1,r1,q1⟩=>?_;obtain ⟨a,e,⟨xs,hq⟩,q⟩:=q1;subst e
 cases r1
 obtain ⟨its,rv,p,hz⟩:=I1.list hq;refine wpAny_pyIter_list p.isList ?_;refine ⟨s1.heap.objs.size,[s1.heap.objs.size],_,_,H1,rfl,I1.kept (t':=s1.toks) fun b o e=>Heap.get?_push_of_some _ e,pZ a _,⟨_,Heap.get?_push_size _ rfl,rfl,rfl⟩,fun b hb=>?_,q⟩;have e:b=s1.heap.objs.size:=by simpa using hb
 subst e;exact I1.fpOk (Nat.le_refl _) (I1.hok.fresh (Nat.le_refl _))
theorem uZ {l:Expr} {tl:TE} (hl:PE X l tl):PI X tg l (wF X.K tl):=by
 intro pins s σ H R I h;refine thn (hl pins s σ H _ I h) fun v s1 ⟨x,H1,I1,r1,q1⟩=>?_;obtain ⟨a,e,⟨xs,hq⟩,q⟩:=q1;subst e
 cases r1
 obtain ⟨its,rv,p,hz⟩:=I1.tuple hq;refine wpAny_pyIter_tuple (show s1.heap.IsTuple a its.toArray from p) ?_;refine ⟨s1.heap.objs.size,[s1.heap.objs.size],_,_,H1,rfl,I1.kept (t':=s1.toks) fun b o e=>Heap.get?_push_of_some _ e,nJ a _,⟨_,Heap.get?_push_size _ rfl,rfl,rfl⟩,fun b hb=>?_,q⟩;have e:b=s1.heap.objs.size:=by simpa using hb
 subst e;exact I1.fpOk (Nat.le_refl _) (I1.hok.fresh (Nat.le_refl _))
theorem qO {pins:List (Addr×Obj)} {σ:St} {H:Hp} {s:Shared} {R:It→Hp→Prop} {E:Value→Shared→Prop} {lo hi:Int} {t u v:Tok} {tk:Nat} (I:Inv X pins σ H s) (h1:-(2 ^ 62)≤lo) (h2:lo < 2 ^ 62) (h3:-(2 ^ 62)≤hi) (h4:hi < 2 ^ 62)
  (q:R (Itr lo (hi - lo).toNat) H):wpAny (model X.prog X.w) X.A (pyIter (.ref s.heap.objs.size)) (PIE X pins σ tg R) E { s with heap:=s.heap.push { cls:=.type "range",data:=.fields #[.int lo t,.int hi u,.int 1 v] },toks:=tk }:=by
 refine wpAny_pyIter_range (IsRange.new ..) (small_one h1 h2 h3 h4) ?_;have I1:Inv X pins σ H { s with heap:=s.heap.push { cls:=.type "range",data:=.fields #[.int lo t,.int hi u,.int 1 v] },toks:=tk }:=I.kept fun b o e=>Heap.get?_push_of_some _ e;refine ⟨(s.heap.push { cls:=.type "range",data:=.fields #[.int lo t,.int hi u,.int 1 v] }).objs.size,[(s.heap.push { cls:=.type "range",data:=.fields #[.int lo t,.int hi u,.int 1 v] }).objs.size],_,_,H,rfl,
  I1.kept (t':=tk) fun b o e=>Heap.get?_push_of_some _ e,nK _ lo (hi - lo).toNat,?_,fun b hb=>?_,q⟩
 ·have e1:lo+((0:Nat):Int)*1=lo:=by simp
  have e2:(((hi - lo).toNat:Nat):Int) - ((0:Nat):Int)=Builtin.Range.rangeSize lo hi 1:=by rw [rangeSize_one];split <;> lia
  show IsRangeIter _ _ (lo+((0:Nat):Int)*1) ((((hi - lo).toNat:Nat):Int) - ((0:Nat):Int)) 1;rw [e1,e2];exact Heap.get?_push_size _ rfl
 ·have e:b=(s.heap.push { cls:=.type "range",data:=.fields #[.int lo t,.int hi u,.int 1 v] }).objs.size:=by simpa using hb
  subst e;exact I1.fpOk (Nat.le_refl _) (I1.hok.fresh (Nat.le_refl _))
def wG (ta:TA):TI:=fun σ H R=>ta σ H fun vs H1=>∃ j:Int,vs=[.int j]∧-(2 ^ 62)≤j∧j < 2 ^ 62∧R (Itr 0 j.toNat) H1
theorem eU {a:Expr} {ta:TA} {p pos:Pos} (hg:Gl X "range") (hm:X.mg "range" = none) (ha:PA X [a] ta) (hs:starEach [a] X.env=[(false,eval a X.env)]:=by rfl):PI X tg (.Call (.Name "range" p) [a] [] pos) (wG ta):=by
 intro pins s σ H R I h;refine Call_ (dZ I hg hm boot_range (PyProof.Rows.callWith_type1 (thn (ha pos pins s σ H _ I h) fun us s1 ⟨vs,H1,I1,r1,q1⟩=>?_) hs rfl));obtain ⟨j,e,q1,q2,q⟩:=q1;subst e
 cases r1 with
 | cons r rr =>
  cases rr
  obtain ⟨t,rfl⟩:=r;exact call_range_1 (qO I1 (by lia) (by lia) q1 q2 (by simpa using q))
def tFor (wi:TI) (g:TG) (tb:TS):TS:=fun D σ H=>wi σ H fun J H1=>∃ W:Nat→Nat→St→Hp→Prop,(∃ m,W 0 m σ H1)∧∀ i m σ H,W i m σ H →
 (J.stop i H∧D.nx σ H)∨(J.go i H∧∃ N:St→Hp→Prop,(∀ σ' H',N σ' H'→∃ m',m' < m∧W (i+1) m' σ' H')∧∀ x H',J.yld i H x H'→g x σ H' fun σ2 H2=>tb { D with nx:=N,ct:=N,bk:=D.nx } σ2 H2)
def j5 (fp:List Addr) (h:Heap):List (Addr×Obj):=fp.filterMap fun b=>(h.get? b).map fun o=>(b,o)
theorem bR {fp:List Addr} {h:Heap} {b:Addr} {o:Obj} (hb:b∈fp) (e:h.get? b=some o):(b,o)∈j5 fp h:=List.mem_filterMap.mpr ⟨b,hb,by rw [e];rfl⟩
theorem p3 {fp:List Addr} {h:Heap} {p:Addr×Obj} (hp:p∈j5 fp h):p.1∈fp∧h.get? p.1=some p.2:=by
 obtain ⟨b,hb,e⟩:=List.mem_filterMap.mp hp
 cases q:h.get? b with
 | none=>rw [q] at e;cases e
 | some o =>
  rw [q] at e;have e':(b,o)=p:=Option.some.inj e;subst e';exact ⟨hb,q⟩
theorem Inv.pinned {pins:List (Addr×Obj)} {σ:St} {H:Hp} {s:Shared} {fp:List Addr} (I:Inv X pins σ H s) (hf:∀ b∈fp,fH X pins H b) (ho:∀ b∈fp,∃ o,s.heap.get? b=some o∧∀ v,o.data≠.cell v):Inv X (pins++j5 fp s.heap) σ H s :=
 I.pins_of fun p hp=>(List.mem_append.mp hp).elim (fun z=>I.pin p (List.mem_append_right _ z)) fun z=>by
  obtain ⟨hb,e⟩:=p3 z;obtain ⟨f0,f1,f2,_⟩:=hf p.1 hb;obtain ⟨o,e',d⟩:=ho p.1 hb;rw [e] at e';cases e';exact ⟨e,f0,f1,f2,d⟩
theorem Inv.unpinned {pins pl:List (Addr×Obj)} {σ:St} {H:Hp} {s:Shared} (I:Inv X (pins++pl) σ H s):Inv X pins σ H s:=I.pins_of fun p hp=>I.pin p (List.mem_append_right _ (List.mem_append_left _ hp))
theorem ps_for {iter:Expr} {body:List Stmt} {wi:TI} {g:TG} {tb:TS} {pos:Pos} (hp:PassesOwn (model X.prog X.w) X.A X.env X.xe) (hc:X.calm=true) (hi:PI X tg iter wi) (hg:PG X tg g) (hb:PSs X body tb)
  (hs:∀ x,foldedSetIterable iter X.env x=pure x:=by intro _;rfl):PS X (.For tg iter body [] pos) (tFor wi g tb):=by
 intro pins s σ H D I h;refine wpAny_For (thn (hi pins s σ H _ I h) fun v s1 h1=>thn h1 fun itv s2 h2=>?_) hs;obtain ⟨it,fp,tn,J,H2,e,I2,T,st2,f2,W,⟨m0,w0⟩,turn⟩:=h2;subst e;have stat:∀ {H':Hp},(∀ b∈fp,H' b=none)→∀ b∈fp,fH X pins H' b:=fun hn b hb=>⟨hn b hb,(f2 b hb).2⟩;refine codeAny_forLoop_any (fun n s'=>∃ i σ' H',Inv X pins σ' H' s'∧tn i s'.heap∧(∀ b∈fp,H' b=none)∧W i n σ' H') ?_ m0 ⟨0,σ,H2,I2,st2,fun b hb=>(f2 b hb).1,w0⟩;rintro n s3 ⟨i,σ3,H3,I3,st3,fr3,w3⟩;rcases turn i n σ3 H3 w3 with ⟨stop,qn⟩ | ⟨go,N,hN,step⟩
 ·refine wpAny_passesOwn hp (thn (T.done X rfl rfl rfl hc i pins s3 σ3 H3 X.xe I3 (stat fr3) st3 stop) fun r s4 ⟨hr,I4⟩=>?_);subst hr;exact wpAny_execs_nil ⟨σ3,H3,I4,qn⟩
 ·refine wpAny_passesOwn hp (thn (T.item X rfl rfl rfl hc i pins s3 σ3 H3 X.xe I3 (stat fr3) st3 go) fun r s4 ⟨u,hr,h4⟩=>?_);subst hr;refine wpAny_passesOwn hp (thn h4 fun _ s5 ⟨x,H5,I5,r5,y5,st5,fr5⟩=>?_);have I5':=I5.pinned (stat fr5) (T.obj _ _ st5);refine wpAny_passesOwn hp (thn (hg _ s5 σ3 H5 x u _ I5' r5 (step x H5 y5)) fun _ s6 ⟨σ6,H6,I6,q6⟩=>?_);refine wpAny_passesOwn hp (thn (hb _ s6 σ6 H6 _ I6 q6) fun f s7 q7=>?_);have again:∀ {σ7:St} {H7:Hp},Inv X (pins++j5 fp s5.heap) σ7 H7 s7→N σ7 H7→∃ m,m < n∧∃ i σ' H',Inv X pins σ' H' s7∧tn i s7.heap∧(∀ b∈fp,H' b=none)∧W i m σ' H':=fun {σ7 H7} I7 n7=>by
   obtain ⟨m',hm,w7⟩:=hN σ7 H7 n7;refine ⟨m',hm,i+1,σ7,H7,I7.unpinned,T.keep _ _ _ st5 fun b hb o e=>(I7.pin (b,o) (List.mem_append_right _ (List.mem_append_right _ (bR hb e)))).1,fun b hb=>?_,w7⟩;obtain ⟨o,e,d⟩:=T.obj _ _ st5 b hb;exact (I7.pin (b,o) (List.mem_append_right _ (List.mem_append_right _ (bR hb e)))).2.1
  cases f with
  | next=>obtain ⟨σ7,H7,I7,n7⟩:=q7;exact again I7 n7
  | cont=>obtain ⟨σ7,H7,I7,n7⟩:=q7;exact again I7 n7
  | brk=>obtain ⟨σ7,H7,I7,q7⟩:=q7;exact ⟨σ7,H7,I7.unpinned,q7⟩
  | ret v=>obtain ⟨x7,σ7,H7,I7,r7,q7⟩:=q7;exact ⟨x7,σ7,H7,I7.unpinned,r7,q7⟩
end
theorem cj {K:PySem.W.Frag} {a:Addr} {xs:List V} {g:TG} {tb:TS} {D:Ends} {σ:St} {H:Hp} (Pv:Nat→St→Hp→Prop) (h0:Pv 0 σ H) (hl:∀ i σ H,i≤xs.length→Pv i σ H→SqL K H a xs)
  (hs:∀ i x σ H,xs[i]?=some x→Pv i σ H→g x σ H fun σ2 H2=>tb { D with nx:=Pv (i+1),ct:=Pv (i+1),bk:=D.nx } σ2 H2) (hd:∀ σ H,Pv xs.length σ H→D.nx σ H) :
  ∃ W:Nat→Nat→St→Hp→Prop,(∃ m,W 0 m σ H)∧∀ i m σ H,W i m σ H →
   ((Itl K a).stop i H∧D.nx σ H)∨((Itl K a).go i H∧∃ N:St→Hp→Prop,(∀ σ' H',N σ' H'→∃ m',m' < m∧W (i+1) m' σ' H')∧∀ x H',(Itl K a).yld i H x H'→g x σ H' fun σ2 H2=>tb { D with nx:=N,ct:=N,bk:=D.nx } σ2 H2):=by
 refine ⟨fun i m σ H=>m=xs.length - i∧i≤xs.length∧Pv i σ H,⟨xs.length,by simp,Nat.zero_le _,h0⟩,?_⟩;rintro i m σ H ⟨rfl,hi,p⟩;have q:=hl i σ H hi p
 by_cases hlt:i < xs.length
 ·refine .inr ⟨⟨xs,xs[i],q,by simp [hlt]⟩,Pv (i+1),fun σ' H' p'=>⟨xs.length - (i+1),by lia,rfl,hlt,p'⟩,fun x H' y=>?_⟩;obtain ⟨e,y⟩:=y;subst e;exact hs i x σ _ (y xs q) p
 ·have e:i=xs.length:=by lia
  subst e;exact .inl ⟨⟨xs,q,Nat.le_refl _⟩,hd σ H p⟩
theorem eV {K:PySem.W.Frag} {a:Addr} {xs:List V} {g:TG} {tb:TS} {D:Ends} {σ:St} {H:Hp} (Pv:Nat→St→Hp→Prop) (h0:Pv 0 σ H) (hl:∀ i σ H,i≤xs.length→Pv i σ H→SqT K H a xs)
  (hs:∀ i x σ H,xs[i]?=some x→Pv i σ H→g x σ H fun σ2 H2=>tb { D with nx:=Pv (i+1),ct:=Pv (i+1),bk:=D.nx } σ2 H2) (hd:∀ σ H,Pv xs.length σ H→D.nx σ H) :
  ∃ W:Nat→Nat→St→Hp→Prop,(∃ m,W 0 m σ H)∧∀ i m σ H,W i m σ H →
   ((Itt K a).stop i H∧D.nx σ H)∨((Itt K a).go i H∧∃ N:St→Hp→Prop,(∀ σ' H',N σ' H'→∃ m',m' < m∧W (i+1) m' σ' H')∧∀ x H',(Itt K a).yld i H x H'→g x σ H' fun σ2 H2=>tb { D with nx:=N,ct:=N,bk:=D.nx } σ2 H2):=by
 refine ⟨fun i m σ H=>m=xs.length - i∧i≤xs.length∧Pv i σ H,⟨xs.length,by simp,Nat.zero_le _,h0⟩,?_⟩;rintro i m σ H ⟨rfl,hi,p⟩;have q:=hl i σ H hi p
 by_cases hlt:i < xs.length
 ·refine .inr ⟨⟨xs,xs[i],q,by simp [hlt]⟩,Pv (i+1),fun σ' H' p'=>⟨xs.length - (i+1),by lia,rfl,hlt,p'⟩,fun x H' y=>?_⟩;obtain ⟨e,y⟩:=y;subst e;exact hs i x σ _ (y xs q) p
 ·have e:i=xs.length:=by lia
  subst e;exact .inl ⟨⟨xs,q,Nat.le_refl _⟩,hd σ H p⟩
theorem gN {lo:Int} {n:Nat} {g:TG} {tb:TS} {D:Ends} {σ:St} {H:Hp} (Pv:Nat→St→Hp→Prop) (h0:Pv 0 σ H)
  (hs:∀ i σ H,i < n→Pv i σ H→g (.int (lo+i)) σ H fun σ2 H2=>tb { D with nx:=Pv (i+1),ct:=Pv (i+1),bk:=D.nx } σ2 H2) (hd:∀ σ H,Pv n σ H→D.nx σ H) :
  ∃ W:Nat→Nat→St→Hp→Prop,(∃ m,W 0 m σ H)∧∀ i m σ H,W i m σ H →
   ((Itr lo n).stop i H∧D.nx σ H)∨((Itr lo n).go i H∧∃ N:St→Hp→Prop,(∀ σ' H',N σ' H'→∃ m',m' < m∧W (i+1) m' σ' H')∧∀ x H',(Itr lo n).yld i H x H'→g x σ H' fun σ2 H2=>tb { D with nx:=N,ct:=N,bk:=D.nx } σ2 H2):=by
 refine ⟨fun i m σ H=>m=n - i∧i≤n∧Pv i σ H,⟨n,by simp,Nat.zero_le _,h0⟩,?_⟩;rintro i m σ H ⟨rfl,hi,p⟩
 by_cases hlt:i < n
 ·refine .inr ⟨hlt,Pv (i+1),fun σ' H' p'=>⟨n - (i+1),by lia,rfl,hlt,p'⟩,fun x H' y=>?_⟩;obtain ⟨e,y⟩:=y;subst e y;exact hs i σ _ hlt p
 ·have e:i=n:=by lia
  subst e;exact .inl ⟨Nat.le_refl _,hd σ H p⟩
abbrev R2:=V→V→Hp→VK→Prop
def OpR (X:Cx) (f:Value→Value→Sem Value) (r:R2):Prop :=
 ∀ (pins:List (Addr×Obj)) (s:Shared) (σ:St) (H:Hp) (x y:V) (v u:Value) (Q:VK),Inv X pins σ H s→RelV x v→RelV y u→r x y H Q →
  wpAny (model X.prog X.w) X.A (f v u) (EP X pins σ Q) X.xe s
def UnR (X:Cx) (f:Value→Sem Value) (r:V→Hp→VK→Prop):Prop :=
 ∀ (pins:List (Addr×Obj)) (s:Shared) (σ:St) (H:Hp) (x:V) (v:Value) (Q:VK),Inv X pins σ H s→RelV x v→r x H Q →
  wpAny (model X.prog X.w) X.A (f v) (EP X pins σ Q) X.xe s
def CallR (X:Cx) (f:Value) (r:List V→Hp→VK→Prop):Prop :=
 ∀ (pins:List (Addr×Obj)) (s:Shared) (σ:St) (H:Hp) (xs:List V) (us:List Value) (Q:VK),Inv X pins σ H s→Vals xs us→r xs H Q →
  wpAny (model X.prog X.w) X.A (call f us) (EP X pins σ Q) X.xe s
def tOp (r:R2) (ta tb:TE):TE:=fun σ H Q=>ta σ H fun x H1=>tb σ H1 fun y H2=>r x y H2 Q
def tUn (r:V→Hp→VK→Prop) (ta:TE):TE:=fun σ H Q=>ta σ H fun x H1=>r x H1 Q
inductive IRI (C:Int→Int→Prop) (g:Int→Int→V) (x y:V) (H:Hp) (Q:VK):Prop
 | mk (i j:Int):(x=.int i)→(y=.int j)→(C i j)→(Q (g i j) H)→IRI C g x y H Q
def rI (C:Int→Int→Prop) (g:Int→Int→V):R2:=fun x y H Q=>IRI C g x y H Q
inductive IRI0 (g:Int→Int→V) (x y:V) (H:Hp) (Q:VK):Prop
 | mk (i j:Int):(x=.int i)→(y=.int j)→(Q (g i j) H)→IRI0 g x y H Q
def rI0 (g:Int→Int→V):R2:=fun x y H Q=>IRI0 g x y H Q
def rU (g:Int→V):V→Hp→VK→Prop:=fun x H Q=>∃ i,x=.int i∧Q (g i) H
section
variable {X:Cx} {a b c:Expr} {ta tb tc:TE} {pos:Pos}
theorem u0 (ha:PE X a ta) (hb:PE X b tb) {pins:List (Addr×Obj)} {s:Shared} {σ:St} {H:Hp} {R:V→V→Hp→Prop} (I:Inv X pins σ H s)
  (h:ta σ H fun x H1=>tb σ H1 fun y H2=>R x y H2) {Q:Value→Shared→Prop} {f:Value→Value→Sem Value}
  (hf:∀ v u s2 x y H2,Inv X pins σ H2 s2→RelV x v→RelV y u→R x y H2→wpAny (model X.prog X.w) X.A (f v u) Q X.xe s2) :
  wpAny (model X.prog X.w) X.A (eval a X.env) (fun v s₁=>wpAny (model X.prog X.w) X.A (eval b X.env) (fun u s₂=>wpAny (model X.prog X.w) X.A (f v u) Q X.xe s₂) X.xe s₁) X.xe s:=by
 refine thn (ha pins s σ H _ I h) fun v s1 ⟨x,H1,I1,r1,q1⟩=>?_;refine thn (hb pins s1 σ H1 _ I1 q1) fun u s2 ⟨y,H2,I2,r2,q2⟩=>?_;exact hf v u s2 x y H2 I2 r1 r2 q2
theorem pe_op {op:Operator} {r:R2} (ho:OpR X (binaryOp op) r) (ha:PE X a ta) (hb:PE X b tb):PE X (.BinOp a op b pos) (tOp r ta tb):=by
 intro pins s σ H Q I h;exact wpAny_BinOp (u0 ha hb I h fun v u s2 x y H2 I2 rx ry q=>ho pins s2 σ H2 x y v u Q I2 rx ry q)
theorem pe_un {op:UnaryOp} {r:V→Hp→VK→Prop} (ho:UnR X (unaryOp op) r) (ha:PE X a ta):PE X (.UnaryOp op a pos) (tUn r ta):=by
 intro pins s σ H Q I h;exact UnaryOp_ (thn (ha pins s σ H _ I h) fun v s1 ⟨x,H1,I1,r1,q1⟩=>ho pins s1 σ H1 x v Q I1 r1 q1)
theorem opI {f:Value→Value→Sem Value} {C:Int→Int→Prop} {g:Int→Int→Int}
  (rule:∀ (i j:Int) (t u:Tok) (s:Shared) (Q:Value→Shared→Prop) (E:Value→Shared→Prop),C i j→Q (.int (g i j) s.toks) { s with toks:=s.toks+1 }→wpAny (model X.prog X.w) X.A (f (.int i t) (.int j u)) Q E s) :
  OpR X f (rI C fun i j=>.int (g i j)):=by
 intro pins s σ H x y v u Q I rx ry h;obtain ⟨i,j,rfl,rfl,hc,q⟩:=h;obtain ⟨t,rfl⟩:=rx;obtain ⟨t',rfl⟩:=ry;exact rule i j t t' s _ _ hc ⟨.int (g i j),H,I.tok _,⟨_,rfl⟩,q⟩
theorem wH {f:Value→Value→Sem Value} {g:Int→Int→Int}
  (rule:∀ (i j:Int) (t u:Tok) (s:Shared) (Q:Value→Shared→Prop) (E:Value→Shared→Prop),Q (.int (g i j) s.toks) { s with toks:=s.toks+1 }→wpAny (model X.prog X.w) X.A (f (.int i t) (.int j u)) Q E s) :
  OpR X f (rI0 fun i j=>.int (g i j)):=by
 intro pins s σ H x y v u Q I rx ry h;obtain ⟨i,j,rfl,rfl,q⟩:=h;obtain ⟨t,rfl⟩:=rx;obtain ⟨t',rfl⟩:=ry;exact rule i j t t' s _ _ ⟨.int (g i j),H,I.tok _,⟨_,rfl⟩,q⟩
theorem sX {f:Value→Value→Sem Value} {g:Int→Int→Bool}
  (rule:∀ (i j:Int) (t u:Tok) (s:Shared) (Q:Value→Shared→Prop) (E:Value→Shared→Prop),Q (.bool (g i j)) s→wpAny (model X.prog X.w) X.A (f (.int i t) (.int j u)) Q E s) :
  OpR X f (rI0 fun i j=>.bl (g i j)):=by
 intro pins s σ H x y v u Q I rx ry h;obtain ⟨i,j,rfl,rfl,q⟩:=h;obtain ⟨t,rfl⟩:=rx;obtain ⟨t',rfl⟩:=ry;exact rule i j t t' s _ _ ⟨.bl (g i j),H,I,rfl,q⟩
def xW (i j:Int):Prop:=0≤j∧j≤1000000∧i.natAbs < 2 ^ 64
def CMul (i j:Int):Prop:=(-(2 ^ 64) < i∧i < 2 ^ 64)∨(-(2 ^ 64) < j∧j < 2 ^ 64)
theorem CMul.ok {i j:Int} (h:CMul i j):IntMulOk i j:=by
 rcases h with ⟨h1,h2⟩ | ⟨h1,h2⟩
 ·exact .of_left (intBits_le_64 h1 h2)
 ·exact .of_right (intBits_le_64 h1 h2)
theorem bS:OpR X (binaryOp .Add) (rI0 fun i j=>.int (i+j)):=wH fun _ _ _ _ _ _ _ q=>add_int q
theorem op_sub:OpR X (binaryOp .Sub) (rI0 fun i j=>.int (i - j)):=wH fun _ _ _ _ _ _ _ q=>sub_int q
theorem gO:OpR X (binaryOp .Mult) (rI CMul fun i j=>.int (i*j)):=opI fun _ _ _ _ _ _ _ hc q=>mul_int q hc.ok
theorem fI:OpR X (binaryOp .Mod) (rI (fun _ j=>0 < j) fun i j=>.int (i % j)):=opI fun i j _ _ _ _ _ hc q=>by
 have h1:(0:Int) < j:=hc;exact mod_int' (by lia) (by rw [Int.fmod_eq_emod_of_nonneg i (by lia)];exact q)
theorem op_pow:OpR X (binaryOp .Pow) (rI xW fun i j=>.int (i ^ j.toNat)):=opI fun _ _ _ _ _ _ _ hc q=>pow_int_small hc.1 hc.2.1 hc.2.2 q
theorem unI {f:Value→Sem Value} {g:Int→Int}
  (rule:∀ (i:Int) (t:Tok) (s:Shared) (Q:Value→Shared→Prop) (E:Value→Shared→Prop),Q (.int (g i) s.toks) { s with toks:=s.toks+1 }→wpAny (model X.prog X.w) X.A (f (.int i t)) Q E s) :
  UnR X f (rU fun i=>.int (g i)):=by
 intro pins s σ H x v Q I rx h;obtain ⟨i,rfl,q⟩:=h;obtain ⟨t,rfl⟩:=rx;exact rule i t s _ _ ⟨.int (g i),H,I.tok _,⟨_,rfl⟩,q⟩
theorem un_neg:UnR X (unaryOp .USub) (rU fun i=>.int (-i)):=unI fun _ _ _ _ _ q=>neg_int q
end
def u3:V→V→Bool
 | .non,.non=>true | .non,.int _=>true | .int _,.non=>true | .non,.bl _=>true | .bl _,.non=>true | .non,.str _=>true | .str _,.non=>true
 | .int _,.int _=>true | .bl _,.bl _=>true | .str _,.str _=>true | .byt _,.byt _=>true
 | .int _,.str _=>true | .str _,.int _=>true | .bl _,.str _=>true | .str _,.bl _=>true
 | _,_=>false
def rEq:R2:=fun x y H Q=>u3 x y=true∧Q (.bl (decide (x=y))) H
def rNe:R2:=fun x y H Q=>u3 x y=true∧Q (.bl (!decide (x=y))) H
theorem oX {i j:Int}:decide (V.int i=V.int j)=(i == j):=by
 rw [Bool.eq_iff_iff];simp
theorem qP {i j:Bool}:decide (V.bl i=V.bl j)=(i == j):=by
 rw [Bool.eq_iff_iff];simp
theorem oY {i j:Str}:decide (V.str i=V.str j)=(i == j):=by
 rw [Bool.eq_iff_iff];simp
theorem oZ {i j:Array UInt8}:decide (V.byt i=V.byt j)=(i.toList == j.toList):=by
 rw [Bool.eq_iff_iff]
 cases i
 cases j
 simp
section
variable {X:Cx} {a b c:Expr} {ta tb tc:TE} {pos:Pos}
theorem az {pins:List (Addr×Obj)} {σ:St} {H:Hp} {s:Shared} {Q:VK} {k k':Bool} (I:Inv X pins σ H s) (q:Q (.bl k) H) (e:k=k'):EP X pins σ Q (.bool k') s:=by
 subst e;exact ⟨.bl k,H,I,rfl,q⟩
theorem op_eq:OpR X (compareOp .Eq) rEq:=by
 intro pins s σ H x y v u Q I rx ry h;obtain ⟨hs,q⟩:=h
 cases x with
 | non =>
  cases rx
  cases y with
  | non=>cases ry;exact PySem.EqNone.eq_none_none (az I q (by simp))
  | bl j=>cases ry;exact PySem.EqNone.eq_none_bool (az I q (by simp))
  | int j=>obtain ⟨t',rfl⟩:=ry;exact PySem.EqNone.eq_none_int (az I q (by simp))
  | str j=>obtain ⟨t',rfl⟩:=ry;exact PySem.EqNone.eq_none_str (az I q (by simp))
  | _=>exact absurd (show false=true from hs) Bool.false_ne_true
 | bl i =>
  cases rx
  cases y with
  | non=>cases ry;exact PySem.EqNone.eq_bool_none (az I q (by simp))
  | bl j=>cases ry;exact eq_bool (az I q qP)
  | str j=>obtain ⟨t',rfl⟩:=ry;exact PySem.EqMixed.eq_bool_str (az I q (by simp))
  | _=>exact absurd (show false=true from hs) Bool.false_ne_true
 | int i =>
  obtain ⟨t,rfl⟩:=rx
  cases y with
  | non=>cases ry;exact PySem.EqNone.eq_int_none (az I q (by simp))
  | int j=>obtain ⟨t',rfl⟩:=ry;exact eq_int (az I q oX)
  | str j=>obtain ⟨t',rfl⟩:=ry;exact PySem.EqMixed.eq_int_str (az I q (by simp))
  | _=>exact absurd (show false=true from hs) Bool.false_ne_true
 | str i =>
  obtain ⟨t,rfl⟩:=rx
  cases y with
  | non=>cases ry;exact PySem.EqNone.eq_str_none (az I q (by simp))
  | bl j=>cases ry;exact PySem.EqMixed.eq_str_bool (az I q (by simp))
  | int j=>obtain ⟨t',rfl⟩:=ry;exact PySem.EqMixed.eq_str_int (az I q (by simp))
  | str j=>obtain ⟨t',rfl⟩:=ry;exact eq_str (az I q oY)
  | _=>exact absurd (show false=true from hs) Bool.false_ne_true
 | byt i =>
  obtain ⟨t,rfl⟩:=rx
  cases y with
  | byt j=>obtain ⟨t',rfl⟩:=ry;exact PySem.W.eq_bytes (az I q oZ)
  | _=>exact absurd (show false=true from hs) Bool.false_ne_true
 | _=>cases y <;> exact absurd (show false=true from hs) Bool.false_ne_true
theorem op_ne:OpR X (compareOp .NotEq) rNe:=by
 intro pins s σ H x y v u Q I rx ry h;obtain ⟨hs,q⟩:=h
 cases x with
 | non =>
  cases rx
  cases y with
  | non=>cases ry;exact PySem.EqNone.ne_none_none (az I q (by simp))
  | bl j=>cases ry;exact PySem.EqNone.ne_none_bool (az I q (by simp))
  | int j=>obtain ⟨t',rfl⟩:=ry;exact PySem.EqNone.ne_none_int (az I q (by simp))
  | str j=>obtain ⟨t',rfl⟩:=ry;exact PySem.EqNone.ne_none_str (az I q (by simp))
  | _=>exact absurd (show false=true from hs) Bool.false_ne_true
 | bl i =>
  cases rx
  cases y with
  | non=>cases ry;exact PySem.EqNone.ne_bool_none (az I q (by simp))
  | bl j=>cases ry;exact ne_bool (az I q (congrArg not qP))
  | str j=>obtain ⟨t',rfl⟩:=ry;exact PySem.EqMixed.ne_bool_str (az I q (by simp))
  | _=>exact absurd (show false=true from hs) Bool.false_ne_true
 | int i =>
  obtain ⟨t,rfl⟩:=rx
  cases y with
  | non=>cases ry;exact PySem.EqNone.ne_int_none (az I q (by simp))
  | int j=>obtain ⟨t',rfl⟩:=ry;exact ne_int (az I q (congrArg not oX))
  | str j=>obtain ⟨t',rfl⟩:=ry;exact PySem.EqMixed.ne_int_str (az I q (by simp))
  | _=>exact absurd (show false=true from hs) Bool.false_ne_true
 | str i =>
  obtain ⟨t,rfl⟩:=rx
  cases y with
  | non=>cases ry;exact PySem.EqNone.ne_str_none (az I q (by simp))
  | bl j=>cases ry;exact PySem.EqMixed.ne_str_bool (az I q (by simp))
  | int j=>obtain ⟨t',rfl⟩:=ry;exact PySem.EqMixed.ne_str_int (az I q (by simp))
  | str j=>obtain ⟨t',rfl⟩:=ry;exact ne_str (az I q (congrArg not oY))
  | _=>exact absurd (show false=true from hs) Bool.false_ne_true
 | byt i =>
  obtain ⟨t,rfl⟩:=rx
  cases y with
  | byt j=>obtain ⟨t',rfl⟩:=ry;exact PySem.W.ne_bytes (az I q (congrArg not oZ))
  | _=>exact absurd (show false=true from hs) Bool.false_ne_true
 | _=>cases y <;> exact absurd (show false=true from hs) Bool.false_ne_true
theorem wI:OpR X (compareOp .Lt) (rI0 fun i j=>.bl (decide (i < j))):=sX fun _ _ _ _ _ _ _ q=>lt_int q
theorem op_le:OpR X (compareOp .LtE) (rI0 fun i j=>.bl (decide (i≤j))):=sX fun _ _ _ _ _ _ _ q=>le_int q
theorem op_gt:OpR X (compareOp .Gt) (rI0 fun i j=>.bl (decide (j < i))):=sX fun _ _ _ _ _ _ _ q=>gt_int q
theorem wJ:OpR X (compareOp .GtE) (rI0 fun i j=>.bl (decide (j≤i))):=sX fun _ _ _ _ _ _ _ q=>ge_int q
theorem p4:OpR X (compareOp .Lt) (fun x y H Q=>∃ i j,x=.str i∧y=.str j∧Q (.bl (decide (i.cps.toList < j.cps.toList))) H):=by
 intro pins s σ H x y v u Q I rx ry h;obtain ⟨i,j,rfl,rfl,q⟩:=h;obtain ⟨t,rfl⟩:=rx;obtain ⟨t',rfl⟩:=ry;exact lt_str (az I q rfl)
theorem p6:OpR X (compareOp .In) (fun x y H Q=>∃ i j,x=.str i∧y=.str j∧Q (.bl (!(Builtin.Str.occurrences j i 0 j.length 1).isEmpty)) H):=by
 intro pins s σ H x y v u Q I rx ry h;obtain ⟨i,j,rfl,rfl,q⟩:=h;obtain ⟨t,rfl⟩:=rx;obtain ⟨t',rfl⟩:=ry;exact in_str (az I q rfl)
theorem nL:OpR X (compareOp .Is) (fun x y H Q=>y=.non∧Q (.bl (decide (x=.non))) H):=by
 intro pins s σ H x y v u Q I rx ry h;obtain ⟨rfl,q⟩:=h
 cases ry
 refine is_none_gen (az I q ?_)
 cases x <;> first
  | (cases rx;rfl)
  | (obtain ⟨t,rfl⟩:=rx;rfl)
theorem op_notN:OpR X (compareOp .IsNot) (fun x y H Q=>y=.non∧Q (.bl (!decide (x=.non))) H):=by
 intro pins s σ H x y v u Q I rx ry h;obtain ⟨rfl,q⟩:=h
 cases ry
 refine isnot_none_gen (az I q ?_)
 cases x <;> first
  | (cases rx;rfl)
  | (obtain ⟨t,rfl⟩:=rx;rfl)
theorem nomark (b:Expr) {op:CmpOp} (h:op≠.In:=by decide) (h2:op≠.NotIn:=by decide):behindInMarks op b=false:=by
 have e1:(op == CmpOp.In)=false:=by cases op <;> first | rfl | exact absurd rfl h
 have e2:(op == CmpOp.NotIn)=false:=by cases op <;> first | rfl | exact absurd rfl h2
 cases b <;> simp [behindInMarks,e1,e2]
theorem pe_cmpR {op:CmpOp} {r:R2} (ho:OpR X (compareOp op) r) (ha:PE X a ta) (hb:PE X b tb) (hm:behindInMarks op b=false):PE X (.Compare a [op] [b] pos) (tOp r ta tb):=by
 intro pins s σ H Q I h;exact wpAny_Compare1 (u0 ha hb I h fun v u s2 x y H2 I2 rx ry q=>ho pins s2 σ H2 x y v u Q I2 rx ry q) hm
inductive IBl (x:V) (H':Hp) (Q:Bool→Hp→Prop):Prop
 | mk (k:Bool):(x=.bl k)→(Q k H')→IBl x H' Q
def uF (t:TE):TT:=fun σ H Q=>t σ H fun x H'=>IBl x H' Q
theorem pt_cmpR {op:CmpOp} {r:R2} (ho:OpR X (compareOp op) r) (ha:PE X a ta) (hb:PE X b tb) (hm:behindInMarks op b=false):PT X (.Compare a [op] [b] pos) (uF (tOp r ta tb)):=by
 intro pins s σ H Q I h;refine wpAny_isTrue_Compare1 (thn (ha pins s σ H _ I h) fun v s1 ⟨x,H1,I1,r1,q1⟩=>thn (hb pins s1 σ H1 _ I1 q1) fun u s2 ⟨y,H2,I2,r2,q2⟩ =>
  thn (ho pins s2 σ H2 x y v u _ I2 r1 r2 q2) fun c s3 ⟨z,H3,I3,r3,k,e,q3⟩=>?_) hm
 subst e
 cases r3
 exact wpAny_truthy_bool ⟨H3,I3,q3⟩
def qQ (r r':R2) (ta tb tc:TE):TE:=fun σ H Q=>ta σ H fun x H1=>tb σ H1 fun y H2=>r x y H2 fun z H3=>∃ k,z=.bl k ∧
 (if k=true then tc σ H3 fun w' H4=>r' y w' H4 Q else Q (.bl false) H3)
theorem qR {op op':CmpOp} {r r':R2} (ho:OpR X (compareOp op) r) (ho':OpR X (compareOp op') r') (ha:PE X a ta) (hb:PE X b tb) (hc:PE X c tc)
  (hm:lastMarks [op,op'] [b,c]=false:=by with_unfolding_all rfl):PE X (.Compare a [op,op'] [b,c] pos) (qQ r r' ta tb tc):=by
 intro pins s σ H Q I h;refine Compare_chain (thn (ha pins s σ H _ I h) fun v s1 ⟨x,H1,I1,r1,q1⟩=>chain_link (thn (hb pins s1 σ H1 _ I1 q1) fun u s2 ⟨y,H2,I2,r2,q2⟩ =>
  thn (ho pins s2 σ H2 x y v u _ I2 r1 r2 q2) fun d s3 ⟨z,H3,I3,r3,k,e,q3⟩=>?_)) hm
 subst e
 cases r3
 refine wpAny_truthy_bool ?_
 cases k with
 | false=>exact ite_ff ⟨.bl false,H3,I3,rfl,q3⟩
 | true=>exact ite_tt (chain_last (thn (hc pins s3 σ H3 _ I3 q3) fun w' s4 ⟨z',H4,I4,r4,q4⟩=>ho' pins s4 σ H4 y z' u w' Q I4 r2 r4 q4))
theorem pt_chain {op op':CmpOp} {r r':R2} (ho:OpR X (compareOp op) r) (ho':OpR X (compareOp op') r') (ha:PE X a ta) (hb:PE X b tb) (hc:PE X c tc)
  (hm:lastMarks [op,op'] [b,c]=false:=by with_unfolding_all rfl):PT X (.Compare a [op,op'] [b,c] pos) (uF (qQ r r' ta tb tc)):=by
 intro pins s σ H Q I h;refine isTrue_chain (thn (ha pins s σ H _ I h) fun v s1 ⟨x,H1,I1,r1,q1⟩=>test_link (thn (hb pins s1 σ H1 _ I1 q1) fun u s2 ⟨y,H2,I2,r2,q2⟩ =>
  thn (ho pins s2 σ H2 x y v u _ I2 r1 r2 q2) fun d s3 ⟨z,H3,I3,r3,k,e,q3⟩=>?_)) hm
 subst e
 cases r3
 refine wpAny_truthy_bool ?_
 cases k with
 | false =>
  obtain ⟨k',e',q'⟩:=q3
  cases e'
  exact ite_ff ⟨H3,I3,q'⟩
 | true =>
  refine ite_tt (test_last (thn (hc pins s3 σ H3 _ I3 q3) fun w' s4 ⟨z',H4,I4,r4,q4⟩=>thn (ho' pins s4 σ H4 y z' u w' _ I4 r2 r4 q4) fun d' s5 ⟨z2,H5,I5,r5,k2,e2,q5⟩=>?_));subst e2
  cases r5
  exact wpAny_truthy_bool ⟨H5,I5,q5⟩
theorem gP:(sizeLine:Nat) < 2 ^ 63:=by rw [sizeLine_eq];decide
theorem nM:OpR X (binaryOp .Add) (fun x y H Q=>∃ i j,x=.str i∧y=.str j∧i.length+j.length≤sizeLine∧Q (.str (i++j)) H):=by
 intro pins s σ H x y v u Q I rx ry h;obtain ⟨i,j,rfl,rfl,hz,q⟩:=h;obtain ⟨t,rfl⟩:=rx;obtain ⟨t',rfl⟩:=ry;exact add_str (fun t' tk=>⟨.str (i++j),H,I.tok _,⟨_,rfl⟩,q⟩) hz
theorem dU {x:V} {us:List Value} (r:Vals [x] us):∃ u,us=[u]∧RelV x u:=by
 cases r with
 | cons r1 r2=>cases r2;exact ⟨_,rfl,r1⟩
theorem uG {x y:V} {us:List Value} (r:Vals [x,y] us):∃ u w',us=[u,w']∧RelV x u∧RelV y w':=by
 cases r with
 | cons r1 r2 =>
  cases r2 with
  | cons r3 r4=>cases r4;exact ⟨_,_,rfl,r1,r3⟩
theorem jv (hc:X.calm=true):CallR X (.builtin "min") (fun xs H Q=>∃ i j,xs=[.int i,.int j]∧Q (.int (if j < i then j else i)) H):=by
 intro pins s σ H xs us Q I r h;obtain ⟨i,j,rfl,q⟩:=h;obtain ⟨u,w',rfl,⟨t,rfl⟩,⟨t',rfl⟩⟩:=uG r;refine min_two_ints (I.ok.hd hc) fun h' tk k=>⟨_,H,I.kept k,?_,q⟩
 by_cases hj:j < i
 ·rw [if_pos hj,if_pos hj];exact ⟨_,rfl⟩
 ·rw [if_neg hj,if_neg hj];exact ⟨_,rfl⟩
end
structure ObjM (h:Heap) (x dx C:Addr) (mA:Str→Option Value):Prop where
 obj:h.get? x=some (PySem.W.instObj C dx)
 ns:h.Ns1 dx mA
 ne:dx≠x
section
variable {prog:Program} {w:World} {A:Around} {E:Value→Shared→Prop} {s:Shared} {K:PySem.W.Frag} {x dx C f:Addr} {mA:Str→Option Value} {name:Str} {v:Value}
end
theorem RelO.some_of {v:V} {o:Option Value} (r:RelO (some v) o):∃ u,o=some u∧RelV v u:=by
 cases o with
 | none=>exact (show False from r).elim
 | some u=>exact ⟨u,rfl,r⟩
section
variable {P:Program} {w:World} {H H':Hp} {h h':Heap} {a C dx:Addr} {fs fs':List (Str×V)}
end
structure Cls (K:PySem.W.Frag) (C:Addr):Prop where
 pg:PySem.W.plainGet K C Str.empty=true
 hd:PySem.W.hasDictIn K C=true
 po:PySem.W.plainOver K C=true
 sa:PySem.W.findIn K (.ref C) "__setattr__" = some (some (.builtin "object.__setattr__"))
section
variable {X:Cx} {pins:List (Addr×Obj)} {σ:St} {H:Hp} {s:Shared} {a C dx:Addr} {fs:List (Str×V)} {f:Str} {v:V} {A:Around} {E:Value→Shared→Prop}
end
def xX (X:Cx) (op:Operator) (rd:V→V→Hp→VK→Prop):Prop :=
 ∀ (pins:List (Addr×Obj)) (s:Shared) (σ:St) (H:Hp) (x y:V) (u v:Value) (Q:VK),Inv X pins σ H s→RelV x u→RelV y v→rd x y H Q→wpAny (model X.prog X.w) X.A (inplaceOp op u v) (EP X pins σ Q) X.xe s
section
variable {X:Cx} {o e value:Expr} {f:Str} {pos pos' tpos:Pos} {ta tv:TE}
def xY:V→V→Hp→VK→Prop:=fun x y H Q=>∃ i j,x=.int i∧y=.int j∧Q (.int (i+j)) H
theorem qS:xX X .Add xY:=by
 rintro pins s σ H x y u v Q I rx ry ⟨i,j,rfl,rfl,q⟩;obtain ⟨t,rfl⟩:=(show ∃ t,u=Value.int i t from rx);obtain ⟨t',rfl⟩:=(show ∃ t',v=Value.int j t' from ry);exact PyProof.Rows.iadd_int ⟨.int (i+j),H,I.tok _,⟨_,rfl⟩,q⟩
end
section
variable {X:Cx} {pins:List (Addr×Obj)} {σ:St} {H:Hp} {s:Shared} {A:Around} {E:Value→Shared→Prop} {Q:Value→Shared→Prop} {c:Value} {b:Bool}
end
structure Room (k:Nat) (A:Around):Prop where
 hd:A.handled=none
 dp:A.depth+3*k+5 < recursionLimit
 un:A.units+16*k+200 < cLine
theorem Room.mono {j k:Nat} {A:Around} (r:Room k A) (h:j≤k):Room j A:=⟨r.hd,by have:=r.dp;lia,by have:=r.un;lia⟩
theorem Room.deeper {k:Nat} {A:Around} (r:Room (k+1) A) (env:Env):Room k (A.deeper env) :=
 ⟨r.hd,by have:=r.dp;show A.depth+1+3*k+5 < _;lia,by have:=r.un;show A.units+3+16*k+200 < _;lia⟩
theorem Room.depth {k:Nat} {A:Around} (r:Room k A):A.depth < recursionLimit:=by have:=r.dp;lia
theorem Room.units {k:Nat} {A:Around} (r:Room k A):A.units+64 < cLine:=by have:=r.un;lia
def p9:TA:=fun _ H Q=>Q [] H
def dW (ta:TE) (tr:TA):TA:=fun σ H Q=>ta σ H fun x H1=>tr σ H1 fun xs H2=>Q (x :: xs) H2
section
variable {X:Cx} {e:Expr} {es:List Expr} {te:TE} {t:TA} {pos:Pos}
theorem bT:PA X [] p9:=fun _ _ _ _ H Q I h=>Calls.spliced_nil ⟨[],H,I,.nil,h⟩
theorem aC (ha:PE X e te) (hr:PA X es t) (hs:starEach (e :: es) X.env=(false,eval e X.env) :: starEach es X.env:=by rfl):PA X (e :: es) (dW te t):=by
 intro pos pins s σ H Q I h;rw [hs];show wpAny _ _ (spliced ((false,eval e X.env) :: backTo pos (starEach es X.env))) _ _ s;refine Calls.spliced_cons (thn (ha pins s σ H _ I h) fun u s1 ⟨x,H1,I1,r1,q1⟩=>?_);exact thn (hr pos pins s1 σ H1 _ I1 q1) fun us s2 ⟨xs,H2,I2,r2,q2⟩=>⟨x :: xs,H2,I2,.cons r1 r2,q2⟩
def wK (t:TA):TE:=fun σ H Q=>t σ H fun xs H1=>xs.length≤sizeLine∧∀ p,H1 p=none→Q (.ref p) (upd H1 p (.lst xs))
theorem aH (h:PA X es t):PE X (.List es pos) (wK t):=by
 intro pins s σ H Q I hq;refine wpAny_List_spliced (thn (h pos pins s σ H _ I hq) fun us s1 ⟨xs,H1,I1,r,z,q⟩=>⟨by rw [← r.length];exact z,?_⟩);have hf:H1 s1.heap.objs.size=none:=I1.hok.fresh (Nat.le_refl _);refine ⟨.ref s1.heap.objs.size,upd H1 s1.heap.objs.size (.lst xs),I1.laid (t':=s1.toks) (fun b u e=>Heap.get?_push_of_some _ e) (Nat.le_refl _) ?_,rfl,q _ hf⟩;exact ⟨z,us,0,r,Heap.get?_push_size _ rfl⟩
end
abbrev Sp:=List V→Hp→VK→XK→Prop
abbrev CXT:=List Env→Hp→Shared→XK→Value→Shared→Prop
structure Env0 (P:Program) (w:World) (K:PySem.W.Frag) (mg:Str→Option Value) (base:Heap) (A:Around) (outer:List Env) (s:Shared) (H:Hp):Prop where
 frames:A.frames=some outer
 mod:Mod K mg base
 bs:∀ b o,base.get? b=some o→s.heap.get? b=some o∧H b=none
 bsz:base.objs.size≤s.heap.objs.size
 funs:s.heap.FunFrames base outer
 frf:∀ b∈frs outer,H b=none
 hok:HOk P w H s.heap
 bare:AllBare s.gens
def CE (outer:List Env) (P:Program) (w:World) (H:Hp) (s:Shared) (Q:VK) (u:Value) (s':Shared):Prop :=
 ∃ v H',s'.os=s.os∧AllBare s'.gens∧Un (frs outer) [] H H' s.heap s'.heap∧HOk P w H' s'.heap∧RelV v u∧Q v H'
def CR (CX:CXT) (outer:List Env) (P:Program) (w:World) (H:Hp) (s:Shared) (Q:VK) (E:XK) (r:Result) (s':Shared):Prop :=
 match r with
 | .ok (.ret u)=>CE outer P w H s Q u s'
 | .ok _=>False
 | .error e=>CX outer H s E e s'
structure FnOk (P:Program) (w:World) (K:PySem.W.Frag) (mg:Str→Option Value) (base:Heap) (CX:CXT) (k:Nat) (f:Addr) (fd:FuncData) (ps:List Str) (sp:Sp):Prop where
 len:∀ vs H Q E,sp vs H Q E→vs.length=ps.length
 run:∀ (A:Around) (outer:List Env) (s:Shared) (H:Hp) (args:Args) (us:List Value) (vs:List V) (Q:VK) (E:XK),Room k A→Env0 P w K mg base A outer s H→BindsTo s fd args (ps.zip us)→Vals vs us→sp vs H Q E →
  codeAny (model P w) A (.call (.ref f) args) (CR CX outer P w H s Q E) s
theorem FnOk.mono {P:Program} {w:World} {K:PySem.W.Frag} {mg:Str→Option Value} {base:Heap} {CX:CXT} {j k:Nat} {f:Addr} {fd:FuncData} {ps:List Str} {sp:Sp} (F:FnOk P w K mg base CX j f fd ps sp) (h:j≤k) :
  FnOk P w K mg base CX k f fd ps sp:=⟨F.len,fun A outer s H args us vs Q E hr=>F.run A outer s H args us vs Q E (hr.mono h)⟩
section
variable {X:Cx} {pins:List (Addr×Obj)} {σ:St} {H:Hp} {s s':Shared}
theorem Inv.env0 (I:Inv X pins σ H s):Env0 X.prog X.w X.K X.mg X.base X.A X.stack s H :=
 ⟨I.ok.frames,I.ok.mod,I.bs,Nat.le_trans I.ok.bsz I.sz,I.stack,I.stkFree,I.hok,I.bare⟩
theorem Inv.after {Q:VK} {u:Value} (I:Inv X pins σ H s) (h:CE X.stack X.prog X.w H s Q u s'):EP X pins σ Q u s':=by
 obtain ⟨v,H',os,bare,un,hok,r,q⟩:=h;obtain ⟨hh,g,d,t,os'⟩:=s';obtain rfl:os'=s.os:=os;exact ⟨v,H',I.call (h':=hh) (g':=g) (d':=d) (t':=t) (ch:=[]) un hok bare (fun b z=>absurd z (by simp)),r,q⟩
end
def qT (sp:Sp) (dvs:List V) (E:XK) (t:TA):TE:=fun σ H Q=>t σ H fun vs H1=>sp (vs++dvs) H1 Q E
def Binds (K:PySem.W.Frag) (fd:FuncData) (ps:List Str) (ds:List Value):Prop :=
 ∀ (s:Shared) (us:List Value),K.In s.heap→(us++ds).length=ps.length→BindsTo s fd ⟨us,[]⟩ (ps.zip (us++ds))
theorem Binds.all {K:PySem.W.Frag} {fd:FuncData} {ps:List Str} (h:∀ us:List Value,us.length=ps.length→bindArgs fd ⟨us,[]⟩=pure (ps.zip us)):Binds K fd ps []:=fun s us _ hl=>by
 rw [List.append_nil] at hl ⊢;exact .of_eq (h us hl)
def nN (CX:CXT) (X:Cx) (E:XK):Prop:=∀ (pins:List (Addr×Obj)) (σ:St) (H:Hp) (s:Shared) (e:Value) (s':Shared),Inv X pins σ H s→CX X.stack H s E e s'→X.xe e s'
section
variable {X:Cx} {CX:CXT} {k:Nat} {f C:Addr} {fd:FuncData} {ps:List Str} {sp:Sp} {dvs:List V} {ds:List Value} {E:XK} {x m:Str} {p pos apos:Pos} {e o:Expr} {es:List Expr} {ta:TE} {t:TA}
theorem ve {pins:List (Addr×Obj)} {σ:St} {H:Hp} {s:Shared} {Q:VK} {us:List Value} {vs:List V} (F:FnOk X.prog X.w X.K X.mg X.base CX k f fd ps sp) (hr:Room k X.A) (hb:Binds X.K fd ps ds) (hd:Vals dvs ds) (hx:nN CX X E)
  (I:Inv X pins σ H s) (r:Vals vs us) (h:sp (vs++dvs) H Q E):wpAny (model X.prog X.w) X.A (call (.ref f) us) (EP X pins σ Q) X.xe s:=by
 have r2:Vals (vs++dvs) (us++ds):=r.append hd;have hl:(us++ds).length=ps.length:=by rw [← r2.length];exact F.len _ _ _ _ h
 refine wpAny_call (codeAny_mono (F.run X.A X.stack s H ⟨us,[]⟩ (us++ds) (vs++dvs) Q E hr I.env0 (hb s us I.kIn hl) r2 h) fun r s' hq=>?_)
 cases r with
 | error e=>exact hx pins σ H s e s' I hq
 | ok fl =>
  cases fl with
  | ret u=>exact I.after hq
  | next=>exact False.elim hq
  | brk=>exact False.elim hq
  | cont=>exact False.elim hq
theorem sY (F:FnOk X.prog X.w X.K X.mg X.base CX k f fd ps sp) (hr:Room k X.A) (hg:Gl X x) (hm:X.mg x=some (.ref f)) (hk:PySem.W.keepIn X.K (.ref f)=true) (hb:Binds X.K fd ps ds) (hd:Vals dvs ds) (hx:nN CX X E)
  (ha:PA X (e :: es) t) (hdb:(x == ("__debug__" : Str))=false:=by decide) (he:starEach (e :: es) X.env=(false,eval e X.env) :: starEach es X.env:=by rfl) (hpl:(backTo pos (starEach es X.env)).any (·.1)=false:=by rfl) :
  PE X (.Call (.Name x p) (e :: es) [] pos) (qT sp dvs E t):=by
 intro pins s σ H Q I h;refine wpAny_Call_Name_kw (j4 I hg hm ?_ hdb);refine PySem.W.callWith_K (h₀:=X.base) I.ok.mod.kin hk (thn (ha pos pins s σ H _ I h) fun us s1 ⟨vs,H1,I1,r,q⟩=>⟨I1.kIn,?_⟩) he hpl;exact ve F hr hb hd hx I1 r q
end
section
variable {X:Cx} {CX:CXT} {k:Nat} {f C:Addr} {fd:FuncData} {ps ks:List Str} {sp:Sp} {E:XK} {x m:Str} {p pos apos kpos:Pos} {e o:Expr} {es:List Expr} {kws:List Keyword} {te ta:TE} {t tk:TA} {nm:Option Str}
variable {g:List Value→List Value→List Value} {gV:List V→List V→List V}
end
structure FnScope (N P:List Str) (sc:Scope):Prop where
 kind:sc.kind=.function
 co:sc.isCoroutine=false
 gen:sc.isGenerator=false
 nd:N.Nodup
 pre:N.take P.length=P
 par:∀ x∈P,sc.names.lookup x=some .local∨sc.names.lookup x=some .cell
 nofree:∀ y∈sc.names,y.2≠.free
theorem jw {kindOf:Str→Option NameKind} {x:Str}:∀ {binds:List (Str×Value)} {m:Str→Option Value},(∀ v,(x,v)∉binds)→bindL kindOf binds m x=m x
 | [],_,_=>rfl
 | (n,v) :: r,m,h=>by
  unfold bindL;rw [jw fun w hw=>h w (List.mem_cons_of_mem _ hw)]
  split
  ·have:x≠n:=by rintro rfl;exact h v List.mem_cons_self
   simp [this]
  ·rfl
theorem jx {kindOf:Str→Option NameKind} {x:Str}:∀ {binds:List (Str×Value)} {m:Str→Option Value},(∀ v,(x,v)∉binds)→bindC kindOf binds m x=m x
 | [],_,_=>rfl
 | (n,v) :: r,m,h=>by
  unfold bindC;rw [jx fun w hw=>h w (List.mem_cons_of_mem _ hw)]
  split
  ·rfl
  ·have:x≠n:=by rintro rfl;exact h v List.mem_cons_self
   simp [this]
theorem jy {kindOf:Str→Option NameKind} {x:Str} {v:Value}:∀ {P:List Str} {vs:List Value} {i:Nat} {m:Str→Option Value},P.Nodup→P[i]?=some x→vs[i]?=some v→kindOf x=some .local →
  bindL kindOf (P.zip vs) m x=some v
 | [],_,_,_,_,h,_,_=>by simp at h
 | _ :: _,[],_,_,_,_,h,_=>by simp at h
 | p :: P,w :: vs,0,m,nd,h1,h2,hk=>by
  simp at h1 h2;subst h1;subst h2;show bindL kindOf ((p,w) :: P.zip vs) m p=_;unfold bindL;rw [jw fun v hv=>(List.nodup_cons.mp nd).1 (List.of_mem_zip hv).1,if_pos hk];simp
 | p :: P,w :: vs,i+1,m,nd,h1,h2,hk=>by
  show bindL kindOf ((p,w) :: P.zip vs) m x=_;unfold bindL;exact jy (i:=i) (List.nodup_cons.mp nd).2 (by simpa using h1) (by simpa using h2) hk
theorem jz {kindOf:Str→Option NameKind} {x:Str} {v:Value}:∀ {P:List Str} {vs:List Value} {i:Nat} {m:Str→Option Value},P.Nodup→P[i]?=some x→vs[i]?=some v→kindOf x≠some .local →
  bindC kindOf (P.zip vs) m x=some v
 | [],_,_,_,_,h,_,_=>by simp at h
 | _ :: _,[],_,_,_,_,h,_=>by simp at h
 | p :: P,w :: vs,0,m,nd,h1,h2,hk=>by
  simp at h1 h2;subst h1;subst h2;show bindC kindOf ((p,w) :: P.zip vs) m p=_;unfold bindC;rw [jx fun v hv=>(List.nodup_cons.mp nd).1 (List.of_mem_zip hv).1,if_neg hk];simp
 | p :: P,w :: vs,i+1,m,nd,h1,h2,hk=>by
  show bindC kindOf ((p,w) :: P.zip vs) m x=_;unfold bindC;exact jz (i:=i) (List.nodup_cons.mp nd).2 (by simpa using h1) (by simpa using h2) hk
def ib (N:List Str) (vs:List V):St:=vs.map some++List.replicate (N.length - vs.length) none
def qa (CX:CXT) (P:Program) (w:World) (K:PySem.W.Frag) (mg:Str→Option Value) (base:Heap) (N:List Str) (qual:Str) (scope:Scope) (f:Addr) (cd:Value) (A:Around) (outer:List Env) (s:Shared) (H:Hp) (E:XK):Cx where
 prog:=P
 w:=w
 K:=K
 mg:=mg
 base:=base
 A:=A.deeper (envOfC qual scope s.heap.objs.size f cd)
 N:=N
 s₀:=s
 H₀:=H
 env:=envOfC qual scope s.heap.objs.size f cd
 outer:=outer
 stack:=envOfC qual scope s.heap.objs.size f cd :: outer
 ex:=[]
 calm:=true
 fn:=fun _=>true
 pn:=[]
 xe:=fun e s'=>wpAny (model P w) (A.deeper (envOfC qual scope s.heap.objs.size f cd)) (leaving (envOfC qual scope s.heap.objs.size f cd) e) (fun _ s''=>CX outer H s E e s'') (fun e' s''=>CX outer H s E e' s'') s'
theorem ma {sc:Scope} {n:Nat} {x:Str} (h:sc.names.lookup x=some .cell):∃ c,(cellsFrom n sc.names []).lookup x=some c:=by
 have q:=PySem.W.cellsFrom_some sc.names n [] (.inl h);exact Option.isSome_iff_exists.mp q
theorem qb {CX:CXT} {P:Program} {w:World} {K:PySem.W.Frag} {mg:Str→Option Value} {base:Heap} {N ps:List Str} {qual:Str} {scope:Scope} {f:Addr} {cd:Value} {A:Around} {outer:List Env} {s s1:Shared} {H:Hp} {E:XK} {us:List Value} {vs:List V}
  (S:FnScope N ps scope) (hd:A.handled=none) (e0:Env0 P w K mg base A outer s H) (hl:vs.length=ps.length) (r:Vals vs us)
  (x:InCallC s s.heap.objs.size (bindL (envOfC qual scope s.heap.objs.size f cd).kindOf (ps.zip us) fun _=>none) (cellsFrom (s.heap.objs.size+1) scope.names []) (bindC (envOfC qual scope s.heap.objs.size f cd).kindOf (ps.zip us) fun _=>none) s1) :
  Inv (qa CX P w K mg base N qual scope f cd A outer s H E) [] (ib N vs) H s1:=by
 have hpl:ps.length≤N.length:=by have:=congrArg List.length S.pre;rw [List.length_take] at this;lia
 obtain ⟨h1,tk,rfl,hk⟩:=x.done;have noA:∀ b:Addr,b∉(qa CX P w K mg base N qual scope f cd A outer s H E).ex:=fun b z=>absurd (show b∈([]:List Addr) from z) (by simp);refine ⟨⟨e0.mod,S.kind,rfl,rfl,Nat.le_refl _,fun y z c h1 h2=>?_,fun y hy=>?_,fun y c _ h=>?_,fun _=>hd,Around.frames_deeper e0.frames,.inr ⟨rfl,rfl⟩,fun b z=>absurd z (noA b),e0.bs,e0.bsz,fun b _ _=>noA b,fun b z=>absurd z (noA b),e0.funs,e0.frf⟩,
  rfl,e0.bare,Un.kept hk,⟨_,x.toInCall.ns,fun i y v h1 h2 h3=>?_⟩,fun y c h=>⟨_,x.cell y c h⟩,e0.hok.fresh (Nat.le_refl _),fun y c h=>?_,fun p hp=>absurd (show p∈([]:List (Addr×Obj)) from hp) (by simp),e0.hok.kept hk,?_⟩
 ·exact name_of_addr x.apart (PySem.mem_of_lookup h1) (PySem.mem_of_lookup h2)
 ·have hy:scope.names.lookup y=some .cell∨scope.names.lookup y=some .free:=hy;rcases hy with hy | hy
  ·exact ma hy
  ·exact absurd rfl (S.nofree _ (PySem.mem_of_lookup hy))
 ·exact Nat.le_of_lt (x.above y c (PySem.mem_of_lookup h))
 ·have hi:i < vs.length:=by
   unfold ib at h2
   by_cases hi:i < vs.length
   ·exact hi
   ·rw [List.getElem?_append_right (by simpa using hi)] at h2;rw [List.getElem?_replicate] at h2
    split at h2 <;> cases h2
  have ha:vs[i]?=some v:=by
   unfold ib at h2;rw [List.getElem?_append_left (by simpa using hi),List.getElem?_map] at h2
   cases e:vs[i]? with
   | none=>rw [e] at h2;cases h2
   | some a=>rw [e] at h2;cases h2;rfl
  obtain ⟨u,hu,rv⟩:=r.get ha;have hp:ps[i]?=some y:=by
   rw [← S.pre,List.getElem?_take_of_lt (by lia)];exact h1
  have ndP:ps.Nodup:=by rw [← S.pre];exact S.nd.sublist (List.take_sublist _ _)
  refine ⟨u,rv,?_⟩;rcases S.par y (List.mem_of_getElem? hp) with k | k
  ·exact .inl ⟨k,jy ndP hp hu k⟩
  ·obtain ⟨c,e⟩:=ma (n:=s.heap.objs.size+1) k;refine .inr ⟨.inl k,c,e,?_⟩;have q:=x.cell y c e;rw [jz ndP hp hu (by show scope.names.lookup y≠_;rw [k];decide)] at q;exact q
 ·exact e0.hok.fresh (Nat.le_of_lt (x.above y c (PySem.mem_of_lookup h)))
 ·unfold ib;show _=N.length;rw [List.length_append,List.length_map,List.length_replicate];lia
theorem wL {CX:CXT} {P:Program} {w:World} {K:PySem.W.Frag} {mg:Str→Option Value} {base:Heap} {k:Nat} {f:Addr} {name qual:Str} {params:Arguments} {body:List Stmt} {scope:Scope} {dV kV doc pm cdv ct oc:Value} {an od:Option Addr}
  {osl:Array (Option Value)} {N ps:List Str} {sp:Sp} (lk:K.lookup f=some ⟨oc,od,.func (PySem.W.fnOf name qual params body scope dV kV doc pm an cdv ct),osl⟩) (hcd:PySem.W.codeIn K cdv qual=true) (S:FnScope N ps scope)
  (len:∀ vs H Q E,sp vs H Q E→vs.length=ps.length)
  (hbody:∀ (A:Around) (outer:List Env) (s:Shared) (H:Hp) (vs:List V) (Q:VK) (E:XK),Room k (A.deeper (envOfC qual scope s.heap.objs.size f cdv))→sp vs H Q E →
   ∃ t,PSs (qa CX P w K mg base N qual scope f cdv A outer s H E) body t∧t { nx:=fun _ H'=>Q .non H',rt:=Q } (ib N vs) H) :
  FnOk P w K mg base CX (k+1) f (PySem.W.fnOf name qual params body scope dV kV doc pm an cdv ct) ps sp:=by
 refine ⟨len,fun A outer s H args us vs Q E hr e0 hb r hsp=>?_⟩;have hl:=len _ _ _ _ hsp;have KX:K.In s.heap:=e0.mod.kin.keeps fun b o e=>(e0.bs b o e).1;have lim:s.heap.NoLimit:=e0.mod.nolimit.keeps fun b o e=>(e0.bs b o e).1;have hkind:∀ y∈ps.zip us,scope.names.lookup y.1=some .local∨(scope.names.lookup y.1=some .cell∧((cellsFrom (s.heap.objs.size+1) scope.names []).lookup y.1).isSome=true):=fun ⟨n,v⟩ hy=>by
  rcases S.par n (List.of_mem_zip hy).1 with q | q
  ·exact .inl q
  ·exact .inr ⟨q,PySem.W.cellsFrom_some _ _ _ (.inl q)⟩
 refine codeAny_call_function hr.depth (KX _ _ lk) rfl S.co S.gen rfl (PySem.W.codeRec_of KX hcd) (hb _ _ _ _ ?_);refine wpAny_newFunctionEnv_cells S.kind hkind fun env he s1 x=>?_;subst he;refine ⟨lim.keeps x.toInCall.keep,codeAny_func ?_⟩;obtain ⟨t,ht,hq⟩:=hbody A outer s H vs Q E (hr.deeper _) hsp;have I:Inv (qa CX P w K mg base N qual scope f cdv A outer s H E) [] (ib N vs) H s1:=qb S hr.hd e0 hl r x;refine wpAny_mono (ht [] s1 (ib N vs) H _ I hq) (fun fl s' hs=>?_) fun e s' hs=>hs;have fin:∀ {σ':St} {H':Hp} {v:V} {u:Value},Inv (qa CX P w K mg base N qual scope f cdv A outer s H E) [] σ' H' s'→RelV v u→Q v H'→CE outer P w H s Q u s' :=
  fun {σ' H' v u} J rv q=>⟨v,H',J.os,J.bare,J.base,J.hok,rv,q⟩
 cases fl with
 | ret u =>
  obtain ⟨v,σ',H',J,rv,q⟩:=hs;exact fin J rv q
 | next =>
  obtain ⟨σ',H',J,q⟩:=hs;exact fin (v:=V.non) (u:=Value.none) J rfl q
 | brk =>
  obtain ⟨_,_,_,q⟩:=hs;exact False.elim q
 | cont =>
  obtain ⟨_,_,_,q⟩:=hs;exact False.elim q
section
variable {X:Cx} {x:Str} {p pos:Pos} {e:Expr} {es:List Expr} {t:TA} {id T:String} {r:List V→Hp→VK→Prop}
def tCB (r:List V→Hp→VK→Prop) (t:TA):TE:=fun σ H Q=>t σ H fun vs H1=>r vs H1 Q
theorem pe_callB (hc:CallR X (.builtin id) r) (hg:Gl X x) (hm:X.mg x=none) (hv:bootBuiltins x=some (.builtin id)) (ha:PA X (e :: es) t) (hn:x≠ "__name__" :=by decide) (hdb:(x == ("__debug__" : Str))=false:=by decide)
  (he:starEach (e :: es) X.env=(false,eval e X.env) :: starEach es X.env:=by rfl) (hpl:(backTo pos (starEach es X.env)).any (·.1)=false:=by rfl):PE X (.Call (.Name x p) (e :: es) [] pos) (tCB r t):=by
 intro pins s σ H Q I h;refine wpAny_Call_Name_kw (dZ I hg hm hv ?_ hn hdb);exact PyProof.Rows.callWith_builtin1 (thn (ha pos pins s σ H _ I h) fun us s1 ⟨vs,H1,I1,r1,q1⟩=>hc pins s1 σ H1 vs us Q I1 r1 q1) he hpl
theorem bh (hc:CallR X (.type T) r) (hg:Gl X x) (hm:X.mg x=none) (hv:bootBuiltins x=some (.type T)) (ha:PA X (e :: es) t) (hn:x≠ "__name__" :=by decide) (hdb:(x == ("__debug__" : Str))=false:=by decide)
  (he:starEach (e :: es) X.env=(false,eval e X.env) :: starEach es X.env:=by rfl) (hpl:(backTo pos (starEach es X.env)).any (·.1)=false:=by rfl):PE X (.Call (.Name x p) (e :: es) [] pos) (tCB r t):=by
 intro pins s σ H Q I h;refine wpAny_Call_Name_kw (dZ I hg hm hv ?_ hn hdb);exact PyProof.Rows.callWith_type1 (thn (ha pos pins s σ H _ I h) fun us s1 ⟨vs,H1,I1,r1,q1⟩=>hc pins s1 σ H1 vs us Q I1 r1 q1) he hpl
end
end L2
namespace HT
open PySem PyProof.Rows
section
open PySem.SeqAt
open PySem.AutoSeq1 (wpAny_loadPart')
open PySem.MeetsSeq PySem.MeetsSeq2 PySem.MeetsSeq3
end
section
variable {prog:Program} {w:World} {A:Around} {E:Value→Shared→Prop} {s:Shared}
theorem cat_tup {t b:Addr} {vs ws:List Value} {Q:Value→Shared→Prop} (ht:IsTup s.heap t vs.toArray) (hb:IsTup s.heap b ws.toArray) (hv:vs≠[])
  (h1:ws=[]→Q (.ref t) s) (h2:ws≠[]→Q (.ref s.heap.objs.size) { s with heap:=s.heap.push { cls:=.type "tuple",data:=.seq (vs++ws).toArray } })
  (hsz:vs.length+ws.length≤sizeLine):wpAny (model prog w) A (binaryOp .Add (.ref t) (.ref b)) Q E s:=by
 obtain ⟨⟨cls,dd,data,sl⟩,ho,hc,n,hd⟩:=id ht;obtain ⟨⟨cls2,dd2,data2,sl2⟩,ho2,hc2,n2,hd2⟩:=id hb;simp only at hc hd hc2 hd2;subst hc hd hc2 hd2;have e:vs.toArray++ws.toArray=(vs++ws).toArray:=by simp
 by_cases hw:ws=[]
 ·exact concat_meets ⟨_,ho,rfl⟩ ⟨_,ho2,rfl⟩ noFill_tuple_add seq_tuple_add PySem.F.slot_tuple_add PySem.F.entry_tuple_add (PySem.F.args_tuple_add_2 _ _)
   (tuple_addW1 t b vs.toArray ws.toArray n n2 dd dd2 sl sl2 (by simpa using hv) (by simp [hw])) ⟨ho,ho2,h1 hw⟩
 ·refine concat_meets ⟨_,ho,rfl⟩ ⟨_,ho2,rfl⟩ noFill_tuple_add seq_tuple_add PySem.F.slot_tuple_add PySem.F.entry_tuple_add (PySem.F.args_tuple_add_2 _ _)
   (tuple_addW2 t b vs.toArray ws.toArray n n2 dd dd2 sl sl2 (by simpa using hv) (by simpa using hw) (by rw [List.size_toArray,List.size_toArray];exact hsz)) ⟨ho,ho2,?_⟩
  rw [e];exact h2 hw
def sIx (n d:Nat):Option Int→Nat
 | none=>d
 | some v=>if v < 0 then (v+(n:Int)).toNat else min v.toNat n
theorem sIx_none (n d:Nat):sIx n d none=d:=rfl
theorem sIx_nat (n d k:Nat):sIx n d (some (k:Int))=min k n:=by
 show (if (k:Int) < 0 then ((k:Int)+(n:Int)).toNat else min (k:Int).toNat n)=min k n;rw [if_neg (by lia),Int.toNat_natCast]
theorem vg (n d:Nat) (hd:d≤n) (o:Option Int):sIx n d o≤n:=by
 cases o with
 | none=>exact hd
 | some v =>
  show (if v < 0 then (v+(n:Int)).toNat else min v.toNat n)≤n
  by_cases hv:v < 0
  ·rw [if_pos hv];lia
  ·rw [if_neg hv];exact Nat.min_le_right _ _
theorem o4 (v:Int) (n d:Nat):(if v < 0 then max (v+(n:Int)) 0 else min v (n:Int))=((sIx n d (some v):Nat):Int):=by
 show (if v < 0 then max (v+(n:Int)) 0 else min v (n:Int))=(((if v < 0 then (v+(n:Int)).toNat else min v.toNat n):Nat):Int)
 by_cases hv:v < 0
 ·simp only [if_pos hv];lia
 ·simp only [if_neg hv];lia
theorem nO (lo hi:Option Int) (n:Nat):Builtin.Slice.sliceAdjust lo hi 1 (n:Int)=(((sIx n 0 lo:Nat):Int),((sIx n n hi:Nat):Int)):=by
 have h1:¬ ((1:Int) < 0):=by lia
 unfold Builtin.Slice.sliceAdjust;simp only [h1,if_false];refine Prod.ext ?_ ?_
 ·cases lo with
  | none=>rfl
  | some v=>exact o4 v n 0
 ·cases hi with
  | none=>rfl
  | some v=>exact o4 v n n
theorem nP (i j:Nat):Builtin.Slice.slicePlaces (i:Int) (j:Int) 1=j - i:=by
 unfold Builtin.Slice.slicePlaces;have h1:(1:Int) > 0:=by lia
 simp only [h1,if_true,Int.ediv_one]
 split <;> lia
theorem iG {v:Value} {o:Option Int} {Q:Option Int→Shared→Prop} (p:IsPart v o) (h:Q o s):wpAny (model prog w) A (Builtin.Slice.slicePartIndex v) Q E s:=by
 cases p with
 | none=>exact slicePart_none h
 | int i t=>exact slicePart_int h
theorem cW {sl:Addr} {vl vu:Value} {lo hi:Option Int} {n:Nat} {Q:Int×Int×Nat→Shared→Prop} (hs:s.heap.IsSliceOf sl vl vu .none) (pl:IsPart vl lo) (pu:IsPart vu hi)
  (h:Q (((sIx n 0 lo:Nat):Int),1,sIx n n hi - sIx n 0 lo) s):wpAny (model prog w) A (Builtin.Slice.sliceApplied (.ref sl) (pure (n:Int))) Q E s:=by
 obtain ⟨os,hos,hcs,hds⟩:=id hs;unfold Builtin.Slice.sliceApplied Builtin.Slice.sliceFields;refine wpAny_bind (wpAny_bind (wpAny_field hos hds (x:=vl) rfl (wpAny_bind (wpAny_field hos hds (x:=vu) rfl (wpAny_bind (wpAny_field hos hds (x:=.none) rfl (wpAny_pure ?_)))))));refine wpAny_bind (slicePart_none ?_);show wpAny _ _ (if ((1:Int) == 0)=true then _ else _) _ _ s;rw [if_neg (by decide)];refine wpAny_bind (iG pl (wpAny_bind (iG pu (wpAny_bind (wpAny_pure ?_)))));show wpAny _ _ (match Builtin.Slice.sliceAdjust lo hi 1 (n:Int) with | (lo,hi)=>pure (lo,(1:Int),Builtin.Slice.slicePlaces lo hi 1)) _ _ s;rw [nO lo hi n];show wpAny _ _ (pure (((sIx n 0 lo:Nat):Int),(1:Int),Builtin.Slice.slicePlaces ((sIx n 0 lo:Nat):Int) ((sIx n n hi:Nat):Int) 1)) _ _ s;rw [nP];exact wpAny_pure h
theorem qU (xs:Array Value) (i k:Nat):((List.range k).filterMap fun (m:Nat)=>xs[((i:Int)+(m:Int)*1).toNat]?).toArray=((xs.toList.drop i).take k).toArray:=by
 have e:(fun (m:Nat)=>xs[((i:Int)+(m:Int)*1).toNat]?)=fun m=>xs[i+m]?:=by
  funext m
  have:((i:Int)+(m:Int)*1).toNat=i+m:=by lia
  rw [this]
 rw [e];have:=pick_run xs i k;rw [List.filterMap_map] at this;have e2:((fun x=>xs[x]?) ∘ fun x=>i+x)=fun m=>xs[i+m]?:=rfl;rw [e2] at this;rw [this]
theorem getItem_tuple_cut {t sl:Addr} {items:Array Value} {vl vu:Value} {lo hi:Option Int} {Q:Value→Shared→Prop} (ht:IsTup s.heap t items) (hs:s.heap.IsSliceOf sl vl vu .none) (pl:IsPart vl lo) (pu:IsPart vu hi)
  (hw:¬ (sIx items.size 0 lo=0∧sIx items.size items.size hi=items.size))
  (h:Q (.ref s.heap.objs.size) { s with heap:=s.heap.push { cls:=.type "tuple",data:=.seq ((items.toList.drop (sIx items.size 0 lo)).take (sIx items.size items.size hi - sIx items.size 0 lo)).toArray } })
  (hsz:items.size≤sizeLine):wpAny (model prog w) A (getItem (.ref t) (.ref sl)) Q E s:=by
 have htake:sizeOk (.seq ((items.toList.drop (sIx items.size 0 lo)).take (sIx items.size items.size hi - sIx items.size 0 lo)).toArray):=by
  show ((items.toList.drop (sIx items.size 0 lo)).take (sIx items.size items.size hi - sIx items.size 0 lo)).toArray.size≤sizeLine;rw [List.size_toArray,List.length_take,List.length_drop,Array.length_toList];lia
 have hj:sIx items.size items.size hi≤items.size:=vg _ _ (Nat.le_refl _) hi;obtain ⟨os,hos,hcs,hds⟩:=id hs;have hTs:s.TypeIs (.ref sl) "slice" :=⟨os,hos,hcs⟩;unfold getItem
 try with_reducible refine wpAny_holding ?_
 first | refine wpAny_bind (wpAny_pure ?_) | skip
 refine wpAny_bind (wpAny_sequenceKey ht.typeIs (by decide) ?_);refine wpAny_bind (wpAny_callSpecial?_slot (name:=Str.ofString "__getitem__") ht.typeIs PyProof.Rows.slot_tuple_getitem
  (wpAny_call_entry PyProof.Rows.slot_tuple_getitem ht.typeIs entry_tuple_getitem ?_ (args_tuple_getitem _ _)))
 show wpAny _ _ (Builtin.Tuple.tupleItemsOf (.ref t) >>= _) _ _ s;refine wpAny_bind (tupleItemsOf_ ht ?_);refine wpAny_bind (wpAny_typeOf hTs ?_);rw [if_pos (by decide)];refine wpAny_bind (cW hs pl pu ?_);have hno:¬ ((((sIx items.size 0 lo:Nat):Int) == 0 && (1:Int) == 1 && (sIx items.size items.size hi - sIx items.size 0 lo) == items.size)=true):=by
  intro q;rw [Bool.and_eq_true,Bool.and_eq_true] at q;have q1:((sIx items.size 0 lo:Nat):Int)=0:=eq_of_beq q.1.1;have q2:sIx items.size items.size hi - sIx items.size 0 lo=items.size:=eq_of_beq q.2;exact hw ⟨by lia,by lia⟩
 show wpAny _ _ (if (((sIx items.size 0 lo:Nat):Int) == 0 && (1:Int) == 1 && (sIx items.size items.size hi - sIx items.size 0 lo) == items.size)=true then _ else _) _ _ s;rw [if_neg hno,qU]
 first
  | exact wpAny_bind (m:=Builtin.Tuple.tupleExact _) (wpAny_newObj_type (wpAny_pure ⟨_,rfl,wpAny_pure h⟩) htake)
  | exact wpAny_bind (m:=Builtin.Tuple.tupleExact _) (wpAny_newObj_type (wpAny_bind (wpAny_pure (wpAny_pure ⟨_,rfl,wpAny_pure h⟩))) htake)
  | exact wpAny_bind (wpAny_bind (m:=Builtin.Tuple.tupleExact _) (wpAny_newObj_type (wpAny_pure (wpAny_pure ⟨_,rfl,wpAny_pure h⟩)) htake))
  | exact wpAny_bind (wpAny_bind (m:=Builtin.Tuple.tupleExact _) (wpAny_newObj_type (wpAny_pure ⟨_,rfl,wpAny_pure h⟩) htake))
end
end HT
namespace L2
open PySem PySem.Spec PyProof.Rows
abbrev TO:=St→Hp→(Option Int→Hp→Prop)→Prop
def PO (X:Cx) (e:Option Expr) (t:TO):Prop :=
 ∀ (pins:List (Addr×Obj)) (s:Shared) (σ:St) (H:Hp) (Q:Option Int→Hp→Prop),Inv X pins σ H s→t σ H Q →
  wpAny (model X.prog X.w) X.A (evalPart e X.env) (fun u s'=>∃ o H',Inv X pins σ H' s'∧IsPart u o∧Q o H') X.xe s
def sZ:TO:=fun _ H Q=>Q none H
inductive IPrt (x:V) (H1:Hp) (Q:Option Int→Hp→Prop):Prop
 | mk (i:Int):(x=.int i)→(Q (some i) H1)→IPrt x H1 Q
def wM (t:TE):TO:=fun σ H Q=>t σ H fun x H1=>IPrt x H1 Q
section
variable {X:Cx} {e:Expr} {te:TE} {lo hi:Option Expr} {tl th:TO} {pos p2:Pos}
theorem bo:PO X none sZ:=by
 intro pins s σ H Q I h;rw [evalPart_none];exact wpAny_pure ⟨none,H,I,.none,h⟩
theorem bp (h:PE X e te):PO X (some e) (wM te):=by
 intro pins s σ H Q I hw;rw [evalPart_some];refine thn (h pins s σ H _ I hw) fun u s1 ⟨x,H1,I1,r1,q1⟩=>?_;obtain ⟨i,rfl,q⟩:=q1;obtain ⟨t,rfl⟩:=r1;exact ⟨some i,H1,I1,.int i t,q⟩
def SlR (X:Cx) (r:V→Option Int→Option Int→Hp→VK→Prop):Prop :=
 ∀ (pins:List (Addr×Obj)) (s:Shared) (σ:St) (H:Hp) (x:V) (v vl vu:Value) (lo hi:Option Int) (sl:Addr) (Q:VK),Inv X pins σ H s→RelV x v→s.heap.IsSliceOf sl vl vu .none→IsPart vl lo→IsPart vu hi→r x lo hi H Q →
  ∃ T id,typeLookup (.type T) "__getitem__" = pure (some (.builtin id))∧s.TypeIs v T∧wpAny (model X.prog X.w) X.A (getItem v (.ref sl)) (EP X pins σ Q) X.xe s
def tSl (r:V→Option Int→Option Int→Hp→VK→Prop) (te:TE) (tl th:TO):TE:=fun σ H Q=>te σ H fun x H1=>tl σ H1 fun l H2=>th σ H2 fun u H3=>r x l u H3 Q
theorem aR {r:V→Option Int→Option Int→Hp→VK→Prop} (hr:SlR X r) (he:PE X e te) (hl:PO X lo tl) (hu:PO X hi th):PE X (.Subscript e (.Slice lo hi none p2) pos) (tSl r te tl th):=by
 intro pins s σ H Q I h;refine Subscript_ (thn (he pins s σ H _ I h) fun v s1 ⟨x,H1,I1,r1,q1⟩=>?_);refine wpAny_Slice (thn (hl pins s1 σ H1 _ I1 q1) fun vl s2 ⟨l,H2,I2,pl,q2⟩=>thn (hu pins s2 σ H2 _ I2 q2) fun vu s3 ⟨u,H3,I3,pu,q3⟩=>?_);rw [evalPart_none];refine wpAny_pure ?_;have I4:Inv X pins σ H3 { s3 with heap:=s3.heap.push { cls:=.type "slice",data:=.fields #[vl,vu,.none] } }:=I3.kept (t':=s3.toks) fun b ob q=>Heap.get?_push_of_some _ q;obtain ⟨T,id,hT,ht,hg⟩:=hr pins { s3 with heap:=s3.heap.push { cls:=.type "slice",data:=.fields #[vl,vu,.none] } } σ H3 x v vl vu l u s3.heap.objs.size Q I4 r1 (Heap.IsSliceOf.new ..) pl pu q3;show wpAny (model X.prog X.w) X.A (subscriptTail e (.Slice lo hi none p2) v (.ref s3.heap.objs.size)) (EP X pins σ Q) X.xe { s3 with heap:=s3.heap.push { cls:=.type "slice",data:=.fields #[vl,vu,.none] } };exact tail_any (ops:=[.ref s3.heap.objs.size,v]) ht hT hg (by with_unfolding_all rfl)
def gQ (xs:List V) (lo hi:Option Int):List V:=(xs.drop (HT.sIx xs.length 0 lo)).take (HT.sIx xs.length xs.length hi - HT.sIx xs.length 0 lo)
theorem ic (xs:List V) (lo hi:Option Int):(gQ xs lo hi).length≤xs.length:=by
 unfold gQ;rw [List.length_take,List.length_drop];lia
theorem Vals.nil_iff {xs:List V} {us:List Value} (r:Vals xs us):us=[]↔xs=[]:=by
 cases r with
 | nil=>simp
 | cons _ _=>simp
end
def ixN (n:Nat) (i:Int):Option Nat:=if 0≤i then (if i < n then some i.toNat else none) else if -(n:Int)≤i then some (i+n).toNat else none
def atI {α:Type} (xs:List α) (i:Int):Option α:=(ixN xs.length i).bind fun j=>xs[j]?
theorem j6 {n:Nat} {i:Int} {j:Nat} (h:ixN n i=some j):seqIndex? i n=some j∧j < n∧-(n:Int)≤i∧i < n:=by
 unfold ixN at h
 by_cases h0:0≤i
 ·rw [if_pos h0] at h
  by_cases h1:i < n
  ·rw [if_pos h1] at h;have e:i.toNat=j:=Option.some.inj h;exact ⟨by rw [seqIndex_of h0 h1,e],by lia,by lia,h1⟩
  ·rw [if_neg h1] at h;cases h
 ·rw [if_neg h0] at h
  by_cases h1:-(n:Int)≤i
  ·rw [if_pos h1] at h;have e:(i+n).toNat=j:=Option.some.inj h;exact ⟨by rw [seqIndex_neg (by lia) h1,e],by lia,h1,by lia⟩
  ·rw [if_neg h1] at h;cases h
theorem iC {α:Type} {xs:List α} {i:Int} {v:α} (h:atI xs i=some v):∃ j,seqIndex? i xs.length=some j∧xs[j]?=some v∧j < xs.length∧-(xs.length:Int)≤i∧i < xs.length:=by
 unfold atI at h
 cases e:ixN xs.length i with
 | none=>rw [e] at h;cases h
 | some j =>
  rw [e] at h;obtain ⟨h1,h2,h3,h4⟩:=j6 e;exact ⟨j,h1,h,h2,h3,h4⟩
theorem bz {α:Type} {xs:List α} {j:Nat} {v:α} (h:xs[j]?=some v):atI xs (j:Int)=some v:=by
 have hj:j < xs.length:=(List.getElem?_eq_some_iff.mp h).1;have e:ixN xs.length (j:Int)=some j:=by
  unfold ixN;rw [if_pos (by lia),if_pos (by lia)];simp
 unfold atI;rw [e];exact h
def s0 (b:Expr):Prop:=∀ o i,subscripted b false o i=operate [o,i] (getItem o i)
def IxR (X:Cx) (r:R2):Prop :=
 ∀ (value slice:Expr) (pins:List (Addr×Obj)) (s:Shared) (σ:St) (H:Hp) (x y:V) (v u:Value) (Q:VK),Inv X pins σ H s→RelV x v→RelV y u→r x y H Q →
  subscripted slice false v u=operate [v,u] (getItem v u)→wpAny (model X.prog X.w) X.A (subscriptTail value slice v u) (EP X pins σ Q) X.xe s
def MtR (X:Cx) (id:String) (r:V→List V→Hp→VK→Prop):Prop :=
 ∀ (pins:List (Addr×Obj)) (s:Shared) (σ:St) (H:Hp) (x:V) (xs:List V) (v:Value) (us:List Value) (Q:VK),Inv X pins σ H s→RelV x v→Vals xs us→r x xs H Q →
  wpAny (model X.prog X.w) X.A (call (.builtin id) (v :: us)) (EP X pins σ Q) X.xe s
section
variable {X:Cx} {a b:Expr} {ta tb:TE} {pos:Pos}
theorem cv {r:R2} (hr:IxR X r) (ha:PE X a ta) (hb:PE X b tb) (hs:s0 b):PE X (.Subscript a b pos) (tOp r ta tb):=by
 intro pins s σ H Q I h;exact Subscript_ (u0 ha hb I h fun v u s2 x y H2 I2 rx ry q=>hr a b pins s2 σ H2 x y v u Q I2 rx ry q (hs _ _))
inductive IIxL (K:PySem.W.Frag) (x y:V) (H:Hp) (Q:VK):Prop
 | mk (p:Addr) (xs:List V) (i:Int) (v:V):(x=.ref p)→(y=.int i)→(SqL K H p xs)→(atI xs i=some v)→(Q v H)→IIxL K x y H Q
def wN (K:PySem.W.Frag):R2:=fun x y H Q=>IIxL K x y H Q
def xZ (K:PySem.W.Frag):R2:=fun x y H Q=>∃ p xs i v,x=.ref p∧y=.int i∧SqT K H p xs∧atI xs i=some v∧Q v H
def x6:R2:=fun x y H Q=>∃ z i c,x=.str z∧y=.int i∧z.length≤sizeLine∧atI z.cps.toList i=some c∧Q (.str ⟨#[c]⟩) H
theorem s8:IxR X (wN X.K):=by
 intro value slice pins s σ H x y v u Q I rx ry h hs;obtain ⟨p,xs,i,z,rfl,rfl,hq,he,q⟩:=h
 cases rx
 obtain ⟨t,rfl⟩:=ry;obtain ⟨its,r,pl,hz⟩:=I.list hq;obtain ⟨j,h1,h2,h3,h4,h5⟩:=iC he;obtain ⟨w,ew,rw'⟩:=r.get h2;have hl:=r.length;have hn:=gP;have fin:EP X pins σ Q w s:=⟨z,H,I,rw',q⟩
 by_cases h0:0≤i
 ·have hj:i.toNat=j:=by
   rw [seqIndex_of h0 h5] at h1;exact Option.some.inj h1
  exact item_listR pl.isList h0 (by lia) (by rw [hj];simpa using ew) fin hs
 ·have hj:(i+(its.toArray.size:Int)).toNat=j:=by
   rw [seqIndex_neg (by lia) h4] at h1;rw [List.size_toArray,← hl];exact Option.some.inj h1
  exact subscriptTail_builtinR (x:=w) pl.isList.typeIs slot_list_getitem.lookup
   (wpAny_getItem_list_neg (Q:=fun r s'=>r=w∧EP X pins σ Q r s') pl.isList (by lia) (by rw [List.size_toArray] <;> lia) (by lia) (by rw [hj];simpa using ew) ⟨rfl,fin⟩) hs
theorem vh:IxR X (xZ X.K):=by
 intro value slice pins s σ H x y v u Q I rx ry h hs;obtain ⟨p,xs,i,z,rfl,rfl,hq,he,q⟩:=h
 cases rx
 obtain ⟨t,rfl⟩:=ry;obtain ⟨its,r,pl,hz⟩:=I.tuple hq;obtain ⟨j,h1,h2,h3,h4,h5⟩:=iC he;obtain ⟨w,ew,rw'⟩:=r.get h2;have hl:=r.length;have hn:=gP;have fin:EP X pins σ Q w s:=⟨z,H,I,rw',q⟩;exact subscriptTail_builtinR (x:=w) pl.typeIs slot_tuple_getitem.lookup
  (getItem_tuple (j:=j) (Q:=fun r s'=>r=w∧EP X pins σ Q r s') pl (by lia) (by lia) (by rw [List.size_toArray,← hl];exact h1) (by simpa using ew) ⟨rfl,fin⟩) hs
theorem vj:IxR X x6:=by
 intro value slice pins s σ H x y v u Q I rx ry h hs;obtain ⟨z,i,c,rfl,rfl,hz,he,q⟩:=h;obtain ⟨t,rfl⟩:=rx;obtain ⟨t',rfl⟩:=ry;obtain ⟨j,h1,h2,h3,h4,h5⟩:=iC he;have hl:z.cps.toList.length=z.length:=by simp [Str.length]
 rw [hl] at h1 h4 h5;have hn:=gP;exact tail_any (typeIs_str s z t) slot_str_getitem.lookup (getItem_str (c:=c) (by
  have e1:decide (i < -(2 ^ 63:Int))=false:=decide_eq_false (by lia);have e2:decide (i≥2 ^ 63)=false:=decide_eq_false (by lia);rw [e1,e2,Bool.or_false]) (by rw [h1];simpa using h2) ⟨.str ⟨#[c]⟩,H,I.tok _,⟨_,rfl⟩,q⟩) hs
theorem nQ (its:List Value) (n j:Nat) (u:Value):Obj.mapSeq (·.setIfInBounds j u) { cls:=.type "list",data:=.seq its.toArray n }={ cls:=.type "list",data:=.seq (its.set j u).toArray n }:=by
 simp [Obj.mapSeq]
theorem Inv.lst {pins:List (Addr×Obj)} {σ:St} {H:Hp} {s:Shared} {p:Addr} {xs:List V} (I:Inv X pins σ H s) (h:H p=some (.lst xs)) :
  ∃ (its:List Value) (n:Nat),Vals xs its∧s.heap.get? p=some { cls:=.type "list",data:=.seq its.toArray n }∧xs.length≤sizeLine:=by
 obtain ⟨z,its,n,r,e⟩:=I.hok p _ h;exact ⟨its,n,r,e,z⟩
theorem Inv.lstUpd {pins:List (Addr×Obj)} {σ:St} {H:Hp} {s:Shared} {p:Addr} {xs ys:List V} {its its':List Value} {n n':Nat} {f:Obj→Obj} (I:Inv X pins σ H s) (h:H p=some (.lst xs))
  (ho:s.heap.get? p=some { cls:=.type "list",data:=.seq its.toArray n }) (hf:f { cls:=.type "list",data:=.seq its.toArray n }={ cls:=.type "list",data:=.seq its'.toArray n' }) (r:Vals ys its') (hz:ys.length≤sizeLine) (t:Nat) :
  Inv X pins σ (upd H p (.lst ys)) { s with heap:=s.heap.update p f,toks:=t }:=by
 have e:(s.heap.update p f).get? p=some { cls:=.type "list",data:=.seq its'.toArray n' }:=by
  rw [Heap.get?_update_self f ho (by rw [hf] <;> rfl),hf]
 refine I.write (x:=p) (e:=p) (by rw [h];trivial) (.inl rfl) (fun b u hb q=>(Heap.get?_update_other _ _ (Ne.symm hb)).trans q) ⟨_,e⟩ ?_;exact ⟨hz,its',n',r,e⟩
inductive ISetL (o i v:V) (H:Hp) (Q:Hp→Prop):Prop
 | mk (p:Addr) (xs:List V) (k:Int) (j:Nat):(o=.ref p)→(i=.int k)→(H p=some (.lst xs))→(ixN xs.length k=some j)→(Q (upd H p (.lst (xs.set j v))))→ISetL o i v H Q
def wO:V→V→V→Hp→(Hp→Prop)→Prop:=fun o i v H Q=>ISetL o i v H Q
theorem qV:wC X wO:=by
 intro pins s σ H o i v ov iv u Q I ro ri rv h;obtain ⟨p,xs,k,j,rfl,rfl,hp,hj,q⟩:=h
 cases ro
 obtain ⟨t,rfl⟩:=ri;obtain ⟨its,n,r,ho,hz⟩:=I.lst hp;obtain ⟨h1,h2,h3,h4⟩:=j6 hj;have hl:=r.length;have hn:=gP;have I':Inv X pins σ (upd H p (.lst (xs.set j v))) { s with heap:=s.heap.update p (Obj.mapSeq (·.setIfInBounds j u)) } :=
  I.lstUpd hp ho (nQ its n j u) (r.set rv j) (by rw [List.length_set];exact hz) s.toks
 by_cases h0:0≤k
 ·have hk:k.toNat=j:=by
   rw [seqIndex_of h0 h4] at h1;exact Option.some.inj h1
  exact PySem.W.ki_setAt ho h0 (by lia) (by rw [List.size_toArray,← hl];exact h4) (by rw [hk];exact ⟨_,I',q⟩)
 ·have hk:(k+(its.toArray.size:Int)).toNat=j:=by
   rw [seqIndex_neg (by lia) h3] at h1;rw [List.size_toArray,← hl];exact Option.some.inj h1
  exact PySem.W.ki_setBack ho (by lia) (by rw [List.size_toArray,← hl];exact h3) (by lia) (by rw [hk];exact ⟨_,I',q⟩)
theorem j7 (lo hi:Option Int) (n:Nat):(sliceBounds lo hi none n).1=((HT.sIx n 0 lo:Nat):Int)∧(sliceBounds lo hi none n).2.1=((HT.sIx n n hi:Nat):Int)∧(sliceBounds lo hi none n).2.2=1:=by
 refine ⟨?_,?_,rfl⟩
 ·cases lo with
  | none=>simp [sliceBounds,HT.sIx]
  | some i =>
   simp only [sliceBounds,HT.sIx,Option.getD_none,show (1:Int) > 0 by decide,if_true]
   by_cases h:i < 0
   ·simp only [h,if_true] <;> lia
   ·simp only [h,if_false] <;> lia
 ·cases hi with
  | none=>simp [sliceBounds,HT.sIx]
  | some i =>
   simp only [sliceBounds,HT.sIx,Option.getD_none,show (1:Int) > 0 by decide,if_true]
   by_cases h:i < 0
   ·simp only [h,if_true] <;> lia
   ·simp only [h,if_false] <;> lia
theorem i3 (its:List Value) (lo hi:Option Int):slicePick its.toArray lo hi none=((its.drop (HT.sIx its.length 0 lo)).take (HT.sIx its.length its.length hi - HT.sIx its.length 0 lo)).toArray:=by
 obtain ⟨h1,h2,h3⟩:=j7 lo hi its.toArray.size;unfold slicePick;rw [h1,h2,h3];simp only [sliceRange_one,pick_run,List.size_toArray] <;> rfl
def wP (K:PySem.W.Frag):V→Option Int→Option Int→Hp→VK→Prop:=fun x lo hi H Q=>∃ a xs,x=.ref a∧SqL K H a xs∧∀ p,H p=none→Q (.ref p) (upd H p (.lst (gQ xs lo hi)))
theorem tj:SlR X (wP X.K):=by
 intro pins s σ H x v vl vu lo hi sl Q I rx hs pl pu h;obtain ⟨a,xs,rfl,hx,q⟩:=h
 cases rx
 obtain ⟨its,r,ht,hz⟩:=I.list hx;have hlen:=r.length;refine ⟨"list",_,slot_list_getitem.lookup,ht.isList.typeIs,?_⟩;refine wpAny_getItem_list_slice ht.isList hs pl pu .none (by simp) ?_ (by rw [List.size_toArray] <;> lia);rw [i3,← hlen];refine ⟨.ref s.heap.objs.size,_,I.laid (t':=s.toks) (o:=.lst (gQ xs lo hi)) (fun b ob q=>Heap.get?_push_of_some _ q) (Nat.le_refl _) ?_,rfl,q _ (I.hok.fresh (Nat.le_refl _))⟩;exact ⟨Nat.le_trans (ic xs lo hi) hz,_,0,(r.drop (HT.sIx xs.length 0 lo)).take (HT.sIx xs.length xs.length hi - HT.sIx xs.length 0 lo),Heap.get?_push_size _ rfl⟩
def ie:V→Bool
 | .non=>true
 | .bl _=>true
 | .int _=>true
 | .str _=>true
 | _=>false
def eqV:V→V→Bool
 | .non,.non=>true
 | .bl a,.bl b=>a == b
 | .bl a,.int b=>(if a then 1 else 0) == b
 | .int a,.bl b=>a == (if b then 1 else 0)
 | .int a,.int b=>a == b
 | .str a,.str b=>a == b
 | _,_=>false
theorem vm {A:Around} {s:Shared} {y x:V} {u v:Value} (ry:RelV y u) (rx:RelV x v) (fy:ie y=true) (fx:ie x=true):SeqAt.EqAt A s u v (eqV y x):=by
 cases y with
 | non =>
  cases ry
  cases x with
  | non=>cases rx;exact SeqAt.EqAt.same _
  | bl b=>cases rx;exact SeqAt.EqAt.none_bool b
  | int b=>obtain ⟨t,rfl⟩:=rx;exact SeqAt.EqAt.none_int b t
  | str b=>obtain ⟨t,rfl⟩:=rx;exact SeqAt.EqAt.none_str b t
  | _=>exact absurd (show false=true from fx) Bool.false_ne_true
 | bl a =>
  cases ry
  cases x with
  | non=>cases rx;exact SeqAt.EqAt.bool_none a
  | bl b=>cases rx;exact SeqAt.EqAt.bool_bool a b
  | int b=>obtain ⟨t,rfl⟩:=rx;exact SeqAt.EqAt.bool_int a b t
  | str b=>obtain ⟨t,rfl⟩:=rx;exact SeqAt.EqAt.bool_str a b t
  | _=>exact absurd (show false=true from fx) Bool.false_ne_true
 | int a =>
  obtain ⟨t',rfl⟩:=ry
  cases x with
  | non=>cases rx;exact SeqAt.EqAt.int_none a t'
  | bl b=>cases rx;exact SeqAt.EqAt.int_bool a t' b
  | int b=>obtain ⟨t,rfl⟩:=rx;exact SeqAt.EqAt.int_int a t' b t
  | str b=>obtain ⟨t,rfl⟩:=rx;exact SeqAt.EqAt.int_str a t' b t
  | _=>exact absurd (show false=true from fx) Bool.false_ne_true
 | str a =>
  obtain ⟨t',rfl⟩:=ry
  cases x with
  | non=>cases rx;exact SeqAt.EqAt.str_none a t'
  | bl b=>cases rx;exact SeqAt.EqAt.str_bool a t' b
  | int b=>obtain ⟨t,rfl⟩:=rx;exact SeqAt.EqAt.str_int a t' b t
  | str b=>obtain ⟨t,rfl⟩:=rx;exact SeqAt.EqAt.str_str a t' b t
  | _=>exact absurd (show false=true from fx) Bool.false_ne_true
 | _=>exact absurd (show false=true from fy) Bool.false_ne_true
def eqU (x:V) (u:Value):Bool:=match u with
 | .none=>eqV .non x
 | .bool b=>eqV (.bl b) x
 | .int i _=>eqV (.int i) x
 | .str z _=>eqV (.str z) x
 | _=>false
theorem qW {x y:V} {u:Value} (r:RelV y u) (f:ie y=true):eqU x u=eqV y x:=by
 cases y with
 | non=>cases r;rfl
 | bl b=>cases r;rfl
 | int i=>obtain ⟨t,rfl⟩:=r;rfl
 | str z=>obtain ⟨t,rfl⟩:=r;rfl
 | _=>exact absurd (show false=true from f) Bool.false_ne_true
theorem j8 {x:V}:∀ {xs:List V} {us:List Value},Vals xs us→xs.all ie=true→us.any (eqU x)=xs.any fun y=>eqV y x
 | _,_,.nil,_=>rfl
 | y :: xs,u :: us,.cons r t,f=>by
  rw [List.all_cons,Bool.and_eq_true] at f;rw [List.any_cons,List.any_cons,qW r f.1,j8 t f.2]
theorem iH {A:Around} {s:Shared} {x:V} {v:Value} (rx:RelV x v) (fx:ie x=true):∀ {xs:List V} {us:List Value},Vals xs us→xs.all ie=true→∀ u∈us,SeqAt.EqAt A s u v (eqU x u)
 | _,_,.nil,_=>fun u hu=>by cases hu
 | y :: xs,u :: us,.cons r t,f=>fun u' hu=>by
  rw [List.all_cons,Bool.and_eq_true] at f;rcases List.mem_cons.mp hu with rfl | hu
  ·rw [qW r f.1];exact vm r rx f.1 fx
  ·exact iH rx fx t f.2 u' hu
def inV (x:V) (xs:List V):Bool:=xs.any fun y=>eqV y x
def rIn (K:PySem.W.Frag) (neg:Bool):R2:=fun x y H Q=>∃ p xs,y=.ref p∧(SqL K H p xs∨SqT K H p xs)∧ie x=true∧xs.all ie=true∧Q (.bl (if neg then !inV x xs else inV x xs)) H
theorem qc:OpR X (compareOp .In) (rIn X.K false):=by
 intro pins s σ H x y v u Q I rx ry h;obtain ⟨p,xs,rfl,hq,fx,fs,q⟩:=h
 cases ry
 rcases hq with hq | hq
 ·obtain ⟨its,r,pl,hz⟩:=I.list hq;refine SeqAt.in_listAt (eqU x) pl.isList (fun w hw=>iH rx fx r fs w (by simpa using hw)) ⟨.bl _,H,I,rfl,?_⟩;rw [show its.toArray.any (eqU x)=its.any (eqU x) by simp,j8 r fs];exact q
 ·obtain ⟨its,r,pl,hz⟩:=I.tuple hq;refine SeqAt.in_tupleAt (eqU x) pl (fun w hw=>iH rx fx r fs w (by simpa using hw)) ⟨.bl _,H,I,rfl,?_⟩;rw [show its.toArray.any (eqU x)=its.any (eqU x) by simp,j8 r fs];exact q
theorem gl:CallR X (.builtin "len") (fun xs H Q=>∃ p ys,xs=[.ref p]∧(SqL X.K H p ys∨SqT X.K H p ys)∧Q (.int ys.length) H):=by
 intro pins s σ H xs us Q I r h;obtain ⟨p,ys,rfl,hq,q⟩:=h;obtain ⟨u,rfl,rx⟩:=dU r
 cases rx
 have hn:=gP;rcases hq with hq | hq
 ·obtain ⟨its,r',pl,hz⟩:=I.list hq;have hlen:=r'.length;exact Calls.call_len_list pl.isList (by simp only [List.size_toArray] <;> lia) ⟨.int ys.length,H,I.tok _,⟨s.toks+1,by rw [List.size_toArray,hlen]⟩,q⟩
 ·obtain ⟨its,r',pl,hz⟩:=I.tuple hq;have hlen:=r'.length;exact len_tuple pl (by simp only [List.size_toArray] <;> lia) ⟨.int ys.length,H,I.tok _,⟨s.toks+1,by rw [List.size_toArray,hlen]⟩,q⟩
theorem call_len_str:CallR X (.builtin "len") (fun xs H Q=>∃ z,xs=[.str z]∧z.length≤sizeLine∧Q (.int z.length) H):=by
 intro pins s σ H xs us Q I r h;obtain ⟨z,rfl,hz,q⟩:=h;obtain ⟨u,rfl,t,rfl⟩:=dU r;have hn:=gP;exact len_str (by lia) ⟨.int z.length,H,I.tok _,⟨_,rfl⟩,q⟩
theorem CallR.or {f:Value} {r r':List V→Hp→VK→Prop} (h:CallR X f r) (h':CallR X f r'):CallR X f (fun xs H Q=>r xs H Q∨r' xs H Q):=by
 intro pins s σ H xs us Q I rs q;rcases q with q | q
 ·exact h pins s σ H xs us Q I rs q
 ·exact h' pins s σ H xs us Q I rs q
theorem j9:CallR X (.type "list") (fun xs H Q=>∃ p ys,xs=[.ref p]∧(SqL X.K H p ys∨SqT X.K H p ys)∧∀ l,H l=none→Q (.ref l) (upd H l (.lst ys))):=by
 intro pins s σ H xs us Q I r h;obtain ⟨p,ys,rfl,hq,q⟩:=h;obtain ⟨u,rfl,rx⟩:=dU r
 cases rx
 have fin:∀ (its:List Value),Vals ys its→ys.length≤sizeLine→∀ (h':Heap) (c':Nat),(∀ b o',s.heap.get? b=some o'→h'.get? b=some o') →
   h'.get? s.heap.objs.size=some { cls:=.type "list",dict:=none,data:=.seq its.toArray c',slots:=#[] }→EP X pins σ Q (.ref s.heap.objs.size) { s with heap:=h' }:=fun its r' hz h' c' kp e =>
  ⟨.ref s.heap.objs.size,_,I.laid (t':=s.toks) kp (Nat.le_refl _) (show ObjOk X.prog X.w _ h' _ (.lst ys) from ⟨hz,its,c',r',e⟩),rfl,q _ (I.hok.fresh (Nat.le_refl _))⟩
 rcases hq with hq | hq
 ·obtain ⟨its,r',pl,hz⟩:=I.list hq;have hlen:=r'.length;obtain ⟨o,ho,hc,n,hd⟩:=pl.isList;exact call_list_seq p (.inl rfl) ho hc hd (fun h' c' kp e=>fin its r' hz h' c' kp e) (by simp only [List.size_toArray] <;> lia)
 ·obtain ⟨its,r',pl,hz⟩:=I.tuple hq;have hlen:=r'.length;obtain ⟨o,ho,hc,n,hd⟩:=pl;exact call_list_seq p (.inr rfl) ho hc hd (fun h' c' kp e=>fin its r' hz h' c' kp e) (by simp only [List.size_toArray] <;> lia)
def tyV (K:PySem.W.Frag) (T:String) (x:V) (H:Hp):Prop:=match x with
 | .str _=>T= "str"
 | .int _=>T= "int"
 | .ref p=>(T= "list" ∧∃ xs,SqL K H p xs)∨(T= "tuple" ∧∃ o,K.lookup p=some o∧o.cls=.type "tuple" ∧o.dict=none) ∨
   (T= "dict" ∧((∃ kvs,H p=some (.dK kvs))∨∃ kvs,H p=some (.dT kvs)))∨(T= "set" ∧∃ S n,H p=some (.set S n))
 | _=>False
theorem vn {pins:List (Addr×Obj)} {σ:St} {H:Hp} {s:Shared} {T:String} {x:V} {v:Value} (I:Inv X pins σ H s) (r:RelV x v) (ty:tyV X.K T x H) :
  s.TypeIs v T∧∀ a,v=.ref a→∃ ob,s.heap.get? a=some ob∧ob.dict=none:=by
 cases x with
 | str z =>
  obtain ⟨t,rfl⟩:=r
  cases (show T= "str" from ty)
  exact ⟨typeIs_str s z t,fun _ e=>nomatch e⟩
 | int i =>
  obtain ⟨t,rfl⟩:=r
  cases (show T= "int" from ty)
  exact ⟨typeIs_int s i t,fun _ e=>nomatch e⟩
 | ref p =>
  cases r
  rcases ty with ⟨rfl,xs,hq⟩ | ⟨rfl,o,hk,hc,hd⟩ | ⟨rfl,hk⟩ | ⟨rfl,S,n,hk⟩
  ·obtain ⟨its,_,pl,_⟩:=I.list hq;refine ⟨pl.isList.typeIs,fun a e=>?_⟩
   cases e
   obtain ⟨o,n,e,c,hd,_⟩:=pl;exact ⟨o,e,hd⟩
  ·refine ⟨⟨o,I.kIn p o hk,hc⟩,fun a e=>?_⟩
   cases e
   exact ⟨o,I.kIn _ o hk,hd⟩
  ·have z:∃ o,s.heap.get? p=some o∧o.ExactDict:=by
    rcases hk with ⟨kvs,hk⟩ | ⟨kvs,hk⟩
    ·obtain ⟨_,_,_,_,o,_,_,e,ex,_⟩:=I.hok p _ hk;exact ⟨o,e,ex⟩
    ·obtain ⟨_,_,_,_,o,_,_,e,ex,_⟩:=I.hok p _ hk;exact ⟨o,e,ex⟩
   obtain ⟨o,e,ex⟩:=z;refine ⟨⟨o,e,ex.1⟩,fun a e2=>?_⟩
   cases e2
   exact ⟨o,e,ex.2.1⟩
  ·obtain ⟨o,_,_,_,e,ex,_⟩:=I.hok p _ hk;refine ⟨⟨o,e,ex.1⟩,fun a e2=>?_⟩
   cases e2
   exact ⟨o,e,ex.2.1⟩
 | _=>exact False.elim ty
def tBM (K:PySem.W.Frag) (T:String) (r:V→List V→Hp→VK→Prop) (to:TE) (t:TA):TE:=fun σ H Q=>to σ H fun x H1=>tyV K T x H1∧t σ H1 fun xs H2=>r x xs H2 Q
variable {o e:Expr} {es:List Expr} {to:TE} {t:TA} {name:Str} {apos cpos:Pos} {T id:String} {r:V→List V→Hp→VK→Prop}
theorem md (pa:PlainAttrs T) (slot:Slot T name id) (hty:typeOf (.builtin id)=pure (.type "method_descriptor")) (hm:MtR X id r) (ho:PE X o to) (ha:PA X (e :: es) t)
  (hbase:attributeBase o name X.env (eval o X.env)=eval o X.env:=by rfl)
  (hfew:((backTo cpos (starEach (e :: es) X.env)).all (fun x=>!x.1) && (backToKw cpos (keywordEach [] X.env)).all (fun x=>x.1.isSome)
   && decide ((e :: es).length+([]:List Keyword).length+(if ([]:List Keyword).isEmpty then 0 else 1) < 30))=true:=by rfl)
  (hline:(apos.endLine == cpos.line)=true:=by rfl) (hs:starEach (e :: es) X.env=(false,eval e X.env) :: starEach es X.env:=by rfl) (hplain:(backTo cpos (starEach es X.env)).any (·.1)=false:=by rfl) :
  PE X (.Call (.Attribute o name apos) (e :: es) [] cpos) (tBM X.K T r to t):=by
 intro pins s σ H Q I h;refine wpAny_Call_method_late hbase hfew hline rfl (thn (ho pins s σ H _ I h) fun v s1 ⟨x,H1,I1,r1,ty,q1⟩=>?_);obtain ⟨h1,h2⟩:=vn I1 r1 ty;refine ⟨T,id,pa,slot,hty,h1,h2,?_⟩;have hA:=ha cpos pins s1 σ H1 _ I1 q1;rw [hs] at hA ⊢;refine Calls.callWith_builtin (by show (false || (backTo cpos (starEach es X.env)).any (·.1))=false;rw [hplain] <;> rfl) (Calls.evalArgs_plain ?_);exact thn hA fun us s2 ⟨vs,H2,I2,r2,q2⟩=>hm pins s2 σ H2 x vs v us Q I2 r1 r2 q2
end
def MtM (X:Cx) (id:String) (r:V→List V→Hp→VK→Prop):Prop :=
 ∀ (pins:List (Addr×Obj)) (s:Shared) (σ:St) (H:Hp) (x:V) (xs:List V) (v:Value) (us:List Value) (Q:VK),Inv X pins σ H s→RelV x v→Vals xs us→r x xs H Q →
  wpAny (model X.prog X.w) X.A (call (.builtin id) (v :: us)) (EP X pins σ Q) X.xe s
theorem Vals.one:∀ {x:V} {us:List Value},Vals [x] us→∃ u,us=[u]∧RelV x u:=by
 intro x us h
 cases h with
 | cons r t =>
  cases t
  exact ⟨_,rfl,r⟩
theorem Vals.two:∀ {x y:V} {us:List Value},Vals [x,y] us→∃ u v,us=[u,v]∧RelV x u∧RelV y v:=by
 intro x y us h
 cases h with
 | cons r t =>
  cases t with
  | cons q t =>
   cases t
   exact ⟨_,_,rfl,r,q⟩
section
variable {X:Cx} {pins:List (Addr×Obj)} {σ:St} {H:Hp} {s:Shared} {l b:Addr} {xs ys zs:List V}
theorem Inv.lset {its its':List Value} {n:Nat} {f:Array Value→Array Value} {t':Nat} (I:Inv X pins σ H s) (hH:H l=some (.lst xs))
  (e:s.heap.get? l=some { cls:=.type "list",data:=.seq its.toArray n }) (hf:f its.toArray=its'.toArray) (hv:Vals ys its') (hz:ys.length≤sizeLine) :
  Inv X pins σ (upd H l (.lst ys)) { s with heap:=s.heap.update l (Obj.mapSeq f),toks:=t' }:=by
 have q:=PySem.IsL.update e f;rw [hf] at q;refine I.write (x:=l) (e:=l) (by rw [hH];exact trivial) (.inl rfl) (fun b' u hb hu=>(Heap.get?_update_other s.heap (Obj.mapSeq f) (Ne.symm hb)).trans hu) ⟨_,q⟩ ?_;exact ⟨hz,its',_,hv,q⟩
theorem Inv.lnew {its:List Value} {t':Nat} (I:Inv X pins σ H s) (hv:Vals ys its) (hz:ys.length≤sizeLine) :
  Inv X pins σ (upd H s.heap.objs.size (.lst ys)) { s with heap:=s.heap.push { cls:=.type "list",data:=.seq its.toArray },toks:=t' } :=
 I.laid (fun _ _ q=>Heap.get?_push_of_some _ q) (Nat.le_refl _) ⟨hz,its,0,hv,Heap.get?_push_size _ rfl⟩
theorem Inv.fresh (I:Inv X pins σ H s):H s.heap.objs.size=none:=I.hok.fresh (Nat.le_refl _)
theorem Inv.lstM (I:Inv X pins σ H s) (hH:H l=some (.lst xs)):xs.length≤sizeLine∧∃ (its:List Value) (n:Nat),Vals xs its∧xs.length=its.length∧s.heap.get? l=some { cls:=.type "list",data:=.seq its.toArray n }:=by
 obtain ⟨z,its,n,r,e⟩:=I.hok l _ hH;exact ⟨z,its,n,r,r.length,e⟩
theorem qX {n:Nat} (h:n≤sizeLine):Builtin.List.listTooLong n=false:=by
 unfold Builtin.List.listTooLong;exact decide_eq_false (by lia)
end
section
variable {X:Cx}
inductive IApp (x:V) (vs:List V) (H:Hp) (Q:VK):Prop
 | mk (l:Addr) (xs:List V) (y:V):(x=.ref l)→(vs=[y])→(H l=some (.lst xs))→(xs.length < sizeLine)→(Q .non (upd H l (.lst (xs++[y]))))→IApp x vs H Q
def tm:V→List V→Hp→VK→Prop:=fun x vs H Q=>IApp x vs H Q
theorem cX:MtM X "list.append" tm:=by
 intro pins s σ H x vs v us Q I rx rv h;obtain ⟨l,xs,y,rfl,rfl,hH,hz,q⟩:=h
 cases rx
 obtain ⟨u,rfl,ru⟩:=rv.one;obtain ⟨z,its,n,r,hl,e⟩:=I.lstM hH;refine call_meets F.slot_list_append ⟨_,e,rfl⟩ F.entry_list_append (F.args_list_append_2 _ _) (PySem.list_append l its.toArray n u (by rw [List.size_toArray];lia)) ⟨e,?_⟩;refine ⟨.non,_,I.lset (its':=its++[u]) hH e (by simp) (r.append (.cons ru .nil)) ?_,rfl,q⟩;rw [List.length_append,List.length_singleton];lia
def tq:V→List V→Hp→VK→Prop:=fun x vs H Q=>∃ l b xs zs,x=.ref l∧vs=[.ref b]∧H l=some (.lst xs)∧H b=some (.lst zs)∧xs.length+zs.length≤sizeLine∧Q .non (upd H l (.lst (xs++zs)))
theorem qd:MtM X "list.extend" tq:=by
 intro pins s σ H x vs v us Q I rx rv h;obtain ⟨l,b,xs,zs,rfl,rfl,hH,hB,hz,q⟩:=h
 cases rx
 obtain ⟨u,rfl,ru⟩:=rv.one
 cases ru
 obtain ⟨z,its,n,r,hl,e⟩:=I.lstM hH;obtain ⟨z2,its2,n2,r2,hl2,e2⟩:=I.lstM hB;have hsz:its.toArray.size+its2.toArray.size≤sizeLine:=by rw [List.size_toArray,List.size_toArray];lia
 have hlong:¬ (!its.toArray.isEmpty && Builtin.List.listTooLong (its.toArray.size+its2.toArray.size))=true:=by
  rw [qX hsz,Bool.and_false];exact Bool.false_ne_true
 refine call_meets F.slot_list_extend ⟨_,e,rfl⟩ F.entry_list_extend (F.args_list_extend_2 _ _)
  (AutoSeq1.list_extend_list_list_0 l its.toArray n b its2.toArray n2 hlong (by rw [List.size_toArray];lia) (by lia)) ⟨e,e2,?_⟩
 refine ⟨.non,_,I.lset (its':=its++its2) hH e (by simp) (r.append r2) ?_,rfl,q⟩;rw [List.length_append];lia
end
section
variable {prog:Program} {w:World} {A:Around} {E:Value→Shared→Prop} {s:Shared}
end
section
variable {X:Cx}
end
end L2
namespace Att
open PySem PySem.W PySem.Calls PyProof.Rows
theorem ir {P:Params} {h:Heap}:∀ (ns:List Int) (vs:List Value),WellAll P h vs (ns.map WData.int)→IntsAre vs ns:=by
 intro ns
 induction ns with
 | nil =>
  intro vs w;rw [List.map_nil] at w
  cases w
  exact .nil
 | cons n ns ih =>
  intro vs w;rw [List.map_cons] at w
  cases w with
  | cons a b =>
   cases a
   exact .cons _ _ (ih _ b)
theorem qe {l:OpenLaw} {n:Nat} (hn:l.most=some n) {P:Params} {h:Heap} {args:List WData} {vals:List Value}
  (hpre:l.row.toRowW.claim.pre args=true) (hwl:WellAll P h vals args) :
  ∃ a vs ns,vals=[Value.ref a]∧args=[WData.list (ns.map WData.int)]∧h.get? a=some { cls:=.type "list",data:=.seq vs.toArray }∧IntsAre vs ns∧ns.length≤n:=by
 have hsh:WShape.hasAll [] args [.list .int]=true:=(pre_splitW hpre).1;have hc:l.pre.holds [] { args:=args }=true:=(pre_splitW hpre).2;obtain ⟨d,r,rfl,h1,h2⟩:=hasAllW_cons hsh;obtain rfl:=hasAllW_nil h2;obtain ⟨xs,rfl,h3⟩:=hasW_list h1;obtain ⟨ns,rfl⟩:=items_int h3;have hlen:ns.length≤n:=by
  unfold OpenLaw.pre at hc;have h4:(WTm.not (.lt (.lit (.int (n:Int))) (.len (.arg 0)))).holds [] { args:=[.list (ns.map .int)] }=true:=by
   have h4:=(holds_andW hc).1;rw [hn] at h4;exact h4
  have h5:=condW_of h4 (w_not (w_lt w_lit (w_len_list (w_arg rfl))));rw [List.length_map] at h5;refine Nat.le_of_not_lt fun q=>?_;have q':(n:Int) < ((ns.length:Nat):Int):=by lia
  first
   | (rw [decide_eq_true q'] at h5;exact absurd h5 (by decide))
   | (simp at h5;lia)
 cases hwl with
 | cons w1 w2 =>
  cases w2
  cases w1 with
  | list ho hall=>exact ⟨_,_,ns,rfl,rfl,ho,ir ns _ hall,hlen⟩
theorem qf (l:OpenLaw) (args:List WData):l.row.toRowW.claim.post args (.bool true) args=true :=
 postW_of (r:=l.row.toRowW) (X:=(true == true))
  (show WShape.has [] (.bool true) .bool=true by first | rfl | decide | simp [WShape.has,WShape.arms,WShape.armsAll])
  (show (WTm.eq .res (.lit (.bool true))).value [] { args:=args,res:=some (.bool true),after:=args }=some (.bool (true == true)) from w_eq_bool (w_res rfl) w_lit) rfl
theorem attach_call {l:OpenLaw} {n:Nat} {q:Program} {loose:List Str} {XP:(Str→Option Value)→Heap→Prop} {YP:World→Heap→Prop} {d:DefRec}
  (hn:l.most=some n) (hdf:d.params.defaults=[])
  (call:∀ (w:World) (s₀ s₁:Shared) (mg mb:Str→Option Value) (fa:Addr) (o:Obj) (pm cd doc:Value) (a:Addr) (vs:List Value) (ns:List Int),
   Ground q loose [] XP w s₀ mg mb s₁.heap→YP w s₁.heap →
   s₁.heap.get? fa=some o→o.data=.func (docDef d.name d.params d.body d.scope pm cd doc)→s₁.heap.CodeRec cd d.name→mg d.name=some (.ref fa) →
   s₁.heap.get? a=some { cls:=.type "list",data:=.seq vs.toArray }→IntsAre vs ns→ns.length≤n→s₁.gens=#[] →
   codeAny (model l.prog w) callerA (.call (.ref fa) ⟨[.ref a],[]⟩) (fun r s'=>r=.ok (.ret (.bool true))∧OldK s₁.heap s'.heap∧s'.os=s₁.os∧AllBare s'.gens) s₁) :
  WalkO q loose XP YP l.row.toRowW d [] (fun f vs=>PySem.call f vs):=by
 intro w s₀ s₁ mg mb G Y fa o pm cd doc dV kV ho hd hcd hD hmg hg args vals as hpre hlay hrd hwl hlo;obtain rfl:dV=.none:=Dflts.none hD hdf;obtain rfl:kV=.none:=Dflts.noKw hD;obtain ⟨a,vs,ns,rfl,rfl,hobj,hints,hlen⟩:=qe hn hpre hwl;refine enter_call (codeAny_mono (call w s₀ s₁ mg mb fa o pm cd doc a vs ns G Y ho (fd_plain hd) hcd hmg hobj hints hlen hg) fun r s' hq=>?_);obtain ⟨rfl,h2,h3,h4⟩:=hq;exact ⟨.inl ⟨.bool true,.bool true,[],rfl,fun _=>rfl,.bool true,qf l _,fun _=>⟨List.Pairwise.nil,fun _ hm=>(nomatch hm)⟩⟩,h2,h3,h4⟩
section
variable {prog:Program} {w:World} {A:Around} {E:Value→Shared→Prop} {s:Shared} {K:Frag}
end
end Att
namespace L2
open PySem PySem.Spec PyProof.Rows
theorem jA:∀ {vs:List Value} {ns:List Int},IntsAre vs ns→Vals (ns.map V.int) vs
 | _,_,.nil=>.nil
 | _,_,.cons n t h=>.cons ⟨t,rfl⟩ (jA h)
def tt (H:Hp):Prop:=∀ b,H b=none∨∃ o xs,H b=some (.frz o (.lst xs))
theorem qY {P:Program} {w:World} {K:PySem.W.Frag} {mg mb:Str→Option Value} {CX:CXT} {k:Nat} {fa a:Addr} {fd:FuncData} {x:Str} {sp:Sp} {s₁:Shared} {vs:List Value} {ns:List Int}
  (KX:K.In s₁.heap) (hns:s₁.heap.Ns mainGlobals mg) (hb:s₁.heap.Ns builtinsNs mb) (hbb:∀ x:Str,x≠ "__name__" →mb x=bootBuiltins x) (hlim:s₁.heap.NoLimit) (hg:s₁.gens=#[])
  (ha:s₁.heap.get? a=some { cls:=.type "list",data:=.seq vs.toArray }) (hi:IntsAre vs ns) (hl:ns.length≤sizeLine) (hr:Room k callerA)
  (F:∀ base:Heap,K.In base→base.Ns mainGlobals mg→FnOk P w K mg base CX k fa fd [x] sp) (hbind:∀ (s:Shared) (u:Value),BindsTo s fd ⟨[u],[]⟩ [(x,u)])
  (hsp:∀ H:Hp,tt H→SqL K H a (ns.map V.int)→sp [.ref a] H (fun v _=>v=.bl true) fun _ _ _=>False)
  (hCX:∀ H e s',CX [] H s₁ (fun _ _ _=>False) e s'→False) :
  codeAny (model P w) callerA (.call (.ref fa) ⟨[.ref a],[]⟩) (fun r s'=>r=.ok (.ret (.bool true))∧OldK s₁.heap s'.heap∧s'.os=s₁.os∧AllBare s'.gens) s₁:=by
 have rv:=jA hi;have lenV:=hi.length;have core:∀ H:Hp,tt H→SqL K H a (ns.map V.int)→HOk P w H s₁.heap→(∀ b,H b≠none→b=a)→(H a≠none→K.lookup a=none) →
   codeAny (model P w) callerA (.call (.ref fa) ⟨[.ref a],[]⟩) (fun r s'=>r=.ok (.ret (.bool true))∧OldK s₁.heap s'.heap∧s'.os=s₁.os∧AllBare s'.gens) s₁:=by
  intro H hO hS hok hA hK;have base_of:∀ {b:Addr} {o:Obj},s₁.heap.get? b=some o→H b=none→(j3 s₁.heap H).get? b=some o:=fun e n=>qK e n;have noA:∀ {b:Addr} {o:Obj} {es:Array DictEntry} {ep:Nat},s₁.heap.get? b=some o→o.data=.dict es ep→H b=none:=fun {b o es ep} e d=>by
   cases q:H b with
   | none=>rfl
   | some u =>
    have e':b=a:=hA b (by rw [q];simp);subst e';rw [ha] at e;cases e;have d':Data.seq vs.toArray _=Data.dict es ep:=d
    cases d'
  have nsK:∀ {b:Addr} {m:Str→Option Value},s₁.heap.Ns b m→(j3 s₁.heap H).Ns b m:=fun {b m} ⟨o,es,ep,e,d,r⟩=>⟨o,es,ep,base_of e (noA e d),d,r⟩;have hKb:K.In (j3 s₁.heap H):=fun b o e=>base_of (KX b o e) (by
   cases q:H b with
   | none=>rfl
   | some u =>
    have e':b=a:=hA b (by rw [q];simp);subst e';rw [hK (by rw [q];simp)] at e;cases e)
  have hM:Mod K mg (j3 s₁.heap H):=⟨hKb,nsK hns,⟨mb,nsK hb,hbb⟩,let ⟨mc,h1,h2⟩:=hlim;⟨mc,nsK h1,h2⟩⟩;have e0:Env0 P w K mg (j3 s₁.heap H) callerA [] s₁ H:=⟨rfl,hM,fun b o e=>sT e,Nat.le_of_eq (pY _ _),trivial,fun b hb=>absurd (show b∈([]:List Addr) from hb) (by simp),hok,.of_eq hg⟩;refine codeAny_mono ((F _ hKb (nsK hns)).run callerA [] s₁ H ⟨[.ref a],[]⟩ [.ref a] [.ref a] _ _ hr e0 (hbind s₁ (.ref a)) (.cons rfl .nil) (hsp H hO hS)) fun r s' h=>?_
  cases r with
  | error e=>exact (hCX H e s' h).elim
  | ok fl =>
   cases fl with
   | next=>exact False.elim h
   | brk=>exact False.elim h
   | cont=>exact False.elim h
   | ret u =>
    obtain ⟨v,H',os,bare,un,hok',r',q⟩:=h;have q':v=.bl true:=q;subst q';obtain rfl:u=Value.bool true:=r';refine ⟨rfl,OldK.of_keep fun b o e=>?_,os,bare⟩
    cases q:H b with
    | none=>exact un.keep b o e q (by intro z;exact absurd (show b∈([]:List Addr) from z) (by simp)) (by simp)
    | some u =>
     rcases hO b with z | ⟨ob,xs,z⟩
     ·rw [q] at z;cases z
     ·have z2:=un.frzs b ob _ z;obtain ⟨e1,_⟩:=hok b _ z;obtain ⟨e2,_⟩:=hok' b _ z2;rw [e] at e1;cases e1;exact e2
 cases hk:K.lookup a with
 | some o =>
  have e:=KX a o hk;rw [ha] at e
  cases e
  refine core (fun _=>none) (fun _=>.inl rfl) (.inr ⟨_,vs.toArray,_,hk,rfl,rfl,rfl,by rw [List.size_toArray,lenV];exact hl,by simpa using rv⟩) (fun b u z=>by have z':(none:Option HO)=some u:=z;cases z') (fun b z=>absurd rfl z) fun z=>absurd rfl z
 | none =>
  refine core (fun b=>if b=a then some (.frz { cls:=.type "list",data:=.seq vs.toArray } (.lst (ns.map V.int))) else none) (fun b=>?_) (.inl (.inr ⟨{ cls:=.type "list",data:=.seq vs.toArray },if_pos rfl⟩)) (fun b u z=>?_) (fun b z=>?_) fun _=>hk
  ·by_cases hb:b=a
   ·exact .inr ⟨_,_,if_pos hb⟩
   ·exact .inl (if_neg hb)
  ·by_cases hb:b=a
   ·have z':=(if_pos hb).symm.trans z
    cases z'
    subst hb;exact ⟨ha,by rw [List.length_map];exact hl,vs,_,rv,ha⟩
   ·have z':=(if_neg hb).symm.trans z
    cases z'
  ·by_cases hb:b=a
   ·exact hb
   ·exact absurd (if_neg hb) z
abbrev KOf {K:PySem.W.Frag} {h:Heap} (_:K.In h):PySem.W.Frag:=K
theorem tu {l:PySem.W.OpenLaw} {n k:Nat} {q:Program} {loose:List Str} {XP:(Str→Option Value)→Heap→Prop} {YP:World→Heap→Prop} {d:DefRec} {K:Params→PySem.W.Frag} {CX:World→CXT} {sp:World→Sp} {x:Str}
  (hn:l.most=some n) (hn2:n≤sizeLine) (hdf:d.params.defaults=[]) (hr:Room k callerA)
  (hY:∀ (w:World) (h:Heap),YP w h→(K w.params).In h)
  (F:∀ (w:World) (mg:Str→Option Value) (fa:Addr) (h:Heap),(K w.params).In h→h.Ns mainGlobals mg→mg d.name=some (.ref fa) →
   ∃ fd:FuncData,(∀ (s:Shared) (u:Value),BindsTo s fd ⟨[u],[]⟩ [(x,u)]) ∧
    ∀ base:Heap,(K w.params).In base→base.Ns mainGlobals mg→FnOk l.prog w (K w.params) mg base (CX w) k fa fd [x] (sp w))
  (hsp:∀ (w:World) (H:Hp) (a:Addr) (ns:List Int),ns.length≤n→tt H→SqL (K w.params) H a (ns.map V.int)→sp w [.ref a] H (fun v _=>v=.bl true) fun _ _ _=>False)
  (hCX:∀ (w:World) (H:Hp) (s:Shared) (e:Value) (s':Shared),CX w [] H s (fun _ _ _=>False) e s'→False) :
  PySem.W.WalkO q loose XP YP l.row.toRowW d [] (fun f vs=>PySem.call f vs):=by
 refine Att.attach_call hn hdf fun w s₀ s₁ mg mb fa o pm cd doc a vs ns G Y ho hd hcd hmg hobj hints hlen hg=>?_;have KX:=hY w _ Y;obtain ⟨fd,hb,hF⟩:=F w mg fa _ KX G.T.g hmg;exact qY KX G.T.g G.T.b G.T.builtins G.T.nolimit hg hobj hints (Nat.le_trans hlen hn2) hr hF hb (fun H hO hS=>hsp w H a ns hlen hO hS) fun H e s'=>hCX w H s₁ e s'
theorem wQ {l:PySem.W.OpenLaw} {n k:Nat} {q:Program} {loose:List Str} {XP:(Str→Option Value)→Heap→Prop} {YP:World→Heap→Prop} {d:DefRec} {K:Params→PySem.W.Frag} {CX:CXT} {sp:PySem.W.Frag→Sp} {x:Str}
  (hn:l.most=some n) (hn2:n≤sizeLine) (hdf:d.params.defaults=[]) (hr:Room k callerA)
  (hY:∀ (w:World) (h:Heap),YP w h→(K w.params).In h)
  (F:∀ (w:World) (mg:Str→Option Value) (fa:Addr) (h:Heap),(K w.params).In h→h.Ns mainGlobals mg→mg d.name=some (.ref fa) →
   ∃ fd:FuncData,(∀ (s:Shared) (u:Value),BindsTo s fd ⟨[u],[]⟩ [(x,u)]) ∧
    ∀ base:Heap,(K w.params).In base→base.Ns mainGlobals mg→FnOk l.prog w (K w.params) mg base CX k fa fd [x] (sp (K w.params)))
  (hsp:∀ (K:PySem.W.Frag) (H:Hp) (a:Addr) (ns:List Int),ns.length≤n→tt H→SqL K H a (ns.map V.int)→sp K [.ref a] H (fun v _=>v=.bl true) fun _ _ _=>False)
  (hCX:∀ (H:Hp) (s:Shared) (e:Value) (s':Shared),CX [] H s (fun _ _ _=>False) e s'→False) :
  PySem.W.WalkO q loose XP YP l.row.toRowW d [] (fun f vs=>PySem.call f vs) :=
 tu (K:=K) (CX:=fun _=>CX) (sp:=fun w=>sp (K w.params)) hn hn2 hdf hr hY F (fun w H a ns h1 h2 h3=>hsp (K w.params) H a ns h1 h2 h3) fun _ H s e s'=>hCX H s e s'
end L2
namespace L2
open PySem PySem.Spec PyProof.Rows
abbrev CX0:CXT:=fun _ _ _ _ _ _=>False
abbrev E0:XK:=fun _ _ _=>False
theorem wR {X:Cx}:nN CX0 X E0:=fun _ _ _ _ _ _ _ h=>h.elim
structure Fun (K:PySem.W.Frag) (x qual:Str) (st:Stmt) (f:Addr) (fd:FuncData):Prop where
 ex:∃ (oc:Value) (od:Option Addr) (kV doc pm:Value) (an:Option Addr) (cdv ct:Value) (osl:Array (Option Value)),
  fd=PySem.W.fnOf x qual (dq st) (cH st) (ac st) .none kV doc pm an cdv ct∧K.lookup f=some ⟨oc,od,.func fd,osl⟩∧PySem.W.codeIn K cdv qual=true
 kp:PySem.W.keepIn K (.ref f)=true
section
variable {P:Program} {w:World} {K:PySem.W.Frag} {mg:Str→Option Value} {base:Heap}
theorem Fun.ok {x qual:Str} {st:Stmt} {f:Addr} {fd:FuncData} {N ps:List Str} {k:Nat} {sp:Sp} (F:Fun K x qual st f fd) (S:FnScope N ps (ac st)) (len:∀ vs H Q E,sp vs H Q E→vs.length=ps.length)
  (hbody:∀ (cdv:Value) (A:Around) (outer:List Env) (s:Shared) (H:Hp) (vs:List V) (Q:VK) (E:XK),Room k (A.deeper (envOfC qual (ac st) s.heap.objs.size f cdv))→sp vs H Q E →
   ∃ t,PSs (qa CX0 P w K mg base N qual (ac st) f cdv A outer s H E).nox (cH st) t∧t { nx:=fun _ H'=>Q .non H',rt:=Q } (ib N vs) H):FnOk P w K mg base CX0 (k+1) f fd ps sp:=by
 obtain ⟨oc,od,kV,doc,pm,an,cdv,ct,osl,rfl,lk,hcd⟩:=F.ex;refine wL lk hcd S len fun A outer s H vs Q E hr hsp=>?_;obtain ⟨t,h,q⟩:=hbody cdv A outer s H vs Q E hr hsp;exact ⟨t,h.nox,q⟩
theorem Fun.binds {x qual:Str} {st:Stmt} {f:Addr} {fd:FuncData} {ps:List Str} (F:Fun K x qual st f fd)
  (h:∀ (kV doc pm:Value) (an:Option Addr) (cdv ct:Value) (us:List Value),us.length=ps.length→bindArgs (PySem.W.fnOf x qual (dq st) (cH st) (ac st) .none kV doc pm an cdv ct) ⟨us,[]⟩=pure (ps.zip us)):Binds K fd ps []:=by
 obtain ⟨oc,od,kV,doc,pm,an,cdv,ct,osl,rfl,lk,hcd⟩:=F.ex;exact .all (h kV doc pm an cdv ct)
theorem qZ {x qual:Str} {st:Stmt} {f:Addr} {oc:Value} {od an:Option Addr} {osl:Array (Option Value)} {kV doc pm cdv ct:Value} (l:K.lookup f=some ⟨oc,od,.func (PySem.W.fnOf x qual (dq st) (cH st) (ac st) .none kV doc pm an cdv ct),osl⟩)
  (c:PySem.W.codeIn K cdv qual=true) (k:PySem.W.keepIn K (.ref f)=true):Fun K x qual st f (PySem.W.fnOf x qual (dq st) (cH st) (ac st) .none kV doc pm an cdv ct):=⟨⟨oc,od,kV,doc,pm,an,cdv,ct,osl,rfl,l,c⟩,k⟩
end
theorem ag {n:Nat} (h:n≤1000):n < sizeLine:=Nat.lt_of_le_of_lt h (by decide)
section
variable {X:Cx}
theorem pv (i:Nat) {x:Str} {pos:Pos} (hN:X.N[i]?=some x:=by rfl) (hv:Vis X.env.scope x:=by first | exact Or.inl rfl | exact Or.inr (Or.inl rfl) | exact Or.inr (Or.inr rfl)) (hd:(x == ("__debug__" : Str))=false:=by decide)
  (hcd:(x == ("__classdict__" : Str))=false:=by decide):PE X (.Name x pos) (qL i):=uU hN hv hd hcd
end
theorem bq {A B:Prop} (h:B):if false=true then A else B:=by
 rw [if_neg Bool.false_ne_true];exact h
theorem aO {A B:Prop} (h:A):if true=true then A else B:=by
 rw [if_pos rfl];exact h
theorem cp {c A B:Prop} [Decidable c] (h1:c→A) (h2:¬ c→B):if c then A else B:=by
 by_cases h:c
 ·rw [if_pos h];exact h1 h
 ·rw [if_neg h];exact h2 h
def Same (H H':Hp):Prop:=∀ b o,H b=some o→H' b=some o
theorem Same.refl (H:Hp):Same H H:=fun _ _ h=>h
theorem Same.trans {H H1 H2:Hp} (a:Same H H1) (b:Same H1 H2):Same H H2:=fun c o h=>b c o (a c o h)
theorem Same.free {H H':Hp} (e:Same H H') {l:Addr} (h:H' l=Option.none):H l=Option.none:=by
 cases q:H l with
 | none=>rfl
 | some o =>
  rw [e l o q] at h
  cases h
theorem Same.seq {K:PySem.W.Frag} {H H':Hp} {a:Addr} {xs:List V} (e:Same H H') (h:SqL K H a xs):SqL K H' a xs:=by
 rcases h with (h | ⟨o,h⟩) | h
 ·exact .inl (.inl (e _ _ h))
 ·exact .inl (.inr ⟨o,e _ _ h⟩)
 ·exact .inr h
def cI (env:Env):List (Str×NameKind)→List (Str×Addr)→List (Str×Addr)
 | [],cs=>cs
 | (n,k) :: r,cs=>cI env r (if k == .free then (n,(env.cells.lookup n).getD 0) :: cs else cs)
theorem iI {env:Env} {scope:Scope} (h:∀ x∈scope.names,x.2=.free→∃ c,env.cells.lookup x.1=some c):closureFor scope env=pure (cI env scope.names []):=by
 simp only [closureFor];have go:∀ (l:List (Str×NameKind)) (cs:List (Str×Addr)),(∀ x∈l,x.2=.free→∃ c,env.cells.lookup x.1=some c) →
   (forIn l cs fun (x:Str×NameKind) (r:List (Str×Addr))=>(do
    let (name,kind):=x
    if kind == .free then
     let a ← cellOf env name
     pure (ForInStep.yield ((name,a) :: r))
    else pure (ForInStep.yield r):Sem (ForInStep (List (Str×Addr)))))=pure (cI env l cs):=by
  intro l
  induction l with
  | nil=>intro cs _;rfl
  | cons x r ih =>
   intro cs hx;obtain ⟨n,k⟩:=x;rw [List.forIn_cons]
   by_cases hk:k=.free
   ·obtain ⟨c,hc⟩:=hx (n,k) List.mem_cons_self hk;subst hk;have e:cellOf env n=pure c:=by unfold cellOf;rw [hc]
    simp only [beq_self_eq_true,if_true,e,pure_bind];rw [ih _ fun y hy=>hx y (List.mem_cons_of_mem _ hy)];simp only [cI,beq_self_eq_true,if_true,hc,Option.getD_some]
   ·have hb:(k == NameKind.free)=false:=by simpa using hk
    simp only [hb,Bool.false_eq_true,if_false,pure_bind];rw [ih _ fun y hy=>hx y (List.mem_cons_of_mem _ hy)];simp only [cI,hb,Bool.false_eq_true,if_false]
 have g:=go scope.names [] h
 first
  | exact (by rw [g]:_=_)
  | (rw [← bind_pure (pure (cI env scope.names []))];rw [← g];rfl)
  | (simp only [g,pure_bind])
theorem gR {env:Env}:∀ (l:List (Str×NameKind)) (cs:List (Str×Addr)),(∀ x∈l,x.2=.free→∃ c,env.cells.lookup x.1=some c)→(∀ x c,cs.lookup x=some c→env.cells.lookup x=some c) →
  ∀ x c,(cI env l cs).lookup x=some c→env.cells.lookup x=some c
 | [],_,_,h=>h
 | (n,k) :: r,cs,hx,h=>by
  refine gR r _ (fun y hy=>hx y (List.mem_cons_of_mem _ hy)) ?_;intro x c e
  by_cases hk:k=.free
  ·obtain ⟨c',hc⟩:=hx (n,k) List.mem_cons_self hk;subst hk;simp only [beq_self_eq_true,if_true,hc,Option.getD_some] at e;rw [List.lookup_cons] at e
   cases q:x == n with
   | true =>
    rw [q] at e;have q':x=n:=by simpa using q
    cases e
    rw [q'];exact hc
   | false=>rw [q] at e;exact h x c e
  ·have hb:(k == NameKind.free)=false:=by simpa using hk
   simp only [hb,Bool.false_eq_true,if_false] at e;exact h x c e
theorem ig {env:Env}:∀ (l:List (Str×NameKind)) (cs:List (Str×Addr)) (x:Str),(∃ c,cs.lookup x=some c)→∃ c,(cI env l cs).lookup x=some c
 | [],_,_,h=>h
 | (n,k) :: r,cs,x,h=>by
  refine ig r _ x ?_
  split
  ·rw [List.lookup_cons]
   cases q:x == n with
   | true=>exact ⟨_,rfl⟩
   | false=>exact h
  ·exact h
theorem eW {env:Env}:∀ (l:List (Str×NameKind)) (cs:List (Str×Addr)) (x:Str),l.lookup x=some .free→∃ c,(cI env l cs).lookup x=some c
 | [],_,_,h=>by simp at h
 | (n,k) :: r,cs,x,h=>by
  rw [List.lookup_cons] at h
  cases q:x == n with
  | true =>
   rw [q] at h
   cases h
   refine ig r _ x ?_;simp only [beq_self_eq_true,if_true];rw [List.lookup_cons,q];exact ⟨_,rfl⟩
  | false=>rw [q] at h;exact eW r _ x h
theorem dr {env:Env}:∀ {names:List (Str×NameKind)} {x:Str} {k':NameKind},
  (names.map fun (n,k)=>if (k == NameKind.free && env.scope.kind == .function && env.kindOf n == some .cell) then (n,NameKind.cell) else (n,k)).lookup x=some k' →
  ∃ k,names.lookup x=some k∧(k'=k∨(k=.free∧k'=.cell))
 | [],_,_,h=>by simp at h
 | (n,k) :: r,x,k',h=>by
  have ih:=@dr env r x k';rw [List.map_cons] at h
  by_cases hc:(k == NameKind.free && env.scope.kind == .function && env.kindOf n == some .cell)=true
  ·have h2:List.lookup x ((n,NameKind.cell) :: r.map fun (n,k)=>if (k == NameKind.free && env.scope.kind == .function && env.kindOf n == some .cell) then (n,NameKind.cell) else (n,k))=some k':=by
    simpa [hc] using h
   rw [List.lookup_cons] at h2;rw [List.lookup_cons]
   cases q:x == n with
   | true =>
    rw [q] at h2
    cases h2
    have hk:k=.free:=by
     simp only [Bool.and_eq_true] at hc
     simpa using hc.1.1
    exact ⟨k,rfl,.inr ⟨hk,rfl⟩⟩
   | false=>rw [q] at h2;exact ih h2
  ·have h2:List.lookup x ((n,k) :: r.map fun (n,k)=>if (k == NameKind.free && env.scope.kind == .function && env.kindOf n == some .cell) then (n,NameKind.cell) else (n,k))=some k':=by
    simpa [hc] using h
   rw [List.lookup_cons] at h2;rw [List.lookup_cons]
   cases q:x == n with
   | true=>rw [q] at h2;cases h2;exact ⟨_,rfl,.inl rfl⟩
   | false=>rw [q] at h2;exact ih h2
def ccx (X:Cx) (scope:Scope) (C:Addr) (N':List Str) (s₀:Shared) (H₀:Hp) (fp:List Addr):Cx :=
 { X with N:=N',s₀:=s₀,H₀:=H₀,env:=compEnvC scope (cI X.env scope.names []) C X.env,outer:=X.stack,stack:=X.stack,ex:=fp,fn:=fun _=>false,pn:=[],xe:=fun _ _=>False }
def cst (k:Nat) (ρ:List Nat) (σ:St):St:=List.replicate k none++ρ.map fun j=>(σ[j]?).join
structure CScope (X:Cx) (scope:Scope) (NL:List Str) (ρ:List Nat) (N':List Str):Prop where
 kind:scope.kind=.function
 nocell:∀ x∈scope.names,x.2≠.cell
 locs:∀ x∈scope.names,x.2=.local→scope.names.lookup x.1=some .local
 frees:∀ x∈scope.names,x.2=.free→X.env.kindOf x.1=some .cell∨X.env.kindOf x.1=some .free
 names:N'=NL++ρ.map fun j=>X.N.getD j ""
 outs:∀ j∈ρ,∃ x,X.N[j]?=some x∧scope.names.lookup x=some .free∧(X.env.scope.names.lookup x=some .cell∨X.env.scope.names.lookup x=some .free)
section
variable {X:Cx}
theorem tw {scope:Scope} {NL N':List Str} {ρ:List Nat} (S:CScope X scope NL ρ N') {pins:List (Addr×Obj)} {σ:St} {H:Hp} {s:Shared} {fp:List Addr} {C:Addr} (I:Inv X pins σ H s) (hf:∀ b∈fp,fH X pins H b)
  (hfo:∀ b∈fp,∃ o,s.heap.get? b=some o) (hC:s.heap.objs.size≤C):(ccx X scope C N' s H fp).Ok:=by
 have free_in:∀ x∈scope.names,x.2=.free→∃ c,X.env.cells.lookup x.1=some c:=fun x hx hk=>I.ok.has x.1 (S.frees x hx hk);have sub:=gR (env:=X.env) scope.names [] free_in (fun x c e=>by simp at e);refine ⟨I.ok.mod,S.kind,I.ok.glob,I.ok.blt,hC,?_,?_,?_,I.ok.hd,I.ok.frames,.inl rfl,?_,I.bs,?_,?_,?_,I.stack,I.stkFree⟩
 ·exact fun x y c e1 e2=>I.ok.inj x y c (sub x c e1) (sub y c e2)
 ·intro x hx;have hx':(relabel scope X.env).names.lookup x=some .cell∨(relabel scope X.env).names.lookup x=some .free:=hx;have look:∀ k',(relabel scope X.env).names.lookup x=some k'→(k'=.cell∨k'=.free)→scope.names.lookup x=some .free:=fun k' e hk=>by
   obtain ⟨k,e1,z⟩:=dr e;rcases z with z | ⟨z,_⟩
   ·subst z;rcases hk with z | z
    ·subst z;have hm:(x,NameKind.cell)∈scope.names:=mem_of_lookup e1;exact absurd rfl (S.nocell _ hm)
    ·subst z;exact e1
   ·subst z;exact e1
  rcases hx' with e | e
  ·exact eW scope.names [] x (look _ e (.inl rfl))
  ·exact eW scope.names [] x (look _ e (.inr rfl))
 ·intro x c e;exact absurd e (by show ¬ (false=true);decide)
 ·intro b hb;obtain ⟨f0,f1,f2,f3,f4,f5⟩:=hf b hb;refine ⟨?_,fun x c e=>f4 x c (sub x c e)⟩;obtain ⟨o,ho⟩:=hfo b hb;exact Nat.ne_of_lt (Nat.lt_of_lt_of_le (Heap.lt_size ho) hC)
 ·exact Nat.le_trans I.ok.bsz I.sz
 ·intro b o e hb;obtain ⟨f0,f1,f2,f3,f4,f5⟩:=hf b hb;rcases f3 with z | z
  ·exact I.ok.noex b o e z
  ·exact absurd (Nat.lt_of_lt_of_le (Heap.lt_size e) (Nat.le_trans I.ok.bsz z)) (Nat.lt_irrefl _)
 ·intro b hb z;obtain ⟨f0,f1,f2,f3,f4,f5⟩:=hf b hb;rcases List.mem_cons.mp (I.stkSub b z) with e | e
  ·exact f1 e
  ·exact f2 e
end
section
variable {X:Cx}
theorem Inv.comp {scope:Scope} {NL N':List Str} {ρ:List Nat} (S:CScope X scope NL ρ N') {pins:List (Addr×Obj)} {σ:St} {H:Hp} {s:Shared} {fp:List Addr} {C D:Addr} {h':Heap} {t':Nat} (I:Inv X pins σ H s) (hf:∀ b∈fp,fH X pins H b)
  (hfo:∀ b∈fp,∃ o,s.heap.get? b=some o) (hC:s.heap.objs.size≤C) (hD:s.heap.objs.size≤D) (hDC:D≠C) (k:∀ b u,s.heap.get? b=some u→h'.get? b=some u)
  (hd:h'.get? D=some { cls:=.type "list",data:=.seq #[] 0 }) (hn:h'.Ns C fun _=>none) :
  Inv (ccx X scope C N' s H fp) (X.pn++pins) (cst NL.length ρ σ) (upd H D (.lst [])) { s with heap:=h',toks:=t' }:=by
 have ok:=tw S I hf hfo hC;have free_in:∀ x∈scope.names,x.2=.free→∃ c,X.env.cells.lookup x.1=some c:=fun x hx hk=>I.ok.has x.1 (S.frees x hx hk);have sub:=gR (env:=X.env) scope.names [] free_in (fun x c e=>by simp at e);have fresh:∀ b,s.heap.objs.size≤b→H b=none:=fun b hb=>I.hok.fresh hb;have neD:∀ b o,s.heap.get? b=some o→b≠D:=fun b o e=>Nat.ne_of_lt (Nat.lt_of_lt_of_le (Heap.lt_size e) hD);have neH:∀ b u,H b=some u→b≠D:=fun b u e=>ae e (fresh D hD);refine ⟨ok,rfl,I.bare,⟨fun b o e _ _ _=>k b o e,fun b o e _ _ _=>⟨o.slots,k b o e⟩,fun b o e n _=>?_,fun b o e _=>⟨o,k b o e⟩,fun b xs e=>?_,fun b o u e=>?_,fun b ps e=>⟨#[],?_⟩⟩,⟨_,hn,?_⟩,?_,?_,?_,?_,?_,?_⟩
 ·show upd H D _ b=none;rw [af (neD b o e)];exact n
 ·show upd H D _ b=_;rw [af (neH b _ e)];exact e
 ·show upd H D _ b=_;rw [af (neH b _ e)];exact e
 ·show upd H D _ b=_;rw [af (neH b _ e)];have e':H b=some (.tbl ps):=e;rw [e'];simp
 ·-- the names around
  intro i x v e1 e2 hv;obtain ⟨m,hm,hl⟩:=I.loc;have eN:(NL++ρ.map fun j=>X.N.getD j "")[i]?=some x:=by
   have e1':N'[i]?=some x:=e1;rw [S.names] at e1';exact e1'
  have eσ:(List.replicate NL.length (none:Option V)++ρ.map fun j=>(σ[j]?).join)[i]?=some (some v):=e2
  by_cases hi:i < NL.length
  ·rw [List.getElem?_append_left (by simpa using hi)] at eσ;rw [List.getElem?_replicate] at eσ
   split at eσ <;> cases eσ
  ·have hi':NL.length≤i:=Nat.le_of_not_lt hi;rw [List.getElem?_append_right (by simpa using hi'),List.length_replicate,List.getElem?_map] at eσ;rw [List.getElem?_append_right hi',List.getElem?_map] at eN
   cases q:ρ[i - NL.length]? with
   | none=>rw [q] at eN;cases eN
   | some j =>
    rw [q] at eN eσ;obtain ⟨y,ey,f1,f2⟩:=S.outs j (List.mem_of_getElem? q);have exy:X.N.getD j "" = y:=by rw [List.getD_eq_getElem?_getD,ey];rfl
    have exx:X.N.getD j "" = x:=Option.some.inj eN;have xy:x=y:=exx.symm.trans exy;subst xy;have eσ':(σ[j]?).join=some v:=Option.some.inj eσ;have eσ2:σ[j]?=some (some v):=by
     cases z:σ[j]? with
     | none=>rw [z] at eσ';cases eσ'
     | some w=>rw [z] at eσ';exact congrArg some eσ'
    have vis:Vis X.env.scope x:=by
     rcases f2 with z | z
     ·exact .inr (.inl z)
     ·exact .inr (.inr z)
    obtain ⟨u,r,l⟩:=hl j x v ey eσ2 vis;refine ⟨u,r,?_⟩;obtain ⟨c,hc⟩:=eW (env:=X.env) scope.names [] x f1;rcases l with ⟨kl,_⟩ | ⟨_,c',hc',z⟩
    ·have kl':X.env.scope.names.lookup x=some .local:=kl;rcases f2 with z | z
     ·rw [z] at kl';cases kl'
     ·rw [z] at kl';cases kl'
    ·have e3:=sub x c hc;rw [hc'] at e3;obtain rfl:=Option.some.inj e3;obtain ⟨oc,hoc,hcd⟩:=z;have hv':(relabel scope X.env).names.lookup x=some .local∨(relabel scope X.env).names.lookup x=some .cell∨(relabel scope X.env).names.lookup x=some .free:=hv;refine .inr ⟨?_,c',hc,oc,k _ _ hoc,hcd⟩;rcases hv' with z | z | z
     ·obtain ⟨k0,e4,z2⟩:=dr z;rw [f1] at e4
      cases e4
      rcases z2 with z2 | ⟨_,z2⟩ <;> cases z2
     ·exact .inl z
     ·exact .inr z
 ·intro x c e;obtain ⟨v,oc,hoc,hcd⟩:=I.cell x c (sub x c e);exact ⟨v,oc,k _ _ hoc,hcd⟩
 ·show upd H D _ C=none;rw [af (Ne.symm hDC)];exact fresh C hC
 ·intro x c e;obtain ⟨v,oc,hoc,hcd⟩:=I.cell x c (sub x c e);rw [af (neD c oc hoc)];exact I.freeC x c (sub x c e)
 ·intro p hp;have hp':p∈X.pn++pins:=hp;obtain ⟨e,n,ne,nf,d⟩:=I.pin p hp';refine ⟨k _ _ e,?_,?_,?_,d⟩
  ·rw [af (neD p.1 p.2 e)];exact n
  ·exact Nat.ne_of_lt (Nat.lt_of_lt_of_le (Heap.lt_size e) hC)
  ·intro z;rcases List.mem_cons.mp (I.stkSub p.1 z) with q | q
   ·exact ne q
   ·exact nf q
 ·exact I.hok.laid k hD ⟨Nat.zero_le _,[],0,.nil,hd⟩
 ·show (List.replicate NL.length (none:Option V)++ρ.map fun j=>(σ[j]?).join).length=N'.length;rw [S.names];simp
theorem Inv.compEnd {scope:Scope} {N':List Str} {pins:List (Addr×Obj)} {σ σ':St} {H H':Hp} {s s':Shared} {fp:List Addr} {C:Addr} {h':Heap} {pins':List (Addr×Obj)} (I:Inv X pins σ H s) (hf:∀ b∈fp,fH X pins H b) (hC:s.heap.objs.size≤C)
  (J:Inv (ccx X scope C N' s H fp) pins' σ' H' s') (hs:Heap.SameBut C s'.heap h'):Inv X pins σ H' { s' with heap:=h' }:=by
 have hn:H' C=none:=J.free;have nC:∀ b o,s.heap.get? b=some o→b≠C:=fun b o e=>Nat.ne_of_lt (Nat.lt_of_lt_of_le (Heap.lt_size e) hC);have B:Un (frs X.stack) fp H H' s.heap s'.heap:=J.base;have U:Un (frs X.stack) fp H H' s.heap h':=⟨fun b o e n hb hx=>(hs.2 b (nC b o e)).trans (B.keep b o e n hb hx),fun b o e n hb hx=>by
   obtain ⟨sl,q⟩:=B.slot b o e n hb hx;exact ⟨sl,(hs.2 b (nC b o e)).trans q⟩,B.free,fun b o e hx=>by
   obtain ⟨o',q⟩:=B.there b o e hx;exact ⟨o',(hs.2 b (nC b o e)).trans q⟩,B.tups,B.frzs,B.tbls⟩
 have hok:HOk X.prog X.w H' h':=fun b u e=>by
  refine (J.hok b u e).stay (fun c v hc q=>(hs.2 c ?_).trans q) (fun _ q=>q) fun _ _ q=>q;rintro rfl;rcases hc with rfl | hc
  ·rw [hn] at e;cases e
  ·rw [hn] at hc;cases hc
 refine Inv.call' (s':={ s' with heap:=h' }) I J.os U hok J.bare fun b hb=>?_;obtain ⟨f0,f1,f2,f3,f4,f5⟩:=hf b hb;exact ⟨f3,f1,f4,f5⟩
def mf (k:Nat) (ρ:List Nat) (wi:TI) (g:TG) (tb:List V→Addr→St→Hp→(List V→St→Hp→Prop)→Prop):TE:=fun σ H Q =>
 wi σ H fun J H1=>∀ l,H1 l=none→∃ W:Nat→Nat→List V→St→Hp→Prop,(∃ m,W 0 m [] (cst k ρ σ) (upd H1 l (.lst []))) ∧
  ∀ i m ys σ' H',W i m ys σ' H'→(J.stop i H'∧Q (.ref l) H')∨(J.go i H'∧∀ x H'',J.yld i H' x H''→g x σ' H'' fun σ2 H2=>tb ys l σ2 H2 fun ys' σ3 H3=>∃ m',m' < m∧W (i+1) m' ys' σ3 H3)
def cEl (te:TE):List V→Addr→St→Hp→(List V→St→Hp→Prop)→Prop:=fun ys l σ H N=>te σ H fun y H1=>H1 l=some (.lst ys)∧ys.length < sizeLine∧N (ys++[y]) σ (upd H1 l (.lst (ys++[y])))
def cIf (tc:TT) (te:TE):List V→Addr→St→Hp→(List V→St→Hp→Prop)→Prop:=fun ys l σ H N=>tc σ H fun b H1=>if b=true then cEl te ys l σ H1 N else N ys σ H1
def PB (X:Cx) (body:Value→Sem Unit) (tb:List V→Addr→St→Hp→(List V→St→Hp→Prop)→Prop):Prop :=
 ∀ (pins:List (Addr×Obj)) (s:Shared) (σ:St) (H:Hp) (l:Addr) (ys:List V) (N:List V→St→Hp→Prop),Inv X pins σ H s→tb ys l σ H N →
  wpAny (model X.prog X.w) X.A (body (.ref l)) (fun _ s'=>∃ ys' σ' H',Inv X pins σ' H' s'∧N ys' σ' H') X.xe s
theorem q8 {elt:Expr} {te:TE} (he:PE X elt te):PB X (fun acc=>do let x ← eval elt X.env;let _ ← call (.builtin "list.append") [acc,x];pure ()) (cEl te):=by
 intro pins s σ H l ys N I h;refine wpAny_bind (thn (he pins s σ H _ I h) fun u s1 ⟨y,H1,I1,r1,q0,q1,q2⟩=>wpAny_bind ?_);refine thn (cX pins s1 σ H1 (.ref l) [y] (.ref l) [u] (fun v H'=>v=.non∧N (ys++[y]) σ H') I1 rfl (.cons r1 .nil) ⟨l,ys,y,rfl,rfl,q0,q1,rfl,q2⟩) fun _ s2 ⟨v,H2,I2,_,_,n2⟩=>wpAny_pure ⟨_,σ,H2,I2,n2⟩
theorem wS {c elt:Expr} {tc:TT} {te:TE} (hc:PT X c tc) (he:PE X elt te):PB X (fun acc=>do
  let b ← isTrue c X.env (eval c X.env)
  if b then (do let x ← eval elt X.env;let _ ← call (.builtin "list.append") [acc,x];pure ()) else pure ()) (cIf tc te):=by
 intro pins s σ H l ys N I h;refine wpAny_bind (thn (hc pins s σ H _ I h) fun b s1 ⟨H1,I1,q1⟩=>?_)
 cases b with
 | true=>exact q8 he pins s1 σ H1 l ys N I1 q1
 | false=>exact wpAny_pure ⟨ys,σ,H1,I1,q1⟩
theorem mh (elt target iter:Expr) (scope:Scope) (pos:Pos) (it acc:Value) (env:Env) :
  compTurn (.ListComp elt [⟨target,iter,[],0⟩] scope pos) 0 it acc env=(standAt iter.pos >>= fun _=>pyNext it >>= fun r=>match r with
   | none=>pure (.done .next)
   | some v=>letOwnedTupleGo target it v >>= fun _=>assign target env v >>= fun _ =>
    (do let x ← eval elt env;let _ ← call (.builtin "list.append") [acc,x];pure ():Sem Unit) >>= fun _=>again (.compLoop (.ListComp elt [⟨target,iter,[],0⟩] scope pos) 0 it acc env)):=by rfl
theorem re (elt target iter c:Expr) (scope:Scope) (pos:Pos) (it acc:Value) (env:Env) :
  compTurn (.ListComp elt [⟨target,iter,[c],0⟩] scope pos) 0 it acc env=(standAt iter.pos >>= fun _=>pyNext it >>= fun r=>match r with
   | none=>pure (.done .next)
   | some v=>letOwnedTupleGo target it v >>= fun _=>assign target env v >>= fun _ =>
    (do
     let b ← isTrue c env (eval c env)
     if b then (do let x ← eval elt env;let _ ← call (.builtin "list.append") [acc,x];pure ()) else pure ():Sem Unit) >>= fun _=>again (.compLoop (.ListComp elt [⟨target,iter,[c],0⟩] scope pos) 0 it acc env)):=by
 rw [compTurn_list]
 congr 1
 funext _
 congr 1
 funext r
 cases r with
 | none=>rfl
 | some v =>
  refine congrArg (letOwnedTupleGo target it v >>= ·) (funext fun _=>?_);refine congrArg (assign target env v >>= ·) (funext fun _=>?_);dsimp only;rw [List.forIn_cons];simp only [if_true,bind_assoc,pure_bind,List.forIn_nil];refine congrArg (PySem.isTrue c env (eval c env) >>= ·) (funext fun b=>?_)
  cases b
  ·simp
  ·simp
end
section
variable {X:Cx}
theorem rf {elt tgt iter:Expr} {ifs:List Expr} {scope:Scope} {pos:Pos} {NL N':List Str} {ρ:List Nat} {wi:TI} {g:TG} {tb:List V→Addr→St→Hp→(List V→St→Hp→Prop)→Prop} {body:Value→Env→Sem Unit}
  (hc:X.calm=true) (S:CScope X scope NL ρ N') (hi:PI X tgt iter wi)
  (hg:∀ C s₀ H₀ fp,PG (ccx X scope C N' s₀ H₀ fp) tgt g) (hb:∀ C s₀ H₀ fp,PB (ccx X scope C N' s₀ H₀ fp) (fun acc=>body acc (ccx X scope C N' s₀ H₀ fp).env) tb)
  (he:∀ (it acc:Value) (env:Env),compTurn (.ListComp elt [⟨tgt,iter,ifs,0⟩] scope pos) 0 it acc env=(standAt iter.pos >>= fun _=>pyNext it >>= fun r=>match r with
   | none=>pure (.done .next)
   | some v=>letOwnedTupleGo tgt it v >>= fun _=>assign tgt env v >>= fun _=>body acc env >>= fun _=>again (.compLoop (.ListComp elt [⟨tgt,iter,ifs,0⟩] scope pos) 0 it acc env)))
  (hs:∀ x,foldedSetIterable iter X.env x=pure x:=by intro _;rfl):PE X (.ListComp elt [⟨tgt,iter,ifs,0⟩] scope pos) (mf NL.length ρ wi g tb):=by
 intro pins s σ H Q I h;have free_in:∀ x∈scope.names,x.2=.free→∃ c,X.env.cells.lookup x.1=some c:=fun x hx hk=>I.ok.has x.1 (S.frees x hx hk);rw [eval_ListComp];refine wpAny_comprehension_free (use:=none) rfl hs (iI free_in) S.kind S.locs ?_;refine thn (hi pins s σ H _ I h) fun v s1 h1=>thn h1 fun itv s2 h2=>?_;obtain ⟨it,fp,tn,J,H2,e,I2,T,st2,f2,w⟩:=h2;subst e;refine wpAny_newObj_type (wpAny_newFunctionEnv S.nocell (by intro y hy;simp at hy) (fun h₁ hns₁ hsb₁=>?_) S.kind);dsimp only at hns₁ hsb₁ ⊢
 generalize hH2:s2.heap.push { cls:=.type "list",dict:=none,data:=.seq ([]:List Value).toArray }=h2' at hns₁ hsb₁ ⊢
 have hCs:h2'.objs.size=s2.heap.objs.size+1:=by rw [← hH2,Heap.size_push]
 have hDC:s2.heap.objs.size≠h2'.objs.size:=by rw [hCs];exact Nat.ne_of_lt (Nat.lt_succ_self _)
 have hC:s2.heap.objs.size≤h2'.objs.size:=by rw [hCs];exact Nat.le_succ _
 have old:∀ b o,s2.heap.get? b=some o→h₁.get? b=some o:=fun b o e=>hsb₁.extBut b o (Nat.ne_of_lt (Nat.lt_of_lt_of_le (Heap.lt_size e) hC)) (Heap.get?_push_of_some _ (hH2 ▸ Heap.get?_push_of_some _ e));have hd:h₁.get? s2.heap.objs.size=some { cls:=.type "list",data:=.seq #[] 0 }:=hsb₁.extBut _ _ hDC (Heap.get?_push_of_some _ (hH2 ▸ Heap.get?_push_size _ rfl));have hfo:∀ b∈fp,∃ o,s2.heap.get? b=some o:=fun b hb=>let ⟨o,e,_⟩:=T.obj _ _ st2 b hb;⟨o,e⟩;have I4:Inv (ccx X scope h2'.objs.size N' s2 H2 fp) (X.pn++pins) (cst NL.length ρ σ) (upd H2 s2.heap.objs.size (.lst [])) { s2 with heap:=h₁,toks:=s2.toks+([]:List (Str×Value)).length } :=
  Inv.comp S I2 f2 hfo hC (Nat.le_refl _) hDC old hd (by simpa using hns₁)
 have hD0:H2 s2.heap.objs.size=none:=I2.hok.fresh (Nat.le_refl _);have nfp:s2.heap.objs.size∉fp:=fun z=>by
  obtain ⟨o,e⟩:=hfo _ z;exact absurd (Heap.lt_size e) (Nat.lt_irrefl _)
 obtain ⟨W,⟨m0,w0⟩,turn⟩:=w s2.heap.objs.size hD0;have stat:∀ {H':Hp},(∀ b∈fp,H' b=none)→∀ b∈fp,fH (ccx X scope h2'.objs.size N' s2 H2 fp) (X.pn++pins) H' b:=fun {H'} hn b hb=>by
  obtain ⟨f0,f1,f2',f3,f4,f5⟩:=f2 b hb;have ok:=I4.ok;refine ⟨hn b hb,(ok.exf b hb).1,ok.exfs b hb,.inl hb,(ok.exf b hb).2,fun p hp=>f5 p hp⟩
 have loop:∀ s₃:Shared,s₃={ s2 with heap:=h₁,toks:=s2.toks+([]:List (Str×Value)).length } →
   codeAny (model X.prog X.w) X.A (.compLoop (.ListComp elt [⟨tgt,iter,ifs,0⟩] scope pos) 0 (.ref it) (.ref s2.heap.objs.size) (compEnvC scope (cI X.env scope.names []) h2'.objs.size X.env))
    (compPost (model X.prog X.w) X.A X.xe none (EP X pins σ Q) (.ref s2.heap.objs.size) h2'.objs.size) s₃:=by
  rintro s₃ rfl;refine codeAny_loop rfl (fun n s'=>∃ i ys σ' H',Inv (ccx X scope h2'.objs.size N' s2 H2 fp) (X.pn++pins) σ' H' s'∧tn i s'.heap∧(∀ b∈fp,H' b=none)∧W i n ys σ' H') (fun n s3 hI=>?_) m0
   ⟨0,[],_,_,I4,T.keep _ _ _ st2 (fun b _ o e=>old b o e),fun b hb=>?_,w0⟩
  ·obtain ⟨i,ys,σ3,H3,I3,st3,fr3,w3⟩:=hI;show wpAny _ _ ((compTurn (.ListComp elt [⟨tgt,iter,ifs,0⟩] scope pos) 0 (.ref it) (.ref s2.heap.objs.size) (compEnvC scope (cI X.env scope.names []) h2'.objs.size X.env)).onRaise (fun x=>do noteFrame x _;theTreesLotGoes x)) _ _ s3;refine wpAny_noted ?_;rw [he];refine wpAny_bind (wpAny_standAt (wpAny_bind ?_));rcases turn i n ys σ3 H3 w3 with ⟨stop,qn⟩ | ⟨go,step⟩
   ·refine thn (T.done (ccx X scope h2'.objs.size N' s2 H2 fp) rfl rfl rfl hc i _ s3 σ3 H3 _ I3 (stat fr3) st3 stop) fun r s4 ⟨hr,I5⟩=>?_;subst hr;refine wpAny_pure ?_;obtain ⟨m,hm,_⟩:=id I5.loc;exact ⟨m,hm,fun h' hs'=>⟨.ref s2.heap.objs.size,H3,Inv.compEnd I2 f2 hC I5 hs',rfl,qn⟩⟩
   ·refine thn (T.item (ccx X scope h2'.objs.size N' s2 H2 fp) rfl rfl rfl hc i _ s3 σ3 H3 _ I3 (stat fr3) st3 go) fun r s4 ⟨u,hr,h4⟩=>?_;subst hr;refine wpAny_bind (thn h4 fun _ s5 ⟨x,H5,I5,r5,y5,st5,fr5⟩=>?_);have I5':=I5.pinned (stat fr5) (T.obj _ _ st5);refine wpAny_bind (wpAny_mono (hg h2'.objs.size s2 H2 fp _ s5 σ3 H5 x u _ I5' r5 (step x H5 y5)) (fun _ s6 ⟨σ6,H6,I6,q6⟩=>?_) fun _ _ z=>z.elim);refine wpAny_bind (wpAny_mono (hb h2'.objs.size s2 H2 fp _ s6 σ6 H6 s2.heap.objs.size ys _ I6 q6) (fun _ s7 ⟨ys7,σ7,H7,I7,m',hm,w7⟩=>?_) fun _ _ z=>z.elim);refine wpAny_pure ⟨rfl,m',hm,i+1,ys7,σ7,H7,I7.unpinned,T.keep _ _ _ st5 fun b hb o e=>(I7.pin (b,o) (List.mem_append_right _ (List.mem_append_right _ (bR hb e)))).1,fun b hb=>?_,w7⟩;obtain ⟨o,e,d⟩:=T.obj _ _ st5 b hb;exact (I7.pin (b,o) (List.mem_append_right _ (List.mem_append_right _ (bR hb e)))).2.1
  ·rw [af (show b≠s2.heap.objs.size from fun z=>nfp (by rw [← z];exact hb))];exact (f2 b hb).1
 refine codeAny_compStart_list (loop _ rfl) (T.self _ 0 _ _ _ ?_ (loop _ rfl));exact T.keep _ _ _ st2 fun b _ o e=>old b o e
theorem aZ {elt tgt iter:Expr} {scope:Scope} {pos:Pos} {NL N':List Str} {ρ:List Nat} {wi:TI} {g:TG} {te:TE} (hc:X.calm=true) (S:CScope X scope NL ρ N') (hi:PI X tgt iter wi)
  (hg:∀ C s₀ H₀ fp,PG (ccx X scope C N' s₀ H₀ fp) tgt g) (he:∀ C s₀ H₀ fp,PE (ccx X scope C N' s₀ H₀ fp) elt te)
  (hs:∀ x,foldedSetIterable iter X.env x=pure x:=by intro _;rfl):PE X (.ListComp elt [⟨tgt,iter,[],0⟩] scope pos) (mf NL.length ρ wi g (cEl te)) :=
 rf (body:=fun acc env=>do let x ← eval elt env;let _ ← call (.builtin "list.append") [acc,x];pure ()) hc S hi hg (fun C s₀ H₀ fp=>q8 (he C s₀ H₀ fp)) (fun it acc env=>mh elt tgt iter scope pos it acc env) hs
end
section
variable {X:Cx}
inductive IsiB (K:PySem.W.Frag) (H:Hp):V→String→Bool→Prop
 | int_int {i}:IsiB K H (.int i) "int" true
 | int_str {i}:IsiB K H (.int i) "str" false
 | int_bool {i}:IsiB K H (.int i) "bool" false
 | int_tuple {i}:IsiB K H (.int i) "tuple" false
 | int_list {i}:IsiB K H (.int i) "list" false
 | str_int {x}:IsiB K H (.str x) "int" false
 | str_str {x}:IsiB K H (.str x) "str" true
 | str_bool {x}:IsiB K H (.str x) "bool" false
 | str_tuple {x}:IsiB K H (.str x) "tuple" false
 | str_list {x}:IsiB K H (.str x) "list" false
 | bl_int {b}:IsiB K H (.bl b) "int" true
 | bl_bool {b}:IsiB K H (.bl b) "bool" true
 | bl_str {b}:IsiB K H (.bl b) "str" false
 | bl_tuple {b}:IsiB K H (.bl b) "tuple" false
 | tup_int {a xs}:SqT K H a xs→IsiB K H (.ref a) "int" false
 | tup_str {a xs}:SqT K H a xs→IsiB K H (.ref a) "str" false
 | tup_bool {a xs}:SqT K H a xs→IsiB K H (.ref a) "bool" false
 | tup_tuple {a xs}:SqT K H a xs→IsiB K H (.ref a) "tuple" true
 | tup_list {a xs}:SqT K H a xs→IsiB K H (.ref a) "list" false
 | lst_int {a xs}:SqL K H a xs→IsiB K H (.ref a) "int" false
 | lst_str {a xs}:SqL K H a xs→IsiB K H (.ref a) "str" false
 | lst_tuple {a xs}:SqL K H a xs→IsiB K H (.ref a) "tuple" false
 | lst_list {a xs}:SqL K H a xs→IsiB K H (.ref a) "list" true
theorem dA (a b:String) (h:isSubtype (.type a) (.type b)=pure false:=by rw [isSubtype_type];kernel_rfl):isSubtype (.type a) (.type b)=pure false:=h
theorem qg (a b:String) (h:isSubtype (.type a) (.type b)=pure true:=by rw [isSubtype_type];kernel_rfl):isSubtype (.type a) (.type b)=pure true:=h
theorem qh:isSubtype (.type "int") (.type "str")=pure false:=dA _ _
theorem nR:isSubtype (.type "int") (.type "bool")=pure false:=dA _ _
theorem ml:isSubtype (.type "int") (.type "tuple")=pure false:=dA _ _
theorem nU:isSubtype (.type "int") (.type "list")=pure false:=dA _ _
theorem qi:isSubtype (.type "str") (.type "int")=pure false:=dA _ _
theorem nV:isSubtype (.type "str") (.type "bool")=pure false:=dA _ _
theorem mm:isSubtype (.type "str") (.type "tuple")=pure false:=dA _ _
theorem nW:isSubtype (.type "str") (.type "list")=pure false:=dA _ _
theorem nX:isSubtype (.type "bool") (.type "str")=pure false:=dA _ _
theorem kb:isSubtype (.type "bool") (.type "tuple")=pure false:=dA _ _
theorem mn:isSubtype (.type "tuple") (.type "int")=pure false:=dA _ _
theorem mo:isSubtype (.type "tuple") (.type "str")=pure false:=dA _ _
theorem kc:isSubtype (.type "tuple") (.type "bool")=pure false:=dA _ _
theorem ke:isSubtype (.type "tuple") (.type "list")=pure false:=dA _ _
theorem nY:isSubtype (.type "list") (.type "int")=pure false:=dA _ _
theorem nZ:isSubtype (.type "list") (.type "str")=pure false:=dA _ _
theorem kf:isSubtype (.type "list") (.type "tuple")=pure false:=dA _ _
theorem wT:isSubtype (.type "int") (.type "int")=pure true:=qg _ _
theorem wU:isSubtype (.type "str") (.type "str")=pure true:=qg _ _
theorem vq:isSubtype (.type "bool") (.type "bool")=pure true:=qg _ _
theorem n5:isSubtype (.type "bool") (.type "int")=pure true:=qg _ _
theorem tz:isSubtype (.type "tuple") (.type "tuple")=pure true:=qg _ _
theorem vx:isSubtype (.type "list") (.type "list")=pure true:=qg _ _
theorem mq:typeOf (.type "int")=pure (.type "type"):=by kernel_rfl
theorem mr:typeOf (.type "str")=pure (.type "type"):=by kernel_rfl
theorem kg:typeOf (.type "bool")=pure (.type "type"):=by kernel_rfl
theorem gp:typeOf (.type "tuple")=pure (.type "type"):=by kernel_rfl
theorem kh:typeOf (.type "list")=pure (.type "type"):=by kernel_rfl
theorem rg:CallR X (.builtin "isinstance") (fun xs H Q=>∃ x T b,xs=[x,.ty T]∧IsiB X.K H x T b∧Q (.bl b) H):=by
 intro pins s σ H xs us Q I r h;obtain ⟨x,T,b,rfl,hb,q⟩:=h;obtain ⟨u,w',rfl,rx,rT⟩:=uG r
 cases rT
 have fin:∀ t,EP X pins σ Q (.bool b) { s with toks:=t }:=fun t=>⟨.bl b,H,I.tok t,rfl,q⟩;have fin0:EP X pins σ Q (.bool b) s:=⟨.bl b,H,I,rfl,q⟩;have tup:∀ {a xs},SqT X.K H a xs→∃ o,s.heap.get? a=some o∧o.cls=.type "tuple" :=fun hq=>by
  obtain ⟨its,_,p,_⟩:=I.tuple hq;obtain ⟨o,e,c,_⟩:=p;exact ⟨o,e,c⟩
 have lst:∀ {a xs},SqL X.K H a xs→∃ o,s.heap.get? a=some o∧o.cls=.type "list" :=fun hq=>by
  obtain ⟨its,_,p,_⟩:=I.list hq;obtain ⟨o,e,c,_⟩:=p.isList;exact ⟨o,e,c⟩
 cases hb with
 | int_int=>obtain ⟨t,rfl⟩:=rx;exact call_isinstance (isinstance_true (Tx:= "int") mq wT) ⟨rfl,fin0⟩
 | int_str=>obtain ⟨t,rfl⟩:=rx;exact call_isinstance (isinstance_false_int (by decide) mr qh) (fin _)
 | int_bool=>obtain ⟨t,rfl⟩:=rx;exact call_isinstance (isinstance_false_int (by decide) kg nR) (fin _)
 | int_tuple=>obtain ⟨t,rfl⟩:=rx;exact call_isinstance (isinstance_false_int (by decide) gp ml) (fin _)
 | int_list=>obtain ⟨t,rfl⟩:=rx;exact call_isinstance (isinstance_false_int (by decide) kh nU) (fin _)
 | str_int=>obtain ⟨t,rfl⟩:=rx;exact call_isinstance (isinstance_false_str (by decide) mq qi) (fin _)
 | str_str=>obtain ⟨t,rfl⟩:=rx;exact call_isinstance (isinstance_true (Tx:= "str") mr wU) ⟨rfl,fin0⟩
 | str_bool=>obtain ⟨t,rfl⟩:=rx;exact call_isinstance (isinstance_false_str (by decide) kg nV) (fin _)
 | str_tuple=>obtain ⟨t,rfl⟩:=rx;exact call_isinstance (isinstance_false_str (by decide) gp mm) (fin _)
 | str_list=>obtain ⟨t,rfl⟩:=rx;exact call_isinstance (isinstance_false_str (by decide) kh nW) (fin _)
 | bl_int=>cases rx;exact call_isinstance (isinstance_true (Tx:= "bool") mq n5) ⟨rfl,fin0⟩
 | bl_bool=>cases rx;exact call_isinstance (isinstance_true (Tx:= "bool") kg vq) ⟨rfl,fin0⟩
 | bl_str=>cases rx;exact call_isinstance (isinstance_false_bool (by decide) mr nX) (fin _)
 | bl_tuple=>cases rx;exact call_isinstance (isinstance_false_bool (by decide) gp kb) (fin _)
 | tup_int hq=>cases rx;exact call_isinstance (isinstance_false_tuple (by decide) mq mn) ⟨tup hq,fin _⟩
 | tup_str hq=>cases rx;exact call_isinstance (isinstance_false_tuple (by decide) mr mo) ⟨tup hq,fin _⟩
 | tup_bool hq=>cases rx;exact call_isinstance (isinstance_false_tuple (by decide) kg kc) ⟨tup hq,fin _⟩
 | tup_tuple hq=>cases rx;exact call_isinstance (isinstance_true (Tx:= "tuple") gp tz) ⟨tup hq,fin0⟩
 | tup_list hq=>cases rx;exact call_isinstance (isinstance_false_tuple (by decide) kh ke) ⟨tup hq,fin _⟩
 | lst_int hq=>cases rx;exact call_isinstance (isinstance_false_list (by decide) mq nY) ⟨lst hq,fin _⟩
 | lst_str hq=>cases rx;exact call_isinstance (isinstance_false_list (by decide) mr nZ) ⟨lst hq,fin _⟩
 | lst_tuple hq=>cases rx;exact call_isinstance (isinstance_false_list (by decide) gp kf) ⟨lst hq,fin _⟩
 | lst_list hq=>cases rx;exact call_isinstance (isinstance_true (Tx:= "list") kh vx) ⟨lst hq,fin0⟩
def Its (z:Str):It:=⟨fun i _=>i < z.cps.size,fun i H x H'=>H'=H∧∃ c,z.cps[i]?=some c∧x=.str ⟨#[c]⟩,fun i _=>i=z.cps.size⟩
def x8 (te:TE):TI:=fun σ H R=>te σ H fun x H1=>∃ z,x=.str z∧R (Its z) H1
theorem mt {P:Program} {w:World} {K:PySem.W.Frag} {tg:Expr} (T:String) (it:Addr) (z:Str) (t:Tok)
  (W:∀ A:Around,A.handled=none→Walks P w A it [it] [it] z.cps.size (SignAt z) (fun i h=>h.IsStrIter it T z t i))
  (hT:["enumerate","zip","dict_itemiterator","dict_reverseitemiterator","odict_iterator","itertools.zip_longest","itertools.pairwise"].contains T=false)
  (hs:∀ (A:Around) (i:Nat) (s:Shared) (Q:Value→Shared→Prop) (E:Value→Shared→Prop),s.heap.IsStrIter it T z t i→Q (.ref it) s→wpAny (model P w) A (pyIter (.ref it)) Q E s) :
  Turn P w K tg (Its z) [it] it (fun i h=>h.IsStrIter it T z t i) where
 mem:=by simp
 obj:=fun i h st b hb=>by
  have e:b=it:=by simpa using hb
  subst e;obtain ⟨o,e,c,d⟩:=st;exact ⟨o,e,fun v z=>by rw [d] at z;cases z⟩
 keep:=fun i h h' st k=>by
  obtain ⟨o,e,c,d⟩:=st;exact ⟨o,k it (by simp) o e,c,d⟩
 item:=by
  intro X hP hw hK hc i pins s σ H E I hf st hg;subst hP hw hK;obtain ⟨f0,f1,f2,f3,f4,f5⟩:=hf it (by simp);refine (W X.A (I.ok.hd hc)).item i s _ _ hg st fun v h' tk hv st' kk=>?_;obtain ⟨c,u,hcz,rfl⟩:=hv;have I1:Inv X pins σ H { s with heap:=h',toks:=tk }:=I.turned (fun b o hb e=>kk b o (by simpa using hb) e) f0 f1 f3 f4 f5;obtain ⟨o,e,cl,d⟩:=id st';exact ⟨_,rfl,l6 (s:={ s with heap:=h',toks:=tk }) e cl d hT ⟨.str ⟨#[c]⟩,H,I1,⟨u,rfl⟩,⟨rfl,c,hcz,rfl⟩,st',fun b hb=>(hf b hb).1⟩⟩
 done:=by
  intro X hP hw hK hc i pins s σ H E I hf st hg;subst hP hw hK;obtain ⟨f0,f1,f2,f3,f4,f5⟩:=hf it (by simp);have hi:i=z.cps.size:=hg;subst hi;exact (W X.A (I.ok.hd hc)).done s _ _ st fun h' tk kk=>⟨rfl,I.turned (fun b o hb e=>kk b o (by simpa using hb) e) f0 f1 f3 f4 f5⟩
 self:=hs
theorem vy {tg l:Expr} {tl:TE} (hl:PE X l tl):PI X tg l (x8 tl):=by
 intro pins s σ H R I h;refine thn (hl pins s σ H _ I h) fun v s1 ⟨x,H1,I1,r1,q1⟩=>?_;obtain ⟨z,rfl,q⟩:=q1;obtain ⟨t,rfl⟩:=r1;have fp:∀ (o:Obj),∀ b∈[s1.heap.objs.size],fH X pins H1 b:=fun o b hb=>by
  have e:b=s1.heap.objs.size:=by simpa using hb
  subst e;exact I1.fpOk (Nat.le_refl _) (I1.hok.fresh (Nat.le_refl _))
 cases ha:z.cps.all (· < 128)
 ·refine wpAny_pyIter_wide ha ?_;exact ⟨s1.heap.objs.size,[s1.heap.objs.size],_,_,H1,rfl,I1.kept (t':=s1.toks) fun b o e=>Heap.get?_push_of_some _ e,
   mt "str_iterator" _ z t (fun A hA=>Walks.strWide hA _ z t) (by decide) (fun _ _ _ _ _ st h=>wpAny_pyIter_striter_wide st h),⟨_,Heap.get?_push_size _ rfl,rfl,rfl⟩,fp default,q⟩
 ·refine wpAny_pyIter_ascii ha ?_;exact ⟨s1.heap.objs.size,[s1.heap.objs.size],_,_,H1,rfl,I1.kept (t':=s1.toks) fun b o e=>Heap.get?_push_of_some _ e,
   mt "str_ascii_iterator" _ z t (fun A hA=>Walks.strAscii hA _ z t) (by decide) (fun _ _ _ _ _ st h=>wpAny_pyIter_striter_ascii st h),⟨_,Heap.get?_push_size _ rfl,rfl,rfl⟩,fp default,q⟩
def bls:List Bool→List V:=List.map V.bl
theorem rh:CallR X (.builtin "all") (fun xs H Q=>∃ p ys,xs=[.ref p]∧X.calm=true∧SqL X.K H p (bls ys)∧Q (.bl (ys.all id)) H):=by
 intro pins s σ H xs us Q I r h;obtain ⟨p,ys,rfl,hcm,hq,q⟩:=h;obtain ⟨u,rfl,rx⟩:=dU r
 cases rx
 obtain ⟨its,r',pl,hz⟩:=I.list hq;have hh:X.A.in1.handled=none:=I.ok.hd hcm;have hne:p≠s.heap.objs.size:=by
  obtain ⟨o,e,_⟩:=pl.isList;exact Nat.ne_of_lt (Heap.lt_size e)
 have hlen:its.length=ys.length:=by rw [← r'.length];simp [bls]
 refine call_all_walk (wpAny_pyIter_list pl.isList ⟨s.heap.objs.size,_,_,_,_,_,fun i=>ys.getD i true,rfl,Walks.list hh _ p hne its.toArray,⟨⟨_,Heap.get?_push_size _ rfl,rfl,rfl⟩,pl.isList.at fun o e=>Heap.get?_push_of_some _ e⟩,?_,?_⟩)
 ·intro i v s' Q' E' hv hQ;have hv':its[i]?=some v:=by simpa using hv
  have hi:i < ys.length:=by
   rw [← hlen];exact (List.getElem?_eq_some_iff.mp hv').1
  have e1:(bls ys)[i]?=some (V.bl ys[i]):=by simp [bls,hi]
  obtain ⟨u,hu,ru⟩:=r'.get e1;rw [hv'] at hu;obtain rfl:=Option.some.inj hu
  cases ru
  refine wpAny_truthy_bool ?_;have e2:ys.getD i true=ys[i]:=by simp [List.getD_eq_getElem?_getD,hi]
  have hQ':Q' (ys.getD i true) s':=hQ;rw [e2] at hQ';exact hQ'
 ·intro h' tk kk;have e3:(List.range its.toArray.size).all (fun i=>ys.getD i true)=ys.all id:=by
   rw [List.size_toArray,hlen];rw [Bool.eq_iff_iff,List.all_eq_true,List.all_eq_true]
   constructor
   ·intro g x hx;obtain ⟨i,hi,rfl⟩:=List.mem_iff_getElem.mp hx;have:=g i (List.mem_range.mpr hi)
    simpa [List.getD_eq_getElem?_getD,hi] using this
   ·intro g i hi;have hi':=List.mem_range.mp hi;have:=g ys[i] (List.getElem_mem hi')
    simpa [List.getD_eq_getElem?_getD,hi'] using this
  rw [e3];refine ⟨.bl _,H,?_,rfl,q⟩;have I1:Inv X pins σ H { s with heap:=s.heap.push { cls:=.type "list_iterator",data:=.fields #[.ref p,.int 0 0] } }:=I.kept (t':=s.toks) fun b o e=>Heap.get?_push_of_some _ e;exact I.kept (t':=tk) fun b o e=>kk b o (by
   intro z;have z':b=s.heap.objs.size:=by simpa using z
   exact absurd (Heap.lt_size e) (by rw [z'];exact Nat.lt_irrefl _)) (Heap.get?_push_of_some _ e)
end
section
variable {X:Cx}
theorem ii (ns:List Int):∀ n,n≤ns.length→preSum (fun i=>ns.getD i 0) n=(ns.take n).sum
 | 0,_=>by simp [preSum]
 | n+1,h=>by
  have hn:n < ns.length:=h;rw [preSum,ii ns n (Nat.le_of_lt hn),List.take_add_one,List.sum_append];simp [List.getD_eq_getElem?_getD,hn]
theorem rj:CallR X (.builtin "sum") (fun xs H Q=>∃ (p:Addr) (ns:List Int),xs=[.ref p]∧X.calm=true∧SqL X.K H p (ns.map V.int)∧Q (.int ns.sum) H):=by
 intro pins s σ H xs us Q I r h;obtain ⟨p,ns,rfl,hcm,hq,q⟩:=h;obtain ⟨u,rfl,rx⟩:=dU r
 cases rx
 obtain ⟨its,r',pl,hz⟩:=I.list hq;have hh:X.A.in1.handled=none:=I.ok.hd hcm;have hlt:p < s.heap.objs.size:=by
  obtain ⟨o,e,_⟩:=pl.isList;exact Heap.lt_size e
 have hne:p≠s.heap.objs.size:=Nat.ne_of_lt hlt;have hlen:its.length=ns.length:=by rw [← r'.length];simp
 refine call_sum_walkG (wpAny_pyIter_list pl.isList ⟨s.heap.objs.size,_,_,_,_,_,fun i=>ns.getD i 0,rfl,Walks.list hh _ p hne its.toArray,⟨⟨_,Heap.get?_push_size _ rfl,rfl,rfl⟩,pl.isList.at fun o e=>Heap.get?_push_of_some _ e⟩,?_,?_,?_⟩)
 ·intro b hb;have hb':b=s.heap.objs.size∨b=p:=by simpa using hb
  show b < (s.heap.push _).objs.size;rw [Heap.size_push];rcases hb' with e | e
  ·exact e ▸ Nat.lt_succ_self _
  ·exact Nat.lt_succ_of_lt (e ▸ hlt)
 ·intro i v hv;have hv':its[i]?=some v:=by simpa using hv
  have hi:i < ns.length:=by
   rw [← hlen];exact (List.getElem?_eq_some_iff.mp hv').1
  have e1:(ns.map V.int)[i]?=some (V.int ns[i]):=by simp [hi]
  obtain ⟨u,hu,ru⟩:=r'.get e1;rw [hv'] at hu;obtain rfl:=Option.some.inj hu;obtain ⟨t,rfl⟩:=ru;exact ⟨t,by simp [List.getD_eq_getElem?_getD,hi]⟩
 ·intro h' tk t' kk;have e3:preSum (fun i=>ns.getD i 0) its.toArray.size=ns.sum:=by
   rw [List.size_toArray,hlen,ii ns _ (Nat.le_refl _),List.take_length]
  rw [e3];refine ⟨.int _,H,?_,⟨_,rfl⟩,q⟩;exact I.kept (t':=tk) fun b o e=>kk b o (by
   intro z;have z':b=s.heap.objs.size:=by simpa using z
   exact absurd (Heap.lt_size e) (by rw [z'];exact Nat.lt_irrefl _)) (Heap.get?_push_of_some _ e)
end
theorem ab {H:Hp} {p:Addr} (h:H p=none) (o:HO):Same H (upd H p o):=fun b u q=>by rw [af (ae q h)];exact q
def But (r:Addr) (H H':Hp):Prop:=∀ b o,b≠r→H b=some o→H' b=some o
theorem But.refl (r:Addr) (H:Hp):But r H H:=fun _ _ _ h=>h
theorem But.trans {r:Addr} {H H1 H2:Hp} (a:But r H H1) (b:But r H1 H2):But r H H2:=fun c o n h=>b c o n (a c o n h)
theorem But.same {r:Addr} {H H1:Hp} (a:Same H H1):But r H H1:=fun c o _ h=>a c o h
theorem But.put {r:Addr} {H:Hp} {o:HO}:But r H (upd H r o):=fun c u n h=>by rw [af n];exact h
theorem But.tup {K:PySem.W.Frag} {r:Addr} {H H':Hp} {a:Addr} {xs:List V} (e:But r H H') (n:a≠r) (h:SqT K H a xs):SqT K H' a xs:=by
 rcases h with (h | ⟨o,h⟩) | h
 ·exact .inl (.inl (e _ _ n h))
 ·exact .inl (.inr ⟨o,e _ _ n h⟩)
 ·exact .inr h
theorem Same.tup {K:PySem.W.Frag} {H H':Hp} {a:Addr} {xs:List V} (e:Same H H') (h:SqT K H a xs):SqT K H' a xs:=by
 rcases h with (h | ⟨o,h⟩) | h
 ·exact .inl (.inl (e _ _ h))
 ·exact .inl (.inr ⟨o,e _ _ h⟩)
 ·exact .inr h
theorem cs0 {X:Cx} {scope:Scope} {NL:List Str} (h1:scope.kind=.function) (h2:(scope.names.all fun x=>x.2 != .cell && x.2 != .free)=true)
  (h3:∀ x∈scope.names,x.2=.local→scope.names.lookup x.1=some .local):CScope X scope NL [] NL:=by
 rw [List.all_eq_true] at h2;refine ⟨h1,fun x hx e=>?_,h3,fun x hx e=>?_,by simp,fun j hj=>by simp at hj⟩
 ·have:=h2 x hx;rw [e] at this;exact absurd this (by decide)
 ·have:=h2 x hx;rw [e] at this;exact absurd this (by decide)
theorem rl {z:Str} {l:Addr} {g:TG} {tb:List V→Addr→St→Hp→(List V→St→Hp→Prop)→Prop} {Q:VK} {σ0:St} {H0:Hp} (Pv:Nat→List V→St→Hp→Prop) (h0:Pv 0 [] σ0 H0)
  (hs:∀ i c ys σ H (N:List V→St→Hp→Prop),z.cps[i]?=some c→Pv i ys σ H→(∀ ys' σ' H',Pv (i+1) ys' σ' H'→N ys' σ' H')→g (.str ⟨#[c]⟩) σ H fun σ2 H2=>tb ys l σ2 H2 N)
  (hd:∀ ys σ H,Pv z.cps.size ys σ H→Q (.ref l) H) :
  ∃ W:Nat→Nat→List V→St→Hp→Prop,(∃ m,W 0 m [] σ0 H0)∧∀ i m ys σ' H',W i m ys σ' H'→((Its z).stop i H'∧Q (.ref l) H') ∨
   ((Its z).go i H'∧∀ x H'',(Its z).yld i H' x H''→g x σ' H'' fun σ2 H2=>tb ys l σ2 H2 fun ys' σ3 H3=>∃ m',m' < m∧W (i+1) m' ys' σ3 H3):=by
 refine ⟨fun i m ys σ H=>m=z.cps.size - i∧i≤z.cps.size∧Pv i ys σ H,⟨z.cps.size,by simp,Nat.zero_le _,h0⟩,?_⟩;rintro i m ys σ H ⟨rfl,hi,p⟩
 by_cases hlt:i < z.cps.size
 ·refine .inr ⟨hlt,fun x H' y=>?_⟩;obtain ⟨e,c,hc,rfl⟩:=y;subst e;exact hs i c ys σ _ _ hc p fun ys' σ' H' q=>⟨_,by lia,rfl,hlt,q⟩
 ·have e:i=z.cps.size:=by lia
  subst e;exact .inl ⟨rfl,hd ys σ H p⟩
theorem n6 {lo:Int} {n:Nat} {l:Addr} {g:TG} {tb:List V→Addr→St→Hp→(List V→St→Hp→Prop)→Prop} {Q:VK} {σ0:St} {H0:Hp} (Pv:Nat→List V→St→Hp→Prop) (h0:Pv 0 [] σ0 H0)
  (hs:∀ i ys σ H (N:List V→St→Hp→Prop),i < n→Pv i ys σ H→(∀ ys' σ' H',Pv (i+1) ys' σ' H'→N ys' σ' H')→g (.int (lo+i)) σ H fun σ2 H2=>tb ys l σ2 H2 N)
  (hd:∀ ys σ H,Pv n ys σ H→Q (.ref l) H) :
  ∃ W:Nat→Nat→List V→St→Hp→Prop,(∃ m,W 0 m [] σ0 H0)∧∀ i m ys σ' H',W i m ys σ' H'→((Itr lo n).stop i H'∧Q (.ref l) H') ∨
   ((Itr lo n).go i H'∧∀ x H'',(Itr lo n).yld i H' x H''→g x σ' H'' fun σ2 H2=>tb ys l σ2 H2 fun ys' σ3 H3=>∃ m',m' < m∧W (i+1) m' ys' σ3 H3):=by
 refine ⟨fun i m ys σ H=>m=n - i∧i≤n∧Pv i ys σ H,⟨n,by simp,Nat.zero_le _,h0⟩,?_⟩;rintro i m ys σ H ⟨rfl,hi,p⟩
 by_cases hlt:i < n
 ·refine .inr ⟨hlt,fun x H' y=>?_⟩;obtain ⟨e,rfl⟩:=y;subst e;exact hs i ys σ _ _ hlt p fun ys' σ' H' q=>⟨_,by lia,rfl,hlt,q⟩
 ·have e:i=n:=by lia
  subst e;exact .inl ⟨Nat.le_refl _,hd ys σ H p⟩
theorem qj {K:PySem.W.Frag} {a:Addr} {xs:List V} {l:Addr} {g:TG} {tb:List V→Addr→St→Hp→(List V→St→Hp→Prop)→Prop} {Q:VK} {σ0:St} {H0:Hp} (Pv:Nat→List V→St→Hp→Prop) (h0:Pv 0 [] σ0 H0) (hl:∀ i ys σ H,i≤xs.length→Pv i ys σ H→SqL K H a xs)
  (hs:∀ i x ys σ H (N:List V→St→Hp→Prop),xs[i]?=some x→Pv i ys σ H→(∀ ys' σ' H',Pv (i+1) ys' σ' H'→N ys' σ' H')→g x σ H fun σ2 H2=>tb ys l σ2 H2 N)
  (hd:∀ ys σ H,Pv xs.length ys σ H→Q (.ref l) H) :
  ∃ W:Nat→Nat→List V→St→Hp→Prop,(∃ m,W 0 m [] σ0 H0)∧∀ i m ys σ' H',W i m ys σ' H'→((Itl K a).stop i H'∧Q (.ref l) H') ∨
   ((Itl K a).go i H'∧∀ x H'',(Itl K a).yld i H' x H''→g x σ' H'' fun σ2 H2=>tb ys l σ2 H2 fun ys' σ3 H3=>∃ m',m' < m∧W (i+1) m' ys' σ3 H3):=by
 refine ⟨fun i m ys σ H=>m=xs.length - i∧i≤xs.length∧Pv i ys σ H,⟨xs.length,by simp,Nat.zero_le _,h0⟩,?_⟩;rintro i m ys σ H ⟨rfl,hi,p⟩;have q:=hl i ys σ H hi p
 by_cases hlt:i < xs.length
 ·refine .inr ⟨⟨xs,xs[i],q,by simp [hlt]⟩,fun x H' y=>?_⟩;obtain ⟨e,y⟩:=y;subst e;exact hs i x ys σ _ _ (y xs q) p fun ys' σ' H' q=>⟨_,by lia,rfl,hlt,q⟩
 ·have e:i=xs.length:=by lia
  subst e;exact .inl ⟨⟨xs,q,Nat.le_refl _⟩,hd ys σ H p⟩
theorem rm {K:PySem.W.Frag} {a:Addr} {xs:List V} {l:Addr} {g:TG} {tb:List V→Addr→St→Hp→(List V→St→Hp→Prop)→Prop} {Q:VK} {σ0:St} {H0:Hp} (Pv:Nat→List V→St→Hp→Prop) (h0:Pv 0 [] σ0 H0) (hl:∀ i ys σ H,i≤xs.length→Pv i ys σ H→SqT K H a xs)
  (hs:∀ i x ys σ H (N:List V→St→Hp→Prop),xs[i]?=some x→Pv i ys σ H→(∀ ys' σ' H',Pv (i+1) ys' σ' H'→N ys' σ' H')→g x σ H fun σ2 H2=>tb ys l σ2 H2 N)
  (hd:∀ ys σ H,Pv xs.length ys σ H→Q (.ref l) H) :
  ∃ W:Nat→Nat→List V→St→Hp→Prop,(∃ m,W 0 m [] σ0 H0)∧∀ i m ys σ' H',W i m ys σ' H'→((Itt K a).stop i H'∧Q (.ref l) H') ∨
   ((Itt K a).go i H'∧∀ x H'',(Itt K a).yld i H' x H''→g x σ' H'' fun σ2 H2=>tb ys l σ2 H2 fun ys' σ3 H3=>∃ m',m' < m∧W (i+1) m' ys' σ3 H3):=by
 refine ⟨fun i m ys σ H=>m=xs.length - i∧i≤xs.length∧Pv i ys σ H,⟨xs.length,by simp,Nat.zero_le _,h0⟩,?_⟩;rintro i m ys σ H ⟨rfl,hi,p⟩;have q:=hl i ys σ H hi p
 by_cases hlt:i < xs.length
 ·refine .inr ⟨⟨xs,xs[i],q,by simp [hlt]⟩,fun x H' y=>?_⟩;obtain ⟨e,y⟩:=y;subst e;exact hs i x ys σ _ _ (y xs q) p fun ys' σ' H' q=>⟨_,by lia,rfl,hlt,q⟩
 ·have e:i=xs.length:=by lia
  subst e;exact .inl ⟨⟨xs,q,Nat.le_refl _⟩,hd ys σ H p⟩
theorem pe_gint {X:Cx} {x:Str} {i:Int} {t:Tok} {pos:Pos} (hg:Gl X x) (hm:X.mg x=some (.int i t)) (hd:(x == ("__debug__" : Str))=false:=by decide):PE X (.Name x pos) (tC (.int i)):=oV hg hm ⟨_,rfl⟩ hd
theorem pe_gstr {X:Cx} {x z:Str} {t:Tok} {pos:Pos} (hg:Gl X x) (hm:X.mg x=some (.str z t)) (hd:(x == ("__debug__" : Str))=false:=by decide):PE X (.Name x pos) (tC (.str z)):=oV hg hm ⟨_,rfl⟩ hd
theorem dB {X:Cx} {x:Str} {n:String} {pos:Pos} (hg:Gl X x) (hm:X.mg x=none) (hv:bootBuiltins x=some (.type n)) (hn:x≠ "__name__" :=by decide) (hd:(x == ("__debug__" : Str))=false:=by decide):PE X (.Name x pos) (tC (.ty n)):=sV hg hm hv rfl hn hd
structure Gn (K:PySem.W.Frag) (mg:Str→Option Value) (x:Str) (st:Stmt) (ps:List Str) (f:Addr) (fd:FuncData):Prop where
 F:Fun K x x st f fd
 b:Binds K fd ps []
 m:mg x=some (.ref f)
inductive Dt where
 | non | bl (b:Bool) | int (i:Int) | str (z:Str) | tup (l:List Dt)
mutual
inductive IsD (K:PySem.W.Frag) (H:Hp):Dt→V→Prop
 | non:IsD K H .non .non
 | bl {b}:IsD K H (.bl b) (.bl b)
 | int {i}:IsD K H (.int i) (.int i)
 | str {z}:IsD K H (.str z) (.str z)
 | tup {l:List Dt} {a:Addr} {xs:List V}:SqT K H a xs→IsDs K H l xs→IsD K H (.tup l) (.ref a)
inductive IsDs (K:PySem.W.Frag) (H:Hp):List Dt→List V→Prop
 | nil:IsDs K H [] []
 | cons {d:Dt} {l:List Dt} {x:V} {xs:List V}:IsD K H d x→IsDs K H l xs→IsDs K H (d :: l) (x :: xs)
end
mutual
def Dt.dep:Dt→Nat
 | .tup l=>depS l+1
 | _=>0
def depS:List Dt→Nat
 | []=>0
 | d :: l=>max d.dep (depS l)
end
mutual
def eqD:Dt→Dt→Bool
 | .non,.non=>true
 | .bl a,.bl b=>a == b
 | .bl a,.int i=>(if a then 1 else 0) == i
 | .int i,.bl a=>i == (if a then 1 else 0)
 | .int i,.int j=>i == j
 | .str x,.str y=>x == y
 | .tup l,.tup m=>aJ l m
 | _,_=>false
def aJ:List Dt→List Dt→Bool
 | [],[]=>true
 | d :: l,e :: m=>eqD d e && aJ l m
 | _,_=>false
end
mutual
def Dt.plain:Dt→Bool
 | .bl _=>false
 | .tup l=>iJ l
 | _=>true
def iJ:List Dt→Bool
 | []=>true
 | d :: l=>d.plain && iJ l
end
mutual
theorem aF:∀ d:Dt,eqD d d=true
 | .non=>rfl
 | .bl a=>by simp [eqD]
 | .int i=>by simp [eqD]
 | .str z=>by simp [eqD]
 | .tup l=>by simp only [eqD];exact cY l
theorem cY:∀ l:List Dt,aJ l l=true
 | []=>rfl
 | d :: l=>by simp only [aJ,aF d,cY l,Bool.and_self]
end
mutual
theorem vz:∀ d e:Dt,d.plain=true→e.plain=true→eqD d e=true→d=e
 | .non,e,_,_,h=>by cases e <;> simp_all [eqD]
 | .bl _,_,h,_,_=>by simp [Dt.plain] at h
 | .int i,e,_,he,h=>by cases e <;> simp_all [eqD,Dt.plain]
 | .str z,e,_,_,h=>by cases e <;> simp_all [eqD]
 | .tup l,e,hd,he,h=>by
  cases e with
  | tup m=>rw [o5 l m (by simpa [Dt.plain] using hd) (by simpa [Dt.plain] using he) (by simpa [eqD] using h)]
  | _=>simp [eqD] at h
theorem o5:∀ l m:List Dt,iJ l=true→iJ m=true→aJ l m=true→l=m
 | [],[],_,_,_=>rfl
 | [],_ :: _,_,_,h=>by simp [aJ] at h
 | _ :: _,[],_,_,h=>by simp [aJ] at h
 | d :: l,e :: m,hl,hm,h=>by
  simp only [iJ,Bool.and_eq_true] at hl hm;simp only [aJ,Bool.and_eq_true] at h;rw [vz d e hl.1 hm.1 h.1,o5 l m hl.2 hm.2 h.2]
end
section
variable {K:PySem.W.Frag} {H H':Hp}
mutual
theorem IsD.same (g:Same H H'):∀ {d:Dt} {v:V},IsD K H d v→IsD K H' d v
 | _,_,.non=>.non
 | _,_,.bl=>.bl
 | _,_,.int=>.int
 | _,_,.str=>.str
 | _,_,.tup h r=>.tup (g.tup h) (IsDs.same g r)
theorem IsDs.same (g:Same H H'):∀ {l:List Dt} {xs:List V},IsDs K H l xs→IsDs K H' l xs
 | _,_,.nil=>.nil
 | _,_,.cons h r=>.cons (IsD.same g h) (IsDs.same g r)
end
theorem rn {a r:Addr} {xs ys:List V} (hr:H r=some (.lst ys)) (h:SqT K H a xs):a≠r∨∀ H'',SqT K H'' a xs:=by
 rcases h with (h | ⟨o,h⟩) | h
 ·exact .inl (gj h hr (by intro z;cases z))
 ·exact .inl (gj h hr (by intro z;cases z))
 ·exact .inr fun _=>.inr h
mutual
theorem IsD.but {r:Addr} {ys:List V} (hr:H r=some (.lst ys)) (g:But r H H'):∀ {d:Dt} {v:V},IsD K H d v→IsD K H' d v
 | _,_,.non=>.non
 | _,_,.bl=>.bl
 | _,_,.int=>.int
 | _,_,.str=>.str
 | _,_,.tup h q=>.tup (by
   rcases rn hr h with n | n
   ·exact g.tup n h
   ·exact n _) (IsDs.but hr g q)
theorem IsDs.but {r:Addr} {ys:List V} (hr:H r=some (.lst ys)) (g:But r H H'):∀ {l:List Dt} {xs:List V},IsDs K H l xs→IsDs K H' l xs
 | _,_,.nil=>.nil
 | _,_,.cons h q=>.cons (IsD.but hr g h) (IsDs.but hr g q)
end
theorem IsDs.length {l:List Dt} {xs:List V} (h:IsDs K H l xs):l.length=xs.length:=by
 induction l generalizing xs with
 | nil=>cases h;rfl
 | cons d l ih=>cases h with | cons _ r=>simp [ih r]
theorem IsDs.get {l:List Dt} {xs:List V} (h:IsDs K H l xs) {i:Nat} {d:Dt} (e:l[i]?=some d):∃ x,xs[i]?=some x∧IsD K H d x:=by
 induction l generalizing xs i with
 | nil=>simp at e
 | cons c l ih =>
  cases h with
  | cons h r =>
   cases i with
   | zero=>simp at e;subst e;exact ⟨_,rfl,h⟩
   | succ i=>exact ih r (by simpa using e)
end
section
variable {X:Cx} {pins:List (Addr×Obj)} {σ:St} {H:Hp} {s:Shared}
mutual
theorem IsD.inj (I:Inv X pins σ H s):∀ {d e:Dt} {v:V},IsD X.K H d v→IsD X.K H e v→d=e
 | _,_,_,.non,.non=>rfl
 | _,_,_,.bl,.bl=>rfl
 | _,_,_,.int,.int=>rfl
 | _,_,_,.str,.str=>rfl
 | _,_,_,.tup h r,.tup h' r'=>by
  have e:=I.tuple_inj h h';subst e;rw [IsDs.inj I r r']
theorem IsDs.inj (I:Inv X pins σ H s):∀ {l m:List Dt} {xs:List V},IsDs X.K H l xs→IsDs X.K H m xs→l=m
 | _,_,_,.nil,.nil=>rfl
 | _,_,_,.cons h r,.cons h' r'=>by rw [IsD.inj I h h',IsDs.inj I r r']
end
theorem dC:∀ (l m:List Dt),aJ l m=((List.range (min l.length m.length)).all (fun j=>eqD (l.getD j .non) (m.getD j .non)) && l.length == m.length)
 | [],[]=>rfl
 | [],_ :: _=>by simp [aJ]
 | _ :: _,[]=>by simp [aJ]
 | d :: l,e :: m=>by
  simp only [aJ,List.length_cons];rw [dC l m,Nat.succ_min_succ,List.range_succ_eq_map,List.all_cons,List.all_map];have e1:(l.length+1 == m.length+1)=(l.length == m.length):=by
   rw [Bool.eq_iff_iff];simp
  rw [e1,Bool.and_assoc]
  rfl
theorem iK:∀ {l:List Dt} {j:Nat},j < l.length→(l.getD j .non).dep≤depS l
 | [],_,h=>by simp at h
 | d :: l,0,_=>by simp only [List.getD_cons_zero,depS];lia
 | d :: l,j+1,h=>by
  have q:=@iK l j (by simpa using h);simp only [List.getD_cons_succ,depS];lia
theorem Inv.tup' (I:Inv X pins σ H s) {a:Addr} {xs:List V} (h:SqT X.K H a xs):∃ its:List Value,Vals xs its∧s.heap.IsTuple a its.toArray:=by
 obtain ⟨its,r,p,_⟩:=I.tuple h;exact ⟨its,r,p⟩
theorem jB (A:Around):A.in1.units=A.units+1:=by
 first | rfl | simp [Around.in1]
theorem vA (I:Inv X pins σ H s):∀ (n:Nat) (d e:Dt) (x y:V) (u v:Value) (A:Around),d.dep≤n→IsD X.K H d x→IsD X.K H e y→RelV x u→RelV y v→A.units+n < cLine →
  SeqAt.EqAt A s u v (eqD d e)∧SeqAt.RcAt A s u v (eqD d e)∧SeqAt.RcNeAt A s u v (!eqD d e):=by
 intro n
 induction n with
 | zero =>
  intro d e x y u v A hd hx hy rx ry hu;have hu0:A.units < cLine:=by lia
  cases hx with
  | tup h r=>simp [Dt.dep] at hd
  | non =>
   cases rx
   cases hy with
   | non=>cases ry;exact ⟨.same _,.none_none,.none_none⟩
   | bl=>cases ry;exact ⟨.none_bool _,.none_bool _,.none_bool _⟩
   | int=>obtain ⟨t,rfl⟩:=ry;exact ⟨.none_int _ _,.none_int _ _,.none_int _ _⟩
   | str=>obtain ⟨t,rfl⟩:=ry;exact ⟨.none_str _ _,.none_str _ _,.none_str _ _⟩
   | tup h r=>cases ry;obtain ⟨its,_,p⟩:=I.tup' h;exact ⟨.none_tuple p hu0,.none_tuple p hu0,.none_tuple p hu0⟩
  | bl =>
   cases rx
   cases hy with
   | non=>cases ry;exact ⟨.bool_none _,.bool_none _,.bool_none _⟩
   | bl=>cases ry;exact ⟨.bool_bool _ _,.bool_bool _ _,.bool_bool _ _⟩
   | int=>obtain ⟨t,rfl⟩:=ry;exact ⟨.bool_int _ _ _,.bool_int _ _ _,.bool_int _ _ _⟩
   | str=>obtain ⟨t,rfl⟩:=ry;exact ⟨.bool_str _ _ _,.bool_str _ _ _,.bool_str _ _ _⟩
   | tup h r=>cases ry;obtain ⟨its,_,p⟩:=I.tup' h;exact ⟨.bool_tuple _ p hu0,.bool_tuple _ p hu0,.bool_tuple _ p hu0⟩
  | int =>
   obtain ⟨t0,rfl⟩:=rx
   cases hy with
   | non=>cases ry;exact ⟨.int_none _ _,.int_none _ _,.int_none _ _⟩
   | bl=>cases ry;exact ⟨.int_bool _ _ _,.int_bool _ _ _,.int_bool _ _ _⟩
   | int=>obtain ⟨t,rfl⟩:=ry;exact ⟨.int_int _ _ _ _,.int_int _ _ _ _,.int_int _ _ _ _⟩
   | str=>obtain ⟨t,rfl⟩:=ry;exact ⟨.int_str _ _ _ _,.int_str _ _ _ _,.int_str _ _ _ _⟩
   | tup h r=>cases ry;obtain ⟨its,_,p⟩:=I.tup' h;exact ⟨.int_tuple _ _ p hu0,.int_tuple _ _ p hu0,.int_tuple _ _ p hu0⟩
  | str =>
   obtain ⟨t0,rfl⟩:=rx
   cases hy with
   | non=>cases ry;exact ⟨.str_none _ _,.str_none _ _,.str_none _ _⟩
   | bl=>cases ry;exact ⟨.str_bool _ _ _,.str_bool _ _ _,.str_bool _ _ _⟩
   | int=>obtain ⟨t,rfl⟩:=ry;exact ⟨.str_int _ _ _ _,.str_int _ _ _ _,.str_int _ _ _ _⟩
   | str=>obtain ⟨t,rfl⟩:=ry;exact ⟨.str_str _ _ _ _,.str_str _ _ _ _,.str_str _ _ _ _⟩
   | tup h r=>cases ry;obtain ⟨its,_,p⟩:=I.tup' h;exact ⟨.str_tuple _ _ p hu0,.str_tuple _ _ p hu0,.str_tuple _ _ p hu0⟩
 | succ n ih =>
  intro d e x y u v A hd hx hy rx ry hu;have hu0:A.units < cLine:=by lia
  cases hx with
  | tup h r =>
   rename_i l a xs
   cases rx
   cases hy with
   | non=>cases ry;obtain ⟨its,_,p⟩:=I.tup' h;exact ⟨.tuple_none p hu0,.tuple_none p hu0,.tuple_none p hu0⟩
   | bl=>cases ry;obtain ⟨its,_,p⟩:=I.tup' h;exact ⟨.tuple_bool _ p hu0,.tuple_bool _ p hu0,.tuple_bool _ p hu0⟩
   | int=>obtain ⟨t,rfl⟩:=ry;obtain ⟨its,_,p⟩:=I.tup' h;exact ⟨.tuple_int _ _ p hu0,.tuple_int _ _ p hu0,.tuple_int _ _ p hu0⟩
   | str=>obtain ⟨t,rfl⟩:=ry;obtain ⟨its,_,p⟩:=I.tup' h;exact ⟨.tuple_str _ _ p hu0,.tuple_str _ _ p hu0,.tuple_str _ _ p hu0⟩
   | tup h' r' =>
    rename_i m b ys
    cases ry
    obtain ⟨its,q,p⟩:=I.tup' h;obtain ⟨its',q',p'⟩:=I.tup' h';have l1:its.length=l.length:=by rw [← q.length,← r.length]
    have l2:its'.length=m.length:=by rw [← q'.length,← r'.length]
    have he:∀ j (h1:j < its.toArray.size) (h2:j < its'.toArray.size),SeqAt.EqAt A.in1 s its.toArray[j] its'.toArray[j] (eqD (l.getD j .non) (m.getD j .non)):=by
     intro j h1 h2;have j1:j < l.length:=by simpa [l1] using h1
     have j2:j < m.length:=by simpa [l2] using h2
     obtain ⟨x1,ex,dx⟩:=r.get (i:=j) (d:=l.getD j .non) (by simp [List.getD_eq_getElem?_getD,j1]);obtain ⟨y1,ey,dy⟩:=r'.get (i:=j) (d:=m.getD j .non) (by simp [List.getD_eq_getElem?_getD,j2]);obtain ⟨u1,eu,ru⟩:=q.get ex;obtain ⟨v1,ev,rv⟩:=q'.get ey;have e1:its.toArray[j]=u1:=by
      have:its[j]?=some its[j]:=by simp [l1,j1]
      rw [this] at eu
      simpa using Option.some.inj eu
     have e2:its'.toArray[j]=v1:=by
      have:its'[j]?=some its'[j]:=by simp [l2,j2]
      rw [this] at ev
      simpa using Option.some.inj ev
     rw [e1,e2];have hdl:depS l≤n:=by simp only [Dt.dep] at hd;lia
     exact (ih _ _ _ _ _ _ A.in1 (Nat.le_trans (iK j1) hdl) dx dy ru rv (by rw [jB];lia)).1
    have ev:eqD (.tup l) (.tup m)=((List.range (min its.toArray.size its'.toArray.size)).all (fun j=>eqD (l.getD j .non) (m.getD j .non)) && its.toArray.size == its'.toArray.size):=by
     simp only [eqD,List.size_toArray,l1,l2];exact dC l m
    rw [ev];refine ⟨?_,SeqAt.RcAt.tuples p p' hu0 he,SeqAt.RcNeAt.tuples p p' hu0 he⟩
    by_cases hab:a=b
    ·subst hab;have e3:=I.tuple_inj h h';subst e3;have e4:=IsDs.inj I r r';subst e4;rw [← ev,aF];exact .same _
    ·exact .of_refs hab (SeqAt.RcAt.tuples p p' hu0 he)
  | non=>exact ih _ _ _ _ _ _ A (by simp [Dt.dep]) .non hy rx ry (by lia)
  | bl=>exact ih _ _ _ _ _ _ A (by simp [Dt.dep]) .bl hy rx ry (by lia)
  | int=>exact ih _ _ _ _ _ _ A (by simp [Dt.dep]) .int hy rx ry (by lia)
  | str=>exact ih _ _ _ _ _ _ A (by simp [Dt.dep]) .str hy rx ry (by lia)
def wV (K:PySem.W.Frag):R2:=fun x y H Q=>∃ d e,IsD K H d x∧IsD K H e y∧d.dep≤60∧Q (.bl (eqD d e)) H
def wW (K:PySem.W.Frag):R2:=fun x y H Q=>∃ d e,IsD K H d x∧IsD K H e y∧d.dep≤60∧Q (.bl (!eqD d e)) H
theorem vB (hu:X.A.units+64 < cLine):OpR X (compareOp .Eq) (wV X.K):=by
 intro pins s σ H x y v u Q I rx ry h;obtain ⟨d,e,hd,he,hn,q⟩:=h;exact (vA I 60 d e x y v u X.A hn hd he rx ry (by lia)).2.1 _ _ _ _ ⟨.bl _,H,I,rfl,q⟩
theorem vC (hu:X.A.units+64 < cLine):OpR X (compareOp .NotEq) (wW X.K):=by
 intro pins s σ H x y v u Q I rx ry h;obtain ⟨d,e,hd,he,hn,q⟩:=h;exact (vA I 60 d e x y v u X.A hn hd he rx ry (by lia)).2.2 _ _ _ _ ⟨.bl _,H,I,rfl,q⟩
def ya (K:PySem.W.Frag) (neg:Bool):R2:=fun x y H Q=>∃ p b xs ys l m,x=.ref p∧y=.ref b∧SqL K H p xs∧SqL K H b ys∧IsDs K H l xs∧IsDs K H m ys∧depS l≤60∧Q (.bl (if neg then !aJ l m else aJ l m)) H
theorem ql (hu:X.A.units+64 < cLine) (I:Inv X pins σ H s) {l m:List Dt} {xs ys:List V} {its its':List Value} (r:IsDs X.K H l xs) (r':IsDs X.K H m ys) (q:Vals xs its) (q':Vals ys its') (hd:depS l≤60) :
  ∀ j (h1:j < its.toArray.size) (h2:j < its'.toArray.size),SeqAt.EqAt X.A.in1 s its.toArray[j] its'.toArray[j] (eqD (l.getD j .non) (m.getD j .non)):=by
 have l1:its.length=l.length:=by rw [← q.length,← r.length]
 have l2:its'.length=m.length:=by rw [← q'.length,← r'.length]
 intro j h1 h2;have j1:j < l.length:=by simpa [l1] using h1
 have j2:j < m.length:=by simpa [l2] using h2
 obtain ⟨x1,ex,dx⟩:=r.get (i:=j) (d:=l.getD j .non) (by simp [List.getD_eq_getElem?_getD,j1]);obtain ⟨y1,ey,dy⟩:=r'.get (i:=j) (d:=m.getD j .non) (by simp [List.getD_eq_getElem?_getD,j2]);obtain ⟨u1,eu,ru⟩:=q.get ex;obtain ⟨v1,ev,rv⟩:=q'.get ey;have e1:its.toArray[j]=u1:=by
  have:its[j]?=some its[j]:=by simp [l1,j1]
  rw [this] at eu
  simpa using Option.some.inj eu
 have e2:its'.toArray[j]=v1:=by
  have:its'[j]?=some its'[j]:=by simp [l2,j2]
  rw [this] at ev
  simpa using Option.some.inj ev
 rw [e1,e2];exact (vA I 60 _ _ _ _ _ _ X.A.in1 (Nat.le_trans (iK j1) hd) dx dy ru rv (by rw [jB];lia)).1
theorem vD (hu:X.A.units+64 < cLine):OpR X (compareOp .NotEq) (ya X.K true):=by
 intro pins s σ H x y v u Q I rx ry h;obtain ⟨p,b,xs,ys,l,m,rfl,rfl,hp,hb,r,r',hd,q⟩:=h
 cases rx
 cases ry
 obtain ⟨its,r1,p1,_⟩:=I.list hp;obtain ⟨its',r2,p2,_⟩:=I.list hb;have l1:its.length=l.length:=by rw [← r1.length,← r.length]
 have l2:its'.length=m.length:=by rw [← r2.length,← r'.length]
 have he:=ql hu I r r' r1 r2 hd;have hu0:X.A.units < cLine:=by lia
 by_cases hs:its.length=its'.length
 ·have ev:aJ l m=(List.range its.toArray.size).all (fun j=>eqD (l.getD j .non) (m.getD j .non)):=by
   rw [dC l m,List.size_toArray,l1];have e3:l.length=m.length:=by lia
   rw [← e3,Nat.min_self,beq_self_eq_true,Bool.and_true]
  refine SeqAt.RcNeAt.lists p1.isList p2.isList (by simpa using hs) hu0 he _ _ _ _ ?_;rw [← ev];exact ⟨.bl _,H,I,rfl,q⟩
 ·have ev:aJ l m=false:=by
   have e3:(l.length == m.length)=false:=by simpa using (show ¬ l.length=m.length by lia)
   rw [dC l m,e3,Bool.and_false]
  refine SeqAt.RcNeAt.lists_lengths p1.isList p2.isList (by simpa using hs) hu0 _ _ _ _ ?_;have q':Q (.bl (!aJ l m)) H:=q;rw [ev] at q';exact ⟨.bl _,H,I,rfl,q'⟩
end
end L2
namespace PySem.W
open PySem PySem.Spec PyProof.Rows PySem.Calls
structure ExcK (K:Frag) (C:Addr):Prop where
 ga:findIn K (.ref C) "__getattribute__" = some (some (.builtin "BaseException.__getattribute__"))
 gt:findIn K (.ref C) "__getattr__" = some none
 cl:findIn K (.ref C) "__class__" = some (some (.builtin "object.__class__"))
 sb:mroIn K C (.type "BaseException")=some true
 so:mroIn K C (.type "object")=some true
 cd:∃ c,clsIn K C=some c
section
variable {prog:Program} {w:World} {A:Around} {E:Value→Shared→Prop} {h:Heap} {g:Array GenState} {d:Drawn} {t:Nat} {os:OsState} {a C:Addr} {o:Obj} {K:Frag}
end
end PySem.W
namespace L2
open PySem PySem.Spec PyProof.Rows
abbrev bmV:List Value:=[.type "ValueError",.type "Exception",.type "BaseException",.type "object"]
structure ExC (K:PySem.W.Frag) (mg:Str→Option Value) (x:Str) (C:Addr):Prop where
 m:mg x=some (.ref C)
 q:PySem.W.excIn K C bmV "ValueError.__new__" = true
 k:PySem.W.ExcK K C
 kp:PySem.W.keepIn K (.ref C)=true
section
variable {X:Cx} {pins:List (Addr×Obj)} {σ:St} {H:Hp} {s:Shared}
end
section
variable {X:Cx} {pins:List (Addr×Obj)} {σ:St} {H:Hp} {s:Shared}
end
section
variable {X:Cx} {pins:List (Addr×Obj)} {σ:St} {H:Hp} {s:Shared}
end
section
variable {X:Cx} {a b c d:Expr} {ta tb tc td:TE} {pos:Pos}
def tD (r r' r'':R2) (ta tb tc td:TE):TE:=fun σ H Q=>ta σ H fun x H1=>tb σ H1 fun y H2=>r x y H2 fun z H3=>∃ k,z=.bl k ∧
 (if k=true then tc σ H3 fun y' H4=>r' y y' H4 fun z' H5=>∃ k',z'=.bl k'∧(if k'=true then td σ H5 fun w' H6=>r'' y' w' H6 Q else Q (.bl false) H5) else Q (.bl false) H3)
theorem pe_chain3 {op op' op'':CmpOp} {r r' r'':R2} (ho:OpR X (compareOp op) r) (ho':OpR X (compareOp op') r') (ho'':OpR X (compareOp op'') r'') (ha:PE X a ta) (hb:PE X b tb) (hc:PE X c tc) (hd:PE X d td)
  (hm:lastMarks [op,op',op''] [b,c,d]=false:=by with_unfolding_all rfl):PE X (.Compare a [op,op',op''] [b,c,d] pos) (tD r r' r'' ta tb tc td):=by
 intro pins s σ H Q I h;refine Compare_chain (thn (ha pins s σ H _ I h) fun v s1 ⟨x,H1,I1,r1,q1⟩=>chain_link (thn (hb pins s1 σ H1 _ I1 q1) fun u s2 ⟨y,H2,I2,r2,q2⟩ =>
  thn (ho pins s2 σ H2 x y v u _ I2 r1 r2 q2) fun d' s3 ⟨z,H3,I3,r3,k,e,q3⟩=>?_)) hm
 subst e
 cases r3
 refine wpAny_truthy_bool ?_
 cases k with
 | false=>exact ite_ff ⟨.bl false,H3,I3,rfl,q3⟩
 | true =>
  refine ite_tt (chain_link (thn (hc pins s3 σ H3 _ I3 q3) fun w' s4 ⟨z',H4,I4,r4,q4⟩=>thn (ho' pins s4 σ H4 y z' u w' _ I4 r2 r4 q4) fun d2 s5 ⟨z2,H5,I5,r5,k2,e2,q5⟩=>?_));subst e2
  cases r5
  refine wpAny_truthy_bool ?_
  cases k2 with
  | false=>exact ite_ff ⟨.bl false,H5,I5,rfl,q5⟩
  | true=>exact ite_tt (chain_last (thn (hd pins s5 σ H5 _ I5 q5) fun w2 s6 ⟨z3,H6,I6,r6,q6⟩=>ho'' pins s6 σ H6 z' z3 w' w2 Q I6 r4 r6 q6))
end
def i4 (D:List (Str×Int)):List (Str×KTD.Dat):=D.map fun p=>(p.1,.flat (.int p.2))
def o6 (K:PySem.W.Frag) (a:Addr) (D:List (Str×Int)):Prop:=∀ h,K.In h→KTD.TextTab h a (i4 D)
theorem rp {K:PySem.W.Frag} {a:Addr} {D:List (Str×Int)} (e:KTD.tabLook (KTD.datLooks fun b=>K.lookup b) (fun b=>K.lookup b) a (i4 D)=true):o6 K a D:=fun h X=>KTD.text_of_look (fun b o q=>X b o q) e
def ck (k:Str):List (Str×Int)→V
 | []=>.non
 | (x,i) :: D=>if k=x then .int i else ck k D
theorem jC {k:Str}:∀ {D:List (Str×Int)} {d:KTD.Dat},KTD.datumAt k (i4 D)=some d→∃ i,d=.flat (.int i)∧ck k D=.int i
 | [],_,h=>by simp [i4,KTD.datumAt] at h
 | (x,i) :: D,d,h=>by
  simp only [i4,List.map_cons,KTD.datumAt,decide_eq_true_eq] at h
  by_cases hk:k=x
  ·rw [if_pos hk] at h;exact ⟨i,(Option.some.inj h).symm,by simp [ck,hk]⟩
  ·rw [if_neg hk] at h;obtain ⟨j,e1,e2⟩:=jC (D:=D) h;exact ⟨j,e1,by simp [ck,hk,e2]⟩
theorem cZ {k:Str}:∀ {D:List (Str×Int)},KTD.datumAt k (i4 D)=none→ck k D=.non
 | [],_=>rfl
 | (x,i) :: D,h=>by
  simp only [i4,List.map_cons,KTD.datumAt,decide_eq_true_eq] at h
  by_cases hk:k=x
  ·rw [if_pos hk] at h;cases h
  ·rw [if_neg hk] at h;simp [ck,hk,cZ (D:=D) h]
section
variable {X:Cx}
def wX (D:List (Str×Int)) (t:TA):TE:=fun σ H Q=>t σ H fun vs H1=>∃ k,vs=[.str k]∧Q (ck k D) H1
theorem pe_kget {x:Str} {ad:Addr} {D:List (Str×Int)} {e:Expr} {t:TA} {p apos cpos:Pos} (hD:o6 X.K ad D) (hg:Gl X x) (hm:X.mg x=some (.ref ad)) (ha:PA X [e] t) (hdb:(x == ("__debug__" : Str))=false:=by decide)
  (hbase:attributeBase (.Name x p) "get" X.env (eval (.Name x p) X.env)=eval (.Name x p) X.env:=by rfl)
  (hfew:((backTo cpos (starEach [e] X.env)).all (fun x=>!x.1) && (backToKw cpos (keywordEach [] X.env)).all (fun x=>x.1.isSome)
   && decide (([e]:List Expr).length+([]:List Keyword).length+(if ([]:List Keyword).isEmpty then 0 else 1) < 30))=true:=by rfl)
  (hline:(apos.endLine == cpos.line)=true:=by rfl) (hs:starEach [e] X.env=(false,eval e X.env) :: starEach [] X.env:=by rfl) :
  PE X (.Call (.Attribute (.Name x p) "get" apos) [e] [] cpos) (wX D t):=by
 intro pins s σ H Q I h;refine wpAny_Call_method_late hbase hfew hline rfl (j4 I hg hm ?_ hdb);have T:∀ {s':Shared} {σ':St} {H':Hp} {pins':List (Addr×Obj)},Inv X pins' σ' H' s'→KTD.Here X.base s'.heap ad (i4 D):=fun J=>⟨hD _ J.ok.mod.kin,J.bk⟩;refine ⟨"dict","dict.get",PySem.F.plainAttrs_dict,PySem.F.slot_dict_get,PySem.F.type_dict_get,(T I).typeIs,(T I).noDict,?_⟩;have hA:=ha cpos pins s σ H _ I h;rw [hs] at hA ⊢;refine Calls.callWith_builtin (by rfl) (Calls.evalArgs_plain ?_);refine thn hA fun us s2 ⟨vs,H2,I2,r2,k,e2,q2⟩=>?_;subst e2;obtain ⟨u,rfl,ru⟩:=dU r2;obtain ⟨tk,rfl⟩:=ru;refine call_meetsIn PySem.F.slot_dict_get (T I2).typeIs PySem.F.entry_dict_get (PySem.F.args_dict_get_2 _ _) (KTD.meets_get1 (h₀:=X.base) (D:=i4 D)) ⟨T I2,fun dd v hdd hv=>?_,fun hn=>?_⟩
 ·obtain ⟨i,rfl,el⟩:=jC hdd;have hv':Reads s2.heap v (.int i) []:=hv s2.heap;obtain ⟨t0,rfl⟩:∃ t0,v=.int i t0:=by cases hv';exact ⟨_,rfl⟩
  rw [el] at q2;exact ⟨.int i,H2,I2.tok _,⟨_,rfl⟩,q2⟩
 ·rw [cZ hn] at q2;exact ⟨.non,H2,I2.tok _,rfl,q2⟩
end
theorem csR {X:Cx} {scope sc:Scope} {NL N N':List Str} {ρ:List Nat} (hsc:X.env.scope=sc) (hN:X.N=N) (h1:scope.kind=.function) (h2:(scope.names.all fun x=>x.2 != .cell)=true) (h3:∀ x∈scope.names,x.2=.local→scope.names.lookup x.1=some .local)
  (h4:(scope.names.all fun x=>x.2 != .free || sc.names.lookup x.1 == some .cell)=true) (h5:N'=NL++ρ.map fun j=>N.getD j "")
  (h6:(ρ.all fun j=>match N[j]? with | some x=>scope.names.lookup x == some .free && sc.names.lookup x == some .cell | none=>false)=true):CScope X scope NL ρ N':=by
 rw [List.all_eq_true] at h2 h4 h6;refine ⟨h1,fun x hx e=>?_,h3,fun x hx e=>.inl ?_,by rw [hN];exact h5,fun j hj=>?_⟩
 ·have:=h2 x hx;rw [e] at this;exact absurd this (by decide)
 ·have z:=h4 x hx;rw [e] at z;have z2:(sc.names.lookup x.1 == some NameKind.cell)=true:=by simpa using z
  show X.env.scope.names.lookup x.1=some .cell;rw [hsc];exact beq_iff_eq.mp z2
 ·have z:=h6 j hj
  cases q:N[j]? with
  | none=>rw [q] at z;cases z
  | some x =>
   rw [q] at z;simp only [Bool.and_eq_true,beq_iff_eq] at z;exact ⟨x,by rw [hN];exact q,z.1,.inl (by rw [hsc];exact z.2)⟩
structure RoomH (k:Nat) (A:Around):Prop where
 dp:A.depth+3*k+5 < recursionLimit
 un:A.units+16*k+200 < cLine
structure FnOkH (P:Program) (w:World) (K:PySem.W.Frag) (mg:Str→Option Value) (base:Heap) (k:Nat) (f:Addr) (fd:FuncData) (ps:List Str) (sp:Sp):Prop where
 len:∀ vs H Q E,sp vs H Q E→vs.length=ps.length
 run:∀ (A:Around) (outer:List Env) (s:Shared) (H:Hp) (args:Args) (us:List Value) (vs:List V) (Q:VK) (E:XK),RoomH k A→Env0 P w K mg base A outer s H→BindsTo s fd args (ps.zip us)→Vals vs us→sp vs H Q E →
  codeAny (model P w) A (.call (.ref f) args) (CR CX0 outer P w H s Q E) s
section
variable {X:Cx}
end
end L2
namespace HT
open PySem PySem.Spec PyProof.Rows
section
variable {prog:Program} {w:World} {A:Around} {E:Value→Shared→Prop} {s:Shared}
theorem cat_nil {t b:Addr} {ws:List Value} {Q:Value→Shared→Prop} (ht:IsTup s.heap t ([]:List Value).toArray) (hb:IsTup s.heap b ws.toArray) (h:Q (.ref b) s):wpAny (model prog w) A (binaryOp .Add (.ref t) (.ref b)) Q E s:=by
 obtain ⟨⟨cls,dd,data,sl⟩,ho,hc,n,hd⟩:=id ht;obtain ⟨⟨cls2,dd2,data2,sl2⟩,ho2,hc2,n2,hd2⟩:=id hb;simp only at hc hd hc2 hd2;subst hc hd hc2 hd2;exact concat_meets ⟨_,ho,rfl⟩ ⟨_,ho2,rfl⟩ noFill_tuple_add seq_tuple_add PySem.F.slot_tuple_add PySem.F.entry_tuple_add (PySem.F.args_tuple_add_2 _ _) (tuple_addW0 t b _ ws.toArray n n2 dd dd2 sl sl2 (by rfl)) ⟨ho,ho2,h⟩
theorem getItem_tuple_all {t sl:Addr} {items:Array Value} {vl vu:Value} {lo hi:Option Int} {Q:Value→Shared→Prop} (ht:IsTup s.heap t items) (hs:s.heap.IsSliceOf sl vl vu .none) (pl:IsPart vl lo) (pu:IsPart vu hi)
  (h1:sIx items.size 0 lo=0) (h2:sIx items.size items.size hi=items.size) (h:Q (.ref t) s):wpAny (model prog w) A (getItem (.ref t) (.ref sl)) Q E s:=by
 obtain ⟨os,hos,hcs,hds⟩:=id hs;have hTs:s.TypeIs (.ref sl) "slice" :=⟨os,hos,hcs⟩;unfold getItem
 try with_reducible refine wpAny_holding ?_
 first | refine wpAny_bind (wpAny_pure ?_) | skip
 refine wpAny_bind (wpAny_sequenceKey ht.typeIs (by decide) ?_);refine wpAny_bind (wpAny_callSpecial?_slot (name:=Str.ofString "__getitem__") ht.typeIs PyProof.Rows.slot_tuple_getitem (wpAny_call_entry PyProof.Rows.slot_tuple_getitem ht.typeIs entry_tuple_getitem ?_ (args_tuple_getitem _ _)));show wpAny _ _ (Builtin.Tuple.tupleItemsOf (.ref t) >>= _) _ _ s;refine wpAny_bind (tupleItemsOf_ ht ?_);refine wpAny_bind (wpAny_typeOf hTs ?_);rw [if_pos (by decide)];refine wpAny_bind (cW hs pl pu ?_);have hyes:(((sIx items.size 0 lo:Nat):Int) == 0 && (1:Int) == 1 && (sIx items.size items.size hi - sIx items.size 0 lo) == items.size)=true:=by
  rw [h1,h2];simp
 show wpAny _ _ (if (((sIx items.size 0 lo:Nat):Int) == 0 && (1:Int) == 1 && (sIx items.size items.size hi - sIx items.size 0 lo) == items.size)=true then _ else _) _ _ s;rw [if_pos hyes];refine wpAny_bind (m:=Builtin.Tuple.tupleIsExact _) (wpAny_bind (wpAny_typeOf ht.typeIs ?_));refine wpAny_pure ?_;rw [if_pos (by decide)];exact wpAny_bind (wpAny_rule (wpAny_pure ⟨_,rfl,wpAny_pure h⟩))
end
end HT
namespace L2
open PySem PySem.Spec PyProof.Rows
section
variable {X:Cx}
theorem IsD.unref {K:PySem.W.Frag} {H:Hp} {l:List Dt} {v:V} (h:IsD K H (.tup l) v):∃ a xs,v=.ref a∧SqT K H a xs∧IsDs K H l xs:=by
 cases h with
 | tup h r=>exact ⟨_,_,rfl,h,r⟩
def i5 (l:List Dt) (lo hi:Option Int):List Dt:=(l.drop (HT.sIx l.length 0 lo)).take (HT.sIx l.length l.length hi - HT.sIx l.length 0 lo)
theorem qm:CallR X (.builtin "len") (fun xs H Q=>∃ x l,xs=[x]∧IsD X.K H (.tup l) x∧Q (.int l.length) H):=by
 intro pins s σ H xs us Q I r h;obtain ⟨x,l,rfl,dx,q⟩:=h;obtain ⟨a,ys,rfl,hx,ra⟩:=dx.unref;exact gl pins s σ H [.ref a] us Q I r ⟨a,ys,rfl,.inr hx,by rw [← ra.length];exact q⟩
end
end L2
namespace PySem
open Sem (wp)
section
variable {M:Model} {A:Around} {E:Value→Shared→Prop} {s:Shared}
end
end PySem
namespace L2
open PySem PySem.Spec PyProof.Rows
section
variable {X:Cx} {E:XK}
variable {pins:List (Addr×Obj)} {σ:St} {H:Hp} {s:Shared}
end
section
variable {κ:Type} [DecidableEq κ]
def aK (kvs:List (κ×V)) (k:κ):Option V:=(kvs.find? fun kv=>decide (kv.1=k)).map (·.2)
def bK (kvs:List (κ×V)) (k:κ) (v:V):List (κ×V) :=
 if (kvs.any fun kv=>decide (kv.1=k))=true then kvs.map (fun kv=>if kv.1=k then (kv.1,v) else kv) else kvs++[(k,v)]
def yo (kvs:List (κ×V)) (k:κ):List (κ×V):=kvs.filter fun kv=>decide (kv.1≠k)
theorem bc {p:κ×V} {r:List (κ×V)} {k:κ} (e:p.1=k):aK (p :: r) k=some p.2:=by simp [aK,List.find?_cons,e]
theorem bd {p:κ×V} {r:List (κ×V)} {k:κ} (e:¬ p.1=k):aK (p :: r) k=aK r k:=by simp [aK,List.find?_cons,e]
theorem gq (k:κ):∀ kvs:List (κ×V),(kvs.any fun kv=>decide (kv.1=k))=(aK kvs k).isSome
 | []=>rfl
 | p :: r=>by
  rw [List.any_cons]
  by_cases e:p.1=k
  ·simp only [bc e,decide_eq_true e,Bool.true_or,Option.isSome_some]
  ·rw [bd e,decide_eq_false e,Bool.false_or];exact gq k r
theorem mw (k j:κ) (y:V):∀ kvs:List (κ×V),aK (kvs.map fun kv=>if kv.1=k then (kv.1,y) else kv) j=(aK kvs j).map fun x=>if j=k then y else x
 | []=>rfl
 | p :: r=>by
  have ih:=mw k j y r;rw [List.map_cons]
  by_cases h:p.1=k
  ·rw [if_pos h]
   by_cases e:p.1=j
   ·rw [bc (p:=(p.1,y)) e,bc e,Option.map_some,if_pos (e.symm.trans h)]
   ·rw [bd (p:=(p.1,y)) e,bd e,ih]
  ·rw [if_neg h]
   by_cases e:p.1=j
   ·rw [bc (p:=p) e,bc e,Option.map_some,if_neg (fun z=>h (e.trans z))]
   ·rw [bd (p:=p) e,bd e,ih]
theorem jD (k j:κ) (y:V):∀ kvs:List (κ×V),aK kvs k=none→aK (kvs++[(k,y)]) j=if j=k then some y else aK kvs j
 | [],_=>by
  by_cases e:k=j
  ·rw [if_pos e.symm];exact bc (p:=(k,y)) e
  ·rw [if_neg (fun z=>e z.symm)];exact bd (p:=(k,y)) e
 | p :: r,hn=>by
  rw [List.cons_append];have hk:¬ p.1=k:=fun z=>by rw [bc z] at hn;cases hn
  rw [bd hk] at hn;have ih:=jD k j y r hn
  by_cases e:p.1=j
  ·rw [bc e,bc e,if_neg (fun z=>hk (e.trans z))]
  ·rw [bd e,bd e,ih]
theorem gr (kvs:List (κ×V)) (k j:κ) (y:V):aK (bK kvs k y) j=if j=k then some y else aK kvs j:=by
 unfold bK
 by_cases a:(kvs.any fun kv=>decide (kv.1=k))=true
 ·rw [if_pos a,mw];rw [gq] at a
  by_cases e:j=k
  ·obtain ⟨x,hx⟩:=Option.isSome_iff_exists.mp a;rw [if_pos e,e,hx,Option.map_some,if_pos rfl]
  ·rw [if_neg e]
   cases aK kvs j with
   | none=>rfl
   | some x=>rw [Option.map_some,if_neg e]
 ·rw [if_neg a];refine jD k j y kvs ?_;rw [gq] at a
  cases q:aK kvs k with
  | none=>rfl
  | some x=>rw [q] at a;exact (a rfl).elim
theorem cm (kvs:List (κ×V)) (k:κ) (v:V):(bK kvs k v).length≤kvs.length+1:=by
 unfold bK
 split
 ·rw [List.length_map];lia
 ·rw [List.length_append,List.length_cons,List.length_nil];lia
theorem RelO.isSome_eq {o:Option V} {u:Option Value} (r:RelO o u):o.isSome=u.isSome:=by
 cases o with
 | none=>cases u with
  | none=>rfl
  | some _=>exact (show False from r).elim
 | some _=>cases u with
  | none=>exact (show False from r).elim
  | some _=>rfl
theorem RelO.getD {o:Option V} {u:Option Value} {d:V} {d':Value} (r:RelO o u) (rd:RelV d d'):RelV (o.getD d) (u.getD d'):=by
 cases o with
 | none=>cases u with
  | none=>exact rd
  | some _=>exact (show False from r).elim
 | some _=>cases u with
  | none=>exact (show False from r).elim
  | some _=>exact r
theorem KV.val {kvs:List (κ×V)} {vs:List (κ×Value)} (r:KV kvs vs) (k:κ):RelO (aK kvs k) (valueAt vs k):=by
 unfold KV at r
 induction r with
 | nil=>exact True.intro
 | @cons p q ps qs h t ih =>
  obtain ⟨h1,h2⟩:=h
  by_cases e:p.1=k
  ·have e':q.1=k:=h1.symm.trans e;have b:valueAt (q :: qs) k=some q.2:=by simp [valueAt,List.find?_cons,e']
   rw [bc e,b];exact h2
  ·have e':¬ q.1=k:=fun z=>e (h1.trans z);have b:valueAt (q :: qs) k=valueAt qs k:=by simp [valueAt,List.find?_cons,e']
   rw [bd e,b];exact ih
theorem KV.any {kvs:List (κ×V)} {vs:List (κ×Value)} (r:KV kvs vs) (k:κ):(kvs.any fun kv=>decide (kv.1=k))=vs.any fun kv=>decide (kv.1=k):=by
 unfold KV at r
 induction r with
 | nil=>rfl
 | cons h t ih=>rw [List.any_cons,List.any_cons,ih,h.1]
theorem KV.repl {kvs:List (κ×V)} {vs:List (κ×Value)} (r:KV kvs vs) (k:κ) {y:V} {u:Value} (ry:RelV y u) :
  KV (kvs.map fun kv=>if kv.1=k then (kv.1,y) else kv) (vs.map fun kv=>if kv.1=k then (kv.1,u) else kv):=by
 unfold KV at r ⊢
 induction r with
 | nil=>exact .nil
 | @cons p q ps qs h t ih =>
  rw [List.map_cons,List.map_cons];refine .cons ?_ ih;obtain ⟨h1,h2⟩:=h
  by_cases e:p.1=k
  ·rw [if_pos e,if_pos (h1.symm.trans e)];exact ⟨h1,ry⟩
  ·rw [if_neg e,if_neg (fun z=>e (h1.trans z))];exact ⟨h1,h2⟩
theorem KV.put {kvs:List (κ×V)} {vs:List (κ×Value)} (r:KV kvs vs) (k:κ) {y:V} {u:Value} (ry:RelV y u):KV (bK kvs k y) (stored vs k u):=by
 unfold bK stored;rw [r.any k]
 by_cases e:(vs.any fun kv=>decide (kv.1=k))=true
 ·rw [if_pos e,if_pos e];exact r.repl k ry
 ·rw [if_neg e,if_neg e];exact Paired.snoc r ⟨rfl,ry⟩
theorem KV.keys {kvs:List (κ×V)} {vs:List (κ×Value)} (r:KV kvs vs):kvs.map (·.1)=vs.map (·.1):=by
 unfold KV at r
 induction r with
 | nil=>rfl
 | cons h t ih=>rw [List.map_cons,List.map_cons,ih,h.1]
theorem KV.length {kvs:List (κ×V)} {vs:List (κ×Value)} (r:KV kvs vs):kvs.length=vs.length:=Paired.length r
end
theorem iL {P:Program} {w:World} {k:Key} {u:Value} (r:RelV (kV k) u):(aq P w).is k u=true:=by
 cases k with
 | inl i=>obtain ⟨t,e⟩:=(show ∃ t,u=Value.int i t from r);subst e;exact lX P w i t
 | inr x=>obtain ⟨t,e⟩:=(show ∃ t,u=Value.str x t from r);subst e;exact lY P w x t
theorem jE {P:Program} {w:World}:∀ {ks:List Key} {us:List Value},Vals (ks.map kV) us→ItemsAre (aq P w) ks us
 | [],_,r=>by rw [List.map_nil] at r;cases r;exact .nil
 | k :: ks,_,r=>by
  rw [List.map_cons] at r
  cases r with
  | cons h t=>exact .cons (iL h) (jE t)
abbrev KT (H:Hp):List (List Key×V)→List (List Key×Addr×Value)→Prop:=Paired fun p q=>p.1=q.1∧H q.2.1=some (.tup (p.1.map kV))∧RelV p.2 q.2.2
theorem KT.val {H:Hp} {kvs:List (List Key×V)} {xs:List (List Key×Addr×Value)} (r:KT H kvs xs) (k:List Key):RelO (aK kvs k) ((atKey xs k).map (·.2)):=by
 induction r with
 | nil=>exact True.intro
 | @cons p q ps qs h t ih =>
  obtain ⟨h1,_,h2⟩:=h
  by_cases e:p.1=k
  ·have e':q.1=k:=h1.symm.trans e;have b:atKey (q :: qs) k=some q.2:=by simp [atKey,List.find?_cons,e']
   rw [bc e,b];exact h2
  ·have e':¬ q.1=k:=fun z=>e (h1.trans z);have b:atKey (q :: qs) k=atKey qs k:=by simp [atKey,List.find?_cons,e']
   rw [bd e,b];exact ih
theorem KT.repl {H:Hp} {kvs:List (List Key×V)} {xs:List (List Key×Addr×Value)} (r:KT H kvs xs) (k:List Key) {y:V} {u:Value} (ry:RelV y u) :
  KT H (kvs.map fun kv=>if kv.1=k then (kv.1,y) else kv) (xs.map (putAt k u)):=by
 induction r with
 | nil=>exact .nil
 | @cons p q ps qs h t ih =>
  rw [List.map_cons,List.map_cons];refine .cons ?_ ih;obtain ⟨h1,h2,h3⟩:=h;unfold putAt
  by_cases e:p.1=k
  ·rw [if_pos e,if_pos (h1.symm.trans e)];exact ⟨h1,h2,ry⟩
  ·rw [if_neg e,if_neg (fun z=>e (h1.trans z))];exact ⟨h1,h2,h3⟩
theorem KT.put {H:Hp} {kvs:List (List Key×V)} {xs:List (List Key×Addr×Value)} (r:KT H kvs xs) (k:List Key) {b:Addr} {y:V} {u:Value} (hb:H b=some (.tup (k.map kV))) (ry:RelV y u) :
  KT H (bK kvs k y) (storedH xs k b u):=by
 have e:(kvs.any fun kv=>decide (kv.1=k))=(atKey xs k).isSome:=by
  rw [gq,(r.val k).isSome_eq,Option.isSome_map]
 unfold bK storedH;rw [e]
 by_cases q:(atKey xs k).isSome=true
 ·rw [if_pos q,if_pos q];exact r.repl k ry
 ·rw [if_neg q,if_neg q];exact Paired.snoc r ⟨rfl,hb,ry⟩
theorem KT.keeps {H H':Hp} {kvs:List (List Key×V)} {xs:List (List Key×Addr×Value)} (r:KT H kvs xs) (ht:∀ b ys,H b=some (.tup ys)→H' b=some (.tup ys)):KT H' kvs xs :=
 Paired.mapP r fun _ _ z=>⟨z.1,ht _ _ z.2.1,z.2.2⟩
section
variable {P:Program} {w:World} {H:Hp} {h:Heap} {a:Addr}
theorem uH {u:HO} (ok:HOk P w H h) (e:Rd H a u):ObjOk P w H h a u:=e.ok ok
theorem mx {kvs:List (Key×V)} (ok:HOk P w H h) (e:Rd H a (.dK kvs)):kvs.length≤sizeLine∧(a == sysModules)=false∧∃ vs,KV kvs vs∧h.DictOf (aq P w) a vs :=
 show ObjOk P w H h a (.dK kvs) from uH ok e
theorem o7 {kvs:List (Key×V)} (ok:HOk P w H h) (e:H a=some (.dK kvs)):kvs.length≤sizeLine∧(a == sysModules)=false∧∃ vs,KV kvs vs∧h.DictOf (aq P w) a vs:=mx ok (.inl e)
theorem kj {ks:List Key} (ok:HOk P w H h) (e:H a=some (.tup (ks.map kV))):(tupleKind (aq P w)).is h ks a:=by
 obtain ⟨_,its,r,o,h1,h2,n,h3⟩:=(show ObjOk P w H h a (.tup (ks.map kV)) from ok a _ e);exact ⟨o,its.toArray,n,h1,h2,h3,by simpa using jE r⟩
theorem my {kvs:List (List Key×V)} (ok:HOk P w H h) (e:Rd H a (.dT kvs)):kvs.length≤sizeLine∧(a == sysModules)=false ∧
  ∃ xs,KT H kvs xs∧h.DictOfH (tupleKind (aq P w)) a xs:=by
 obtain ⟨z,y,xs,r,o,es,ep,h1,h2,h3,h4,h5⟩:=(show ObjOk P w H h a (.dT kvs) from uH ok e);refine ⟨z,y,xs,r,o,es,ep,h1,h2,h3,h4,fun x hx=>?_,h5⟩;have all:∀ {l:List (List Key×V)} {m:List (List Key×Addr×Value)},KT H l m→∀ x∈m,(tupleKind (aq P w)).is h x.1 x.2.1:=by
  intro l m q
  induction q with
  | nil=>intro x hx;exact nomatch hx
  | @cons p q ps qs hq t ih =>
   intro x hx;rcases List.mem_cons.mp hx with e | hx
   ·subst e;exact kj ok (by rw [← hq.1];exact hq.2.1)
   ·exact ih x hx
 exact all r x hx
theorem wY {kvs:List (List Key×V)} (ok:HOk P w H h) (e:H a=some (.dT kvs)):kvs.length≤sizeLine∧(a == sysModules)=false ∧
  ∃ xs,KT H kvs xs∧h.DictOfH (tupleKind (aq P w)) a xs:=my ok (.inl e)
end
def DGet (H:Hp) (a:Addr) (y:V) (r:Option V):Prop :=
 (∃ kvs k,Rd H a (.dK kvs)∧y=kV k∧r=aK kvs k)∨∃ kvs k b,Rd H a (.dT kvs)∧y=.ref b∧H b=some (.tup (k.map kV))∧r=aK kvs k
def DPut (H:Hp) (a:Addr) (y v:V) (H':Hp):Prop :=
 (∃ kvs k,H a=some (.dK kvs)∧y=kV k∧kvs.length < sizeLine∧H'=upd H a (.dK (bK kvs k v))) ∨
 ∃ kvs k b,H a=some (.dT kvs)∧y=.ref b∧H b=some (.tup (k.map kV))∧kvs.length < sizeLine∧H'=upd H a (.dT (bK kvs k v))
theorem DGet.k {H:Hp} {a:Addr} {kvs:List (Key×V)} {k:Key} (e:H a=some (.dK kvs)):DGet H a (kV k) (aK kvs k):=.inl ⟨kvs,k,.inl e,rfl,rfl⟩
theorem DGet.t {H:Hp} {a b:Addr} {kvs:List (List Key×V)} {k:List Key} (e:H a=some (.dT kvs)) (eb:H b=some (.tup (k.map kV))):DGet H a (.ref b) (aK kvs k):=.inr ⟨kvs,k,b,.inl e,rfl,eb,rfl⟩
theorem DPut.k {H:Hp} {a:Addr} {kvs:List (Key×V)} {k:Key} {v:V} (e:H a=some (.dK kvs)) (hl:kvs.length < sizeLine):DPut H a (kV k) v (upd H a (.dK (bK kvs k v))):=.inl ⟨kvs,k,e,rfl,hl,rfl⟩
theorem DPut.t {H:Hp} {a b:Addr} {kvs:List (List Key×V)} {k:List Key} {v:V} (e:H a=some (.dT kvs)) (eb:H b=some (.tup (k.map kV))) (hl:kvs.length < sizeLine) :
  DPut H a (.ref b) v (upd H a (.dT (bK kvs k v))):=.inr ⟨kvs,k,b,e,rfl,eb,hl,rfl⟩
section
variable {X:Cx} {pins:List (Addr×Obj)} {σ:St} {H:Hp} {s:Shared} {a:Addr} {y v:V} {u r:Value} {o:Option V} {A:Around} {E:Value→Shared→Prop}
theorem Inv.big (I:Inv X pins σ H s):sysModules < s.heap.objs.size:=by
 have h:mainGlobals < s.heap.objs.size:=(I.mod.glob.keeps I.bk).lt;exact Nat.lt_trans (by decide) h
theorem qo {Q:Value→Shared→Prop} (hu:A.units+1 < cLine) (I:Inv X pins σ H s) (g:DGet H a y (some v)) (ry:RelV y u) (h:∀ w' s',Inv X pins σ H s'→RelV v w'→Q w' s') :
  wpAny (model X.prog X.w) A (getItem (.ref a) u) Q E s:=by
 rcases g with ⟨kvs,k,e,ey,l⟩ | ⟨kvs,k,b,e,ey,eb,l⟩
 ·subst ey;obtain ⟨z,hd,vs,rel,dd⟩:=mx I.hok e;obtain ⟨w',hw,rw'⟩:=RelO.some_of (v:=v) (o:=valueAt vs k) (by rw [l];exact rel.val k);exact wpAny_getItem_of (iL ry) dd.mapOf hw (h w' _ (I.tok _) rw')
 ·subst ey
  cases (show u=Value.ref b from ry)
  obtain ⟨z,hd,xs,rel,dd⟩:=my I.hok e;obtain ⟨w',hw,rw'⟩:=RelO.some_of (v:=v) (o:=(atKey xs k).map (·.2)) (by rw [l];exact rel.val k);obtain ⟨p,hp,hp2⟩:=Option.map_eq_some_iff.mp hw;refine wpAny_getItem_heap (tupleKind_room_in1 hu) (kj I.hok eb) dd hp ?_;rw [hp2];exact h w' _ (I.tok _) rw'
theorem km {h':Heap} {t':Nat} {ob:HO} (I:Inv X pins σ H s) (mu:Mut (H a)) (hs:Heap.SameBut a s.heap h') (he:∃ q,h'.get? a=some q) (new:ObjOk X.prog X.w (upd H a ob) h' a ob) :
  Inv X pins σ (upd H a ob) { s with heap:=h',toks:=t' } :=
 I.write (x:=a) (e:=a) mu (.inl rfl) (fun b q hb z=>(hs.2 b hb).trans z) he new
theorem n8 {P:Program} {w:World} {H':Hp} {h':Heap} {kvs:List (Key×V)} {vs:List (Key×Value)} (z:kvs.length≤sizeLine) (hd:(a == sysModules)=false) (rel:KV kvs vs) (dd:h'.DictOf (aq P w) a vs) :
  ObjOk P w H' h' a (.dK kvs):=⟨z,hd,vs,rel,dd⟩
theorem qp {H':Hp} {Q:Unit→Shared→Prop} (hu:A.units+1 < cLine) (I:Inv X pins σ H s) (g:DPut H a y v H') (ry:RelV y u) (rv:RelV v r) (h:∀ s',Inv X pins σ H' s'→Q () s') :
  wpAny (model X.prog X.w) A (setItem (.ref a) u r) Q E s:=by
 rcases g with ⟨kvs,k,e,ey,l,eH⟩ | ⟨kvs,k,b,e,ey,eb,l,eH⟩
 ·subst ey eH;obtain ⟨z,hd,vs,rel,dd⟩:=o7 I.hok e;have hz:vs.length≤sizeLine:=by rw [← rel.length];exact z
  have hl:(bK kvs k v).length≤sizeLine:=by have:=cm kvs k v;lia
  refine wpAny_setItem_pairs (hsz:=hz) (iL ry) dd fun h' dd' hs=>h _ ?_;have he:∃ q,h'.get? a=some q:=let ⟨q,_,_,hq,_⟩:=dd';⟨q,hq⟩;exact km I (by rw [e];exact True.intro) hs he (n8 hl hd (rel.put k rv) dd')
 ·subst ey eH
  cases (show u=Value.ref b from ry)
  obtain ⟨z,hd,xs,rel,dd⟩:=wY I.hok e;have hz:xs.length≤sizeLine:=by rw [← Paired.length rel];exact z
  have hl:(bK kvs k v).length≤sizeLine:=by have:=cm kvs k v;lia
  refine wpAny_setItem_heap (hsz:=hz) (tupleKind_room_in1 hu) (kj I.hok eb) dd fun h' dd' hs=>h _ ?_;obtain ⟨q,es,ep,hq,h2,h3,h4,_,h5⟩:=dd';refine km I (by rw [e];exact True.intro) hs ⟨q,hq⟩ ⟨hl,hd,_,(rel.put k eb rv).keeps fun c ys ec=>?_,q,es,ep,hq,h2,h3,h4,h5⟩;rw [af (gj ec e (fun z=>nomatch z))];exact ec
end
section
variable {X:Cx} {pins:List (Addr×Obj)} {σ:St} {H:Hp} {s:Shared} {a:Addr} {kvs:List (Key×V)} {k:Key} {u:Value} {A:Around} {E:Value→Shared→Prop}
end
def wZ (i:Expr):Prop:=∀ ov iv,subscripted i false ov iv=operate [ov,iv] (getItem ov iv)
theorem tE {prog:Program} {w:World} {A:Around} {E:Value→Shared→Prop} {s:Shared} {env:Env} {value slice:Expr} {pos:Pos} {T id:String} {Q:Value→Shared→Prop}
  (hl:typeLookup (.type T) "__getitem__" = pure (some (.builtin id))) (hs:wZ slice)
  (h:wpAny (model prog w) A (eval value env) (fun o s₁=>wpAny (model prog w) A (eval slice env) (fun i s₂=>s₂.TypeIs o T∧wpAny (model prog w) A (getItem o i) Q E s₂) E s₁) E s) :
  wpAny (model prog w) A (eval (.Subscript value slice pos) env) Q E s:=by
 refine Subscript_ (wpAny_mono h (fun o s₁ h₁=>wpAny_mono h₁ (fun i s₂ h₂=>?_) fun _ _ x=>x) fun _ _ x=>x);obtain ⟨hT,h₂⟩:=h₂;unfold subscriptTail;refine wpAny_bind ?_;rw [getitemInPython_of_ne hT.not_modules];refine wpAny_bind (wpAny_specialOf hT hl ?_);have fin:wpAny (model prog w) A (subscripted slice false o i) (fun r s₃=>wpAny (model prog w) A (letTemporaryGo value o r >>= fun _=>pure r) Q E s₃) E s₂:=by
  rw [hs o i];exact wpAny_operating (wpAny_mono h₂ (fun r s₃ h₃=>wpAny_bind (wpAny_letTemporaryGo (wpAny_pure h₃))) fun _ _ x=>x)
 first
  | exact wpAny_pure (wpAny_bind fin)
  | exact wpAny_bind (wpAny_pure (wpAny_bind fin))
  | exact wpAny_bind fin
theorem mz {X:Cx} {pins:List (Addr×Obj)} {σ:St} {H:Hp} {s:Shared} {a:Addr} {y:V} {o:Option V} (I:Inv X pins σ H s) (g:DGet H a y o):s.TypeIs (.ref a) "dict" :=by
 rcases g with ⟨kvs,k,e,_,_⟩ | ⟨kvs,k,b,e,_,_,_⟩
 ·obtain ⟨_,_,vs,_,dd⟩:=mx I.hok e;exact dd.typeIs
 ·obtain ⟨_,_,xs,_,dd⟩:=my I.hok e;exact dd.typeIs
def xf (td ty:TE):TE:=fun σ H Q=>td σ H fun x H1=>ty σ H1 fun y H2=>∃ a v,x=.ref a∧DGet H2 a y (some v)∧Q v H2
def xh (td ty tv:TE):TS:=fun D σ H=>tv σ H fun v H1=>td σ H1 fun x H2=>ty σ H2 fun y H3=>∃ a H4,x=.ref a∧DPut H3 a y v H4∧D.nx σ H4
section
variable {X:Cx} {o i e value:Expr} {pos pos' tpos:Pos} {td ty tv:TE}
theorem o8 (hu:X.A.units+1 < cLine) (ho:PE X o td) (hi:PE X i ty) (hs:wZ i):PE X (.Subscript o i pos) (xf td ty):=by
 intro pins s σ H Q I h;refine tE PySem.F.slot_dict_getitem.lookup hs (thn (ho pins s σ H _ I h) fun u s1 ⟨x,H1,I1,rx,q1⟩=>thn (hi pins s1 σ H1 _ I1 q1) fun iv s2 ⟨y,H2,I2,ry,a,v,ex,g,q2⟩=>?_);subst ex;obtain rfl:u=Value.ref a:=rx;exact ⟨mz I2 g,qo hu I2 g ry fun w' s3 I3 rw'=>⟨v,H2,I3,rw',q2⟩⟩
theorem tF (hu:X.A.units+1 < cLine) (ho:PE X o td) (hi:PE X i ty) (hv:PE X value tv) (hs:swapsWith value (some (.Subscript o i pos')) pos.line X.env=pure false) :
  PS X (.Assign [.Subscript o i pos'] value pos) (xh td ty tv):=by
 intro pins s σ H D I h;refine wpAny_Assign_Subscript (thn (hv pins s σ H _ I h) fun r s1 ⟨v,H1,I1,rv,q1⟩=>thn (ho pins s1 σ H1 _ I1 q1) fun u s2 ⟨x,H2,I2,rx,q2⟩=>thn (hi pins s2 σ H2 _ I2 q2) fun iv s3 ⟨y,H3,I3,ry,a,H4,ex,g,q3⟩=>?_) hs;subst ex;obtain rfl:u=Value.ref a:=rx;exact qp hu I3 g ry rv fun s4 I4=>⟨σ,H4,I4,q3⟩
end
theorem rq {P:Program} {w:World} {H:Hp} (h:Heap) (hb:sysModules < h.objs.size):ObjOk P w H (h.push { cls:=.type "dict",data:=.dict #[] }) h.objs.size (.dK []) :=
 ⟨Nat.zero_le _,beq_eq_false_iff_ne.mpr (Ne.symm (Nat.ne_of_lt hb)),[],.nil,Heap.DictOf.new h⟩
def vE:TE:=fun _ H Q=>∀ p,H p=none→Q (.ref p) (upd H p (.dK []))
section
variable {X:Cx} {pos:Pos}
theorem mB:PE X (.Dict [] [] pos) vE:=fun pins s σ H Q I h =>
 wpAny_Dict_empty ⟨.ref s.heap.objs.size,_,I.laid (a:=s.heap.objs.size) (o:=.dK []) (t':=s.toks) (fun _ _ q=>Heap.get?_push_of_some _ q) (Nat.le_refl _) (rq s.heap I.big),rfl,h _ (I.hok.fresh (Nat.le_refl _))⟩
end
structure M2 (X:Cx) (o:Expr) (m:Str) (apos:Pos) (e f:Expr) (cpos:Pos):Prop where
 base:attributeBase o m X.env (eval o X.env)=eval o X.env
 few:((backTo cpos (starEach [e,f] X.env)).all (fun x=>!x.1) && (backToKw cpos (keywordEach [] X.env)).all (fun x=>x.1.isSome)
  && decide (([e,f]:List Expr).length+([]:List Keyword).length+(if ([]:List Keyword).isEmpty then 0 else 1) < 30))=true
 line:(apos.endLine == cpos.line)=true
 trees:backTo cpos (starEach [e,f] X.env)=[(false,eval e X.env),(false,eval f X.env)]
def n9 (H:Hp) (a:Addr):Prop:=(∃ kvs,Rd H a (.dK kvs))∨∃ kvs,Rd H a (.dT kvs)
theorem jF {X:Cx} {pins:List (Addr×Obj)} {σ:St} {H:Hp} {s:Shared} {a:Addr} (I:Inv X pins σ H s) (d:n9 H a) :
  s.TypeIs (.ref a) "dict" ∧(∀ b,Value.ref a=.ref b→∃ ob,s.heap.get? b=some ob∧ob.dict=none)∧(a == sysModules)=false:=by
 rcases d with ⟨kvs,e⟩ | ⟨kvs,e⟩
 ·obtain ⟨_,hd,vs,_,dd⟩:=mx I.hok e;refine ⟨dd.typeIs,fun b q=>?_,hd⟩
  cases q
  obtain ⟨ob,_,_,h1,h2,_⟩:=dd;exact ⟨ob,h1,h2.2.1⟩
 ·obtain ⟨_,hd,xs,_,dd⟩:=my I.hok e;refine ⟨dd.typeIs,fun b q=>?_,hd⟩
  cases q
  obtain ⟨ob,_,_,h1,h2,_⟩:=dd;exact ⟨ob,h1,h2.2.1⟩
section
variable {X:Cx} {pins:List (Addr×Obj)} {σ:St} {H:Hp} {s:Shared} {a:Addr} {y d:V} {u r:Value} {o:Option V} {A:Around} {E:Value→Shared→Prop}
theorem vF {Q:Value→Shared→Prop} (hu:A.units+1 < cLine) (I:Inv X pins σ H s) (g:DGet H a y o) (ry:RelV y u) (rd:RelV d r) (h:∀ w' s',Inv X pins σ H s'→RelV (o.getD d) w'→Q w' s') :
  wpAny (model X.prog X.w) A (call (.builtin "dict.get") [.ref a,u,r]) Q E s:=by
 rcases g with ⟨kvs,k,e,ey,l⟩ | ⟨kvs,k,b,e,ey,eb,l⟩
 ·subst ey;obtain ⟨z,hd,vs,rel,dd⟩:=mx I.hok e;refine call_meetsIn PySem.F.slot_dict_get dd.typeIs PySem.F.entry_dict_get (PySem.F.args_dict_get_3 _ _ _) (meets_dict_get_default (aq X.prog X.w) a (iL ry) hd r) ⟨_,dd.mapOf,h _ _ (I.tok _) ?_⟩;rw [l];exact (rel.val k).getD rd
 ·subst ey
  cases (show u=Value.ref b from ry)
  obtain ⟨z,hd,xs,rel,dd⟩:=my I.hok e;refine call_meetsIn PySem.F.slot_dict_get dd.typeIs PySem.F.entry_dict_get (PySem.F.args_dict_get_3 _ _ _) (meetsH_dict_get_default (tupleKind (aq X.prog X.w)) a b hd r) ⟨tupleKind_room_in1 hu,k,xs,kj I.hok eb,dd,h _ _ (I.tok _) ?_⟩;rw [l];exact (rel.val k).getD rd
end
def vG (td ty tx:TE):TE:=fun σ H Q=>td σ H fun x H1=>∃ a,x=.ref a∧n9 H1 a∧ty σ H1 fun y H2=>tx σ H2 fun z H3=>∃ o,DGet H3 a y o∧Q (o.getD z) H3
section
variable {X:Cx} {o e f:Expr} {apos cpos:Pos} {td ty tx:TE}
theorem rA (hu:X.A.units+1 < cLine) (ho:PE X o td) (he:PE X e ty) (hf:PE X f tx) (m:M2 X o "get" apos e f cpos):PE X (.Call (.Attribute o "get" apos) [e,f] [] cpos) (vG td ty tx):=by
 intro pins s σ H Q I h;refine wpAny_Call_method m.base m.few m.line PySem.F.plainAttrs_dict PySem.F.slot_dict_get PySem.F.type_dict_get (thn (ho pins s σ H _ I h) fun u s1 ⟨x,H1,I1,rx,a,ex,d,q1⟩=>?_);subst ex;obtain rfl:u=Value.ref a:=rx;obtain ⟨t1,t2,_⟩:=jF I1 d;refine ⟨t1,t2,?_⟩;rw [m.trees];refine Calls.callWith_builtin rfl (Calls.evalArgs_plain (Calls.spliced_cons (thn (he pins s1 σ H1 _ I1 q1) fun iv s2 ⟨y,H2,I2,ry,q2⟩ =>
  Calls.spliced_cons (thn (hf pins s2 σ H2 _ I2 q2) fun fv s3 ⟨z,H3,I3,rz,ov,g,q3⟩=>Calls.spliced_nil ?_))))
 exact vF hu I3 g ry rz fun w' s4 I4 rw'=>⟨_,H3,I4,rw',q3⟩
end
section
variable {X:Cx} {pins:List (Addr×Obj)} {σ:St} {H:Hp} {s:Shared} {a:Addr} {kvs:List (Key×V)} {A:Around} {E:Value→Shared→Prop}
end
section
variable {X:Cx} {pins:List (Addr×Obj)} {σ:St} {H:Hp} {s:Shared} {a:Addr} {y:V} {u:Value} {A:Around} {E:Value→Shared→Prop}
end
end L2
namespace PySem
open Sem (wp)
namespace F
theorem entry_dict_update_loop:entryFor table "dict.update.loop" = some Builtin.«dict.update.loop»:=entryFor_of_tree (by kernel_rfl)
theorem plain_dict_update_loop:plainId "dict.update.loop" = true:=by decide +kernel
theorem miss_keys_tuple:typeLookup (.type "tuple") "keys" = pure none:=by rw [typeLookup_type,builtinLookup_eq_fast];kernel_rfl
end F
theorem iu {prog:Program} {w:World} {A:Around} {E:Value→Shared→Prop} {s:Shared} {a:Addr} {o:Obj} {xs:Array Value} {k:Nat} {Q:Option Value→Shared→Prop}
  (hx:s.heap.get? a=some o) (hc:o.cls=.type "tuple") (hdat:o.data=.seq xs k) (hd:o.dict=none) (hA:A.handled=none)
  (h:∀ h' tk e,Heap.NewExcOf s.heap h' e "AttributeError" →Q none { s with heap:=h',toks:=tk }) :
  wpAny (model prog w) A (getAttr? (.ref a) "keys") Q E s:=by
 obtain ⟨c,dct,dat,sl⟩:=o;simp only at hc hdat hd;subst hc hdat hd;obtain ⟨hp,g,d,tk,os⟩:=s;have hT:∀ tk',(⟨hp,g,d,tk',os⟩:Shared).TypeIs (.ref a) "tuple" :=fun _=>⟨_,hx,rfl⟩;have f1:=sub_AttributeError;have f3:=F.slot_tuple_getattribute.lookup;have f4:=F.slot_tuple_getattribute.bind (.ref a);have f5:=am_tuple_getattr_none;unfold getAttr? getAttrBy? getAttrBy
 repeat (any_goals (first | assumption | exact hT _ | ((with_reducible show wpAny _ _ (call (Value.builtin "tuple.__getattribute__") _ _) _ _ _);refine call_meets F.slot_tuple_getattribute (hT _) am_entry_tuple_getattribute (F.args_tuple_getattribute_2 _ _) (meets_getattribute_miss_tuple a xs k sl "keys" _ F.miss_keys_tuple (by decide)) ⟨hx,hA,fun h' tk' e hx'=>?_⟩) | wp_step))
 obtain ⟨t',u',he⟩:=hx'.there;show wpAny _ _ (getattributeRaised _ _ _ _ _ _ _) _ _ _;unfold getattributeRaised
 repeat (any_goals (first | assumption | wp_step))
 all_goals exact h _ _ _ hx'.of
end PySem
namespace PySem
open Sem (wp)
section
variable {prog:Program} {w:World} {K:Type} [DecidableEq K] {knd:KeyKind prog w K} {A:Around} {E:Value→Shared→Prop}
def Heap.PairItems (h:Heap) (knd:KeyKind prog w K) (items:Array Value) (kvs:List (K×Value)):Prop :=
 items.size=kvs.length∧∀ (i:Nat) (kv:K×Value),kvs[i]?=some kv→∃ (a:Addr) (key:Value),items[i]?=some (.ref a)∧h.IsTuple a #[key,kv.2]∧knd.is kv.1 key=true
theorem Heap.PairItems.stay {h h':Heap} {items:Array Value} {kvs:List (K×Value)} (x:h.PairItems knd items kvs) (k:∀ (i:Nat) (a:Addr) (o:Obj),items[i]?=some (.ref a)→h.get? a=some o→h'.get? a=some o):h'.PairItems knd items kvs :=
 ⟨x.1,fun i kv e=>by
  obtain ⟨a,key,e1,⟨o,e2,r⟩,e3⟩:=x.2 i kv e;exact ⟨a,key,e1,⟨o,k i a o e1 e2,r⟩,e3⟩⟩
theorem gu {t it d:Addr} {items:Array Value} {kvs:List (K×Value)} {R:Result→Shared→Prop} (hh:A.handled=none) (hdt:t≠d) (hit:t≠it) (hdi:d≠it) (hav:∀ (i:Nat) (a:Addr),items[i]?=some (.ref a)→a≠d∧a≠it) (hsz:kvs.length+kvs.length≤sizeLine) :
  ∀ (n i:Nat) (s:Shared) (acc:List (K×Value)),kvs.length - i=n→i≤kvs.length→acc.length≤i→s.heap.IsTuple t items→s.heap.PairItems knd items kvs→s.heap.IsTupleIter it t i→s.heap.DictOf knd d acc →
   (∀ h' tk,h'.DictOf knd d (merged acc (kvs.drop i))→(∀ b o,b≠d→b≠it→s.heap.get? b=some o→h'.get? b=some o)→R (.ok (.ret .none)) { s with heap:=h',toks:=tk }) →
   codeAny (model prog w) A (.builtin "dict.update.loop" ⟨[.ref d,.ref it,rawInt i,.none],[]⟩) R s:=by
 intro n
 induction n with
 | zero =>
  intro i s acc hn hi ha ht hp hs hd hR;have e:i=kvs.length:=by lia
  refine codeAny_builtin F.entry_dict_update_loop ?_;rw [Around.under_plainId F.plain_dict_update_loop _];show wpAny _ A.in1 (pyNext (.ref it) >>= _) _ _ s;refine wpAny_bind (wpAny_pyNext_tuple_end (by first | exact hh | simpa using hh) hs ht (by rw [e,← hp.1];simp) fun h' eb=>?_);show wpAny _ _ (Builtin.Dict.addKeywords d [] >>= _) _ _ _;have hd':h'.DictOf knd d acc:=by
   obtain ⟨o,es,ep,ho,r⟩:=hd;exact ⟨o,es,ep,eb d o hdi ho,r⟩
  have q:=hR h' s.toks (by rw [e,List.drop_length];exact hd') fun b o _ hb z=>eb b o hb z;exact wpAny_bind (wpAny_pure (wpAny_pure q))
 | succ n ih =>
  intro i s acc hn hi ha ht hp hs hd hR;have hlt:i < kvs.length:=by lia
  obtain ⟨kv,hkv⟩:∃ kv,kvs[i]?=some kv:=⟨_,List.getElem?_eq_getElem hlt⟩;obtain ⟨a,key,hx,hpair,hkey⟩:=hp.2 i kv hkv;refine codeAny_builtin F.entry_dict_update_loop ?_;rw [Around.under_plainId F.plain_dict_update_loop _];show wpAny _ A.in1 (pyNext (.ref it) >>= _) _ _ s;refine wpAny_bind (wpAny_pyNext_tuple_item hs ht hx fun h1 hs1 sb=>?_);obtain ⟨av1,av2⟩:=hav i a hx;have keep1:∀ b o,b≠it→s.heap.get? b=some o→h1.get? b=some o:=fun b o hb z=>(sb.2 b hb).trans z;obtain ⟨po,pe,pc,pn,pd⟩:=hpair;have pe1:=keep1 a po av2 pe;have hd1:h1.DictOf knd d acc:=by
   obtain ⟨o,es,ep,ho,r⟩:=hd;exact ⟨o,es,ep,keep1 d o hdi ho,r⟩
  refine wpAny_bind (wpAny_holding ?_);refine wpAny_bind (wpAny_tryCatch ?_);unfold Builtin.Dict.pairItems;refine wpAny_bind (wpAny_typeOf (T:= "tuple") ⟨_,pe1,pc⟩ ?_);rw [if_pos (by decide)];refine wpAny_bind (wpAny_seqItems pe1 pd ?_);refine wpAny_pure ?_;show wpAny _ _ (holding [key,kv.2] (dictSet d key kv.2)) _ _ _;refine wpAny_holding (wpAny_dictSet_pairs (s:={ s with heap:=h1 }) hkey hd1 (fun h2 hd2 sb2=>?_) (by lia));refine wpAny_pure ⟨plainId_quiet F.plain_dict_update_loop _,?_⟩;have keep2:∀ b o,b≠d→b≠it→s.heap.get? b=some o→h2.get? b=some o:=fun b o hb hb' z=>(sb2.2 b hb).trans (keep1 b o hb' z);have hlen:(stored acc kv.1 kv.2).length≤i+1:=by have:=stored_length_le acc kv.1 kv.2;lia
  have ht2:h2.IsTuple t items:=by
   obtain ⟨o,ho,r⟩:=ht;exact ⟨o,keep2 t o hdt hit ho,r⟩
  have hs2:h2.IsTupleIter it t (i+1):=by
   obtain ⟨o,ho,r⟩:=hs1;exact ⟨o,(sb2.2 it (Ne.symm hdi)).trans ho,r⟩
  have e:rawInt ((i:Int)+1)=rawInt ((i+1:Nat):Int):=by rw [Int.natCast_add];rfl
  show codeAny _ _ (.builtin "dict.update.loop" ⟨[.ref d,.ref it,rawInt ((i:Int)+1),.none],[]⟩) _ _;rw [e];refine ih (i+1) { s with heap:=h2,toks:=s.toks+1 } (stored acc kv.1 kv.2) (by lia) hlt hlen ht2 (hp.stay fun j b o z z2=>keep2 b o (hav j b z).1 (hav j b z).2 z2) hs2 hd2 fun h' tk hd' k'=>?_;have q:=hR h' tk (by
   have z:kvs.drop i=kv :: kvs.drop (i+1):=by
    rw [List.drop_eq_getElem_cons hlt];rw [List.getElem?_eq_getElem hlt] at hkv;rw [Option.some.inj hkv]
   rw [z];exact hd') fun b o hb hb' z=>k' b o hb hb' (keep2 b o hb hb' z)
  exact q
theorem iw {s:Shared} {t:Addr} {o:Obj} {items:Array Value} {n:Nat} {kvs:List (K×Value)} {Q:Value→Shared→Prop} (hh:A.handled=none) (ho:s.heap.get? t=some o) (hc:o.cls=.type "tuple") (hdat:o.data=.seq items n) (hd:o.dict=none)
  (hp:s.heap.PairItems knd items kvs) (hsz:kvs.length+kvs.length≤sizeLine)
  (h:∀ h' tk,h'.DictOf knd s.heap.objs.size (merged [] kvs)→(∀ b o,s.heap.get? b=some o→h'.get? b=some o)→Q (.ref s.heap.objs.size) { s with heap:=h',toks:=tk }) :
  wpAny (model prog w) A (call (.type "dict") [.ref t]) Q E s:=by
 refine callType_codes (Q₁:=fun obj s₁=>obj=.ref s.heap.objs.size∧s₁={ s with heap:=s.heap.push { cls:=.type "dict",data:=.dict #[] } }) F.kt_called_dict (F.kt_typeCall_dict_1 _) F.entry_dict_init (kt_code_dict_new _ ⟨rfl,rfl⟩) ?_;rintro obj s₁ ⟨rfl,rfl⟩;have hnew:(s.heap.push { cls:=.type "dict",data:=.dict #[] }).DictOf knd s.heap.objs.size []:=Heap.DictOf.new s.heap;have ho1:(s.heap.push { cls:=.type "dict",data:=.dict #[] }).get? t=some o:=Heap.get?_push_of_some _ ho;have htl:t < s.heap.objs.size:=Heap.lt_size ho;refine ⟨hnew.typeIs,F.args_dict_init_2 _ _,?_⟩;unfold Builtin.«dict.__init__»;refine wpAny_bind ?_;unfold Builtin.Dict.selfAndRest;refine wpAny_bind (wpAny_notOrdered_dict hnew.typeIs ?_);show wpAny _ _ (pure (s.heap.objs.size,[Value.ref t])) _ _ _;refine wpAny_pure ?_;show wpAny _ _ (Builtin.Dict.updateFrom "dict.__init__" s.heap.objs.size (.ref t) [] .none) _ _ _;unfold Builtin.Dict.updateFrom;refine wpAny_bind (wpAny_typeOf (T:= "tuple") ⟨_,ho1,hc⟩ ?_);rw [if_pos (by decide)];refine wpAny_bind (iu ho1 hc hdat hd (by first | exact hh | simpa using hh) fun h1 tk1 e hx=>?_);rw [if_pos (by rfl)];refine wpAny_bind (wpAny_rule ?_);have kp1:∀ b o,(s.heap.push { cls:=.type "dict",data:=.dict #[] }).get? b=some o→h1.get? b=some o:=fun b o z=>hx.keeps b o z;have ht1:h1.IsTuple t items:=⟨o,kp1 t o ho1,hc,n,hdat⟩;refine wpAny_bind (wpAny_pyIter_tuple ht1 ?_);have hit:s.heap.objs.size < h1.objs.size:=by
  obtain ⟨o2,es,ep,ho2,_⟩:=hnew;exact Heap.lt_size (kp1 _ _ ho2)
 have kp0:∀ b o,s.heap.get? b=some o→h1.get? b=some o:=fun b o z=>kp1 b o (Heap.get?_push_of_some _ z);refine wpAny_pure ⟨plainId_quiet F.plain_dict_update_loop _,?_⟩;refine gu (knd:=knd) (t:=t) (items:=items) (kvs:=kvs) (by first | exact hh | simpa using hh) (Nat.ne_of_lt htl) (Nat.ne_of_lt (Nat.lt_trans htl hit)) (Nat.ne_of_lt hit) (fun i a z=>?_) hsz kvs.length 0 _ [] (by lia) (Nat.zero_le _) (Nat.le_refl _)
  ⟨o,Heap.get?_push_of_some _ (kp1 t o ho1),hc,n,hdat⟩ (hp.stay fun i a o2 _ z=>Heap.get?_push_of_some _ (kp0 a o2 z)) ⟨_,Heap.get?_push_size _ rfl,rfl,rfl⟩ ?_ fun h' tk hd' k'=>⟨rfl,?_⟩
 ·have hi:i < kvs.length:=by
   rw [← hp.1];exact (Array.getElem?_eq_some_iff.mp z).1
  obtain ⟨b,key,e1,⟨ob,e2,_⟩,_⟩:=hp.2 i _ (List.getElem?_eq_getElem hi);rw [z] at e1;have e3:a=b:=by injection (Option.some.inj e1)
  subst e3;have:=Heap.lt_size e2;exact ⟨Nat.ne_of_lt this,Nat.ne_of_lt (Nat.lt_trans this hit)⟩
 ·obtain ⟨o2,es,ep,ho2,r⟩:=hnew;exact ⟨o2,es,ep,Heap.get?_push_of_some _ (kp1 _ _ ho2),r⟩
 ·refine h h' tk hd' fun b ob z=>k' b ob (Nat.ne_of_lt (Heap.lt_size z)) (Nat.ne_of_lt (Nat.lt_trans (Heap.lt_size z) hit)) (Heap.get?_push_of_some _ (kp0 b ob z))
end
end PySem
namespace L2
open PySem PySem.Spec PyProof.Rows
def Pl (H:Hp) (a:Addr):Prop:=∃ o u,H a=some (.frz o u)∧o.dict=none
mutual
inductive IsP (K:PySem.W.Frag) (H:Hp):Dt→V→Prop
 | non:IsP K H .non .non
 | bl {b}:IsP K H (.bl b) (.bl b)
 | int {i}:IsP K H (.int i) (.int i)
 | str {z}:IsP K H (.str z) (.str z)
 | tup {l:List Dt} {a:Addr} {xs:List V}:SqT K H a xs→Pl H a→IsPs K H l xs→IsP K H (.tup l) (.ref a)
inductive IsPs (K:PySem.W.Frag) (H:Hp):List Dt→List V→Prop
 | nil:IsPs K H [] []
 | cons {d:Dt} {l:List Dt} {x:V} {xs:List V}:IsP K H d x→IsPs K H l xs→IsPs K H (d :: l) (x :: xs)
end
section
variable {K:PySem.W.Frag} {H H':Hp}
mutual
theorem IsP.d:∀ {d:Dt} {v:V},IsP K H d v→IsD K H d v
 | _,_,.non=>.non
 | _,_,.bl=>.bl
 | _,_,.int=>.int
 | _,_,.str=>.str
 | _,_,.tup h _ r=>.tup h (IsPs.d r)
theorem IsPs.d:∀ {l:List Dt} {xs:List V},IsPs K H l xs→IsDs K H l xs
 | _,_,.nil=>.nil
 | _,_,.cons h r=>.cons (IsP.d h) (IsPs.d r)
end
theorem Pl.same {a:Addr} (g:Same H H') (h:Pl H a):Pl H' a:=by
 obtain ⟨o,u,e,d⟩:=h;exact ⟨o,u,g _ _ e,d⟩
theorem Pl.but {a r:Addr} {ys:List V} (hr:H r=some (.lst ys)) (g:But r H H') (h:Pl H a):Pl H' a:=by
 obtain ⟨o,u,e,d⟩:=h;exact ⟨o,u,g _ _ (gj e hr (by intro z;cases z)) e,d⟩
mutual
theorem IsP.same (g:Same H H'):∀ {d:Dt} {v:V},IsP K H d v→IsP K H' d v
 | _,_,.non=>.non
 | _,_,.bl=>.bl
 | _,_,.int=>.int
 | _,_,.str=>.str
 | _,_,.tup h p r=>.tup (g.tup h) (p.same g) (IsPs.same g r)
theorem IsPs.same (g:Same H H'):∀ {l:List Dt} {xs:List V},IsPs K H l xs→IsPs K H' l xs
 | _,_,.nil=>.nil
 | _,_,.cons h r=>.cons (IsP.same g h) (IsPs.same g r)
end
mutual
theorem IsP.but {r:Addr} {ys:List V} (hr:H r=some (.lst ys)) (g:But r H H'):∀ {d:Dt} {v:V},IsP K H d v→IsP K H' d v
 | _,_,.non=>.non
 | _,_,.bl=>.bl
 | _,_,.int=>.int
 | _,_,.str=>.str
 | _,_,.tup h p q=>.tup (by
   rcases rn hr h with n | n
   ·exact g.tup n h
   ·exact n _) (p.but hr g) (IsPs.but hr g q)
theorem IsPs.but {r:Addr} {ys:List V} (hr:H r=some (.lst ys)) (g:But r H H'):∀ {l:List Dt} {xs:List V},IsPs K H l xs→IsPs K H' l xs
 | _,_,.nil=>.nil
 | _,_,.cons h q=>.cons (IsP.but hr g h) (IsPs.but hr g q)
end
theorem IsPs.length {l:List Dt} {xs:List V} (h:IsPs K H l xs):l.length=xs.length:=h.d.length
theorem IsPs.get {l:List Dt} {xs:List V} (h:IsPs K H l xs) {i:Nat} {d:Dt} (e:l[i]?=some d):∃ x,xs[i]?=some x∧IsP K H d x:=by
 induction l generalizing xs i with
 | nil=>simp at e
 | cons c l ih =>
  cases h with
  | cons h r =>
   cases i with
   | zero=>simp at e;subst e;exact ⟨_,rfl,h⟩
   | succ i=>exact ih r (by simpa using e)
theorem IsPs.get' {l:List Dt} {xs:List V} (h:IsPs K H l xs) {i:Nat} {x:V} (e:xs[i]?=some x):∃ d,l[i]?=some d∧IsP K H d x:=by
 induction l generalizing xs i with
 | nil=>cases h;simp at e
 | cons c l ih =>
  cases h with
  | cons h r =>
   cases i with
   | zero=>simp at e;subst e;exact ⟨_,rfl,h⟩
   | succ i=>exact ih r (by simpa using e)
theorem IsPs.append {l m:List Dt} {xs ys:List V} (h:IsPs K H l xs) (h':IsPs K H m ys):IsPs K H (l++m) (xs++ys):=by
 induction l generalizing xs with
 | nil=>cases h;exact h'
 | cons d l ih=>cases h with | cons h r=>exact .cons h (ih r)
theorem IsPs.drop:∀ {l:List Dt} {xs:List V} (n:Nat),IsPs K H l xs→IsPs K H (l.drop n) (xs.drop n)
 | _,_,0,h=>h
 | _,_,_+1,.nil=>.nil
 | _,_,n+1,.cons _ r=>IsPs.drop n r
theorem IsPs.take:∀ {l:List Dt} {xs:List V} (n:Nat),IsPs K H l xs→IsPs K H (l.take n) (xs.take n)
 | _,_,0,_=>.nil
 | _,_,_+1,.nil=>.nil
 | _,_,n+1,.cons h r=>.cons h (IsPs.take n r)
theorem IsP.unref {l:List Dt} {v:V} (h:IsP K H (.tup l) v):∃ a xs,v=.ref a∧SqT K H a xs∧Pl H a∧IsPs K H l xs:=by
 cases h with
 | tup h p r=>exact ⟨_,_,rfl,h,p,r⟩
end
def plO (xs:List V) (us:List Value):HO:=.frz { cls:=.type "tuple",data:=.seq us.toArray } (.tup xs)
section
variable {X:Cx} {pins:List (Addr×Obj)} {σ:St} {H:Hp} {s:Shared}
theorem Inv.plain {xs:List V} {us:List Value} {t':Nat} (I:Inv X pins σ H s) (r:Vals xs us) (z:xs.length≤sizeLine) :
  Inv X pins σ (upd H s.heap.objs.size (plO xs us)) { s with heap:=s.heap.push { cls:=.type "tuple",data:=.seq us.toArray },toks:=t' }∧H s.heap.objs.size=none :=
 ⟨I.laid (t':=t') (fun b ob q=>Heap.get?_push_of_some _ q) (Nat.le_refl _) ⟨Heap.get?_push_size _ rfl,z,us,r,IsTup.new _ _⟩,I.hok.fresh (Nat.le_refl _)⟩
theorem gw {p:Addr} {l:List Dt} {xs:List V} {us:List Value} (hf:H p=none) (d:IsPs X.K H l xs):Same H (upd H p (plO xs us))∧IsP X.K (upd H p (plO xs us)) (.tup l) (.ref p) :=
 ⟨ab hf _,.tup (.inl (.inr ⟨_,aa⟩)) ⟨_,_,aa,rfl⟩ (d.same (ab hf _))⟩
variable {e:Expr} {es:List Expr} {t:TA} {pos:Pos}
inductive ITup (K:PySem.W.Frag) (xs:List V) (H1:Hp) (Q:VK):Prop
 | mk (l:List Dt):(IsPs K H1 l xs)→(xs.length≤sizeLine)→(∀ v H',Same H1 H'→IsP K H' (.tup l) v→Q v H')→ITup K xs H1 Q
def uI (K:PySem.W.Frag) (t:TA):TE:=fun σ H Q=>t σ H fun xs H1=>ITup K xs H1 Q
theorem tG {x1} (h:PA X es t):PE X (.Tuple es x1 pos) (uI X.K t):=by
 intro pins s σ H Q I hq;refine wpAny_Tuple_spliced (thn (h pos pins s σ H _ I hq) fun us s1 ⟨xs,H1,I1,r,l,d,z,q⟩=>⟨by rw [← r.length];exact z,?_⟩);obtain ⟨I2,hf⟩:=I1.plain (t':=s1.toks) r z;obtain ⟨g,dp⟩:=gw (X:=X) (us:=us) hf d;exact ⟨.ref s1.heap.objs.size,_,I2,rfl,q _ _ g dp⟩
theorem mC:CallR X (.type "tuple") (fun xs H Q=>∃ p ys l,xs=[.ref p]∧SqL X.K H p ys∧IsPs X.K H l ys∧∀ v H',Same H H'→IsP X.K H' (.tup l) v→Q v H'):=by
 intro pins s σ H xs us Q I r h;obtain ⟨p,ys,l,rfl,hq,d,q⟩:=h;obtain ⟨u,rfl,rx⟩:=dU r
 cases rx
 obtain ⟨its,r',pl,hz⟩:=I.list hq;have hlen:=r'.length;refine call_tuple_list pl.isList (fun h' kp=>?_) (by simp only [List.size_toArray] <;> lia);have I1:Inv X pins σ H { s with heap:=h' }:=I.kept (t':=s.toks) kp;obtain ⟨I2,hf⟩:=I1.plain (t':=s.toks) r' hz;obtain ⟨g,dp⟩:=gw (X:=X) (us:=its) hf d;exact ⟨.ref h'.objs.size,_,I2,rfl,q _ _ g dp⟩
theorem tH:OpR X (binaryOp .Add) (fun x y H Q=>∃ l m,IsP X.K H (.tup l) x∧IsP X.K H (.tup m) y∧l.length+m.length≤sizeLine∧∀ v H',Same H H'→IsP X.K H' (.tup (l++m)) v→Q v H'):=by
 intro pins s σ H x y v u Q I rx ry h;obtain ⟨l,m,dx,dy,hz,q⟩:=h;obtain ⟨a,xs,rfl,ha,pa,ra⟩:=dx.unref;obtain ⟨b,ys,rfl,hb,pb,rb⟩:=dy.unref
 cases rx
 cases ry
 obtain ⟨its,r1,p1,_⟩:=I.tuple ha;obtain ⟨its2,r2,p2,_⟩:=I.tuple hb;have e1:=ra.length;have e2:=rb.length
 by_cases hx:xs=[]
 ·subst hx;have hi:its=[]:=r1.nil_iff.mpr rfl;subst hi;have hl:l=[]:=List.length_eq_zero_iff.mp (by rw [e1];rfl);subst hl;exact HT.cat_nil p1 p2 ⟨.ref b,H,I,rfl,q _ H (Same.refl H) dy⟩
 ·refine HT.cat_tup p1 p2 (fun z=>hx (r1.nil_iff.mp z)) (fun z=>?_) (fun z=>?_) (by rw [← r1.length,← r2.length,← e1,← e2];exact hz)
  ·have hy:=r2.nil_iff.mp z;subst hy;have hm:m=[]:=List.length_eq_zero_iff.mp (by rw [e2];rfl);subst hm;exact ⟨.ref a,H,I,rfl,q _ H (Same.refl H) (by rw [List.append_nil];exact dx)⟩
  ·obtain ⟨I2,hf⟩:=I.plain (t':=s.toks) (r1.append r2) (by rw [List.length_append,← e1,← e2];exact hz);obtain ⟨g,dp⟩:=gw (X:=X) (us:=its++its2) hf (ra.append rb);exact ⟨.ref s.heap.objs.size,_,I2,rfl,q _ _ g dp⟩
theorem tI:SlR X (fun x lo hi H Q=>∃ l,IsP X.K H (.tup l) x∧∀ v H',Same H H'→IsP X.K H' (.tup (i5 l lo hi)) v→Q v H'):=by
 intro pins s σ H x v vl vu lo hi sl Q I rx hs pl pu h;obtain ⟨l,dx,q⟩:=h;obtain ⟨a,xs,rfl,hx,pa,ra⟩:=id dx.unref
 cases rx
 have e1:=ra.length;obtain ⟨its,r,ht,hz⟩:=I.tuple hx;have hlen:its.toArray.size=xs.length:=by rw [List.size_toArray];exact r.length.symm
 refine ⟨"tuple",_,PyProof.Rows.slot_tuple_getitem.lookup,ht.typeIs,?_⟩
 by_cases hw:HT.sIx xs.length 0 lo=0∧HT.sIx xs.length xs.length hi=xs.length
 ·refine HT.getItem_tuple_all ht hs pl pu (by rw [hlen];exact hw.1) (by rw [hlen];exact hw.2) ⟨.ref a,H,I,rfl,q _ H (Same.refl H) ?_⟩;have e:i5 l lo hi=l:=by
   unfold i5;rw [e1,hw.1,hw.2,List.drop_zero,Nat.sub_zero,← e1,List.take_length]
  rw [e];exact dx
 ·refine HT.getItem_tuple_cut ht hs pl pu (by rw [hlen];exact hw) ?_ (by rw [hlen];exact hz);rw [hlen];obtain ⟨I2,hf⟩:=I.plain (t':=s.toks) ((r.drop (HT.sIx xs.length 0 lo)).take (HT.sIx xs.length xs.length hi - HT.sIx xs.length 0 lo)) (Nat.le_trans (ic xs lo hi) hz);have d2:IsPs X.K H (i5 l lo hi) (gQ xs lo hi):=by
   unfold i5 gQ;rw [e1];exact (ra.drop _).take _
  obtain ⟨g,dp⟩:=gw (X:=X) (us:=(its.drop (HT.sIx xs.length 0 lo)).take (HT.sIx xs.length xs.length hi - HT.sIx xs.length 0 lo)) hf d2;exact ⟨.ref s.heap.objs.size,_,I2,rfl,q _ _ g dp⟩
theorem tJ:IxR X (fun x y H Q=>∃ l i d,IsP X.K H (.tup l) x∧y=.int i∧atI l i=some d∧∀ v,IsP X.K H d v→Q v H):=by
 intro value slice pins s σ H x y v u Q I rx ry h hs;obtain ⟨l,i,d,dx,rfl,ha,q⟩:=h;obtain ⟨a,xs,rfl,hx,pa,ra⟩:=id dx.unref;obtain ⟨j,hj,hd,_⟩:=iC ha;have e1:=ra.length;obtain ⟨w',hw,dw⟩:=ra.get hd;have hat:atI xs i=some w':=by
  unfold atI at ha ⊢;rw [← e1]
  cases z:ixN l.length i with
  | none=>rw [z] at ha;cases ha
  | some j' =>
   rw [z] at ha;have ha':l[j']?=some d:=ha;obtain ⟨w2,hw2,dw2⟩:=ra.get ha';have z2:=j6 z;rw [hj] at z2;have:j=j':=Option.some.inj z2.1;subst this;exact hw
 exact vh value slice pins s σ H (.ref a) (.int i) v u Q I rx ry ⟨a,xs,i,w',rfl,rfl,hx,hat,q w' dw⟩ hs
theorem tK:OpR X (binaryOp .Mult) (rI IntMulOk fun i j=>.int (i*j)):=opI fun _ _ _ _ _ _ _ hc q=>mul_int q hc
end
def lookS (fs:List (Str×Dt)) (z:Str):Option Dt:=(fs.find? fun p=>decide (p.1=z)).map (·.2)
abbrev prD (p:Str×Dt):Dt:=.tup [.str p.1,p.2]
def xi (K:PySem.W.Frag) (H:Hp) (p:Addr) (fs:List (Str×Dt)):Prop :=
 ∃ kvs,H p=some (.dK kvs)∧∀ z,(lookS fs z=none→aK kvs (Sum.inr z:Key)=none)∧∀ d,lookS fs z=some d→∃ v,aK kvs (Sum.inr z:Key)=some v∧IsP K H d v
section
variable {X:Cx} {pins:List (Addr×Obj)} {σ:St} {H:Hp} {s:Shared}
theorem rB (I:Inv X pins σ H s):∀ {fs:List (Str×Dt)} {xs:List V} {its:List Value},IsPs X.K H (fs.map prD) xs→Vals xs its →
  ∃ (kvs:List (Key×V)) (vs:List (Key×Value)),KV kvs vs∧kvs.map (·.1)=fs.map (fun p=>Sum.inr p.1)∧kvs.length=fs.length ∧
   (∀ z,(lookS fs z=none→aK kvs (Sum.inr z:Key)=none)∧∀ d,lookS fs z=some d→∃ v,aK kvs (Sum.inr z:Key)=some v∧IsP X.K H d v) ∧
   its.length=vs.length∧∀ (i:Nat) (kv:Key×Value),vs[i]?=some kv→∃ (a:Addr) (key:Value),its[i]?=some (.ref a)∧s.heap.IsTuple a #[key,kv.2]∧(aq X.prog X.w).is kv.1 key=true:=by
 intro fs
 induction fs with
 | nil =>
  intro xs its h r
  cases h
  cases r
  exact ⟨[],[],.nil,rfl,rfl,fun z=>⟨fun _=>rfl,fun d q=>by cases q⟩,rfl,fun i kv q=>by simp at q⟩
 | cons f fs ih =>
  intro xs its h r
  cases h with
  | cons h1 h2 =>
   cases r with
   | cons r1 r2 =>
    obtain ⟨kvs,vs,e1,e2,e3,e4,e5,e6⟩:=ih h2 r2;obtain ⟨a,ys,rfl,ha,pa,ra⟩:=h1.unref
    cases r1
    obtain ⟨its',r',p',_⟩:=I.tuple ha
    cases ra with
    | cons d1 ra =>
     cases ra with
     | @cons _ _ v _ d2 ra =>
      cases ra
      cases d1
      cases r' with
      | cons q1 r' =>
       cases r' with
       | @cons _ u _ _ q2 r' =>
        cases r'
        obtain ⟨tk,rfl⟩:=q1;refine ⟨(Sum.inr f.1,v) :: kvs,(Sum.inr f.1,u) :: vs,.cons ⟨rfl,q2⟩ e1,by simp [e2],by simp [e3],fun z=>?_,by simp [e5],fun i kv q=>?_⟩
        ·by_cases hz:f.1=z
         ·subst hz;have l1:lookS (f :: fs) f.1=some f.2:=by simp [lookS]
          have l2:aK ((Sum.inr f.1,v) :: kvs) (Sum.inr f.1:Key)=some v:=by simp [aK]
          exact ⟨fun q=>(by rw [l1] at q;cases q),fun d q=>(by rw [l1] at q;cases q;exact ⟨v,l2,d2⟩)⟩
         ·have l1:lookS (f :: fs) z=lookS fs z:=by simp [lookS,hz]
          have l2:aK ((Sum.inr f.1,v) :: kvs) (Sum.inr z:Key)=aK kvs (Sum.inr z:Key):=by simp [aK,hz]
          rw [l1,l2];exact e4 z
        ·cases i with
         | zero =>
          simp at q;subst q;exact ⟨a,_,rfl,p',iL (k:=Sum.inr f.1) ⟨tk,rfl⟩⟩
         | succ i=>exact e6 i kv (by simpa using q)
theorem oe (hc:X.calm=true):CallR X (.type "dict") (fun xs H Q=>∃ x fs,xs=[x]∧IsP X.K H (.tup (fs.map prD)) x∧(fs.map (·.1)).Nodup∧fs.length≤1000∧∀ p H',Same H H'→xi X.K H' p fs→Q (.ref p) H'):=by
 intro pins s σ H xs us Q I r h;obtain ⟨x,fs,rfl,dx,nd,hz,q⟩:=h;obtain ⟨u,rfl,rx⟩:=dU r;obtain ⟨a,ys,rfl,ha,⟨o,ho,eo,dn⟩,ra⟩:=dx.unref
 cases rx
 obtain ⟨its,r',⟨o',e',c',n',d'⟩,_⟩:=I.tuple ha;have e0:s.heap.get? a=some o:=(I.hok a _ eo).1;rw [e0] at e';obtain rfl:=Option.some.inj e';obtain ⟨kvs,vs,k1,k2,k3,k4,k5,k6⟩:=rB I ra r';have hl:vs.length=fs.length:=by rw [← k1.length,k3]
 have big:=I.big;refine iw (knd:=aq X.prog X.w) (kvs:=vs) (I.ok.hd hc) e0 c' d' dn ⟨by rw [List.size_toArray];exact k5,fun i kv z=>?_⟩ (Nat.le_trans (Nat.add_le_add (hl ▸ hz) (hl ▸ hz)) (by decide)) fun h' tk dd kp=>?_
 ·obtain ⟨b,key,z1,z2,z3⟩:=k6 i kv z;exact ⟨b,key,by simpa using z1,z2,z3⟩
 ·have ndv:(vs.map (·.1)).Nodup:=by
   rw [← k1.keys,k2];have z:fs.map (fun p=>(Sum.inr p.1:Key))=(fs.map (·.1)).map Sum.inr:=by rw [List.map_map];rfl
   rw [z];exact List.Pairwise.map _ (fun a b n q=>n (Sum.inr.inj q)) nd
  rw [merged_nil_of_nodup vs ndv] at dd;have hf:=I.hok.fresh (Nat.le_refl s.heap.objs.size);have I2:Inv X pins σ (upd H s.heap.objs.size (.dK kvs)) { s with heap:=h',toks:=tk }:=I.laid (t':=tk) kp (Nat.le_refl _)
   (n8 (by rw [k3];exact Nat.le_of_lt (ag hz)) (by simp;exact Nat.ne_of_gt big) k1 dd)
  refine ⟨.ref s.heap.objs.size,_,I2,rfl,q _ _ (ab hf _) ⟨kvs,aa,fun z=>⟨(k4 z).1,fun d l=>?_⟩⟩⟩;obtain ⟨v,l1,l2⟩:=(k4 z).2 d l;exact ⟨v,l1,l2.same (ab hf _)⟩
end
end L2
namespace PySem
open Sem (wp)
open Builtin
section
variable {prog:Program} {w:World} {A:Around} {E:Value→Shared→Prop} {s:Shared}
end
end PySem
namespace L2
open PySem PySem.Spec PyProof.Rows
section
variable {X:Cx}
def rC (lo c:Int) (n:Nat):It:=⟨fun i _=>i < n,fun i H x H'=>H'=H∧x=.int (lo+i*c),fun i _=>n≤i⟩
theorem mD {P:Program} {w:World} {K:PySem.W.Frag} {tg:Expr} (it:Addr) (lo c:Int) (n:Nat):Turn P w K tg (rC lo c n) [it] it (fun i h=>IsRangeIter h it (lo+(i:Nat)*c) ((n:Int) - (i:Nat)) c) where
 mem:=by simp
 obj:=fun i h st b hb=>by
  have e:b=it:=by simpa using hb
  subst e;exact ⟨_,st,fun v z=>by
   have z':Data.fields _=Data.cell v:=z
   cases z'⟩
 keep:=fun i h h' st k=>k it (by simp) _ st
 item:=by
  intro X hP hw hK hc i pins s σ H E I hf st hg;subst hP hw hK;obtain ⟨f0,f1,f2,f3,f4,f5⟩:=hf it (by simp);have W:=Walks.range (prog:=X.prog) (w:=X.w) (I.ok.hd hc) it lo c n;refine W.item i s _ _ hg st fun v h' tk hv st' kk=>?_;obtain ⟨t,rfl⟩:=hv;have I1:Inv X pins σ H { s with heap:=h',toks:=tk }:=I.turned (fun b o hb e=>kk b o (by simpa using hb) e) f0 f1 f3 f4 f5;exact ⟨_,rfl,l6 (s:={ s with heap:=h',toks:=tk }) (n:= "range_iterator") st' rfl rfl (by decide) ⟨.int (lo+i*c),H,I1,⟨t,rfl⟩,⟨rfl,rfl⟩,st',fun b hb=>(hf b hb).1⟩⟩
 done:=by
  intro X hP hw hK hc i pins s σ H E I hf st hg;subst hP hw hK;obtain ⟨f0,f1,f2,f3,f4,f5⟩:=hf it (by simp);exact wpAny_pyNext_range_end (I.ok.hd hc) st (by have:n≤i:=hg;lia) fun h' eb=>⟨rfl,I.turned (t':=s.toks) (fun b o hb e=>eb b o hb e) f0 f1 f3 f4 f5⟩
 self:=fun _ _ _ _ _ st h=>wpAny_pyIter_rangeiter st h
def rngN (a b c:Int):Nat:=(Builtin.Range.rangeSize a b c).toNat
theorem tL {a b c:Int} (hc:0 < c) {i:Nat} (h:i < rngN a b c):a+i*c < b:=by
 unfold rngN Builtin.Range.rangeSize at h;rw [if_pos (show c > 0 from hc)] at h
 by_cases hab:a < b
 ·rw [if_pos hab] at h;have h1:(0:Int)≤(b - a - 1) / c:=Int.ediv_nonneg (by lia) (by lia);have h2:(i:Int)≤(b - a - 1) / c:=by lia
  have h3:(i:Int)*c≤b - a - 1:=Int.le_trans (Int.mul_le_mul_of_nonneg_right h2 (by lia)) (Int.ediv_mul_le _ (by lia));lia
 ·rw [if_neg hab] at h;simp at h
theorem o9 {a b c:Int} (hc:0 < c):(rngN a b c:Int)≤if a < b then b - a else 0:=by
 unfold rngN Builtin.Range.rangeSize;rw [if_pos (show c > 0 from hc)]
 by_cases hab:a < b
 ·rw [if_pos hab,if_pos hab];have h1:(0:Int)≤(b - a - 1) / c:=Int.ediv_nonneg (by lia) (by lia);have h2:(b - a - 1) / c≤b - a - 1:=Int.ediv_le_self _ (by lia);lia
 ·rw [if_neg hab,if_neg hab];simp
variable {tg:Expr}
def xj (ta:TA):TI:=fun σ H R=>ta σ H fun vs H1=>∃ i j c:Int,vs=[.int i,.int j,.int c]∧(0≤i∧i < 2 ^ 62∧0≤j∧j < 2 ^ 62∧0 < c∧c < 1073741824)∧R (rC i c (rngN i j c)) H1
theorem qq {a b c:Expr} {ta:TA} {p pos:Pos} (hg:Gl X "range") (hm:X.mg "range" = none) (ha:PA X [a,b,c] ta) (hs:starEach [a,b,c] X.env=[(false,eval a X.env),(false,eval b X.env),(false,eval c X.env)]:=by rfl) (hs2:starEach [b,c] X.env=[(false,eval b X.env),(false,eval c X.env)]:=by rfl) :
  PI X tg (.Call (.Name "range" p) [a,b,c] [] pos) (xj ta):=by
 intro pins s σ H R I h;refine Call_ (dZ I hg hm boot_range (PyProof.Rows.callWith_type1 (thn (ha pos pins s σ H _ I h) fun us s1 ⟨vs,H1,I1,r1,q1⟩=>?_) (by rw [hs,hs2]) (by rw [hs2];rfl)));obtain ⟨i,j,c,e,⟨q1,q2,q3,q4,q5,q6⟩,q⟩:=q1;subst e
 cases r1 with
 | cons r rr =>
  cases rr with
  | cons r' rr =>
   cases rr with
   | cons r'' rr =>
    cases rr
    obtain ⟨t,rfl⟩:=r;obtain ⟨t',rfl⟩:=r';obtain ⟨t'',rfl⟩:=r'';have hn0:=o9 (a:=i) (b:=j) q5;have hsz:Builtin.Range.rangeSize i j c=((rngN i j c:Nat):Int):=rangeSize_toNat i j c;have hn:(rngN i j c:Int) < 2 ^ 62:=by
     split at hn0 <;> lia
    refine call_range_3 (by lia) ?_ (.inl (PyProof.noPylong_small (by lia)));have sm:Builtin.Range.small i j c=true:=by
     unfold Builtin.Range.small Builtin.Range.rangeFitsLong;rw [hsz,if_pos (show c > 0 from q5)];simp only [Bool.and_eq_true,Bool.or_eq_true,decide_eq_true_eq,beq_iff_eq];refine ⟨⟨⟨⟨⟨?_,?_⟩,?_,?_⟩,?_,?_⟩,?_,?_⟩,.inr ⟨?_,?_⟩⟩ <;> lia
    refine wpAny_pyIter_range (IsRange.new ..) sm ?_;have I2:Inv X pins σ H1 { s1 with heap:=s1.heap.push { cls:=.type "range",data:=.fields #[.int i t,.int j t',.int c t''] } }:=I1.kept (t':=s1.toks) fun b o e=>Heap.get?_push_of_some _ e;refine ⟨(s1.heap.push { cls:=.type "range",data:=.fields #[.int i t,.int j t',.int c t''] }).objs.size,[(s1.heap.push { cls:=.type "range",data:=.fields #[.int i t,.int j t',.int c t''] }).objs.size],_,_,H1,rfl,
     I2.kept (t':=s1.toks) fun b o e=>Heap.get?_push_of_some _ e,mD _ i c (rngN i j c),?_,fun b hb=>?_,q⟩
    ·have e1:i+((0:Nat):Int)*c=i:=by simp
     have e2:((rngN i j c:Nat):Int) - ((0:Nat):Int)=Builtin.Range.rangeSize i j c:=by rw [hsz];simp
     show IsRangeIter _ _ (i+((0:Nat):Int)*c) (((rngN i j c:Nat):Int) - ((0:Nat):Int)) c;rw [e1,e2];exact Heap.get?_push_size _ rfl
    ·have e:b=(s1.heap.push { cls:=.type "range",data:=.fields #[.int i t,.int j t',.int c t''] }).objs.size:=by simpa using hb
     subst e;exact I2.fpOk (Nat.le_refl _) (I2.hok.fresh (Nat.le_refl _))
end
theorem u1 {A:Around} (h:A.units+64 < cLine):A.units+1 < cLine:=by lia
theorem ce {P:Program} {w:World} {K:PySem.W.Frag} {mg:Str→Option Value} {base:Heap} {CX:CXT} {k:Nat} {f:Addr} {fd:FuncData} {ps:List Str} {sp:Sp} (h:∀ vs H Q E,¬ sp vs H Q E):FnOk P w K mg base CX k f fd ps sp :=
 ⟨fun vs H Q E z=>(h vs H Q E z).elim,fun A outer s H args us vs Q E hr e0 hb r z=>(h vs H Q E z).elim⟩
theorem tM {a:Int} {m:Nat} (h0:0≤a) (h:a < 2 ^ m):Builtin.Int.intBits a≤m:=by
 refine intBits_le_iff.mpr ?_;have e:((a.natAbs:Nat):Int)=a:=Int.natAbs_of_nonneg h0;have h':((a.natAbs:Nat):Int) < ((2 ^ m:Nat):Int):=by rw [e];simpa using h
 exact Int.ofNat_lt.mp h'
section
variable {X:Cx}
theorem mE:OpR X (binaryOp .FloorDiv) (rI (fun _ j=>0 < j∧j < 10000000000000000000000000000000000000000000000000000000000000) fun i j=>.int (i / j)):=opI fun i j _ _ _ _ _ hc q=>by
 have h1:(0:Int) < j:=hc.1;have h2:j < 10000000000000000000000000000000000000000000000000000000000000:=hc.2;refine floordiv_int (by lia) (by rw [Int.fdiv_eq_ediv_of_nonneg i (by lia)];exact q) (.inl (PyProof.noPylong_of_log2 ?_));have h3:j.natAbs < 2 ^ 9000:=Nat.lt_of_lt_of_le (show j.natAbs < 10000000000000000000000000000000000000000000000000000000000000 by lia) (by decide +kernel);exact (Nat.log2_lt (by lia)).mpr h3
inductive ICatS (K:PySem.W.Frag) (x y:V) (H:Hp) (Q:VK):Prop
 | mk (l b:Addr) (xs zs:List V):(x=.ref l)→(y=.ref b)→(SqL K H l xs)→(SqL K H b zs)→(xs.length+zs.length≤sizeLine)→(∀ p,H p=none→Q (.ref p) (upd H p (.lst (xs++zs))))→ICatS K x y H Q
def uJ (K:PySem.W.Frag):R2:=fun x y H Q=>ICatS K x y H Q
theorem tN:OpR X (binaryOp .Add) (uJ X.K):=by
 intro pins s σ H x y v u Q I rx ry h;obtain ⟨l,b,xs,zs,rfl,rfl,hH,hB,hz,q⟩:=h
 cases rx
 cases ry
 obtain ⟨its,r,pl,z⟩:=I.list hH;obtain ⟨its2,r2,pl2,z2⟩:=I.list hB;obtain ⟨⟨cls,dd,data,sl⟩,ho,hc,n,hd⟩:=pl.isList;obtain ⟨⟨cls2,dd2,data2,sl2⟩,ho2,hc2,n2,hd2⟩:=pl2.isList;simp only at hc hd hc2 hd2;subst hc hd hc2 hd2;have l1:=r.length;have l2:=r2.length;have ea:its.toArray++its2.toArray=(its++its2).toArray:=by simp
 refine concat_meets ⟨_,ho,rfl⟩ ⟨_,ho2,rfl⟩ noFill_list_add seq_list_add PySem.F.slot_list_add PySem.F.entry_list_add (PySem.F.args_list_add_2 _ _) (list_addW l b its.toArray its2.toArray n n2 dd dd2 sl sl2 (by simp only [List.size_toArray];lia)) ⟨ho,ho2,?_⟩;rw [ea];exact ⟨.ref _,_,I.lnew (t':=s.toks) (r.append r2) (by rw [List.length_append];lia),rfl,q _ I.fresh⟩
end
open PySem.NumText
def dg (m:Nat):List Nat:=(Nat.toDigits 10 m).map Char.toNat
def vH (n:Int):List Nat:=if n < 0 then 45 :: dg n.natAbs else dg n.natAbs
theorem str_int (n:Int):(Str.ofString (toString n)).cps.toList=vH n:=by
 rw [signs_ofString]
 cases n with
 | ofNat m =>
  have:¬ (Int.ofNat m < 0):=by simp
  unfold vH;rw [if_neg this];show (Nat.repr m).toList.map Char.toNat=_;rw [Nat.toList_repr]
  rfl
 | negSucc m =>
  have:Int.negSucc m < 0:=Int.negSucc_lt_zero m;unfold vH;rw [if_pos this];show ("-" ++Nat.repr (m+1)).toList.map Char.toNat=_;rw [String.toList_append,List.map_append,Nat.toList_repr]
  rfl
end L2
namespace L2
open PySem PySem.Spec PyProof.Rows
section
variable {X:Cx} {pins:List (Addr×Obj)} {σ:St} {H:Hp} {s:Shared} {h':Heap}
theorem Inv.turnedT {t':Nat} {wr:List Addr} {T:Addr} {o:HO} (I:Inv X pins σ H s) (k:∀ b u,b∉wr→s.heap.get? b=some u→h'.get? b=some u) (f:∀ b∈wr,fH X pins H b)
  (hT:s.heap.objs.size≤T) (new:ObjOk X.prog X.w (upd H T o) h' T o):Inv X pins σ (upd H T o) { s with heap:=h',toks:=t' }:=by
 have nT:∀ b u,s.heap.get? b=some u→b≠T:=fun b u e z=>absurd (Nat.lt_of_lt_of_le (Heap.lt_size e) (z ▸ hT)) (Nat.lt_irrefl _);have nH:∀ b u,H b=some u→b≠T:=fun b u e z=>absurd (Nat.lt_of_lt_of_le (I.hok.lt e) (z ▸ hT)) (Nat.lt_irrefl _);have nw:∀ b u,H b=some u→b∉wr:=fun b u e z=>by rw [(f b z).1] at e;cases e
 refine I.step (g':=s.gens) (d':=s.drawn) (ch:=wr) (fun b hb=>?_) (fun b u _ _ hc e _=>k b u hc e) (fun b u _ _ hc e _=>⟨u.slots,k b u hc e⟩) (fun b u _ e n=>by rw [af (nT b u e)];exact n)
  (fun b u hc e=>⟨u,k b u hc e⟩) (fun b xs e=>by rw [af (nH b _ e)];exact e) (fun b u v e=>by rw [af (nH b _ e)];exact e) (fun b ps e=>⟨#[],by rw [af (nH b _ e),e];simp⟩) (fun m hm=>?_) (fun b u e=>?_) I.bare
 ·obtain ⟨f0,f1,f2,f3,f4,f5⟩:=f b hb;exact ⟨f3,f1,f4,f5⟩
 ·obtain ⟨u,es,ep,ho,r⟩:=hm;exact ⟨u,es,ep,k _ u (fun z=>(f _ z).2.1 rfl) ho,r⟩
 ·by_cases hb:b=T
  ·subst hb;rw [aa] at e
   cases e
   exact new
  ·rw [af hb] at e;refine (I.hok b u e).stay (fun c v hc q=>k c v ?_ q) (fun c q=>?_) fun c xs q=>by rw [af (nH c _ q)];exact q
   ·rcases hc with z | z
    ·rw [z];exact nw b u e
    ·exact nw c _ z
   ·rw [af (nH c _ q)];exact q
theorem Inv.turnedL {t':Nat} {wr:List Addr} (I:Inv X pins σ H s) (k:∀ b u,b∉wr→s.heap.get? b=some u→h'.get? b=some u) (f:∀ b∈wr,fH X pins H b):Inv X pins σ H { s with heap:=h',toks:=t' }:=by
 have nw:∀ b u,H b=some u→b∉wr:=fun b u e z=>by rw [(f b z).1] at e;cases e
 refine I.step (g':=s.gens) (d':=s.drawn) (ch:=wr) (fun b hb=>?_) (fun b u _ _ hc e _=>k b u hc e) (fun b u _ _ hc e _=>⟨u.slots,k b u hc e⟩) (fun _ _ _ _ n=>n)
  (fun b u hc e=>⟨u,k b u hc e⟩) (fun _ _ e=>e) (fun _ _ _ e=>e) (fun b ps e=>⟨#[],by rw [e];simp⟩) (fun m hm=>?_) (fun b u e=>?_) I.bare
 ·obtain ⟨f0,f1,f2,f3,f4,f5⟩:=f b hb;exact ⟨f3,f1,f4,f5⟩
 ·obtain ⟨u,es,ep,ho,r⟩:=hm;exact ⟨u,es,ep,k _ u (fun z=>(f _ z).2.1 rfl) ho,r⟩
 ·refine (I.hok b u e).stay (fun c v hc q=>k c v ?_ q) (fun _ q=>q) fun _ _ q=>q;rcases hc with z | z
  ·rw [z];exact nw b u e
  ·exact nw c _ z
end
def Itz (K:PySem.W.Frag) (a b:Addr):It :=
 ⟨fun i H=>∃ xs ys x y,SqL K H a xs∧SqL K H b ys∧xs[i]?=some x∧ys[i]?=some y,
  fun i H v H'=>∃ T x y,v=.ref T∧H T=none∧H'=upd H T (.tup [x,y])∧(∀ xs,SqL K H a xs→xs[i]?=some x)∧(∀ ys,SqL K H b ys→ys[i]?=some y),
  fun i H=>∃ xs ys,SqL K H a xs∧SqL K H b ys∧min xs.length ys.length=i⟩
def xl (z TI TO i1 i2 l1 l2:Addr) (i:Nat) (h:Heap):Prop:=IsZip h z TI TO .none∧IsPair h TI (.ref i1) (.ref i2)∧(∃ a b,IsPair h TO a b)∧h.IsListIter i1 l1 i∧h.IsListIter i2 l2 i
theorem rD {P:Program} {w:World} {K:PySem.W.Frag} {elts:List Expr} {k:Nat} {pos:Pos} (z TI TO i1 i2 l1 l2:Addr) (D:ZipApart z TI TO i1 i2 l1 l2) :
  Turn P w K (.Tuple elts k pos) (Itz K l1 l2) [z,TI,TO,i1,i2] z (xl z TI TO i1 i2 l1 l2) where
 mem:=by simp
 obj:=fun i h st b hb=>by
  obtain ⟨hz,hTI,⟨a,c,hTO⟩,⟨o1,e1,c1,d1⟩,⟨o2,e2,c2,d2⟩⟩:=st;simp only [List.mem_cons,List.not_mem_nil,or_false] at hb;rcases hb with rfl | rfl | rfl | rfl | rfl
  ·exact ⟨_,hz,fun v q=>by cases q⟩
  ·exact ⟨_,hTI,fun v q=>by cases q⟩
  ·exact ⟨_,hTO,fun v q=>by cases q⟩
  ·exact ⟨o1,e1,fun v q=>by rw [d1] at q;cases q⟩
  ·exact ⟨o2,e2,fun v q=>by rw [d2] at q;cases q⟩
 keep:=fun i h h' st kk=>by
  obtain ⟨hz,hTI,⟨a,c,hTO⟩,h1,h2⟩:=st;exact ⟨kk z (by simp) _ hz,kk TI (by simp) _ hTI,⟨a,c,kk TO (by simp) _ hTO⟩,h1.at fun o e=>kk i1 (by simp) o e,h2.at fun o e=>kk i2 (by simp) o e⟩
 item:=by
  intro X hP hw hK hc i pins s σ H E I hf st hg;subst hP hw hK;obtain ⟨xs,ys,x,y,hx,hy,ex,ey⟩:=hg;obtain ⟨its,rv,p,hz⟩:=I.list hx;obtain ⟨its2,rv2,p2,hz2⟩:=I.list hy;obtain ⟨s1,s2,s3,s4,s5⟩:=st;have W:=WalksT.zip2 (prog:=X.prog) (w:=X.w) (I.ok.hd hc) z TI TO i1 i2 l1 l2 D its.toArray its2.toArray;have li:i < xs.length:=(List.getElem?_eq_some_iff.mp ex).1;have li2:i < ys.length:=(List.getElem?_eq_some_iff.mp ey).1;have el:=rv.length;have el2:=rv2.length;have wsub:∀ b∈[z,TO,i1,i2],b∈[z,TI,TO,i1,i2]:=fun b hb=>by
   simp only [List.mem_cons,List.not_mem_nil,or_false] at hb ⊢;rcases hb with rfl | rfl | rfl | rfl <;> simp
  refine W.item i s _ _ (by simp only [List.size_toArray];lia) ⟨s1,s2,s3,s4,s5,p.isList,p2.isList⟩ fun T vals h' tk hv hT hTup hm hk=>?_;obtain ⟨u,v,eu,ev,rfl⟩:=hv;obtain ⟨u',eu',ru⟩:=rv.get ex;obtain ⟨v',ev',rv'⟩:=rv2.get ey;have e1:u=u':=by
   have:its[i]?=some u:=by simpa using eu
   rw [eu'] at this;exact (Option.some.inj this).symm
  have e2:v=v':=by
   have:its2[i]?=some v:=by simpa using ev
   rw [ev'] at this;exact (Option.some.inj this).symm
  subst e1 e2;have hTn:H T=none:=I.hok.fresh hT;have I1:Inv X pins σ (upd H T (.tup [x,y])) { s with heap:=h',toks:=tk }:=I.turnedT hk (fun b hb=>hf b (wsub b hb)) hT ⟨by show 2≤sizeLine;decide,[u,v],.cons ru (.cons rv' .nil),hTup⟩;have ap:=W.apart i T h' hm;have f1:∀ b∈[z,TO,i1,i2],fH X pins (upd H T (.tup [x,y])) b:=fun b hb=>by
   obtain ⟨f0,f1⟩:=hf b (wsub b hb);exact ⟨by rw [af (fun e:b=T=>ap (by rw [← e];exact hb))];exact f0,f1⟩
  refine ⟨_,rfl,W.go elts k pos i T _ _ _ hm fun h'' st2 hk2=>?_⟩;obtain ⟨t1,t2,t3,t4,t5,_,_⟩:=st2;refine ⟨.ref T,_,Inv.turnedL (s:={ s with heap:=h',toks:=tk }) (t':=tk) I1 hk2 f1,rfl,⟨T,x,y,rfl,hTn,rfl,fun zs q=>by rw [I.list_inj q hx];exact ex,fun zs q=>by rw [I.list_inj q hy];exact ey⟩,⟨t1,t2,t3,t4,t5⟩,fun b hb=>?_⟩;have fb:=(hf b hb).1
  by_cases e:b=T
  ·subst e;have lti:s.heap.objs.size > TI:=Heap.lt_size s2;simp only [List.mem_cons,List.not_mem_nil,or_false] at hb;rcases hb with rfl | rfl | rfl | rfl | rfl
   ·exact absurd (by simp) ap
   ·exact absurd lti (Nat.not_lt.mpr hT)
   ·exact absurd (by simp) ap
   ·exact absurd (by simp) ap
   ·exact absurd (by simp) ap
  ·rw [af e];exact fb
 done:=by
  intro X hP hw hK hc i pins s σ H E I hf st hg;subst hP hw hK;obtain ⟨xs,ys,hx,hy,hi⟩:=hg;obtain ⟨its,rv,p,hz⟩:=I.list hx;obtain ⟨its2,rv2,p2,hz2⟩:=I.list hy;obtain ⟨s1,s2,s3,s4,s5⟩:=st;have W:=WalksT.zip2 (prog:=X.prog) (w:=X.w) (I.ok.hd hc) z TI TO i1 i2 l1 l2 D its.toArray its2.toArray;have el:=rv.length;have el2:=rv2.length;have en:min its.toArray.size its2.toArray.size=i:=by simp only [List.size_toArray];lia
  have wsub:∀ b∈[z,TO,i1,i2],b∈[z,TI,TO,i1,i2]:=fun b hb=>by
   simp only [List.mem_cons,List.not_mem_nil,or_false] at hb ⊢;rcases hb with rfl | rfl | rfl | rfl <;> simp
  refine W.done s _ _ ?_ fun h' tk hk=>⟨rfl,I.turnedL hk fun b hb=>hf b (wsub b hb)⟩;rw [en];exact ⟨s1,s2,s3,s4,s5,p.isList,p2.isList⟩
 self:=fun _ _ _ _ _ st h=>wpAny_pyIter_zip st.1 h
section
variable {X:Cx} {elts:List Expr} {k:Nat} {tpos:Pos}
def yb (K:PySem.W.Frag) (ta:TA):TI:=fun σ H R=>ta σ H fun vs H1=>∃ a b,vs=[.ref a,.ref b]∧(∃ xs,SqL K H1 a xs)∧(∃ ys,SqL K H1 b ys)∧R (Itz K a b) H1
theorem vI {a b:Expr} {ta:TA} {p pos:Pos} (hg:Gl X "zip") (hm:X.mg "zip" = none) (ha:PA X [a,b] ta) (hs:starEach [a,b] X.env=[(false,eval a X.env),(false,eval b X.env)]:=by rfl) (hs2:starEach [b] X.env=[(false,eval b X.env)]:=by rfl) :
  PI X (.Tuple elts k tpos) (.Call (.Name "zip" p) [a,b] [] pos) (yb X.K ta):=by
 intro pins s σ H R I h;refine Call_ (dZ I hg hm boot_zip (PyProof.Rows.callWith_type1 (thn (ha pos pins s σ H _ I h) fun us s1 ⟨vs,H1,I1,r1,q1⟩=>?_) (by rw [hs,hs2]) (by rw [hs2];rfl)));obtain ⟨l1,l2,e,⟨xs,hx⟩,⟨ys,hy⟩,q⟩:=q1;subst e;obtain ⟨u,v,rfl,ru,rv⟩:=r1.two
 cases ru
 cases rv
 obtain ⟨its,rr,pl,hz⟩:=I1.list hx;obtain ⟨its2,rr2,pl2,hz2⟩:=I1.list hy;have lt1:l1 < s1.heap.objs.size:=by obtain ⟨o,e,_⟩:=pl.isList;exact Heap.lt_size e
 have lt2:l2 < s1.heap.objs.size:=by obtain ⟨o,e,_⟩:=pl2.isList;exact Heap.lt_size e
 refine call_zip_2 pl.isList pl2.isList fun h' z1 z2 z3 z4 z5 zs kk=>?_;have I2:Inv X pins σ H1 { s1 with heap:=h' }:=I1.kept (t':=s1.toks) kk;refine wpAny_pyIter_zip z1 ?_;refine ⟨_,_,_,_,H1,rfl,I2,rD _ _ _ _ _ l1 l2 ?_,⟨z1,z2,⟨_,_,z3⟩,z4,z5⟩,fun b hb=>?_,q⟩
 ·have lt1':s1.heap.objs.size > l1:=lt1;have lt2':s1.heap.objs.size > l2:=lt2
  constructor <;> (show ¬ (@Eq Nat _ _)) <;> lia
 ·have:s1.heap.objs.size≤b:=by
   simp only [List.mem_cons,List.not_mem_nil,or_false] at hb;rcases hb with rfl | rfl | rfl | rfl | rfl <;> lia
  exact I1.fpOk this (I1.hok.fresh this)
end
theorem rE {K:PySem.W.Frag} {a b l:Addr} {xs ys:List V} {g:TG} {tb:List V→Addr→St→Hp→(List V→St→Hp→Prop)→Prop} {Q:VK} {σ0:St} {H0:Hp} (Pv:Nat→List V→St→Hp→Prop) (h0:Pv 0 [] σ0 H0)
  (hla:∀ i us σ H,Pv i us σ H→SqL K H a xs∧SqL K H b ys)
  (hs:∀ i x y T us σ H (N:List V→St→Hp→Prop),xs[i]?=some x→ys[i]?=some y→H T=none→Pv i us σ H→(∀ us' σ' H',Pv (i+1) us' σ' H'→N us' σ' H')→g (.ref T) σ (upd H T (.tup [x,y])) fun σ2 H2=>tb us l σ2 H2 N)
  (hd:∀ us σ H,Pv (min xs.length ys.length) us σ H→Q (.ref l) H) :
  ∃ W:Nat→Nat→List V→St→Hp→Prop,(∃ m,W 0 m [] σ0 H0)∧∀ i m us σ' H',W i m us σ' H'→((Itz K a b).stop i H'∧Q (.ref l) H') ∨
   ((Itz K a b).go i H'∧∀ x H'',(Itz K a b).yld i H' x H''→g x σ' H'' fun σ2 H2=>tb us l σ2 H2 fun us' σ3 H3=>∃ m',m' < m∧W (i+1) m' us' σ3 H3):=by
 refine ⟨fun i m us σ H=>m=min xs.length ys.length - i∧i≤min xs.length ys.length∧Pv i us σ H,⟨_,rfl,Nat.zero_le _,h0⟩,?_⟩;rintro i m us σ H ⟨rfl,hi,p⟩;obtain ⟨sa,sb⟩:=hla i us σ H p
 by_cases hlt:i < min xs.length ys.length
 ·obtain ⟨x,ex⟩:∃ x,xs[i]?=some x:=⟨_,List.getElem?_eq_getElem (by lia)⟩;obtain ⟨y,ey⟩:∃ y,ys[i]?=some y:=⟨_,List.getElem?_eq_getElem (by lia)⟩;refine .inr ⟨⟨xs,ys,x,y,sa,sb,ex,ey⟩,fun v H' q=>?_⟩;obtain ⟨T,x',y',rfl,hT,rfl,q1,q2⟩:=q;have e1:=q1 xs sa;have e2:=q2 ys sb;exact hs i x' y' T us σ H _ e1 e2 hT p fun us' σ' H' w=>⟨_,by lia,rfl,hlt,w⟩
 ·have e:i=min xs.length ys.length:=by lia
  subst e;exact .inl ⟨⟨xs,ys,sa,sb,rfl⟩,hd us σ H p⟩
def met:List Key→List Key
 | []=>[]
 | k :: r=>if r.any (fun j=>decide (j=k)) then met r else k :: met r
theorem kn (k:Key):∀ l:List Key,(met l).any (fun j=>decide (j=k))=l.any (fun j=>decide (j=k))
 | []=>rfl
 | a :: r=>by
  unfold met
  split
  ·rename_i h
   rw [kn k r,List.any_cons]
   by_cases e:a=k
   ·subst e;rw [h];simp
   ·simp [e]
  ·rw [List.any_cons,List.any_cons,kn k r]
theorem rF:∀ l:List Key,(met l).length≤l.length
 | []=>Nat.le_refl _
 | a :: r=>by
  unfold met;have:=rF r
  split
  ·rw [List.length_cons];lia
  ·rw [List.length_cons,List.length_cons];lia
theorem pf:∀ {l:List Key},l.Nodup→(met l).length=l.length
 | [],_=>rfl
 | a :: r,h=>by
  obtain ⟨h1,h2⟩:=List.nodup_cons.mp h;unfold met;rw [if_neg,List.length_cons,List.length_cons,pf h2];intro z;obtain ⟨b,hb,e⟩:=List.any_eq_true.mp z;exact h1 (of_decide_eq_true e ▸ hb)
abbrev gS (ks:List Key) (i:Nat):List Key:=met (ks.take i).reverse
theorem jG {ks:List Key} {i:Nat} {k:Key} (h:ks[i]?=some k):gS ks (i+1)=if (gS ks i).any (fun j=>decide (j=k)) then gS ks i else k :: gS ks i:=by
 have e:(ks.take (i+1)).reverse=k :: (ks.take i).reverse:=by rw [List.take_add_one,h];simp
 show met (ks.take (i+1)).reverse=_;rw [e];show (if (ks.take i).reverse.any (fun j=>decide (j=k)) then met (ks.take i).reverse else k :: met (ks.take i).reverse)=_;rw [← kn k (ks.take i).reverse]
theorem tO (ks:List Key) (i:Nat):(gS ks i).length≤i:=by
 have h:=rF (ks.take i).reverse;rw [List.length_reverse,List.length_take] at h;show (met (ks.take i).reverse).length≤i;lia
section
variable {P:Program} {w:World} {A:Around} {R:Result→Shared→Prop} {it:Addr} {fp wr:List Addr} {G:Array GenState→Array GenState→Prop} {n:Nat} {Pt:Nat→Value→Prop} {St:Nat→Shared→Prop}
abbrev SetK (P:Program) (w:World) (h:Heap) (a:Addr) (l:List Key):Prop:=h.SetOf (aq P w) a (fun k=>l.any fun j=>decide (j=k)) l.length
theorem SetK.kept {h h':Heap} {a:Addr} {l:List Key} (x:SetK P w h a l) (k:∀ o,h.get? a=some o→h'.get? a=some o):SetK P w h' a l:=by
 obtain ⟨o,es,ep,tb,ho,rest⟩:=x;exact ⟨o,es,ep,tb,k o ho,rest⟩
theorem rG {h:Heap} {a:Addr} {S S':Key→Bool} {n n':Nat} (x:h.SetOf (aq P w) a S n) (e:∀ k,S k=S' k) (en:n=n'):h.SetOf (aq P w) a S' n':=by
 cases en
 cases (funext e:S=S')
 exact x
theorem rH (W:WalksS P w A.in1 it fp wr G n Pt St) (S:Addr) (hS0:S∉fp) (ks:List Key) (hks:ks.length=n) (hv:∀ i v,Pt i v→∃ k,ks[i]?=some k∧(aq P w).is k v=true∧v.scannable=true) (hn:n+1 < scanBound) :
  ∀ (d i:Nat) (s:Shared),n - i=d→i≤n→St i s→SetK P w s.heap S (gS ks i) →
   (∀ s',Moved (S :: wr) G s s'→SetK P w s'.heap S (gS ks n)→R (.ok (.ret .none)) s')→codeAny (model P w) A (.builtin "set.update.loop" ⟨[.ref S,.ref it],[]⟩) R s:=by
 have nw:S∉wr:=fun z=>hS0 (W.sub _ z);have up:∀ b∈wr,b∈S :: wr:=fun b z=>List.mem_cons_of_mem _ z;intro d
 induction d with
 | zero =>
  intro i s e1 e2 st hS hR;obtain rfl:i=n:=by lia
  refine codeAny_builtin PyProof.Rows.F.entry_set_update_loop (by
   rw [Around.under_plainId PyProof.Rows.F.plain_set_update_loop _];show wpAny _ A.in1 (pyNext (.ref it) >>= _) _ _ s;refine wpAny_bind (W.done s _ _ st fun s' mv=>?_);exact wpAny_pure (hR s' (mv.mono up) (hS.kept fun o q=>mv.heap S o nw q)))
 | succ d ih =>
  intro i s e1 e2 st hS hR;have lt:i < n:=by lia
  refine codeAny_builtin PyProof.Rows.F.entry_set_update_loop (by
   rw [Around.under_plainId PyProof.Rows.F.plain_set_update_loop _];show wpAny _ A.in1 (pyNext (.ref it) >>= _) _ _ s;refine wpAny_bind (W.item i s _ _ lt st fun v s' pv st' mv=>?_);obtain ⟨k,ek,kv,sc⟩:=hv i v pv;have hS':=hS.kept (h':=s'.heap) fun o q=>mv.heap S o nw q;show wpAny _ A.in1 (holding [v] (setAdd S v) >>= _) _ _ s';refine wpAny_bind (wpAny_holding (by
    unfold setAdd;refine wpAny_holding (wpAny_bind ((aq P w).pyHash kv ?_));have room:(gS ks i).length+1 < scanBound:=by have:=tO ks i;lia
    refine wpAny_setAddHashed_of (knd:=aq P w) (s:={ s' with toks:=s'.toks+1 }) kv sc hS' room fun h2 sb hS2=>?_;have hS3:SetK P w h2 S (gS ks (i+1)):=by
     refine rG hS2 (fun j=>?_) ?_
     ·rw [jG ek]
      split
      ·rename_i c
       by_cases z:j=k
       ·subst z;rw [c];simp
       ·simp [z]
      ·rw [List.any_cons,Bool.or_comm]
       congr 1
       exact decide_eq_decide.mpr eq_comm
     ·rw [jG ek]
      split <;> rfl
    refine wpAny_pure ⟨plainId_quiet PyProof.Rows.F.plain_set_update_loop _,ih (i+1) _ (by lia) lt (W.frame _ s' _ _ st' (Nat.le_succ _) fun b hb o q=>?_) hS3 fun s3 mv3 hS4=>?_⟩
    ·rw [sb.2 b (fun z:b=S=>hS0 (by rw [← z];exact hb))];exact q
    ·refine hR s3 (Moved.trans W.gtrans ((mv.mono up).then_heap (Nat.le_succ _) fun b o hb q=>?_) mv3) hS4;rw [sb.2 b (fun z:b=S=>hb (by rw [z];exact List.mem_cons_self))];exact q)))
theorem i6:isSubtype (.type "tuple") (.type "set")=pure false:=dA _ _
theorem fz:isSubtype (.type "tuple") (.type "frozenset")=pure false:=dA _ _
end
section
variable {P:Program} {w:World} {A:Around} {E:Value→Shared→Prop} {s:Shared}
def kq (b:Bool):Obj:={ cls:=.type "set",dict:=none,data:=.set #[] 0 (.fresh 0 0 b) }
set_option maxHeartbeats 3200000 in
theorem kt {t:Addr} {its:Array Value} {ks:List Key} {Q:Value→Shared→Prop} (hh:A.handled=none) (ht:s.heap.IsTuple t its) (hl:ks.length=its.size) (hv:∀ (i:Nat) v,its[i]?=some v→∃ k,ks[i]?=some k∧(aq P w).is k v=true∧v.scannable=true)
  (hn:its.size+1 < scanBound) (h:∀ (h':Heap) (tk:Nat),SetK P w h' s.heap.objs.size (gS ks its.size)→(∀ b o,s.heap.get? b=some o→h'.get? b=some o)→Q (.ref s.heap.objs.size) { s with heap:=h',toks:=tk }) :
  wpAny (model P w) A (call (.type "set") [.ref t]) Q E s:=by
 obtain ⟨c0,tl,hmro⟩:=PySem.F.called_set.mro;have k1:=PySem.F.called_set.made;have k2:=PySem.F.called_set.sub;refine wpAny_call (codeAny_of_tree (by
  show wpAny _ _ (callAny (.type "set") _) _ _ _;refine wpAny_pure ⟨Code.quiet_builtin _ (by decide +kernel),codeAny_builtin PySem.F.entry_type_call ?_⟩;rw [Around.under_plain (weight_type_call_type "set" [.ref t] []) rfl];have k3:=PySem.F.called_set.notType;have k4:=PySem.F.called_set.canCreate;have k5:=PySem.F.typeCall_set_1 (.ref t)
  repeat (any_goals (first | assumption | wp_step))
  refine codeAny_mono (code_set_new_1 (.ref t) (E:=E) (Q₁:=fun ob s1=>∃ b:Bool,ob=.ref s.heap.objs.size∧s1={ s with heap:=s.heap.push (kq b) }) fun b=>⟨b,rfl,rfl⟩) fun r s1 hr=>?_
  cases r with
  | error e=>exact hr
  | ok fl =>
   cases fl with
   | ret ob =>
    obtain ⟨b,rfl,rfl⟩:=hr;have g1:(s.heap.push (kq b)).get? s.heap.objs.size=some (kq b):=Heap.get?_push_size _ rfl;have tS:Shared.TypeIs { s with heap:=s.heap.push (kq b) } (.ref s.heap.objs.size) "set" :=⟨_,g1,rfl⟩;have k6:=PySem.F.called_set.init.lookup;have k7:=PySem.F.called_set.init.bind (.ref s.heap.objs.size)
    repeat (any_goals (first | assumption | wp_step))
    refine codeAny_mono (codeAny_call_builtin (R:=wants (fun r s2=>r=.none∧∃ h' tk,s2={ s with heap:=h',toks:=tk }∧SetK P w h' s.heap.objs.size (gS ks its.size)∧(∀ b o,s.heap.get? b=some o→h'.get? b=some o)) E)
     PySem.F.called_set.init.plain PySem.F.entry_set_init (check_set_init_1 tS ?_)) fun r2 s2 hr2=>?_
    ·obtain ⟨⟨oc,od,oa,osl⟩,ho,hcl,nl,hdt⟩:=id ht;simp only at hcl hdt;subst hcl hdt;have ht1:(s.heap.push (kq b)).IsTuple t its:=⟨_,Heap.get?_push_of_some _ ho,rfl,nl,rfl⟩;have ho1:(s.heap.push (kq b)).get? t=some { cls:=.type "tuple",dict:=od,data:=.seq its nl,slots:=osl }:=Heap.get?_push_of_some _ ho;have k8:=i6;have k9:=fz;have ka:(Value.type "tuple" == Value.type "dict")=false:=by decide
     unfold Builtin.«set.__init__» noKeywords Builtin.Frozenset.updateFrom
     generalize hPI:pyIter=PI
     wp_walk
     subst hPI;refine wpAny_pyIter_tuple ht1 ?_;refine wpAny_bind (wpAny_runValue ?_);have lt:s.heap.objs.size > t:=Heap.lt_size ho;have hh3:A.in1.in1.in1.handled=none:=by simp [hh]
     have sz:(s.heap.push (kq b)).objs.size=s.heap.objs.size+1:=Heap.size_push ..;have ne1:t≠(s.heap.push (kq b)).objs.size:=by rw [sz];exact Nat.ne_of_lt (Nat.lt_succ_of_lt lt)
     have nS:s.heap.objs.size∉[(s.heap.push (kq b)).objs.size,t]:=by
      rw [sz];intro z;rcases List.mem_cons.mp z with z | z
      ·exact absurd z (Nat.ne_of_lt (Nat.lt_succ_self _))
      ·exact absurd (List.mem_singleton.mp z) (Nat.ne_of_gt lt)
     refine rH ((Walks.tuple hh3 _ t ne1 its).toS) s.heap.objs.size nS ks hl hv hn (its.size - 0) 0 _ rfl (Nat.zero_le _) ⟨⟨_,Heap.get?_push_size _ rfl,rfl,rfl⟩,ht1.push _⟩ ?_ ?_
     ·exact ⟨_,#[],0,_,Heap.get?_push_of_some _ g1,⟨rfl,rfl,rfl⟩,rfl,(fun e he=>by simp at he),(fun k=>⟨fun z=>Bool.noConfusion (show false=true from z),fun ⟨e,he,_⟩=>(List.not_mem_nil he).elim⟩),by decide,rfl,rfl⟩
     ·intro s3 mv hS3;obtain ⟨h3,g3,d3,t3,o3⟩:=s3
      cases (mv.gens:g3=s.gens)
      cases (mv.drawn:d3=s.drawn)
      cases (mv.os:o3=s.os)
      refine wpAny_pure (wpAny_pure ⟨rfl,h3,t3,rfl,hS3,fun c o q=>?_⟩);have lc:s.heap.objs.size > c:=Heap.lt_size q;refine mv.heap c o ?_ (Heap.get?_push_of_some _ (Heap.get?_push_of_some _ q));intro z;rcases List.mem_cons.mp z with z | z
      ·exact absurd z (Nat.ne_of_lt lc)
      ·exact absurd ((List.mem_singleton.mp z).trans sz) (Nat.ne_of_lt (Nat.lt_succ_of_lt lc))
    ·cases r2 with
     | error e=>exact hr2
     | ok fl2 =>
      cases fl2 with
      | ret r =>
       obtain ⟨rfl,h',tk,rfl,q1,q2⟩:=hr2
       repeat (any_goals (first | assumption | wp_step))
       exact h _ _ q1 q2
      | _=>exact hr2.elim
   | _=>exact hr.elim))
end
def vJ (P:Program) (w:World) (p:Addr) (n:Nat):HO:=.ext fun h=>∃ l,SetK P w h p l∧l.length=n
section
variable {X:Cx}
theorem tP {k:Key} {u:Value} (r:RelV (kV k) u):u.scannable=true:=by
 cases k with
 | inl i=>obtain ⟨t,rfl⟩:=r;rfl
 | inr z=>obtain ⟨t,rfl⟩:=r;rfl
theorem qr (hc:X.calm=true):CallR X (.type "set") (fun xs H Q=>∃ a ks,xs=[.ref a]∧SqT X.K H a (ks.map kV)∧ks.length≤1000∧∀ p,H p=none→Q (.ref p) (upd H p (vJ X.prog X.w p (gS ks ks.length).length))):=by
 intro pins s σ H xs us Q I r h;obtain ⟨a,ks,rfl,ha,hl,q⟩:=h;obtain ⟨u,rfl,rx⟩:=dU r
 cases rx
 obtain ⟨its,rv,ht,hz⟩:=I.tuple ha;have el:=rv.length;rw [List.length_map] at el;have ez:its.toArray.size=ks.length:=by rw [List.size_toArray,el]
 refine kt (ks:=ks) (I.ok.hd hc) (show s.heap.IsTuple a its.toArray from ht) ez.symm (fun i v e=>?_) (by rw [ez];unfold scanBound;lia) fun h' tk hS kk=>?_
 ·have e':its[i]?=some v:=by simpa using e
  have hi:i < ks.length:=by rw [el];exact (List.getElem?_eq_some_iff.mp e').1
  obtain ⟨v',ev,rk⟩:=rv.get (i:=i) (x:=kV ks[i]) (by rw [List.getElem?_map,List.getElem?_eq_getElem hi];rfl);rw [e'] at ev
  cases ev
  exact ⟨ks[i],List.getElem?_eq_getElem hi,iL rk,tP rk⟩
 ·rw [ez] at hS;refine ⟨.ref s.heap.objs.size,_,I.laid (a:=s.heap.objs.size) (o:=vJ X.prog X.w s.heap.objs.size (gS ks ks.length).length) kk (Nat.le_refl _) ?_,rfl,q _ (I.hok.fresh (Nat.le_refl _))⟩;obtain ⟨o,_,_,_,ho,_⟩:=id hS;exact ⟨⟨_,hS,rfl⟩,⟨o,ho⟩,fun h1 h2 ⟨l,hl,e⟩ k=>⟨l,hl.kept k,e⟩⟩
theorem qt:CallR X (.builtin "len") (fun xs H Q=>∃ p n,xs=[.ref p]∧H p=some (vJ X.prog X.w p n)∧Q (.int n) H):=by
 intro pins s σ H xs us Q I r h;obtain ⟨p,n,rfl,e,q⟩:=h;obtain ⟨u,rfl,rx⟩:=dU r
 cases rx
 obtain ⟨⟨l,hS,en⟩,_,_⟩:=I.hok p _ e;obtain ⟨o,es,ep,tb,ho,hex,hd,_,_,hb,hf,hn⟩:=hS;have e2:es.size=n:=hn.trans en;have hb':es.size < 4096:=hb;exact call_len_set ho hex hd hf (by lia) ⟨.int n,H,I.tok _,⟨_,by rw [e2]⟩,q⟩
end
section
variable {K:PySem.W.Frag} {a b l:Addr} {xs ys:List V} {g:TG} {tb:List V→Addr→St→Hp→(List V→St→Hp→Prop)→Prop} {R:Hp→Prop} {σ0:St} {H0:Hp}
theorem bF (Pv:Nat→List V→St→Hp→Prop) (h0:Pv 0 [] σ0 H0) (hl:∀ i ys σ H,i≤xs.length→Pv i ys σ H→SqT K H a xs)
  (hs:∀ i x ys σ H (N:List V→St→Hp→Prop),xs[i]?=some x→Pv i ys σ H→(∀ ys' σ' H',Pv (i+1) ys' σ' H'→N ys' σ' H')→g x σ H fun σ2 H2=>tb ys l σ2 H2 N)
  (hd:∀ ys σ H,Pv xs.length ys σ H→R H) :
  ∃ W:Nat→Nat→List V→St→Hp→Prop,(∃ m,W 0 m [] σ0 H0)∧∀ i m ys σ' H',W i m ys σ' H'→((Itt K a).stop i H'∧R H') ∨
   ((Itt K a).go i H'∧∀ x H'',(Itt K a).yld i H' x H''→g x σ' H'' fun σ2 H2=>tb ys l σ2 H2 fun ys' σ3 H3=>∃ m',m' < m∧W (i+1) m' ys' σ3 H3):=rm (Q:=fun _ H=>R H) Pv h0 hl hs hd
theorem aT (Pv:Nat→List V→St→Hp→Prop) (h0:Pv 0 [] σ0 H0) (hl:∀ i ys σ H,i≤xs.length→Pv i ys σ H→SqL K H a xs)
  (hs:∀ i x ys σ H (N:List V→St→Hp→Prop),xs[i]?=some x→Pv i ys σ H→(∀ ys' σ' H',Pv (i+1) ys' σ' H'→N ys' σ' H')→g x σ H fun σ2 H2=>tb ys l σ2 H2 N)
  (hd:∀ ys σ H,Pv xs.length ys σ H→R H) :
  ∃ W:Nat→Nat→List V→St→Hp→Prop,(∃ m,W 0 m [] σ0 H0)∧∀ i m ys σ' H',W i m ys σ' H'→((Itl K a).stop i H'∧R H') ∨
   ((Itl K a).go i H'∧∀ x H'',(Itl K a).yld i H' x H''→g x σ' H'' fun σ2 H2=>tb ys l σ2 H2 fun ys' σ3 H3=>∃ m',m' < m∧W (i+1) m' ys' σ3 H3):=qj (Q:=fun _ H=>R H) Pv h0 hl hs hd
theorem qu (Pv:Nat→List V→St→Hp→Prop) (h0:Pv 0 [] σ0 H0) (hla:∀ i us σ H,Pv i us σ H→SqL K H a xs∧SqL K H b ys)
  (hs:∀ i x y T us σ H (N:List V→St→Hp→Prop),xs[i]?=some x→ys[i]?=some y→H T=none→Pv i us σ H→(∀ us' σ' H',Pv (i+1) us' σ' H'→N us' σ' H')→g (.ref T) σ (upd H T (.tup [x,y])) fun σ2 H2=>tb us l σ2 H2 N)
  (hd:∀ us σ H,Pv (min xs.length ys.length) us σ H→R H) :
  ∃ W:Nat→Nat→List V→St→Hp→Prop,(∃ m,W 0 m [] σ0 H0)∧∀ i m us σ' H',W i m us σ' H'→((Itz K a b).stop i H'∧R H') ∨
   ((Itz K a b).go i H'∧∀ x H'',(Itz K a b).yld i H' x H''→g x σ' H'' fun σ2 H2=>tb us l σ2 H2 fun us' σ3 H3=>∃ m',m' < m∧W (i+1) m' us' σ3 H3):=rE (Q:=fun _ H=>R H) Pv h0 hla hs hd
end
theorem bL {X:Cx} {K:PySem.W.Frag} {es:List Expr} {k:Nat} {pos:Pos} {t:TGs} {n:Nat} (hK:X.K=K) (hc:X.calm=true) (h:PGs X es t)
  (hn:(assignEach es X.env).length=n:=by rfl) (hst:(assignEach es X.env).findIdx? (·.1)=none:=by rfl):PG X (.Tuple es k pos) (wE K n t):=by
 subst hK;exact cS hc h hn hst
theorem be {H H1:Hp} {l:Addr} {o:HO} (hl:H l=none) (g:Same H H1):Same H (upd H1 l o):=fun b u e=>by rw [af (ae e hl)];exact g b u e
section
variable {X:Cx}
theorem mF {elt tgt iter:Expr} {ifs:List Expr} {scope:Scope} {pos spos py:Pos} {NL N':List Str} {ρ:List Nat} {wi:TI} {g:TG} {tb:List V→Addr→St→Hp→(List V→St→Hp→Prop)→Prop} {body:Value→Env→Sem Unit} {j:Nat} {y:Str}
  (hN:X.N.Nodup) (hj:X.N[j]?=some y) (hy:Loc X.env.scope y) (hfn:X.fn y=true∨X.env.scope.names.lookup y=some .local)
  (hsw:swapsWith (.ListComp elt [⟨tgt,iter,ifs,0⟩] scope pos) (some (.Name y py)) spos.line X.env=pure true)
  (hc:X.calm=true) (S:CScope X scope NL ρ N') (hi:PI X tgt iter wi)
  (hg:∀ C s₀ H₀ fp,PG (ccx X scope C N' s₀ H₀ fp) tgt g) (hb:∀ C s₀ H₀ fp,PB (ccx X scope C N' s₀ H₀ fp) (fun acc=>body acc (ccx X scope C N' s₀ H₀ fp).env) tb)
  (he:∀ (it acc:Value) (env:Env),compTurn (.ListComp elt [⟨tgt,iter,ifs,0⟩] scope pos) 0 it acc env=(standAt iter.pos >>= fun _=>pyNext it >>= fun r=>match r with
   | none=>pure (.done .next)
   | some v=>letOwnedTupleGo tgt it v >>= fun _=>assign tgt env v >>= fun _=>body acc env >>= fun _=>again (.compLoop (.ListComp elt [⟨tgt,iter,ifs,0⟩] scope pos) 0 it acc env)))
  (hs:∀ x,foldedSetIterable iter X.env x=pure x:=by intro _;rfl):PS X (.Assign [.Name y py] (.ListComp elt [⟨tgt,iter,ifs,0⟩] scope pos) spos) (qM (mf NL.length ρ wi g tb) (ju j)):=by
 intro pins s σ H D0 I h;have free_in:∀ x∈scope.names,x.2=.free→∃ c,X.env.cells.lookup x.1=some c:=fun x hx hk=>I.ok.has x.1 (S.frees x hx hk);rw [exec_Assign_Name_used _ _ _ _ hsw];refine wpAny_bind (wpAny_standAt (wpAny_bind ?_));rw [arm_evalThenUse_ListComp];refine wpAny_bind (thn (Q:=fun _ s'=>SP X pins D0 .next s') ?_ fun _ s' q0=>wpAny_pure (wpAny_pure q0));refine wpAny_comprehension_free (use:=some (assign (.Name y py) X.env)) (Q:=fun _ s'=>SP X pins D0 .next s') rfl hs (iI free_in) S.kind S.locs ?_;refine thn (hi pins s σ H _ I h) fun v s1 h1=>thn h1 fun itv s2 h2=>?_;obtain ⟨it,fp,tn,J,H2,e,I2,T,st2,f2,w⟩:=h2;subst e;refine wpAny_newObj_type (wpAny_newFunctionEnv S.nocell (by intro y hy;simp at hy) (fun h₁ hns₁ hsb₁=>?_) S.kind);dsimp only at hns₁ hsb₁ ⊢
 generalize hH2:s2.heap.push { cls:=.type "list",dict:=none,data:=.seq ([]:List Value).toArray }=h2' at hns₁ hsb₁ ⊢
 have hCs:h2'.objs.size=s2.heap.objs.size+1:=by rw [← hH2,Heap.size_push]
 have hDC:s2.heap.objs.size≠h2'.objs.size:=by rw [hCs];exact Nat.ne_of_lt (Nat.lt_succ_self _)
 have hC:s2.heap.objs.size≤h2'.objs.size:=by rw [hCs];exact Nat.le_succ _
 have old:∀ b o,s2.heap.get? b=some o→h₁.get? b=some o:=fun b o e=>hsb₁.extBut b o (Nat.ne_of_lt (Nat.lt_of_lt_of_le (Heap.lt_size e) hC)) (Heap.get?_push_of_some _ (hH2 ▸ Heap.get?_push_of_some _ e));have hd:h₁.get? s2.heap.objs.size=some { cls:=.type "list",data:=.seq #[] 0 }:=hsb₁.extBut _ _ hDC (Heap.get?_push_of_some _ (hH2 ▸ Heap.get?_push_size _ rfl));have hfo:∀ b∈fp,∃ o,s2.heap.get? b=some o:=fun b hb=>let ⟨o,e,_⟩:=T.obj _ _ st2 b hb;⟨o,e⟩;have I4:Inv (ccx X scope h2'.objs.size N' s2 H2 fp) (X.pn++pins) (cst NL.length ρ σ) (upd H2 s2.heap.objs.size (.lst [])) { s2 with heap:=h₁,toks:=s2.toks+([]:List (Str×Value)).length } :=
  Inv.comp S I2 f2 hfo hC (Nat.le_refl _) hDC old hd (by simpa using hns₁)
 have hD0:H2 s2.heap.objs.size=none:=I2.hok.fresh (Nat.le_refl _);have nfp:s2.heap.objs.size∉fp:=fun z=>by
  obtain ⟨o,e⟩:=hfo _ z;exact absurd (Heap.lt_size e) (Nat.lt_irrefl _)
 obtain ⟨W,⟨m0,w0⟩,turn⟩:=w s2.heap.objs.size hD0;have stat:∀ {H':Hp},(∀ b∈fp,H' b=none)→∀ b∈fp,fH (ccx X scope h2'.objs.size N' s2 H2 fp) (X.pn++pins) H' b:=fun {H'} hn b hb=>by
  obtain ⟨f0,f1,f2',f3,f4,f5⟩:=f2 b hb;have ok:=I4.ok;refine ⟨hn b hb,(ok.exf b hb).1,ok.exfs b hb,.inl hb,(ok.exf b hb).2,fun p hp=>f5 p hp⟩
 have loop:∀ s₃:Shared,s₃={ s2 with heap:=h₁,toks:=s2.toks+([]:List (Str×Value)).length } →
   codeAny (model X.prog X.w) X.A (.compLoop (.ListComp elt [⟨tgt,iter,ifs,0⟩] scope pos) 0 (.ref it) (.ref s2.heap.objs.size) (compEnvC scope (cI X.env scope.names []) h2'.objs.size X.env))
    (compPost (model X.prog X.w) X.A X.xe (some (assign (.Name y py) X.env)) (fun _ s'=>SP X pins D0 .next s') (.ref s2.heap.objs.size) h2'.objs.size) s₃:=by
  rintro s₃ rfl;refine codeAny_loop rfl (fun n s'=>∃ i ys σ' H',Inv (ccx X scope h2'.objs.size N' s2 H2 fp) (X.pn++pins) σ' H' s'∧tn i s'.heap∧(∀ b∈fp,H' b=none)∧W i n ys σ' H') (fun n s3 hI=>?_) m0
   ⟨0,[],_,_,I4,T.keep _ _ _ st2 (fun b _ o e=>old b o e),fun b hb=>?_,w0⟩
  ·obtain ⟨i,ys,σ3,H3,I3,st3,fr3,w3⟩:=hI;show wpAny _ _ ((compTurn (.ListComp elt [⟨tgt,iter,ifs,0⟩] scope pos) 0 (.ref it) (.ref s2.heap.objs.size) (compEnvC scope (cI X.env scope.names []) h2'.objs.size X.env)).onRaise (fun x=>do noteFrame x _;theTreesLotGoes x)) _ _ s3;refine wpAny_noted ?_;rw [he];refine wpAny_bind (wpAny_standAt (wpAny_bind ?_));rcases turn i n ys σ3 H3 w3 with ⟨stop,qn⟩ | ⟨go,step⟩
   ·refine thn (T.done (ccx X scope h2'.objs.size N' s2 H2 fp) rfl rfl rfl hc i _ s3 σ3 H3 _ I3 (stat fr3) st3 stop) fun r s4 ⟨hr,I5⟩=>?_;subst hr;refine wpAny_pure ?_;obtain ⟨m,hm,_⟩:=id I5.loc;have IX:Inv X pins σ H3 { s4 with heap:=s4.heap }:=Inv.compEnd I2 f2 hC I5 (Heap.SameBut.refl _ _);have cne:∀ x c,X.env.cells.lookup x=some c→c≠h2'.objs.size:=fun x c ec z=>by
     obtain ⟨v0,oc,hoc,_⟩:=I2.cell x c ec;exact absurd (Nat.lt_of_lt_of_le (Heap.lt_size hoc) hC) (by rw [z];exact Nat.lt_irrefl _)
    have lne:h2'.objs.size≠X.env.locals:=Nat.ne_of_gt (Nat.lt_of_lt_of_le I2.lt hC);refine wpAny_assign_Name (jt IX hN hj hy (v:=.ref s2.heap.objs.size) rfl (fun s5 I6 ⟨a,sb,ha⟩=>?_) hfn);have na:h2'.objs.size≠a:=fun z=>by
     rcases ha with e | e
     ·exact lne (z.trans e)
     ·exact cne _ _ e z.symm
    refine ⟨m,hm.at' fun o e=>(sb.2 _ na).trans e,fun h' hs'=>⟨_,H3,?_,qn⟩⟩;exact I6.turned (t':=s5.toks) (fun b o hb' e=>(hs'.2 b hb').trans e) I5.free lne (.inr (Nat.le_trans I2.sz hC)) cne fun q hq z=>by
     obtain ⟨e,_⟩:=I2.pin q hq;exact absurd (Nat.lt_of_lt_of_le (Heap.lt_size e) hC) (by rw [z];exact Nat.lt_irrefl _)
   ·refine thn (T.item (ccx X scope h2'.objs.size N' s2 H2 fp) rfl rfl rfl hc i _ s3 σ3 H3 _ I3 (stat fr3) st3 go) fun r s4 ⟨u,hr,h4⟩=>?_;subst hr;refine wpAny_bind (thn h4 fun _ s5 ⟨x,H5,I5,r5,y5,st5,fr5⟩=>?_);have I5':=I5.pinned (stat fr5) (T.obj _ _ st5);refine wpAny_bind (wpAny_mono (hg h2'.objs.size s2 H2 fp _ s5 σ3 H5 x u _ I5' r5 (step x H5 y5)) (fun _ s6 ⟨σ6,H6,I6,q6⟩=>?_) fun _ _ z=>z.elim);refine wpAny_bind (wpAny_mono (hb h2'.objs.size s2 H2 fp _ s6 σ6 H6 s2.heap.objs.size ys _ I6 q6) (fun _ s7 ⟨ys7,σ7,H7,I7,m',hm,w7⟩=>?_) fun _ _ z=>z.elim);refine wpAny_pure ⟨rfl,m',hm,i+1,ys7,σ7,H7,I7.unpinned,T.keep _ _ _ st5 fun b hb o e=>(I7.pin (b,o) (List.mem_append_right _ (List.mem_append_right _ (bR hb e)))).1,fun b hb=>?_,w7⟩;obtain ⟨o,e,d⟩:=T.obj _ _ st5 b hb;exact (I7.pin (b,o) (List.mem_append_right _ (List.mem_append_right _ (bR hb e)))).2.1
  ·rw [af (show b≠s2.heap.objs.size from fun z=>nfp (by rw [← z];exact hb))];exact (f2 b hb).1
 refine codeAny_compStart_list (loop _ rfl) (T.self _ 0 _ _ _ ?_ (loop _ rfl));exact T.keep _ _ _ st2 fun b _ o e=>old b o e
theorem ps_setC {elt tgt iter:Expr} {scope:Scope} {pos spos py:Pos} {NL N':List Str} {ρ:List Nat} {wi:TI} {g:TG} {te:TE} {j:Nat} {y:Str} (hN:X.N.Nodup) (hj:X.N[j]?=some y) (hy:Loc X.env.scope y)
  (hc:X.calm=true) (S:CScope X scope NL ρ N') (hi:PI X tgt iter wi) (hg:∀ C s₀ H₀ fp,PG (ccx X scope C N' s₀ H₀ fp) tgt g) (he:∀ C s₀ H₀ fp,PE (ccx X scope C N' s₀ H₀ fp) elt te)
  (hsw:swapsWith (.ListComp elt [⟨tgt,iter,[],0⟩] scope pos) (some (.Name y py)) spos.line X.env=pure true:=by rfl) (hfn:X.fn y=true∨X.env.scope.names.lookup y=some .local:=by first | exact .inl rfl | exact .inr rfl | assumption)
  (hs:∀ x,foldedSetIterable iter X.env x=pure x:=by intro _;rfl):PS X (.Assign [.Name y py] (.ListComp elt [⟨tgt,iter,[],0⟩] scope pos) spos) (qM (mf NL.length ρ wi g (cEl te)) (ju j)) :=
 mF (body:=fun acc env=>do let x ← eval elt env;let _ ← call (.builtin "list.append") [acc,x];pure ()) hN hj hy hfn hsw hc S hi hg (fun C s₀ H₀ fp=>q8 (he C s₀ H₀ fp)) (fun it acc env=>mh elt tgt iter scope pos it acc env) hs
end
section
variable {X:Cx}
variable {K:PySem.W.Frag}
theorem aj {es:List Expr} {x1:Nat} {pos:Pos} {t:TA} (hK:X.K=K) (h:PA X es t):PE X (.Tuple es x1 pos) (uI K t):=by subst hK;exact tG h
theorem bf (hK:X.K=K):IxR X (wN K):=by subst hK;exact s8
theorem gx (hK:X.K=K) (hu:X.A.units+64 < cLine):OpR X (compareOp .Eq) (wV K):=by subst hK;exact vB hu
theorem op_in_seqK (hK:X.K=K):OpR X (compareOp .In) (rIn K false):=by subst hK;exact qc
end
section
variable {X:Cx}
end
section
variable {X:Cx}
theorem jH:∀ {ss:List Str} {us:List Value},StrsAre us ss→Vals (ss.map V.str) us
 | _,_,.nil=>.nil
 | _,_,.cons z t r=>.cons ⟨t,rfl⟩ (jH r)
end
abbrev two (v:Value) (c:Nat):Obj:={ cls:=.type "list",dict:=none,data:=.seq #[v,v] c,slots:=#[] }
section
variable {prog:Program} {w:World} {A:Around} {R:Result→Shared→Prop} {it:Addr} {fp wr:List Addr} {n:Nat} {P:Nat→Value→Prop} {St:Nat→Heap→Prop}
end
section
variable {prog:Program} {w:World} {A:Around} {E:Value→Shared→Prop} {s:Shared} {l:Addr} {zs:Array (Int×Tok)} {d:Value} {Q:Value→Shared→Prop}
end
section
variable {X:Cx}
end
section
variable {X:Cx} {K:PySem.W.Frag}
end
section
variable {l:Addr} {g:TG} {tb:List V→Addr→St→Hp→(List V→St→Hp→Prop)→Prop} {R:Hp→Prop} {σ0:St} {H0:Hp} {lo:Int} {n:Nat} {z:Str}
theorem mG (Pv:Nat→List V→St→Hp→Prop) (h0:Pv 0 [] σ0 H0) (hs:∀ i ys σ H (N:List V→St→Hp→Prop),i < n→Pv i ys σ H→(∀ ys' σ' H',Pv (i+1) ys' σ' H'→N ys' σ' H')→g (.int (lo+i)) σ H fun σ2 H2=>tb ys l σ2 H2 N) (hd:∀ ys σ H,Pv n ys σ H→R H) :
  ∃ W:Nat→Nat→List V→St→Hp→Prop,(∃ m,W 0 m [] σ0 H0)∧∀ i m ys σ' H',W i m ys σ' H'→((Itr lo n).stop i H'∧R H')∨((Itr lo n).go i H'∧∀ x H'',(Itr lo n).yld i H' x H''→g x σ' H'' fun σ2 H2=>tb ys l σ2 H2 fun ys' σ3 H3=>∃ m',m' < m∧W (i+1) m' ys' σ3 H3):=n6 (Q:=fun _ H=>R H) Pv h0 hs hd
end
section
variable {X:Cx} {K:PySem.W.Frag}
inductive JIxP (K:PySem.W.Frag) (x y:V) (H:Hp) (Q:VK):Prop
 | mk (l:List Dt) (i:Int) (d:Dt):(IsP K H (.tup l) x)→(y=.int i)→(atI l i=some d)→(∀ v,IsP K H d v→Q v H)→JIxP K x y H Q
def xm (K:PySem.W.Frag):R2:=fun x y H Q=>JIxP K x y H Q
inductive JCatP (K:PySem.W.Frag) (x y:V) (H:Hp) (Q:VK):Prop
 | mk (l m:List Dt):(IsP K H (.tup l) x)→(IsP K H (.tup m) y)→(l.length+m.length≤sizeLine)→(∀ v H',Same H H'→IsP K H' (.tup (l++m)) v→Q v H')→JCatP K x y H Q
def xn (K:PySem.W.Frag):R2:=fun x y H Q=>JCatP K x y H Q
inductive JLenD (K:PySem.W.Frag) (xs:List V) (H:Hp) (Q:VK):Prop
 | mk (x:V) (l:List Dt):(xs=[x])→(IsD K H (.tup l) x)→(Q (.int l.length) H)→JLenD K xs H Q
def xp (K:PySem.W.Frag):List V→Hp→VK→Prop:=fun xs H Q=>JLenD K xs H Q
inductive JIsi (K:PySem.W.Frag) (xs:List V) (H:Hp) (Q:VK):Prop
 | mk (x:V) (T:String) (b:Bool):(xs=[x,.ty T])→(IsiB K H x T b)→(Q (.bl b) H)→JIsi K xs H Q
def yc (K:PySem.W.Frag):List V→Hp→VK→Prop:=fun xs H Q=>JIsi K xs H Q
inductive JTupP (K:PySem.W.Frag) (xs:List V) (H:Hp) (Q:VK):Prop
 | mk (p:Addr) (ys:List V) (l:List Dt):(xs=[.ref p])→(SqL K H p ys)→(IsPs K H l ys)→(∀ v H',Same H H'→IsP K H' (.tup l) v→Q v H')→JTupP K xs H Q
def xr (K:PySem.W.Frag):List V→Hp→VK→Prop:=fun xs H Q=>JTupP K xs H Q
def xu (K:PySem.W.Frag):List V→Hp→VK→Prop:=fun xs H Q=>∃ x fs,xs=[x]∧IsP K H (.tup (fs.map prD)) x∧(fs.map (·.1)).Nodup∧fs.length≤1000∧∀ p H',Same H H'→xi K H' p fs→Q (.ref p) H'
theorem mH (hK:X.K=K):IxR X (xm K):=by
 subst hK;intro e1 e2 pins s σ H x y v u Q I rx ry h hs;obtain ⟨l,i,d,a,b,c,q⟩:=h;exact tJ _ _ _ _ _ _ _ _ _ _ _ I rx ry ⟨l,i,d,a,b,c,q⟩ hs
theorem bC (hK:X.K=K):OpR X (binaryOp .Add) (xn K):=by
 subst hK;intro pins s σ H x y v u Q I rx ry h;obtain ⟨l,m,a,b,c,q⟩:=h;exact tH _ _ _ _ _ _ _ _ _ I rx ry ⟨l,m,a,b,c,q⟩
theorem gy (hK:X.K=K) (hu:X.A.units+64 < cLine):OpR X (compareOp .NotEq) (wW K):=by subst hK;exact vC hu
theorem call_lenDN (hK:X.K=K):CallR X (.builtin "len") (xp K):=by
 subst hK;intro pins s σ H xs us Q I r h;obtain ⟨x,l,a,b,q⟩:=h;exact qm _ _ _ _ _ _ _ I r ⟨x,l,a,b,q⟩
theorem a7 (hK:X.K=K):CallR X (.builtin "isinstance") (yc K):=by
 subst hK;intro pins s σ H xs us Q I r h;obtain ⟨x,l,m,a,b,q⟩:=h;exact rg _ _ _ _ _ _ _ I r ⟨x,l,m,a,b,q⟩
theorem a8 (hK:X.K=K):CallR X (.type "tuple") (xr K):=by
 subst hK;intro pins s σ H xs us Q I r h;obtain ⟨x,l,m,a,b,c,q⟩:=h;exact mC _ _ _ _ _ _ _ I r ⟨x,l,m,a,b,c,q⟩
theorem mI (hK:X.K=K) (hc:X.calm=true):CallR X (.type "dict") (xu K):=by subst hK;exact oe hc
theorem pi_tupN {tg l:Expr} {tl:TE} (hK:X.K=K) (hl:PE X l tl):PI X tg l (wF K tl):=by subst hK;exact uZ hl
theorem aL {tg l:Expr} {tl:TE} (hK:X.K=K) (hl:PE X l tl):PI X tg l (uE K tl):=by subst hK;exact sW hl
end
section
variable {prog:Program} {w:World} {A:Around} {E:Value→Shared→Prop} {s:Shared}
theorem og {b t:Addr} {k:Nat} {its:Array Value} {v:Value} {Q:Value→Shared→Prop} (hb:IsTupIter s.heap b t k) (ht:IsTup s.heap t its) (hv:its[k]?=some v)
  (q:∀ h',IsTupIter h' b t (k+1)→Heap.SameBut b s.heap h'→Q v { s with heap:=h' }):wpAny (model prog w) A (Builtin.SmallTypes.nextOf (.ref b)) Q E s:=by
 obtain ⟨ob,gb,cb,db⟩:=id hb;obtain ⟨ot,gt,_,nt,dt⟩:=ht;unfold Builtin.SmallTypes.nextOf;refine wpAny_bind (wpAny_callSpecial?_slot (name:=Str.ofString "__next__") hb.typeIs slot_tupleiter_next (wpAny_call_entry slot_tupleiter_next hb.typeIs entry_tupleiter_next ?_ (args_tupleiter_next _)));refine show wpAny _ _ (field (.ref b) 0 >>= _) _ _ s from wpAny_bind (wpAny_field gb db (x:=.ref t) rfl ?_);refine show wpAny _ _ (if (Value.ref t == Value.none)=true then _ else _) _ _ s from ?_;rw [if_neg (by exact Bool.false_ne_true)];refine show wpAny _ _ (field (.ref b) 1 >>= _) _ _ s from wpAny_bind (wpAny_field gb db (x:=.int k 0) rfl ?_);refine show wpAny _ _ (seqItems? (.ref t) >>= _) _ _ s from wpAny_bind (wpAny_seqItems gt dt ?_);simp only [hv,Int.toNat_natCast];refine wpAny_bind (wpAny_setField gb db (by simp) (wpAny_pure ⟨v,rfl,wpAny_pure (q _ ⟨_,Heap.get?_update_self _ gb (Obj.isFreed_of_fields (Obj.data_mapFields db _)),(Obj.cls_mapFields ..).trans cb,?_⟩ (Heap.SameBut.update ..))⟩));rw [Obj.data_mapFields db];simp [rawInt]
theorem qv {b t:Addr} {k:Nat} {its:Array Value} {Q:Value→Shared→Prop} (hh:A.handled=none) (hb:IsTupIter s.heap b t k) (ht:IsTup s.heap t its) (hv:its[k]?=none)
  (q:∀ h' e,Heap.ExtBut b s.heap h'→(∃ o,h'.get? e=some o∧o.cls=.type "StopIteration")→E (.ref e) { s with heap:=h' }):wpAny (model prog w) A (Builtin.SmallTypes.nextOf (.ref b)) Q E s:=by
 obtain ⟨ob,gb,cb,db⟩:=id hb;obtain ⟨ot,gt,_,nt,dt⟩:=ht;unfold Builtin.SmallTypes.nextOf;refine wpAny_bind (wpAny_callSpecial?_slot (name:=Str.ofString "__next__") hb.typeIs slot_tupleiter_next (wpAny_call_entry slot_tupleiter_next hb.typeIs entry_tupleiter_next ?_ (args_tupleiter_next _)));refine show wpAny _ _ (field (.ref b) 0 >>= _) _ _ s from wpAny_bind (wpAny_field gb db (x:=.ref t) rfl ?_);refine show wpAny _ _ (if (Value.ref t == Value.none)=true then _ else _) _ _ s from ?_;rw [if_neg (by exact Bool.false_ne_true)];refine show wpAny _ _ (field (.ref b) 1 >>= _) _ _ s from wpAny_bind (wpAny_field gb db (x:=.int k 0) rfl ?_);refine show wpAny _ _ (seqItems? (.ref t) >>= _) _ _ s from wpAny_bind (wpAny_seqItems gt dt ?_);simp only [hv,Int.toNat_natCast];refine wpAny_bind (wpAny_rule (wpAny_bind (wpAny_setField gb db (by simp) ?_)));refine show wpAny _ _ (newExc (.type "StopIteration") [] >>= _) _ _ _ from wpAny_bind ?_;simp only [newTuple,newExc];refine wpAny_bind (wpAny_newObj_type (wpAny_bind (m:=firstArgMember _ _) (wpAny_of_eq (a:=Value.none) (by first | rfl | (simp only [firstArgMember];rfl)) (wpAny_newObj_type ?_ (by size_fits)))) (by size_fits));simp only [raiseNew];refine wpAny_bind (wpAny_handled ?_);rw [show A.in1.handled=none from hh];exact wpAny_bind (wpAny_pure (wpAny_throw (q _ _ (((Heap.SameBut.update ..).extBut.push _).push _) ⟨_,Heap.get?_push_size _ rfl,rfl⟩)))
end
section
variable {X:Cx} {elts:List Expr} {k:Nat} {tpos:Pos}
end
section
variable {X:Cx} {K:PySem.W.Frag}
end
section
variable {prog:Program} {w:World} {A:Around} {E:Value→Shared→Prop} {s:Shared}
theorem i7:typeLookup (.type "dict") "__len__" = pure (some (.builtin "dict.__len__")):=by rw [typeLookup_type,builtinLookup_eq_fast];kernel_rfl
theorem mJ {d:Addr} {kvs:List (Key×Value)} {Q:List Value→Shared→Prop} (hh:A.handled=none) (hd:(d == sysModules)=false) (hm:s.heap.DictOf (aq prog w) d kvs) (hn:kvs.length≤sizeLine)
  (q:∀ s' acc,(∀ b o,s.heap.get? b=some o→s'.heap.get? b=some o)→s.heap.objs.size < s'.heap.objs.size→s'.gens=s.gens→s'.drawn=s.drawn→s'.os=s.os→ItemsOf (fun i v=>∃ k x,kvs[i]?=some (k,x)∧(aq prog w).is k v=true) acc kvs.length→Q acc.toList s') :
  wpAny (model prog w) A (collect (.ref d)) Q E s:=by
 obtain ⟨ep,at0⟩:=hm.dictAt;have hdT:s.TypeIs (.ref d) "dict" :=hm.typeIs;unfold collect;refine wpAny_bind (wpAny_runValue (codeAny_builtin F.entry_proto_collect ?_));rw [Around.under_plainId F.plain_proto_collect _];refine show wpAny _ A.in1 (newList [] >>= fun l=>again (.builtin "list.__iadd__" ⟨[l,.ref d],[]⟩)) _ _ s from wpAny_bind (wpAny_newObj_type ?_);refine wpAny_pure ⟨plainId_quiet F.plain_list_iadd _,codeAny_builtin F.entry_list_iadd ?_⟩;rw [Around.under_plainId F.plain_list_iadd _];have ltd:d < s.heap.objs.size:=at0.lt_size;have at1:=at0.push { cls:=.type "list",data:=.seq ([]:List Value).toArray }
 generalize hH:s.heap.push { cls:=.type "list",data:=.seq ([]:List Value).toArray }=G at at1 ⊢
 have hT1:Shared.TypeIs { s with heap:=G } (.ref d) "dict" :=at1.dictOf.typeIs;refine show wpAny _ A.in1 (Builtin.List.listExtendWith (.ref s.heap.objs.size) (.ref d) (.ref s.heap.objs.size)) _ _ _ from ?_;unfold Builtin.List.listExtendWith;refine wpAny_bind (wpAny_typeOf hT1 ?_);have n1:Builtin.List.listSameRef (.ref s.heap.objs.size) (.ref d)=false:=by simp [Builtin.List.listSameRef];exact Nat.ne_of_gt ltd
 simp only [n1,show (Value.type "dict" == Value.type "list")=false by decide,show (Value.type "dict" == Value.type "tuple")=false by decide,Bool.or_false,Bool.false_eq_true,if_false];refine wpAny_bind (wpAny_pyIter_dict hd at1 ?_);refine wpAny_bind (wpAny_holding ?_);have at2:=at1.push { cls:=.type "dict_keyiterator",data:=.fields #[.ref d,.int 0 0,.int kvs.length 0,.int ep 0] };have k2:Heap.IsKeyIter (G.push { cls:=.type "dict_keyiterator",data:=.fields #[.ref d,.int 0 0,.int kvs.length 0,.int ep 0] }) G.objs.size d 0 kvs.length ep:=⟨_,Heap.get?_push_size _ rfl,rfl,rfl⟩;have S2:(G.push { cls:=.type "dict_keyiterator",data:=.fields #[.ref d,.int 0 0,.int kvs.length 0,.int ep 0] }).get? s.heap.objs.size=some { cls:=.type "list",data:=.seq ([]:List Value).toArray }:=Heap.get?_push_of_some _ (hH ▸ Heap.get?_push_size _ rfl);have keep2:∀ b o,s.heap.get? b=some o→(G.push { cls:=.type "dict_keyiterator",data:=.fields #[.ref d,.int 0 0,.int kvs.length 0,.int ep 0] }).get? b=some o:=fun b o e=>Heap.get?_push_of_some _ (hH ▸ Heap.get?_push_of_some _ e);have sizeG:G.objs.size=s.heap.objs.size+1:=by rw [← hH,Heap.size_push]
 generalize G.push { cls:=.type "dict_keyiterator",data:=.fields #[.ref d,.int 0 0,.int kvs.length 0,.int ep 0] }=G2 at at2 k2 S2 keep2 ⊢
 have hT2:Shared.TypeIs { s with heap:=G2 } (.ref d) "dict" :=at2.dictOf.typeIs;unfold Builtin.List.listLengthHint;refine wpAny_bind (wpAny_specialOf hT2 i7 ?_)
 wp_delta
 refine wpAny_bind (wpAny_isInstance (b:=true) hT2 (by rw [isSubtype_type];kernel_rfl) ?_);refine show wpAny _ A.in1 (typeOf (Value.ref d) >>= _) _ _ _ from wpAny_bind (wpAny_typeOf hT2 (wpAny_pure ?_));rw [if_pos (by decide)];refine wpAny_bind (wpAny_rule (wpAny_bind ?_));refine show wpAny _ A.in1 (updateSeq s.heap.objs.size (·.push .none) >>= fun _=>updateSeq s.heap.objs.size (·.pop)) _ _ _ from wpAny_bind (wpAny_updateSeq S2 rfl ?_);have S3:=Heap.get?_update_self (Obj.mapSeq (·.push Value.none)) S2 rfl;refine wpAny_updateSeq (hz:=by seq_fits) S3 rfl ?_;have S4:=Heap.get?_update_self (Obj.mapSeq (·.pop)) S3 rfl;have oth:∀ b o,b≠s.heap.objs.size→G2.get? b=some o→((G2.update s.heap.objs.size (Obj.mapSeq (·.push Value.none))).update s.heap.objs.size (Obj.mapSeq (·.pop))).get? b=some o:=fun b o n e=>(Heap.get?_update_other _ _ (Ne.symm n)).trans ((Heap.get?_update_other _ _ (Ne.symm n)).trans e);have nG:G.objs.size≠s.heap.objs.size:=by rw [sizeG];exact Nat.succ_ne_self _
 have nd:d≠G.objs.size:=by rw [sizeG];exact Nat.ne_of_lt (Nat.lt_succ_of_lt ltd)
 have Wk:=Walks.dictKeys (prog:=prog) (w:=w) (A:=A.in1) (knd:=aq prog w) hh G.objs.size d nd kvs ep;have hSf:s.heap.objs.size∉[G.objs.size,d]:=by
  simp only [List.mem_cons,List.not_mem_nil,or_false,not_or];exact ⟨nG.symm,Nat.ne_of_gt ltd⟩
 refine wpAny_pure ⟨plainId_quiet F.plain_extend_loop _,codeAny_extend_loopS Wk.toS hn _ hSf _ kvs.length 0 _ _ _ rfl (Nat.zero_le _) ⟨k2.at fun o e=>oth _ o nG e,at2.at' fun o e=>oth _ o (Nat.ne_of_lt ltd) e⟩ S4 (ItemsOf.nil _) fun s' acc' c' hmv S5 hacc=>?_⟩;refine show wpAny _ A (load s.heap.objs.size >>= _) _ _ s' from wpAny_bind (wpAny_load S5 (wpAny_pure (q s' acc' (fun b o e=>hmv.heap b o (fun hb=>?_) (oth b o (Nat.ne_of_lt (Heap.lt_size e)) (keep2 b o e))) (Heap.lt_size S5) hmv.gens hmv.drawn hmv.os hacc)));have hlt:=Heap.lt_size e;simp only [List.mem_cons,List.not_mem_nil,or_false] at hb;rcases hb with h | h
 ·exact absurd hlt (h ▸ Nat.lt_irrefl _)
 ·rw [h,sizeG] at hlt;exact absurd hlt (Nat.not_lt.mpr (Nat.le_succ _))
theorem tQ {P:Program} {w:World} {z:Str} {v:Value} (h:(aq P w).is (Sum.inr z) v=true):∃ t,v=.str z t:=by
 rcases aE (show ia (Sum.inr z) v=true from h) with ⟨i,t,e,_⟩ | ⟨x,t,e,rfl⟩
 ·cases e
 ·cases e
  exact ⟨t,rfl⟩
theorem jI {P:Program} {w:World}:∀ {ss:List Str} {us:List Value},us.length=ss.length→(∀ (j:Nat) (v:Value),us[j]?=some v→∃ z,ss[j]?=some z∧(aq P w).is (Sum.inr z) v=true)→StrsAre us ss
 | [],us,hl,_=>by
  cases us with
  | nil=>exact .nil
  | cons u us=>cases hl
 | z :: ss,us,hl,h=>by
  cases us with
  | nil=>cases hl
  | cons u us =>
   obtain ⟨z',e,hz⟩:=h 0 u rfl;obtain rfl:z=z':=Option.some.inj e;obtain ⟨t,rfl⟩:=tQ hz;exact .cons z t (jI (Nat.succ.inj hl) fun j v hj=>by simpa using h (j+1) v (by simpa using hj))
theorem tR {d:Addr} {kvs:List (Key×Value)} {ss:List Str} {Q:Value→Shared→Prop} (hh:A.handled=none) (hd:(d == sysModules)=false) (hm:s.heap.DictOf (aq prog w) d kvs) (names:kvs.map (·.1)=ss.map Sum.inr) (h64:ss.length < 64)
  (q:∀ (h':Heap) (t':Nat) (a:Addr) (out:Array Value) (ss':List Str) (n:Nat),(∀ b o,s.heap.get? b=some o→h'.get? b=some o)→s.heap.objs.size≤a→h'.get? a=some (seqObj "list" out n)→StrsAre out.toList ss'→ss'.Perm ss→sortedS ss'=true→Q (.ref a) { s with heap:=h',toks:=t' }) :
  wpAny (model prog w) A (call (.builtin "sorted") [.ref d]) Q E s:=by
 have lk:kvs.length=ss.length:=by have:=congrArg List.length names;simpa using this
 refine Calls.call_function_entry kind_sorted plain_sorted entry_sorted (args_sorted1 _) ?_;unfold Builtin.«sorted»;refine wpAny_bind (m:=checkCount "sorted" 1 1 _) (wpAny_pure (wpAny_bind (mJ hh hd hm (by rw [lk];exact Nat.le_of_lt (Nat.lt_trans h64 (by decide))) fun s1 acc kk low g1 d1 o1 items=>?_)));have hS:StrsAre acc.toList ss:=jI (P:=prog) (w:=w) (by rw [Array.length_toList,items.1,lk]) fun j v hj=>by
  obtain ⟨k,x,e,hk⟩:=items.2 j v (by simpa using hj);have e2:(kvs.map (·.1))[j]?=some k:=by rw [List.getElem?_map,e];rfl
  rw [names,List.getElem?_map] at e2;obtain ⟨z,hz,rfl⟩:=Option.map_eq_some_iff.mp e2;exact ⟨z,hz,hk⟩
 have lacc:acc.toList.length < 64:=by
  have:=items.1;simp only [Array.length_toList];lia
 refine wpAny_bind (wpAny_newList ?_);have hoL:(s1.heap.push (seqObj "list" acc.toList.toArray 0)).get? s1.heap.objs.size=some (seqObj "list" acc.toList.toArray 0):=Heap.get?_push_size _ rfl;refine wpAny_bind (wpAny_holding (wpAny_call_entry slot_list_sort ⟨_,hoL,rfl⟩ entry_list_sort (list_sort_treeK strKind_oneLt hoL hS.keysOf (fun v₁ v₂ rest e=>keyKind_strs (by rw [← e];exact hS)) lacc fun st' hp hs=>⟨_,rfl,?_⟩) (args_list_sort _)));obtain ⟨ss',h1,h2,h3⟩:=sorted_out_str hS hp hs;obtain ⟨e,he⟩:=sortedHeap_at (out:=(arrOf st').map (·.2)) hoL;obtain ⟨hp1,g',d',tk',os'⟩:=s1;have e1:g'=s.gens:=g1;have e2:d'=s.drawn:=d1;have e3:os'=s.os:=o1;subst e1 e2 e3;refine wpAny_pure ⟨_,rfl,q _ tk' _ _ ss' e (fun b o eb=>?_) (Nat.le_of_lt low) he h1 h2 h3⟩;have lt:=Heap.lt_size (kk b o eb);rw [sortedHeap_old (Nat.ne_of_lt lt) (by rw [Heap.size_push];exact Nat.lt_succ_of_lt lt)];exact Heap.get?_push_of_some _ (kk b o eb)
end
section
variable {X:Cx}
theorem oh (hc:X.calm=true):CallR X (.builtin "sorted") (fun xs H Q=>∃ (p:Addr) (kvs:List (Key×V)) (ss:List Str),xs=[.ref p]∧H p=some (.dK kvs)∧kvs.map (·.1)=ss.map Sum.inr∧ss.length < 64∧∀ a ss',H a=none→ss'.Perm ss→sortedS ss'=true→Q (.ref a) (upd H a (.lst (ss'.map V.str)))):=by
 intro pins s σ H xs us Q I r h;obtain ⟨p,kvs,ss,rfl,hp,names,hl,q⟩:=h;obtain ⟨u,rfl,rx⟩:=dU r
 cases rx
 obtain ⟨hz,hd,vs,kv,dof⟩:=o7 I.hok hp;refine tR (ss:=ss) (I.ok.hd hc) hd dof (by rw [← kv.keys];exact names) hl fun h' t' a out ss' n kk low ea h1 h2 h3=>?_;have hn:H a=none:=I.hok.fresh low;refine ⟨.ref a,_,I.laid (t':=t') (o:=.lst (ss'.map V.str)) kk low ?_,rfl,q a ss' hn h2 h3⟩;have e2:seqObj "list" out n=seqObj "list" out.toList.toArray n:=by rw [Array.toArray_toList]
 refine ⟨?_,out.toList,n,jH h1,?_⟩
 ·rw [List.length_map,h2.length_eq];exact Nat.le_of_lt (Nat.lt_trans hl (by decide))
 ·rw [ea,e2]
def yp (K:PySem.W.Frag) (H:Hp) (p:Addr) (fs:List (Str×Dt)):Prop :=
 ∃ kvs,H p=some (.dK kvs)∧kvs.map (·.1)=fs.map (fun p=>(Sum.inr p.1:Key))∧∀ z,(lookS fs z=none→aK kvs (Sum.inr z:Key)=none)∧∀ d,lookS fs z=some d→∃ v,aK kvs (Sum.inr z:Key)=some v∧IsP K H d v
end
section
variable {prog:Program} {w:World} {A:Around} {E:Value→Shared→Prop} {s:Shared}
theorem xw {a:Addr} {Q:Option Obj→Shared→Prop} (h:Q (s.heap.get? a) s):wpAny (model prog w) A (loadIfAlive a) Q E s:=fun Γ p _=>by
 show Sem.wp _ _ (.loadIfAlive a .pure) _ _ _ _;rw [Sem.wp_loadIfAlive];exact h
abbrev enO (f0:Value) (f1:Bool) (b:Addr) (i:Nat) (x:Value):Obj:={ cls:=.type "enumerate",dict:=none,data:=.fields #[f0,.bool f1,.ref b,rawInt i,.none,x],slots:=#[] }
def EnS (h:Heap) (e b:Addr) (i:Nat):Prop:=∃ f0 f1 x,h.get? e=some (enO f0 f1 b i x)∧(f0=.none∨∃ (T:Nat) (o:Obj),f0=rawInt T∧h.get? T=some o∧T≠e∧T≠b)
theorem rJ {e b t:Addr} {i:Nat} {its:Array Value} {x:Value} {Q:Value→Shared→Prop} (he:EnS s.heap e b i) (hb:IsTupIter s.heap b t i) (ht:IsTup s.heap t its) (hx:its[i]?=some x) (ne:e≠b)
  (q:∀ (h':Heap) (tk tk':Nat),EnS h' e b (i+1)→IsTupIter h' b t (i+1)→h'.get? s.heap.objs.size=some { cls:=.type "tuple",data:=.seq #[.int i tk,x] }→h'.objs.size=s.heap.objs.size+1 →
   (∀ c o,c≠e→c≠b→s.heap.get? c=some o→h'.get? c=some o)→Q (.ref s.heap.objs.size) { s with heap:=h',toks:=tk' }) :
  wpAny (model prog w) A (Builtin.«enumerate.__next__» ⟨[.ref e],[]⟩) (fun fin s'=>∃ v,fin=.done (.ret v)∧Q v s') E s:=by
 obtain ⟨f0,f1,old,ge,life⟩:=he;obtain ⟨hp,g,d,tk,os⟩:=s;refine show wpAny _ _ (field (.ref e) 2 >>= _) _ _ _ from wpAny_bind (wpAny_field ge rfl (x:=.ref b) rfl ?_);refine wpAny_bind (og hb ht hx fun ha wa sa=>?_);replace sa:Heap.SameBut b hp ha:=sa;have ga:ha.get? e=some (enO f0 f1 b i old):=(sa.2 e ne).trans ge;refine show wpAny _ _ (field (.ref e) 3 >>= _) _ _ ⟨ha,g,d,tk,os⟩ from wpAny_bind (wpAny_field ga rfl (x:=rawInt i) rfl ?_);refine show wpAny _ _ (field (.ref e) 4 >>= _) _ _ ⟨ha,g,d,tk,os⟩ from wpAny_bind (wpAny_field ga rfl (x:=.none) rfl ?_);refine show wpAny _ _ (mkInt i >>= _) _ _ ⟨ha,g,d,tk,os⟩ from wpAny_bind (wpAny_mkInt ?_);refine show wpAny _ _ (setField (.ref e) 3 (rawInt ((i:Int)+1)) >>= _) _ _ ⟨ha,g,d,tk+1,os⟩ from wpAny_bind (wpAny_setField_rec ga (by simp) fun hb' gb sb=>?_);replace sb:Heap.SameBut e ha hb':=sb;replace gb:hb'.get? e=some (enO f0 f1 b (i+1) old):=gb;refine show wpAny _ _ (setField (.ref e) 4 .none >>= _) _ _ ⟨hb',g,d,tk+1,os⟩ from wpAny_bind (wpAny_setField_rec gb (by simp) fun hc gc sc=>?_);replace sc:Heap.SameBut e hb' hc:=sc;replace gc:hc.get? e=some (enO f0 f1 b (i+1) old):=gc;refine show wpAny _ _ (newTuple [.int i tk,x] >>= _) _ _ ⟨hc,g,d,tk+1,os⟩ from wpAny_bind (wpAny_newTuple ?_);have size:hc.objs.size=hp.objs.size:=by rw [sc.1,sb.1,sa.1]
 have lte:e < hp.objs.size:=Heap.lt_size ge;have gd:(hc.push { cls:=.type "tuple",data:=.seq #[.int i tk,x] }).get? e=some (enO f0 f1 b (i+1) old):=Heap.get?_push_of_some _ gc;have gT:(hc.push { cls:=.type "tuple",data:=.seq #[.int i tk,x] }).get? hp.objs.size=some { cls:=.type "tuple",data:=.seq #[.int i tk,x] }:=by rw [← size];exact Heap.get?_push_size _ rfl
 have sd:(hc.push { cls:=.type "tuple",data:=.seq #[.int i tk,x] }).objs.size=hp.objs.size+1:=by rw [Heap.size_push,size]
 have kd:∀ c o,c≠e→c≠b→hp.get? c=some o→(hc.push { cls:=.type "tuple",data:=.seq #[.int i tk,x] }).get? c=some o:=fun c o n1 n2 ec=>Heap.get?_push_of_some _ (sc.extBut c o n1 (sb.extBut c o n1 (sa.extBut c o n2 ec)));have wd:IsTupIter (hc.push { cls:=.type "tuple",data:=.seq #[.int i tk,x] }) b t (i+1):=by
  obtain ⟨o,ho,r⟩:=(wa.extBut sb.extBut (Ne.symm ne)).extBut sc.extBut (Ne.symm ne);exact ⟨o,Heap.get?_push_of_some _ ho,r⟩
 refine show wpAny _ _ (Builtin.SmallTypes.ownedTupleIsFree (.ref e) >>= _) _ _ ⟨_,g,d,tk+1,os⟩ from ?_;rw [size]
 generalize hc.push { cls:=.type "tuple",data:=.seq #[.int i tk,x] }=hd at gd gT sd kd wd ⊢
 refine wpAny_bind ?_;unfold Builtin.SmallTypes.ownedTupleIsFree;rcases life with rfl | ⟨T,oT,rfl,eT,nTe,nTb⟩
 ·refine wpAny_bind (wpAny_field gd rfl (x:=.none) rfl (wpAny_pure ?_));rw [if_pos rfl];refine wpAny_bind (wpAny_rule (wpAny_bind (wpAny_field gd rfl (x:=old) rfl (wpAny_bind (wpAny_setField_rec gd (by simp) fun hf gf sf=>?_)))));replace sf:Heap.SameBut e hd hf:=sf;replace gf:hf.get? e=some (enO .none f1 b (i+1) x):=gf;refine show wpAny _ _ (Builtin.SmallTypes.ownedTupleHandOut (.ref e) (.ref hp.objs.size) >>= _) _ _ ⟨hf,g,d,tk+1,os⟩ from wpAny_bind ?_;unfold Builtin.SmallTypes.ownedTupleHandOut;refine wpAny_bind (wpAny_setField_rec gf (by simp) fun hg gg sg=>?_);replace sg:Heap.SameBut e hf hg:=sg;replace gg:hg.get? e=some (enO (rawInt hp.objs.size) f1 b (i+1) x):=gg;refine wpAny_setField_rec gg (by simp) fun hi gi si=>?_;replace si:Heap.SameBut e hg hi:=si;replace gi:hi.get? e=some (enO (rawInt hp.objs.size) false b (i+1) x):=gi;have up:∀ c o,c≠e→hd.get? c=some o→hi.get? c=some o:=fun c o n ec=>si.extBut c o n (sg.extBut c o n (sf.extBut c o n ec));have nT:hp.objs.size≠e:=Nat.ne_of_gt lte;have ltb:b < hp.objs.size:=by
   obtain ⟨o,ho,_⟩:=hb;exact Heap.lt_size ho
  refine wpAny_bind (wpAny_letGo (wpAny_pure ⟨_,rfl,q hi tk (tk+1) ⟨_,_,_,gi,.inr ⟨hp.objs.size,_,rfl,up _ _ nT gT,nT,Nat.ne_of_gt ltb⟩⟩ ?_ (up _ _ nT gT) ?_ fun c o n1 n2 ec=>up c o n1 (kd c o n1 n2 ec)⟩))
  ·exact ((wd.extBut sf.extBut (Ne.symm ne)).extBut sg.extBut (Ne.symm ne)).extBut si.extBut (Ne.symm ne)
  ·rw [si.1,sg.1,sf.1,sd]
 ·refine wpAny_bind (wpAny_field gd rfl (x:=rawInt T) rfl ?_);have eT':hd.get? T=some oT:=kd T oT nTe nTb eT;refine show wpAny _ _ (loadIfAlive (T:Int).toNat >>= _) _ _ _ from wpAny_bind (xw ?_);rw [Int.toNat_natCast];refine show wpAny _ _ (if (hd.get? T).isNone=true then _ else _) _ _ _ from ?_;rw [eT',if_neg (by simp)];refine show wpAny _ _ (field (.ref e) 1 >>= _) _ _ _ from wpAny_bind (wpAny_field gd rfl (x:=.bool f1) rfl ?_);have ends:∀ (hi:Heap) (f:Bool),hi.get? e=some (enO (rawInt T) f b (i+1) old)→(∀ c o,c≠e→hd.get? c=some o→hi.get? c=some o)→hi.objs.size=hd.objs.size→IsTupIter hi b t (i+1)→∃ v,Fin.done (Flow.ret (Value.ref hp.objs.size))=Fin.done (Flow.ret v)∧Q v ⟨hi,g,d,tk+1,os⟩:=fun hi f gi up sz wi=>by
   have nT:hp.objs.size≠e:=Nat.ne_of_gt lte;exact ⟨_,rfl,q hi tk (tk+1) ⟨_,_,_,gi,.inr ⟨T,oT,rfl,up _ _ nTe eT',nTe,nTb⟩⟩ wi (up _ _ nT gT) (by rw [sz,sd]) fun c o n1 n2 ec=>up c o n1 (kd c o n1 n2 ec)⟩
  cases f1 with
  | true =>
   refine wpAny_pure ?_;exact wpAny_pure (ends hd true gd (fun _ _ _ e=>e) rfl wd)
  | false =>
   refine show wpAny _ _ (setField (.ref e) 1 (.bool true) >>= _) _ _ _ from wpAny_bind (wpAny_setField_rec gd (by simp) fun hf gf sf=>wpAny_pure ?_);replace sf:Heap.SameBut e hd hf:=sf;exact wpAny_pure (ends hf true gf (fun c o n ec=>sf.extBut c o n ec) sf.1 (wd.extBut sf.extBut (Ne.symm ne)))
theorem mK {h:Heap} {e b:Addr} {i:Nat} (he:EnS h e b i):∃ o,h.get? e=some o∧o.cls=.type "enumerate" :=by
 obtain ⟨f0,f1,x,ge,_⟩:=he;exact ⟨_,ge,rfl⟩
theorem tT {e b t:Addr} {i:Nat} {its:Array Value} {x:Value} {Q:Option Value→Shared→Prop} (he:EnS s.heap e b i) (hb:IsTupIter s.heap b t i) (ht:IsTup s.heap t its) (hx:its[i]?=some x) (ne:e≠b)
  (q:∀ (h':Heap) (tk tk':Nat),EnS h' e b (i+1)→IsTupIter h' b t (i+1)→h'.get? s.heap.objs.size=some { cls:=.type "tuple",data:=.seq #[.int i tk,x] }→h'.objs.size=s.heap.objs.size+1 →
   (∀ c o,c≠e→c≠b→s.heap.get? c=some o→h'.get? c=some o)→Q (some (.ref s.heap.objs.size)) { s with heap:=h',toks:=tk' }):wpAny (model prog w) A (pyNext (.ref e)) Q E s:=by
 have hT:s.TypeIs (.ref e) "enumerate" :=mK he;unfold pyNext;exact wpAny_bind (wpAny_attempt (wpAny_callSpecial?_slot (name:=Str.ofString "__next__") hT F.slot_enumerate_next (wpAny_call_entry F.slot_enumerate_next hT F.entry_enumerate_next (rJ he hb ht hx ne fun h' tk tk' a1 a2 a3 a4 a5=>wpAny_pure (q h' tk tk' a1 a2 a3 a4 a5)) (F.args_enumerate_next_1 _))))
theorem tU {e b t:Addr} {i:Nat} {its:Array Value} {Q:Option Value→Shared→Prop} (hh:A.handled=none) (he:EnS s.heap e b i) (hb:IsTupIter s.heap b t i) (ht:IsTup s.heap t its) (hx:its[i]?=none)
  (q:∀ h',Heap.ExtBut b s.heap h'→Q none { s with heap:=h' }):wpAny (model prog w) A (pyNext (.ref e)) Q E s:=by
 have hT:s.TypeIs (.ref e) "enumerate" :=mK he;obtain ⟨f0,f1,old,ge,_⟩:=he;unfold pyNext;refine wpAny_bind (wpAny_attempt (wpAny_callSpecial?_slot (name:=Str.ofString "__next__") hT F.slot_enumerate_next (wpAny_call_entry F.slot_enumerate_next hT F.entry_enumerate_next ?_ (F.args_enumerate_next_1 _))));refine show wpAny _ _ (field (.ref e) 2 >>= _) _ _ _ from wpAny_bind (wpAny_field ge rfl (x:=.ref b) rfl (wpAny_bind (qv hh hb ht hx fun h' ex sx hex=>?_)));obtain ⟨o,ho,hc⟩:=hex;exact wpAny_bind (wpAny_isInstance (T:= "StopIteration") (b:=true) ⟨o,ho,hc⟩ isSubtype_stop (wpAny_pure (q _ sx)))
structure EnL (h0:Heap) (e b t S:Addr) (its:Array Value) (i:Nat) (acc:Array Value) (h:Heap):Prop where
 en:EnS h e b i
 wk:IsTupIter h b t i
 tp:IsTup h t its
 ls:∃ c,h.get? S=some { cls:=.type "list",dict:=none,data:=.seq acc c,slots:=#[] }
 sz:acc.size=i
 pr:∀ (j:Nat) (v:Value),acc[j]?=some v→∃ (T:Addr) (tk:Nat) (x:Value),v=.ref T∧h0.objs.size≤T∧its[j]?=some x∧h.get? T=some { cls:=.type "tuple",data:=.seq #[.int j tk,x] }
 kp:∀ c o,c≠e→c≠b→c≠S→h0.get? c=some o→h.get? c=some o
 bg:h0.objs.size≤h.objs.size
theorem tV {R:Result→Shared→Prop} {h0:Heap} {e b t S:Addr} {its:Array Value} {res:Value} (hh:A.handled=none) (hn:its.size≤sizeLine) (ne:e≠b) (nS:S≠e) (nb:S≠b) (nt:t≠e) (ntb:t≠b) (ntS:t≠S) (le:e < h0.objs.size) (lb:b < h0.objs.size) (lS:S < h0.objs.size) :
  ∀ (k i:Nat) (s:Shared) (acc:Array Value),its.size - i=k→i≤its.size→EnL h0 e b t S its i acc s.heap →
  (∀ (h':Heap) (tk:Nat) (acc':Array Value),EnL h0 e b t S its its.size acc' h'∨(∃ c,h'.get? S=some { cls:=.type "list",dict:=none,data:=.seq acc' c,slots:=#[] })∧acc'.size=its.size ∧
   (∀ (j:Nat) (v:Value),acc'[j]?=some v→∃ (T:Addr) (tk:Nat) (x:Value),v=.ref T∧h0.objs.size≤T∧its[j]?=some x∧h'.get? T=some { cls:=.type "tuple",data:=.seq #[.int j tk,x] })∧(∀ c o,c≠e→c≠b→c≠S→h0.get? c=some o→h'.get? c=some o)→R (.ok (.ret res)) { s with heap:=h',toks:=tk }) →
  codeAny (model prog w) A (.builtin "list.extend.loop" ⟨[.ref S,.ref e,res],[]⟩) R s:=by
 intro k
 induction k with
 | zero =>
  intro i s acc hk hi L q;obtain rfl:i=its.size:=by lia
  refine codeAny_builtin F.entry_extend_loop ?_;rw [Around.under_plainId F.plain_extend_loop _];refine show wpAny _ A.in1 (pyNext (.ref e) >>= _) _ _ s from wpAny_bind (tU hh L.en L.wk L.tp (by simp) fun h' sx=>?_);obtain ⟨c,lc⟩:=L.ls;refine wpAny_pure (q h' s.toks acc (.inr ⟨⟨c,sx _ _ nb lc⟩,L.sz,fun j v hj=>?_,fun c o n1 n2 n3 ec=>sx _ _ n2 (L.kp c o n1 n2 n3 ec)⟩));obtain ⟨T,tk,x,r1,r2,r3,r4⟩:=L.pr j v hj;exact ⟨T,tk,x,r1,r2,r3,sx _ _ (Nat.ne_of_gt (Nat.lt_of_lt_of_le lb r2)) r4⟩
 | succ k ih =>
  intro i s acc hk hi L q;have lt:i < its.size:=by lia
  refine codeAny_builtin F.entry_extend_loop ?_;rw [Around.under_plainId F.plain_extend_loop _];refine show wpAny _ A.in1 (pyNext (.ref e) >>= _) _ _ s from wpAny_bind (tT L.en L.wk L.tp (Array.getElem?_eq_getElem lt) ne fun h' tk tk' a1 a2 a3 a4 a5=>?_);obtain ⟨c,lc⟩:=L.ls;have lc':=a5 _ _ nS nb lc;have S':=Heap.get?_update_self (Obj.mapSeq (·.push (Value.ref s.heap.objs.size))) lc' rfl;have oth:∀ c o,c≠S→h'.get? c=some o→(h'.update S (Obj.mapSeq (·.push (Value.ref s.heap.objs.size)))).get? c=some o:=fun c o n ec=>(Heap.get?_update_other _ _ (Ne.symm n)).trans ec;have zu:(h'.update S (Obj.mapSeq (·.push (Value.ref s.heap.objs.size)))).objs.size=h'.objs.size:=(Heap.SameBut.update ..).1;have bg:=L.bg;refine show wpAny _ A.in1 (updateSeq S (·.push (.ref s.heap.objs.size)) >>= _) _ _ _ from wpAny_bind ?_;refine wpAny_updateSeq lc' rfl (wpAny_pure ⟨plainId_quiet F.plain_extend_loop _,ih (i+1) _ (acc.push (.ref s.heap.objs.size)) (by lia) lt ?_ fun h2 tk2 acc2 r=>q h2 tk2 acc2 r⟩) (by rw [L.sz];lia) (by show (acc.push (Value.ref s.heap.objs.size)).size≤sizeLine+1;rw [Array.size_push,L.sz];lia);show EnL h0 e b t S its (i+1) _ (h'.update S (Obj.mapSeq (·.push (Value.ref s.heap.objs.size))))
  generalize h'.update S (Obj.mapSeq (·.push (Value.ref s.heap.objs.size)))=h2 at S' oth zu ⊢
  refine ⟨?_,?_,?_,⟨_,S'⟩,by rw [Array.size_push,L.sz],fun j v hj=>?_,fun c' o n1 n2 n3 ec=>oth _ _ n3 (a5 _ _ n1 n2 (L.kp c' o n1 n2 n3 ec)),by rw [zu,a4];exact Nat.le_succ_of_le bg⟩
  ·obtain ⟨f0,f1,x,ge,life⟩:=a1;refine ⟨f0,f1,x,oth _ _ (Ne.symm nS) ge,life.imp_right ?_⟩;rintro ⟨T,o,r1,r2,r3,r4⟩
   by_cases hT:T=S
   ·exact ⟨T,_,r1,hT ▸ S',r3,r4⟩
   ·exact ⟨T,o,r1,oth _ _ hT r2,r3,r4⟩
  ·obtain ⟨o,ho,r⟩:=a2;exact ⟨o,oth _ _ (Ne.symm nb) ho,r⟩
  ·obtain ⟨o,ho,r⟩:=L.tp;exact ⟨o,oth _ _ ntS (a5 _ _ nt ntb ho),r⟩
  ·rw [Array.getElem?_push] at hj
   split at hj
   ·rename_i ej
    rw [L.sz] at ej
    cases hj
    subst ej;refine ⟨_,tk,its[j],rfl,bg,Array.getElem?_eq_getElem lt,oth _ _ (Nat.ne_of_gt (Nat.lt_of_lt_of_le lS bg)) a3⟩
   ·obtain ⟨T,tk1,x,r1,r2,r3,r4⟩:=L.pr j v hj;exact ⟨T,tk1,x,r1,r2,r3,oth _ _ (Nat.ne_of_gt (Nat.lt_of_lt_of_le lS r2)) (a5 _ _ (Nat.ne_of_gt (Nat.lt_of_lt_of_le le r2)) (Nat.ne_of_gt (Nat.lt_of_lt_of_le lb r2)) r4)⟩
end
theorem qw:typeLookup (.type "enumerate") "__len__" = pure none:=by rw [typeLookup_type,builtinLookup_eq_fast];kernel_rfl
theorem oi:typeLookup (.type "enumerate") "__length_hint__" = pure none:=by rw [typeLookup_type,builtinLookup_eq_fast];kernel_rfl
abbrev eT1 (h:Heap) (l:Addr):Heap:=h.push { cls:=.type "tuple_iterator",data:=.fields #[.ref l,.int 0 0] }
abbrev eT2 (h:Heap) (l:Addr):Heap:=(eT1 h l).push { cls:=.type "enumerate",data:=.fields #[.none,.bool false,.ref h.objs.size,rawInt 0,.none,.none] }
theorem mL (l:Addr) (xs:Array Value) :
  Meets (Builtin.«enumerate.__new__» ⟨[.type "enumerate",.ref l],[]⟩) (fun _ R s=>IsTup s.heap l xs∧R (.ok (.ret (.ref (eT1 s.heap l).objs.size))) { s with heap:=eT2 s.heap l }) :=
 .of_wp fun prog w A R s h=>by
  obtain ⟨hp,g,d,tk,os⟩:=s;obtain ⟨tl,h⟩:=h;have sub:=sub_enumerate;have T1:IsTup (Shared.heap ⟨hp,g,d,tk,os⟩) l xs:=tl;obtain ⟨ob,ho,hc,n,hd⟩:=id tl
  wp_walk using wpAny_loadPart' ho
  refine wpAny_stack_any fun st=>wpAny_pure ?_
  split
  ·rename_i c _ _ _ _ _
   cases (c == Value.type "enumerate")
   ·wp_walk using wpAny_loadPart' ho,iter_tuple T1
    exact ⟨_,rfl,h⟩
   ·wp_walk using wpAny_loadPart' ho,iter_tuple T1
    exact ⟨_,rfl,h⟩
  ·wp_walk using wpAny_loadPart' ho,iter_tuple T1
   exact ⟨_,rfl,h⟩
section
variable {prog:Program} {w:World} {A:Around} {E:Value→Shared→Prop} {s:Shared}
theorem oj {l:Addr} {xs:Array Value} {Q:Value→Shared→Prop} (tl:IsTup s.heap l xs)
  (q:∀ h',IsEnum h' (s.heap.objs.size+1) s.heap.objs.size 0 .none→IsTupIter h' s.heap.objs.size l 0→h'.objs.size=s.heap.objs.size+2→(∀ c o,s.heap.get? c=some o→h'.get? c=some o)→Q (.ref (s.heap.objs.size+1)) { s with heap:=h' }) :
  wpAny (model prog w) A (call (.type "enumerate") [.ref l]) Q E s:=by
 refine callType_new F.called_enumerate (by decide) (F.typeCall_enumerate_1 _) (F.newCall_enumerate_1 _) (fun obj=>F.args_object_init_2 obj _) F.entry_enumerate_new (mL l xs) ⟨tl,?_⟩;have n1:(eT1 s.heap l).objs.size=s.heap.objs.size+1:=Heap.size_push ..;have n2:(eT2 s.heap l).objs.size=s.heap.objs.size+2:=by rw [Heap.size_push,n1]
 have e2:(eT2 s.heap l).get? (eT1 s.heap l).objs.size=some _:=Heap.get?_push_size _ rfl;have e1:(eT2 s.heap l).get? s.heap.objs.size=some _:=Heap.get?_push_of_some _ (Heap.get?_push_size _ rfl);refine show _∧_ from ?_;rw [n1] at e2 ⊢;exact ⟨⟨_,e2,rfl⟩,q _ e2 ⟨_,e1,rfl,rfl⟩ n2 fun c o x=>Heap.get?_push_of_some _ (Heap.get?_push_of_some _ x)⟩
def xx (h0:Heap) (its:Array Value) (acc:Array Value) (h:Heap):Prop:=acc.size=its.size ∧
 ∀ (j:Nat) (v:Value),acc[j]?=some v→∃ (T:Addr) (tk:Nat) (x:Value),v=.ref T∧h0.objs.size < T∧its[j]?=some x∧h.get? T=some { cls:=.type "tuple",data:=.seq #[.int j tk,x] }
theorem ol {e b t:Addr} {its:Array Value} {Q:Value→Shared→Prop} (hh:A.handled=none) (hn:its.size≤sizeLine) (he:IsEnum s.heap e b 0 .none) (hb:IsTupIter s.heap b t 0) (ht:IsTup s.heap t its) (ne:e≠b) (nt:t≠e) (ntb:t≠b)
  (q:∀ (h':Heap) (tk:Nat) (acc:Array Value) (c:Nat),(∀ a o,a≠e→a≠b→s.heap.get? a=some o→h'.get? a=some o)→h'.get? s.heap.objs.size=some { cls:=.type "list",dict:=none,data:=.seq acc c,slots:=#[] }→xx s.heap its acc h'→Q (.ref s.heap.objs.size) { s with heap:=h',toks:=tk }) :
  wpAny (model prog w) A (call (.type "list") [.ref e]) Q E s:=by
 refine callType_codes (Q₁:=fun obj s₁=>obj=.ref s.heap.objs.size∧s₁={ s with heap:=s.heap.push { cls:=.type "list",data:=.seq #[] } }) F.called_list (F.typeCall_list_1 _) F.entry_list_init
  (code_list_new _ ⟨rfl,rfl⟩) fun obj s₁ h₁=>?_
 obtain ⟨rfl,rfl⟩:=h₁;have hS:(s.heap.push { cls:=.type "list",data:=.seq #[] }).get? s.heap.objs.size=some { cls:=.type "list",data:=.seq #[] }:=Heap.get?_push_size _ rfl;refine ⟨⟨_,hS,rfl⟩,F.args_list_init_2 _ _,?_⟩;have le:e < s.heap.objs.size:=Heap.lt_size he;have lb:b < s.heap.objs.size:=by obtain ⟨o,ho,_⟩:=hb;exact Heap.lt_size ho
 have lt:t < s.heap.objs.size:=by obtain ⟨o,ho,_⟩:=ht;exact Heap.lt_size ho
 have k0:∀ c o,s.heap.get? c=some o→(s.heap.push { cls:=.type "list",data:=.seq #[] }).get? c=some o:=fun c o e=>Heap.get?_push_of_some _ e;have z0:(s.heap.push { cls:=.type "list",data:=.seq #[] }).objs.size=s.heap.objs.size+1:=Heap.size_push ..
 generalize s.heap.push { cls:=.type "list",data:=.seq #[] }=G at hS k0 z0 ⊢
 refine show wpAny _ _ (do let old ← Builtin.List.listItems (.ref s.heap.objs.size);Builtin.List.listUpdate (.ref s.heap.objs.size) (fun _=>#[]);letGo old.toList.reverse;Builtin.List.listExtendWith (.ref s.heap.objs.size) (.ref e) .none) _ _ _ from ?_;refine wpAny_bind ?_;unfold Builtin.List.listItems;refine wpAny_bind (wpAny_seqItems hS rfl (wpAny_pure ?_));refine show wpAny _ _ (updateSeq s.heap.objs.size (fun _=>#[]) >>= fun _=>letGo (#[]:Array Value).toList.reverse >>= fun _=>Builtin.List.listExtendWith (.ref s.heap.objs.size) (.ref e) .none) _ _ _ from ?_;refine wpAny_bind (wpAny_updateSeq hS rfl ?_);have S1:=Heap.get?_update_self (Obj.mapSeq (fun _=>(#[]:Array Value))) hS rfl;have o1:∀ c o,c≠s.heap.objs.size→s.heap.get? c=some o→(G.update s.heap.objs.size (Obj.mapSeq (fun _=>(#[]:Array Value)))).get? c=some o:=fun c o n ec=>(Heap.get?_update_other _ _ (Ne.symm n)).trans (k0 c o ec);have z1:(G.update s.heap.objs.size (Obj.mapSeq (fun _=>(#[]:Array Value)))).objs.size=s.heap.objs.size+1:=((Heap.SameBut.update ..).1).trans z0;refine wpAny_bind (wpAny_letGo ?_);refine show wpAny _ _ _ _ _ { s with heap:=G.update s.heap.objs.size (Obj.mapSeq (fun _=>(#[]:Array Value))) } from ?_
 generalize G.update s.heap.objs.size (Obj.mapSeq (fun _=>(#[]:Array Value)))=G1 at S1 o1 z1 ⊢
 have nS:s.heap.objs.size≠e:=Nat.ne_of_gt le;have nb:s.heap.objs.size≠b:=Nat.ne_of_gt lb;have he1:IsEnum G1 e b 0 .none:=o1 _ _ (Ne.symm nS) he;have hT1:Shared.TypeIs { s with heap:=G1 } (.ref e) "enumerate" :=⟨_,he1,rfl⟩;unfold Builtin.List.listExtendWith;refine wpAny_bind (wpAny_typeOf hT1 ?_);have n1:Builtin.List.listSameRef (.ref s.heap.objs.size) (.ref e)=false:=by simp [Builtin.List.listSameRef];exact nS
 simp only [n1,show (Value.type "enumerate" == Value.type "list")=false by decide,show (Value.type "enumerate" == Value.type "tuple")=false by decide,Bool.or_false,Bool.false_eq_true,if_false];refine wpAny_bind (wpAny_pyIter_enum he1 ?_);refine wpAny_bind (wpAny_holding ?_);unfold Builtin.List.listLengthHint;refine wpAny_bind (wpAny_specialOf hT1 qw ?_);refine show wpAny _ _ (specialOf (Value.ref e) (Str.ofString "__length_hint__") >>= _) _ _ _ from wpAny_bind (wpAny_specialOf hT1 oi (wpAny_pure ?_));refine show wpAny _ _ (rule "list.extend.makes-room" >>= fun _=>Builtin.List.listTouch (.ref s.heap.objs.size) >>= fun _=>again (.builtin "list.extend.loop" ⟨[.ref s.heap.objs.size,.ref e,.none],[]⟩)) _ _ _ from wpAny_bind (wpAny_rule (wpAny_bind ?_));refine show wpAny _ _ (updateSeq s.heap.objs.size (·.push .none) >>= fun _=>updateSeq s.heap.objs.size (·.pop)) _ _ _ from wpAny_bind (wpAny_updateSeq S1 rfl ?_);have S2:=Heap.get?_update_self (Obj.mapSeq (·.push Value.none)) S1 rfl;refine wpAny_updateSeq S2 rfl ?_;have S3:=Heap.get?_update_self (Obj.mapSeq (·.pop)) S2 rfl;have o3:∀ c o,c≠s.heap.objs.size→s.heap.get? c=some o→((G1.update s.heap.objs.size (Obj.mapSeq (·.push Value.none))).update s.heap.objs.size (Obj.mapSeq (·.pop))).get? c=some o:=fun c o n ec=>(Heap.get?_update_other _ _ (Ne.symm n)).trans ((Heap.get?_update_other _ _ (Ne.symm n)).trans (o1 c o n ec));have z3:((G1.update s.heap.objs.size (Obj.mapSeq (·.push Value.none))).update s.heap.objs.size (Obj.mapSeq (·.pop))).objs.size=s.heap.objs.size+1:=((Heap.SameBut.update ..).1).trans (((Heap.SameBut.update ..).1).trans z1);refine show wpAny _ _ _ _ _ { s with heap:=(G1.update s.heap.objs.size (Obj.mapSeq (·.push Value.none))).update s.heap.objs.size (Obj.mapSeq (·.pop)) } from ?_
 generalize (G1.update s.heap.objs.size (Obj.mapSeq (·.push Value.none))).update s.heap.objs.size (Obj.mapSeq (·.pop))=G3 at S3 o3 z3 ⊢
 have upT:∀ (c:Addr),c < s.heap.objs.size→c≠s.heap.objs.size:=fun c l=>Nat.ne_of_lt l;refine wpAny_pure ⟨plainId_quiet F.plain_extend_loop _,tV (A:=A.in1) (h0:=G3) hh hn ne nS nb nt ntb (upT t lt) (z3 ▸ Nat.lt_succ_of_lt le) (z3 ▸ Nat.lt_succ_of_lt lb) (z3 ▸ Nat.lt_succ_self _) its.size 0 _ #[] rfl (Nat.zero_le _) ?_ fun h' tk acc' r=>?_⟩
 ·refine ⟨⟨.none,false,.none,o3 _ _ (upT e le) he,.inl rfl⟩,?_,?_,⟨_,S3⟩,rfl,fun j v hj=>by simp at hj,fun c o _ _ _ ec=>ec,Nat.le_refl _⟩
  ·obtain ⟨o,ho,r⟩:=hb;exact ⟨o,o3 _ _ (upT b lb) ho,r⟩
  ·obtain ⟨o,ho,r⟩:=ht;exact ⟨o,o3 _ _ (upT t lt) ho,r⟩
 ·have fin:(∃ c,h'.get? s.heap.objs.size=some { cls:=.type "list",dict:=none,data:=.seq acc' c,slots:=#[] })∧acc'.size=its.size ∧
   (∀ (j:Nat) (v:Value),acc'[j]?=some v→∃ (T:Addr) (tk:Nat) (x:Value),v=.ref T∧G3.objs.size≤T∧its[j]?=some x∧h'.get? T=some { cls:=.type "tuple",data:=.seq #[.int j tk,x] })∧(∀ c o,c≠e→c≠b→c≠s.heap.objs.size→G3.get? c=some o→h'.get? c=some o):=by
   rcases r with L | r
   ·exact ⟨L.ls,L.sz,L.pr,L.kp⟩
   ·exact r
  obtain ⟨⟨c,ls⟩,sz,pr,kp⟩:=fin;refine ⟨rfl,q h' tk acc' c (fun a o n1 n2 ea=>kp a o n1 n2 (upT a (Heap.lt_size ea)) (o3 a o (upT a (Heap.lt_size ea)) ea)) ls ⟨sz,fun j v hj=>?_⟩⟩;obtain ⟨T,tk1,x,r1,r2,r3,r4⟩:=pr j v hj;exact ⟨T,tk1,x,r1,by rw [z3] at r2;exact r2,r3,r4⟩
end
def lay (H:Hp):List (Addr×HO)→Hp
 | []=>H
 | p :: r=>lay (upd H p.1 p.2) r
theorem ku:∀ {r:List (Addr×HO)} {H:Hp} {b:Addr} {o:HO},lay H r b=some o→H b=some o∨(b,o)∈r
 | [],_,_,_,h=>.inl h
 | p :: r,H,b,o,h=>by
  rcases ku (r:=r) h with h | h
  ·by_cases hb:b=p.1
   ·subst hb;rw [aa] at h;obtain rfl:=Option.some.inj h;exact .inr List.mem_cons_self
   ·rw [af hb] at h;exact .inl h
  ·exact .inr (List.mem_cons_of_mem _ h)
theorem kw:∀ {r:List (Addr×HO)} {H:Hp},(∀ p∈r,H p.1=none)→(r.map (·.1)).Nodup→Same H (lay H r)
 | [],H,_,_=>Same.refl H
 | p :: r,H,f,n=>by
  have n':=List.nodup_cons.mp (show (p.1 :: r.map (·.1)).Nodup from n);refine (ab (f p List.mem_cons_self) p.2).trans (kw (fun q hq=>?_) n'.2);rw [af (show q.1≠p.1 from fun e=>n'.1 (List.mem_map.mpr ⟨q,hq,e⟩))];exact f q (List.mem_cons_of_mem _ hq)
theorem rK:∀ {r:List (Addr×HO)} {H:Hp},(∀ p∈r,H p.1=none)→(r.map (·.1)).Nodup→∀ p∈r,lay H r p.1=some p.2
 | [],H,_,_=>fun p hp=>by cases hp
 | p :: r,H,f,n=>fun q hq=>by
  have n':=List.nodup_cons.mp (show (p.1 :: r.map (·.1)).Nodup from n);have f':∀ q∈r,upd H p.1 p.2 q.1=none:=fun q hq=>by
   rw [af (show q.1≠p.1 from fun e=>n'.1 (List.mem_map.mpr ⟨q,hq,e⟩))];exact f q (List.mem_cons_of_mem _ hq)
  rcases List.mem_cons.mp hq with rfl | hq
  ·exact kw f' n'.2 _ _ aa
  ·exact rK f' n'.2 q hq
section
variable {X:Cx} {pins:List (Addr×Obj)} {σ:St} {H H':Hp} {s:Shared} {h':Heap}
theorem Inv.many {t':Nat} (I:Inv X pins σ H s) (k:∀ b u,s.heap.get? b=some u→h'.get? b=some u) (old:Same H H') (new:∀ b o,H' b=some o→H b=some o∨s.heap.objs.size≤b∧ObjOk X.prog X.w H' h' b o):Inv X pins σ H' { s with heap:=h',toks:=t' }:=by
 refine I.un ⟨fun b u q _ _ _=>k b u q,fun b u q _ _ _=>⟨u.slots,k b u q⟩,fun b u q n _=>?_,fun b u q _=>⟨u,k b u q⟩,fun b xs q=>old _ _ q,fun b u xs q=>old _ _ q,fun b ps q=>⟨#[],by rw [old _ _ q];simp⟩⟩ fun b o e=>?_
 ·cases e:H' b with
  | none=>rfl
  | some o =>
   rcases new b o e with e' | ⟨l,_⟩
   ·rw [n] at e';cases e'
   ·exact absurd (Heap.lt_size q) (Nat.not_lt.mpr l)
 ·rcases new b o e with e' | ⟨_,ok⟩
  ·exact (I.hok b o e').stay (fun c v _ q=>k c v q) (fun c q=>old _ _ q) fun c xs q=>old _ _ q
  ·exact ok
end
def enD:Nat→List Dt→List Dt
 | _,[]=>[]
 | j,d :: l=>.tup [.int j,d] :: enD (j+1) l
abbrev ph (j tk:Nat) (x:Value):Obj:={ cls:=.type "tuple",data:=.seq #[.int j tk,x] }
inductive Rws (h:Heap) (lo:Nat):Nat→List V→List (Addr×HO)→Prop
 | nil {j:Nat}:Rws h lo j [] []
 | cons {j T tk:Nat} {x:Value} {v:V} {vs:List V} {r:List (Addr×HO)}:lo < T→RelV v x→h.get? T=some (ph j tk x)→Rws h lo (j+1) vs r→Rws h lo j (v :: vs) ((T,plO [.int j,v] [.int j tk,x]) :: r)
theorem Rws.num {h:Heap} {lo:Nat}:∀ {j:Nat} {vs:List V} {r:List (Addr×HO)},Rws h lo j vs r→∀ p∈r,lo < p.1∧∃ i tk x,j≤i∧h.get? p.1=some (ph i tk x)
 | _,_,_,.nil=>fun p hp=>by cases hp
 | j,_,_,.cons (tk:=tk) (x:=x) l _ e r=>fun p hp=>by
  rcases List.mem_cons.mp hp with rfl | hp
  ·exact ⟨l,j,tk,x,Nat.le_refl _,e⟩
  ·obtain ⟨a,i,tk,x,le,e⟩:=r.num p hp;exact ⟨a,i,tk,x,Nat.le_of_succ_le le,e⟩
theorem Rws.nodup {h:Heap} {lo:Nat}:∀ {j:Nat} {vs:List V} {r:List (Addr×HO)},Rws h lo j vs r→(r.map (·.1)).Nodup
 | _,_,_,.nil=>List.nodup_nil
 | j,_,_,.cons (T:=T) (tk:=tk) (x:=x) l _ e r=>by
  refine List.nodup_cons.mpr ⟨fun hm=>?_,r.nodup⟩;obtain ⟨p,hp,ep⟩:=List.mem_map.mp hm;obtain ⟨_,i,tk',x',le,e'⟩:=r.num p hp;rw [show p.1=T from ep,e] at e';have:=Option.some.inj e';simp only [ph,Obj.mk.injEq,Data.seq.injEq,Array.mk.injEq,List.cons.injEq,Value.int.injEq] at this;lia
theorem Rws.ok {P:Program} {w:World} {h:Heap} {lo:Nat} {H':Hp}:∀ {j:Nat} {vs:List V} {r:List (Addr×HO)},Rws h lo j vs r→∀ p∈r,ObjOk P w H' h p.1 p.2
 | _,_,_,.nil=>fun p hp=>by cases hp
 | j,_,_,.cons (tk:=tk) (x:=x) l rv e r=>fun p hp=>by
  rcases List.mem_cons.mp hp with rfl | hp
  ·exact ⟨e,by simp [sizeLine],_,.cons ⟨_,rfl⟩ (.cons rv .nil),⟨_,e,rfl,_,rfl⟩⟩
  ·exact r.ok p hp
theorem Rws.isPs {K:PySem.W.Frag} {h:Heap} {lo:Nat} {H H':Hp} (sm:Same H H'):∀ {j:Nat} {vs:List V} {r:List (Addr×HO)} {l:List Dt},Rws h lo j vs r→IsPs K H l vs→(∀ p∈r,H' p.1=some p.2)→IsPs K H' (enD j l) (r.map fun p=>V.ref p.1)
 | _,_,_,_,.nil,.nil,_=>.nil
 | j,_,_,_,.cons (T:=T) l rv e r,.cons d ds,f=>by
  refine .cons (.tup (.inl (.inr ⟨_,f _ List.mem_cons_self⟩)) ⟨_,_,f _ List.mem_cons_self,rfl⟩ (.cons .int (.cons (d.same sm) .nil))) (r.isPs sm ds fun p hp=>f p (List.mem_cons_of_mem _ hp))
theorem Rws.of {h:Heap} {lo:Nat}:∀ {xs:List V} {its us:List Value} {j:Nat},Vals xs its→us.length=its.length→(∀ (i:Nat) (v:Value),us[i]?=some v→∃ (T:Addr) (tk:Nat) (x:Value),v=.ref T∧lo < T∧its[i]?=some x∧h.get? T=some (ph (j+i) tk x))→∃ r,Rws h lo j xs r∧us=r.map fun p=>Value.ref p.1
 | _,_,us,j,.nil,hl,_=>by
  obtain rfl:=List.length_eq_zero_iff.mp hl;exact ⟨[],.nil,rfl⟩
 | _,_,us,j,.cons (a:=v) (b:=x) rv rs,hl,f=>by
  cases us with
  | nil=>cases hl
  | cons u us =>
   obtain ⟨T,tk,x',rfl,lt,e1,e2⟩:=f 0 u rfl;obtain rfl:x=x':=by simpa using e1
   obtain ⟨r,h1,h2⟩:=Rws.of (j:=j+1) rs (Nat.succ.inj hl) fun i v hi=>by
    obtain ⟨T,tk,x,a,b,c,d⟩:=f (i+1) v (by simpa using hi);exact ⟨T,tk,x,a,b,by simpa using c,by rw [show j+1+i=j+(i+1) by lia];exact d⟩
   exact ⟨_,.cons lt rv e2 h1,by rw [h2];rfl⟩
theorem jJ:∀ (r:List (Addr×HO)),Vals (r.map fun p=>V.ref p.1) (r.map fun p=>Value.ref p.1)
 | []=>.nil
 | p :: r=>.cons rfl (jJ r)
theorem Rws.length {h:Heap} {lo:Nat}:∀ {j:Nat} {vs:List V} {r:List (Addr×HO)},Rws h lo j vs r→r.length=vs.length
 | _,_,_,.nil=>rfl
 | _,_,_,.cons _ _ _ r=>by rw [List.length_cons,List.length_cons,r.length]
section
variable {X:Cx}
def tW (K:PySem.W.Frag) (te:TE):TE:=fun σ H Q=>te σ H fun v H1=>∃ a xs l,v=.ref a∧SqT K H1 a xs∧IsPs K H1 l xs∧∀ p vs H',Same H1 H'→H1 p=none→H' p=some (.lst vs)→IsPs K H' (enD 0 l) vs→Q (.ref p) H'
theorem qx {e:Expr} {te:TE} {p1 p2 pos1 pos2:Pos} (hc:X.calm=true) (hg1:Gl X "list") (hm1:X.mg "list" = none) (hg2:Gl X "enumerate") (hm2:X.mg "enumerate" = none) (he:PE X e te) (hs:starEach [e] X.env=[(false,eval e X.env)]:=by rfl) :
  PE X (.Call (.Name "list" p1) [.Call (.Name "enumerate" p2) [e] [] pos2] [] pos1) (tW X.K te):=by
 intro pins s σ H Q I h;refine wpAny_Call_Name_kw (dZ I hg1 hm1 (u:=.type "list") rfl ?_);refine PyProof.Rows.callWith_type1 ?_ rfl rfl;refine show wpAny _ _ (spliced ((false,eval (.Call (.Name "enumerate" p2) [e] [] pos2) X.env) :: backTo pos1 (starEach [] X.env))) _ _ s from Calls.spliced_cons ?_;refine wpAny_Call_Name_kw (dZ I hg2 hm2 (u:=.type "enumerate") rfl ?_);refine PyProof.Rows.callWith_type1 ?_ (by rw [hs];rfl) rfl;rw [hs];refine show wpAny _ _ (spliced ((false,eval e X.env) :: backTo pos2 [])) _ _ s from Calls.spliced_cons (thn (he pins s σ H _ I h) fun u s1 ⟨v,H1,I1,r1,a,xs,l,e1,hx,hl,q⟩=>Calls.spliced_nil ?_);subst e1
 cases r1
 obtain ⟨its,rr,pl,hz⟩:=I1.tuple hx;have lta:a < s1.heap.objs.size:=pl.lt;refine oj pl fun h1 en1 wk1 sz1 kk1=>Calls.spliced_nil ?_;have pl1:IsTup h1 a its.toArray:=by obtain ⟨o,ho,r⟩:=pl;exact ⟨o,kk1 _ _ ho,r⟩
 have lx:its.length=xs.length:=rr.length.symm;refine ol (its:=its.toArray) (I1.ok.hd hc) (by rw [List.size_toArray,lx];exact hz) en1 wk1 pl1 (Nat.succ_ne_self _) (Nat.ne_of_lt (Nat.lt_succ_of_lt lta)) (Nat.ne_of_lt lta) fun h2 tk acc c kk2 ls out=>?_;obtain ⟨o1,o2⟩:=out;obtain ⟨r,rw1,us⟩:=Rws.of (h:=h2) (lo:=h1.objs.size) (us:=acc.toList) (j:=0) rr (by rw [Array.length_toList,o1,List.size_toArray]) fun i v hi=>by
  obtain ⟨T,tk,x,a,b,c,d⟩:=o2 i v (by simpa using hi);exact ⟨T,tk,x,a,b,by simpa using c,by rw [Nat.zero_add];exact d⟩
 have kk:∀ b o,s1.heap.get? b=some o→h2.get? b=some o:=fun b o e=>kk2 b o (Nat.ne_of_lt (Nat.lt_succ_of_lt (Heap.lt_size e))) (Nat.ne_of_lt (Heap.lt_size e)) (kk1 b o e);have big:∀ p∈r,s1.heap.objs.size≤p.1:=fun p hp=>by have:=(rw1.num p hp).1;rw [sz1] at this;lia
 have fr:∀ p∈r,H1 p.1=none:=fun p hp=>I1.hok.fresh (big p hp);have frS:H1 h1.objs.size=none:=I1.hok.fresh (by rw [sz1];exact Nat.le_add_right _ _);have frL:lay H1 r h1.objs.size=none:=by
  cases e:lay H1 r h1.objs.size with
  | none=>rfl
  | some o =>
   rcases ku e with e | e
   ·rw [frS] at e;cases e
   ·exact absurd (rw1.num _ e).1 (Nat.lt_irrefl _)
 have sm:Same H1 (upd (lay H1 r) h1.objs.size (.lst (r.map fun p=>V.ref p.1))):=(kw fr rw1.nodup).trans (ab frL _);have at':∀ p∈r,upd (lay H1 r) h1.objs.size (.lst (r.map fun p=>V.ref p.1)) p.1=some p.2:=fun p hp=>ab frL _ _ _ (rK fr rw1.nodup p hp);refine ⟨.ref h1.objs.size,_,I1.many (t':=tk) kk sm fun b o eb=>?_,rfl,q _ _ _ sm frS aa (rw1.isPs sm hl at')⟩
 by_cases hb:b=h1.objs.size
 ·subst hb;rw [aa] at eb;obtain rfl:=Option.some.inj eb;refine .inr ⟨by rw [sz1];exact Nat.le_add_right _ _,by rw [List.length_map,rw1.length];exact hz,acc.toList,c,us ▸ jJ r,?_⟩;rw [Array.toArray_toList];exact ls
 ·rw [af hb] at eb;rcases ku eb with e | e
  ·exact .inl e
  ·exact .inr ⟨big _ e,rw1.ok _ e⟩
end
theorem tX {P:Program} {w:World} {i:Int} {v:Value} (h:(aq P w).is (Sum.inl i) v=true):∃ t,v=.int i t:=by
 rcases aE (show ia (Sum.inl i) v=true from h) with ⟨j,t,e,rfl⟩ | ⟨x,t,e,rfl⟩
 ·cases e
  exact ⟨t,rfl⟩
 ·cases e
theorem jK {P:Program} {w:World}:∀ {ns:List Int} {us:List Value},us.length=ns.length→(∀ (j:Nat) (v:Value),us[j]?=some v→∃ z,ns[j]?=some z∧(aq P w).is (Sum.inl z) v=true)→IntsAre us ns
 | [],us,hl,_=>by
  cases us with
  | nil=>exact .nil
  | cons u us=>cases hl
 | z :: ns,us,hl,h=>by
  cases us with
  | nil=>cases hl
  | cons u us =>
   obtain ⟨z',e,hz⟩:=h 0 u rfl;obtain rfl:z=z':=Option.some.inj e;obtain ⟨t,rfl⟩:=tX hz;exact .cons z t (jK (Nat.succ.inj hl) fun j v hj=>by simpa using h (j+1) v (by simpa using hj))
theorem uK:∀ {us:List Value} {ns:List Int},IntsAre us ns→Vals (ns.map V.int) us
 | _,_,.nil=>.nil
 | _,_,.cons _ t r=>.cons ⟨t,rfl⟩ (uK r)
section
variable {prog:Program} {w:World} {A:Around} {E:Value→Shared→Prop} {s:Shared}
theorem rL {d:Addr} {kvs:List (Key×Value)} {ns:List Int} {Q:Value→Shared→Prop} (hh:A.handled=none) (hd:(d == sysModules)=false) (hm:s.heap.DictOf (aq prog w) d kvs) (names:kvs.map (·.1)=ns.map Sum.inl) (h64:ns.length < 64)
  (q:∀ (h':Heap) (t':Nat) (a:Addr) (out:Array Value) (ns':List Int) (n:Nat),(∀ b o,s.heap.get? b=some o→h'.get? b=some o)→s.heap.objs.size≤a→h'.get? a=some (seqObj "list" out n)→IntsAre out.toList ns'→ns'.Perm ns→ns'.Pairwise (·≤·)→Q (.ref a) { s with heap:=h',toks:=t' }) :
  wpAny (model prog w) A (call (.builtin "sorted") [.ref d]) Q E s:=by
 have lk:kvs.length=ns.length:=by have:=congrArg List.length names;simpa using this
 refine Calls.call_function_entry kind_sorted plain_sorted entry_sorted (args_sorted1 _) ?_;unfold Builtin.«sorted»;refine wpAny_bind (m:=checkCount "sorted" 1 1 _) (wpAny_pure (wpAny_bind (mJ hh hd hm (by rw [lk];exact Nat.le_of_lt (Nat.lt_trans h64 (by decide))) fun s1 acc kk low g1 d1 o1 items=>?_)));have hI:IntsAre acc.toList ns:=jK (P:=prog) (w:=w) (by rw [Array.length_toList,items.1,lk]) fun j v hj=>by
  obtain ⟨k,x,e,hk⟩:=items.2 j v (by simpa using hj);have e2:(kvs.map (·.1))[j]?=some k:=by rw [List.getElem?_map,e];rfl
  rw [names,List.getElem?_map] at e2;obtain ⟨z,hz,rfl⟩:=Option.map_eq_some_iff.mp e2;exact ⟨z,hz,hk⟩
 have lacc:acc.toList.length < 64:=by
  have:=items.1;simp only [Array.length_toList];lia
 refine wpAny_bind (wpAny_newList ?_);have hoL:(s1.heap.push (seqObj "list" acc.toList.toArray 0)).get? s1.heap.objs.size=some (seqObj "list" acc.toList.toArray 0):=Heap.get?_push_size _ rfl;refine wpAny_bind (wpAny_holding (wpAny_call_entry slot_list_sort ⟨_,hoL,rfl⟩ entry_list_sort (list_sort_tree hoL hI lacc fun out ns' h1 h2 h3=>⟨_,rfl,?_⟩) (args_list_sort _)));obtain ⟨e,he⟩:=sortedHeap_at (out:=out) hoL;obtain ⟨hp1,g',d',tk',os'⟩:=s1;have e1:g'=s.gens:=g1;have e2:d'=s.drawn:=d1;have e3:os'=s.os:=o1;subst e1 e2 e3;refine wpAny_pure ⟨_,rfl,q _ tk' _ _ ns' e (fun b o eb=>?_) (Nat.le_of_lt low) he h1 h2 h3⟩;have lt:=Heap.lt_size (kk b o eb);rw [sortedHeap_old (Nat.ne_of_lt lt) (by rw [Heap.size_push];exact Nat.lt_succ_of_lt lt)];exact Heap.get?_push_of_some _ (kk b o eb)
end
section
variable {X:Cx}
theorem mM (hc:X.calm=true):CallR X (.builtin "sorted") (fun xs H Q=>∃ (p:Addr) (kvs:List (Key×V)) (ns:List Int),xs=[.ref p]∧H p=some (.dK kvs)∧kvs.map (·.1)=ns.map Sum.inl∧ns.length < 64∧∀ (a:Addr) (ns':List Int),H a=none→ns'.Perm ns→ns'.Pairwise (·≤·)→Q (.ref a) (upd H a (.lst (ns'.map V.int)))):=by
 intro pins s σ H xs us Q I r h;obtain ⟨p,kvs,ns,rfl,hp,names,hl,q⟩:=h;obtain ⟨u,rfl,rx⟩:=dU r
 cases rx
 obtain ⟨hz,hd,vs,kv,dof⟩:=o7 I.hok hp;refine rL (ns:=ns) (I.ok.hd hc) hd dof (by rw [← kv.keys];exact names) hl fun h' t' a out ns' n kk low ea h1 h2 h3=>?_;have hn:H a=none:=I.hok.fresh low;refine ⟨.ref a,_,I.laid (t':=t') (o:=.lst (ns'.map V.int)) kk low ?_,rfl,q a ns' hn h2 h3⟩;have e2:seqObj "list" out n=seqObj "list" out.toList.toArray n:=by rw [Array.toArray_toList]
 refine ⟨?_,out.toList,n,uK h1,?_⟩
 ·rw [List.length_map,h2.length_eq];exact Nat.le_of_lt (Nat.lt_trans hl (by decide))
 ·rw [ea,e2]
theorem mN (hc:X.calm=true):CallR X (.builtin "sorted") (fun xs H Q=>(∃ (p:Addr) (kvs:List (Key×V)) (ns:List Int),xs=[.ref p]∧H p=some (.dK kvs)∧kvs.map (·.1)=ns.map Sum.inl∧ns.length < 64∧∀ (a:Addr) (ns':List Int),H a=none→ns'.Perm ns→ns'.Pairwise (·≤·)→Q (.ref a) (upd H a (.lst (ns'.map V.int)))) ∨
  ∃ (p:Addr) (kvs:List (Key×V)) (ss:List Str),xs=[.ref p]∧H p=some (.dK kvs)∧kvs.map (·.1)=ss.map Sum.inr∧ss.length < 64∧∀ (a:Addr) (ss':List Str),H a=none→ss'.Perm ss→sortedS ss'=true→Q (.ref a) (upd H a (.lst (ss'.map V.str)))):=(mM hc).or (oh hc)
end
section
variable {X:Cx} {tg:Expr} {pins:List (Addr×Obj)} {σ:St} {H:Hp} {s:Shared}
end
section
variable {X:Cx}
end
section
variable {a:Addr} {ob:Obj} {kvs:List (Key×V)} {g:TG} {l:Addr} {σ0:St} {H0:Hp} {R:Hp→Prop} {tb:List V→Addr→St→Hp→(List V→St→Hp→Prop)→Prop}
end
section
variable {X:Cx}
theorem qy {elt tgt iter c:Expr} {scope:Scope} {pos spos py:Pos} {NL N':List Str} {ρ:List Nat} {wi:TI} {g:TG} {tc:TT} {te:TE} {j:Nat} {y:Str} (hN:X.N.Nodup) (hj:X.N[j]?=some y) (hy:Loc X.env.scope y)
  (hc:X.calm=true) (S:CScope X scope NL ρ N') (hi:PI X tgt iter wi) (hg:∀ C s₀ H₀ fp,PG (ccx X scope C N' s₀ H₀ fp) tgt g) (ht:∀ C s₀ H₀ fp,PT (ccx X scope C N' s₀ H₀ fp) c tc) (he:∀ C s₀ H₀ fp,PE (ccx X scope C N' s₀ H₀ fp) elt te)
  (hsw:swapsWith (.ListComp elt [⟨tgt,iter,[c],0⟩] scope pos) (some (.Name y py)) spos.line X.env=pure true:=by rfl) (hfn:X.fn y=true∨X.env.scope.names.lookup y=some .local:=by first | exact .inl rfl | exact .inr rfl | assumption)
  (hs:∀ x,foldedSetIterable iter X.env x=pure x:=by intro _;rfl):PS X (.Assign [.Name y py] (.ListComp elt [⟨tgt,iter,[c],0⟩] scope pos) spos) (qM (mf NL.length ρ wi g (cIf tc te)) (ju j)) :=
 mF (body:=fun acc env=>do
  let b ← PySem.isTrue c env (eval c env)
  if b then (do let x ← eval elt env;let _ ← call (.builtin "list.append") [acc,x];pure ()) else pure ()) hN hj hy hfn hsw hc S hi hg (fun C s₀ H₀ fp=>wS (ht C s₀ H₀ fp) (he C s₀ H₀ fp)) (fun it acc env=>re elt tgt iter c scope pos it acc env) hs
end
section
variable {prog:Program} {w:World} {A:Around} {E:Value→Shared→Prop} {s:Shared}
end
section
variable {X:Cx}
end
section
variable {X:Cx} {K:PySem.W.Frag}
end
section
variable {X:Cx} {K:PySem.W.Frag}
inductive JSlP (K:PySem.W.Frag) (x:V) (lo hi:Option Int) (H:Hp) (Q:VK):Prop
 | mk (l:List Dt):(IsP K H (.tup l) x)→(∀ v H',Same H H'→IsP K H' (.tup (i5 l lo hi)) v→Q v H')→JSlP K x lo hi H Q
def yd (K:PySem.W.Frag):V→Option Int→Option Int→Hp→VK→Prop:=fun x lo hi H Q=>JSlP K x lo hi H Q
inductive JLenS (K:PySem.W.Frag) (xs:List V) (H:Hp) (Q:VK):Prop
 | mk (p:Addr) (ys:List V):(xs=[.ref p])→((SqL K H p ys∨SqT K H p ys))→(Q (.int ys.length) H)→JLenS K xs H Q
def xz (K:PySem.W.Frag):List V→Hp→VK→Prop:=fun xs H Q=>JLenS K xs H Q
def tY (K:PySem.W.Frag):List V→Hp→VK→Prop:=fun xs H Q=>∃ p ys,xs=[.ref p]∧(SqL K H p ys∨SqT K H p ys)∧∀ l,H l=none→Q (.ref l) (upd H l (.lst ys))
def ye (K:PySem.W.Frag):List V→Hp→VK→Prop:=fun xs H Q=>∃ p ys,xs=[.ref p]∧true=true∧SqL K H p (bls ys)∧Q (.bl (ys.all id)) H
theorem br (hK:X.K=K):SlR X (yd K):=by
 subst hK;intro pins s σ H x v vl vu lo hi sl Q I rx hs pl pu h;obtain ⟨l,a,q⟩:=h;exact tI _ _ _ _ _ _ _ _ _ _ _ _ I rx hs pl pu ⟨l,a,q⟩
theorem iM (hK:X.K=K):SlR X (wP K):=by subst hK;exact tj
theorem iN (hK:X.K=K):OpR X (binaryOp .Add) (uJ K):=by subst hK;exact tN
theorem bj (hK:X.K=K):CallR X (.builtin "len") (xz K):=by
 subst hK;intro pins s σ H xs us Q I r h;obtain ⟨x,l,a,b,q⟩:=h;exact gl _ _ _ _ _ _ _ I r ⟨x,l,a,b,q⟩
theorem i8 (hK:X.K=K):CallR X (.type "list") (tY K):=by subst hK;exact j9
theorem call_allN (hK:X.K=K) (hc:X.calm=true):CallR X (.builtin "all") (ye K):=by
 subst hK;intro pins s σ H xs us Q I r h;obtain ⟨p,ys,rfl,_,hs,q⟩:=h;exact rh _ _ _ _ _ _ _ I r ⟨p,ys,rfl,hc,hs,q⟩
end
section
variable {K:PySem.W.Frag} {a b l:Addr} {xs ys:List V} {g:TG} {tb:List V→Addr→St→Hp→(List V→St→Hp→Prop)→Prop} {R:Hp→Prop} {σ0:St} {H0:Hp}
end
section
variable {X:Cx} {K:PySem.W.Frag}
end
end L2
namespace PySem
open Sem (wp)
namespace F
end F
section
variable {prog:Program} {w:World} {K:Type} [DecidableEq K] {kd:KeyKind prog w K} {A:Around} {E:Value→Shared→Prop}
end
end PySem
namespace L2
open PySem PySem.Spec PyProof.Rows
def kDt:Key→Dt
 | .inl i=>.int i
 | .inr z=>.str z
theorem tZ {K:PySem.W.Frag} {H:Hp} {k:Key} {v:V} (h:IsP K H (kDt k) v):v=kV k:=by
 cases k <;> (cases h;rfl)
def xA (P:Program) (w:World) (p:Addr) (xs:List (List Key×Addr×Value)) (h:Heap):Prop :=
 ∃ o es ep,h.get? p=some o∧o.ExactDict∧o.data=.dict es ep∧es.toList=xs.map (entryOfKey (tupleKind (aq P w)))∧(xs.map (·.1)).Nodup
def yq (P:Program) (w:World) (K:PySem.W.Frag) (H:Hp) (p:Addr) (kvs:List (List Key×Dt)):Prop :=
 (p == sysModules)=false∧∃ xs:List (List Key×Addr×Value),H p=some (.ext (xA P w p xs)) ∧
  Paired (fun (a:List Key×Dt) (b:List Key×Addr×Value)=>a.1=b.1∧IsP K H (.tup (a.1.map kDt)) (.ref b.2.1)∧∃ v,RelV v b.2.2∧IsP K H a.2 v) kvs xs
section
variable {X:Cx} {pins:List (Addr×Obj)} {σ:St} {H:Hp} {s:Shared}
def atKT (kvs:List (List Key×Dt)) (k:List Key):Option Dt:=(kvs.find? fun p=>decide (p.1=k)).map (·.2)
end
end L2
namespace PySem
open Sem (wp)
section
variable {prog:Program} {w:World} {K:Type} [DecidableEq K] {knd:HeapKind prog w K} {A:Around} {E:Value→Shared→Prop} {s:Shared}
end
end PySem
namespace L2
open PySem PySem.Spec PyProof.Rows
section
variable {X:Cx} {pins:List (Addr×Obj)} {σ:St} {H:Hp} {s:Shared}
end
theorem u2 {A:Around} (h:A.units+64 < cLine):A.units+2 < cLine:=by lia
section
variable {X:Cx} {o e f:Expr} {apos cpos:Pos} {td ty tx:TE}
end
end L2
namespace PySem
open Sem (wp)
open PyProof.Rows
section
variable {prog:Program} {w:World} {A:Around} {E:Value→Shared→Prop} {s:Shared} {δ:Type} {R:δ→Value→Prop} {h₀:Heap} {a:Addr} {D:List (Str×δ)} {k:Str} {tk:Tok}
end
end PySem
namespace L2
open PySem PySem.Spec PyProof.Rows
section
variable {X:Cx}
end
section
variable {prog:Program} {w:World} {A:Around} {E:Value→Shared→Prop} {s:Shared}
end
section
variable {prog:Program} {w:World} {A:Around} {E:Value→Shared→Prop} {s:Shared}
end
section
variable {prog:Program} {w:World} {K:Type} [DecidableEq K] {knd:KeyKind prog w K} {A:Around} {E:Value→Shared→Prop}
end
section
variable {prog:Program} {w:World} {K:Type} [DecidableEq K] {knd:KeyKind prog w K} {A:Around} {E:Value→Shared→Prop}
end
section
variable {X:Cx}
end
section
variable {X:Cx}
end
open AutoSeq1 (wpAny_loadPart')
structure ZOut (lo:Nat) (xs ys acc:Array Value) (h:Heap):Prop where
 pr:∀ (j:Nat) (e:Value),acc[j]?=some e→∃ (T:Addr) (x y:Value),e=.ref T∧lo≤T∧xs[j]?=some x∧ys[j]?=some y∧IsPair h T x y
 ij:∀ (j k:Nat) (e:Value),acc[j]?=some e→acc[k]?=some e→j=k
section
variable {prog:Program} {w:World} {A:Around} {E:Value→Shared→Prop} {s:Shared}
end
section
variable {prog:Program} {w:World} {A:Around} {E:Value→Shared→Prop} {s:Shared}
end
abbrev xB (x y:Value):Obj:={ cls:=.type "tuple",data:=.seq #[x,y] }
inductive RwZ (h:Heap) (lo:Nat):List V→List V→List (Addr×HO)→Prop
 | nil:RwZ h lo [] [] []
 | cons {T:Nat} {x y:Value} {v u:V} {vs us:List V} {r:List (Addr×HO)}:lo≤T→RelV v x→RelV u y→h.get? T=some (xB x y)→RwZ h lo vs us r→RwZ h lo (v :: vs) (u :: us) ((T,plO [v,u] [x,y]) :: r)
theorem RwZ.length {h:Heap} {lo:Nat} {vs us:List V} {r:List (Addr×HO)} (R:RwZ h lo vs us r):r.length=vs.length:=by
 induction R with
 | nil=>rfl
 | cons _ _ _ _ _ ih=>rw [List.length_cons,List.length_cons,ih]
def zD (ls ms:List Dt):List Dt:=(ls.zip ms).map fun p=>.tup [p.1,p.2]
section
variable {X:Cx}
end
end L2
namespace L2
open PySem PySem.Spec PyProof.Rows
open AutoSeq1 (wpAny_loadPart')
section
variable {prog:Program} {w:World} {A:Around} {E:Value→Shared→Prop} {s:Shared}
end
section
variable {X:Cx}
end
end L2
namespace L2
open PySem PySem.Spec PyProof.Rows
section
variable {X:Cx} {o e:Expr} {es:List Expr} {to:TE} {t:TA} {name:Str} {apos cpos:Pos} {T id:String} {r:V→List V→Hp→VK→Prop}
end
section
variable {P:Program} {w:World} {A:Around} {E:Value→Shared→Prop} {s:Shared}
def yf (P:Program) (w:World) (h:Heap) (a:Addr) (b:Bool) (es:Array (Int×Value)) (ep:Nat) (t:SetTable):Prop :=
 ∃ o,h.get? a=some o∧o.ExactSet∧o.data=.set es ep t∧ElemsOf (aq P w) es.toList∧es.size < scanBound∧t.fits es.size=true∧t.led=b∧(t.plain=true→es.size=0)
def kO:Value→Key
 | .int i _=>.inl i
 | .str x _=>.inr x
 | _=>.inl 0
def yr (P:Program) (w:World) (h:Heap) (a:Addr) (b:Bool) (l:List Key):Prop:=∃ es ep t,yf P w h a b es ep t∧(es.toList.map fun e=>kO e.2).Perm l
end
section
variable {P:Program} {w:World} {A:Around} {R:Result→Shared→Prop} {it:Addr} {fp wr:List Addr} {G:Array GenState→Array GenState→Prop} {n:Nat} {Pt:Nat→Value→Prop} {St:Nat→Shared→Prop}
end
section
variable {P:Program} {w:World} {A:Around} {E:Value→Shared→Prop} {s:Shared}
end
section
variable {P:Program} {w:World} {A:Around} {E:Value→Shared→Prop} {s:Shared}
def SIt (h:Heap) (I a:Addr) (first:Value) (i n ep:Nat):Prop:=∃ o,h.get? I=some o∧o.cls=.type "set_iterator" ∧o.data=.fields #[first,.int i 0,.ref a,.int n 0,.int ep 0]
end
section
variable {P:Program} {w:World} {A:Around} {E:Value→Shared→Prop} {s:Shared}
end
section
variable {P:Program} {w:World} {A:Around} {E:Value→Shared→Prop} {s:Shared}
end
section
variable {P:Program} {w:World} {A:Around} {E:Value→Shared→Prop} {s:Shared}
end
section
variable {P:Program} {w:World} {A:Around} {E:Value→Shared→Prop} {s:Shared}
end
section
variable {P:Program} {w:World} {A:Around} {E:Value→Shared→Prop} {s:Shared}
end
section
variable {X:Cx}
end
def SqE:Bool→PySem.W.Frag→Hp→Addr→List V→Prop
 | true=>SqT
 | false=>SqL
section
variable {X:Cx} {elts:List Expr} {k:Nat} {tpos:Pos}
end
def yt (K:PySem.W.Frag) (H:Hp) (p:Addr) (ns:List Str) (f:Str→Dt):Prop :=
 ∃ kvs,H p=some (.dK kvs)∧kvs.map (·.1)=ns.map (Sum.inr:Str→Key)∧∀ z∈ns,∃ v,aK kvs (Sum.inr z:Key)=some v∧IsP K H (f z) v
def vK (td ty tx:TE):TE:=fun σ H Q=>td σ H fun x H1=>∃ a,x=.ref a∧n9 H1 a∧ty σ H1 fun y H2=>tx σ H2 fun z H3=>∃ kvs k,H3 a=some (.dK kvs)∧y=kV k∧kvs.length < sizeLine ∧
 (∀ v,aK kvs k=some v→Q v H3)∧(aK kvs k=none→Q z (upd H3 a (.dK (bK kvs k z))))
section
variable {X:Cx} {o e f:Expr} {apos cpos:Pos} {td ty tx:TE}
theorem rM (ho:PE X o td) (he:PE X e ty) (hf:PE X f tx) (m:M2 X o "setdefault" apos e f cpos):PE X (.Call (.Attribute o "setdefault" apos) [e,f] [] cpos) (vK td ty tx):=by
 intro pins s σ H Q I h;refine wpAny_Call_method m.base m.few m.line PySem.F.plainAttrs_dict PySem.F.slot_dict_setdefault PySem.F.type_dict_setdefault (thn (ho pins s σ H _ I h) fun u s1 ⟨x,H1,I1,rx,a,ex,d,q1⟩=>?_);subst ex;obtain rfl:u=Value.ref a:=rx;obtain ⟨t1,t2,_⟩:=jF I1 d;refine ⟨t1,t2,?_⟩;rw [m.trees];refine Calls.callWith_builtin rfl (Calls.evalArgs_plain (Calls.spliced_cons (thn (he pins s1 σ H1 _ I1 q1) fun iv s2 ⟨y,H2,I2,ry,q2⟩ =>
  Calls.spliced_cons (thn (hf pins s2 σ H2 _ I2 q2) fun fv s3 ⟨z,H3,I3,rz,kvs,k,ea,ey,hl,q3,q4⟩=>Calls.spliced_nil ?_))))
 subst ey;obtain ⟨hz,hd,vs,rel,dd⟩:=o7 I3.hok ea;have hz2:vs.length≤sizeLine:=by rw [← rel.length];exact hz
 refine call_meetsIn PySem.F.slot_dict_setdefault dd.typeIs PySem.F.entry_dict_setdefault (PySem.F.args_dict_setdefault_3 _ _ _) (kt_meets_setdefault (aq X.prog X.w) a (iL ry) hd fv) ⟨vs,dd,hz2,fun v hv=>?_,fun hn h' dd' hs=>?_⟩
 ·have rk:=rel.val k;rw [hv] at rk
  cases hk:aK kvs k with
  | none=>rw [hk] at rk;cases rk
  | some v0 =>
   rw [hk] at rk;exact ⟨v0,H3,I3.tok _,rk,q3 v0 hk⟩
 ·have rk:=rel.val k;rw [hn] at rk
  cases hk:aK kvs k with
  | some v0=>rw [hk] at rk;cases rk
  | none =>
   have he:∃ q,h'.get? a=some q:=let ⟨q,_,_,hq,_⟩:=dd';⟨q,hq⟩;have hl2:(bK kvs k z).length≤sizeLine:=by have:=cm kvs k z;lia
   exact ⟨z,_,km (t':=s3.toks+1) I3 (by rw [ea];exact True.intro) hs he (n8 hl2 hd (rel.put k rz) dd'),rz,q4 hk⟩
end
section
variable {X:Cx} {e st:Expr} {te tst:TE} {p2 pos:Pos}
end
end L2
namespace K14
open PySem L2 PyProof.Rows
abbrev hV:Stmt:=top 15
abbrev fW:Stmt:=top 16
abbrev bP:Stmt:=top 17
abbrev eG:Stmt:=top 18
abbrev bI:Stmt:=top 19
abbrev eI:Stmt:=top 20
abbrev dI:Stmt:=top 21
abbrev eJ:Stmt:=top 22
abbrev bA:Stmt:=top 23
abbrev cB:Stmt:=top 24
abbrev cC:Stmt:=top 25
abbrev cq:Stmt:=top 26
abbrev cO:Stmt:=top 27
abbrev cD:Stmt:=top 28
abbrev cP:Stmt:=top 29
abbrev fX:Stmt:=top 31
abbrev fu:Stmt:=top 33
abbrev dJ:Stmt:=top 34
abbrev iZ:Stmt:=top 35
abbrev eK:Stmt:=top 36
abbrev dM:Stmt:=top 37
abbrev cg:Stmt:=top 38
abbrev hZ:Stmt:=top 41
abbrev dN:Stmt:=top 42
abbrev h7:Stmt:=top 43
abbrev eL:Stmt:=top 44
abbrev bZ:Stmt:=top 45
abbrev eM:Stmt:=top 47
abbrev dO:Stmt:=top 48
abbrev eO:Stmt:=top 49
abbrev fY:Stmt:=top 50
abbrev bB:Stmt:=top 51
abbrev cE:Stmt:=top 52
abbrev cF:Stmt:=top 53
abbrev eP:Stmt:=top 54
abbrev fZ:Stmt:=top 55
abbrev dP:Stmt:=top 56
abbrev bJ:Stmt:=top 57
abbrev bu:Stmt:=top 58
abbrev dQ:Stmt:=top 59
abbrev dR:Stmt:=top 60
abbrev cG:Stmt:=top 61
abbrev nD:Stmt:=top 62
theorem oR:FnScope ["text"] ["text"] (ac hV):=by constructor <;> first | rfl | decide +kernel
theorem nE:FnScope ["thing"] ["thing"] (ac fW):=by constructor <;> first | rfl | decide +kernel
theorem gh:FnScope ["thing","low","high"] ["thing","low","high"] (ac bP):=by constructor <;> first | rfl | decide +kernel
theorem lQ:FnScope ["kind"] ["kind"] (ac eG):=by constructor <;> first | rfl | decide +kernel
theorem sc_is_formed:FnScope ["thing","room","word"] ["thing","room"] (ac bI):=by constructor <;> first | rfl | decide +kernel
theorem lR:FnScope ["thing"] ["thing"] (ac eI):=by constructor <;> first | rfl | decide +kernel
theorem jq:FnScope ["low","high"] ["low","high"] (ac dI):=by constructor <;> first | rfl | decide +kernel
theorem lT:FnScope ["words"] ["words"] (ac eJ):=by constructor <;> first | rfl | decide +kernel
theorem fF:FnScope ["fields","room","names"] ["fields","room"] (ac bA):=by constructor <;> first | rfl | decide +kernel
theorem nF:FnScope ["field","room"] ["field","room"] (ac cB):=by constructor <;> first | rfl | decide +kernel
theorem sc_are_rows:FnScope ["key","items","room","key_kind"] ["key","items","room"] (ac cC):=by constructor <;> first | rfl | decide +kernel
theorem bn:FnScope ["kind","name","own","inner"] ["kind","name"] (ac cq):=by constructor <;> first | rfl | decide +kernel
theorem gK:FnScope ["kind"] ["kind"] (ac cO):=by constructor <;> first | rfl | decide +kernel
theorem dY:FnScope ["kind","inner"] ["kind"] (ac cD):=by constructor <;> first | rfl | decide +kernel
theorem lU:FnScope ["kind"] ["kind"] (ac cP):=by constructor <;> first | rfl | decide +kernel
theorem eQ:FnScope ["record","name","own","value"] ["record","name"] (ac fX):=by constructor <;> first | rfl | decide +kernel
theorem oS:FnScope ["kind","value"] ["kind","value"] (ac fu):=by constructor <;> first | rfl | decide +kernel
theorem jr:FnScope ["kind","entry"] ["kind","entry"] (ac dJ):=by constructor <;> first | rfl | decide +kernel
theorem qJ:FnScope ["kind","value","path"] ["kind","value","path"] (ac iZ):=by constructor <;> first | rfl | decide +kernel
theorem dm:FnScope ["kind","value","path","found","entry","inner","behind"] ["kind","value","path"] (ac eK):=by constructor <;> first | rfl | decide +kernel
theorem bv:FnScope ["kind","value","where","here_kind","here","entry","found"] ["kind","value","where"] (ac dM):=by constructor <;> first | rfl | decide +kernel
theorem aN:FnScope ["kind","value","some","within","where","other","told","entry","inner"] ["kind","value","some"] (ac cg):=by constructor <;> first | rfl | decide +kernel
theorem oU:FnScope ["path"] ["path"] (ac hZ):=by constructor <;> first | rfl | decide +kernel
theorem js:FnScope ["kind","step"] ["kind","step"] (ac dN):=by constructor <;> first | rfl | decide +kernel
theorem sc_kind_at:FnScope ["kind","path","here","step"] ["kind","path"] (ac h7):=by constructor <;> first | rfl | decide +kernel
theorem lV:FnScope ["kind","path","other"] ["kind","path","other"] (ac eL):=by constructor <;> first | rfl | decide +kernel
theorem ip:FnScope ["kind","path","other","inner"] ["kind","path","other"] (ac bZ):=by constructor <;> first | rfl | decide +kernel
theorem gL:FnScope ["cell","k","stir"] ["cell","k"] (ac eM):=by constructor <;> first | rfl | decide +kernel
theorem aV:FnScope ["script","k","cell","j","found"] ["script","k"] (ac dO):=by constructor <;> first | rfl | decide +kernel
theorem gM:FnScope ["row","many","digit"] ["row","many"] (ac eO):=by constructor <;> first | rfl | decide +kernel
theorem eR:FnScope ["row","way","low"] ["row"] (ac fY):=by constructor <;> first | rfl | decide +kernel
theorem cV:FnScope ["row","deep","names","fields","name"] ["row","deep","names"] (ac bB):=by constructor <;> first | rfl | decide +kernel
theorem cQ:FnScope ["row","deep","inner","key","most"] ["row","deep"] (ac cE):=by constructor <;> first | rfl | decide +kernel
theorem iq:FnScope ["row","deep","way"] ["row","deep"] (ac cF):=by constructor <;> first | rfl | decide +kernel
theorem dS:FnScope ["row","shape"] ["row"] (ac eP):=by constructor <;> first | rfl | decide +kernel
theorem cR:FnScope ["row","most","text","k"] ["row","most"] (ac fZ):=by constructor <;> first | rfl | decide +kernel
theorem fG:FnScope ["row","low","high","way"] ["row","low","high"] (ac dP):=by constructor <;> first | rfl | decide +kernel
theorem lW:FnScope ["row","kind"] ["row","kind"] (ac bJ):=by constructor <;> first | rfl | decide +kernel
theorem cr:FnScope ["row","kind","items","k","item"] ["row","kind"] (ac bu):=by constructor <;> first | rfl | decide +kernel
theorem bw:FnScope ["kind","path","found","name","one"] ["kind","path"] (ac dQ):=by constructor <;> first | rfl | decide +kernel
theorem aW:FnScope ["shape","value","path","at","first","inner","due","where","part","more"] ["shape","value","path","at"] (ac dR):=by constructor <;> first | rfl | decide +kernel
theorem aQ:FnScope ["shape","value","inner","pair","other","where","more","part","inside","found"] ["shape","value","inner","pair","other"] (ac cG):=by constructor <;> first | rfl | decide +kernel
theorem ca:FnScope ["script","row","shape","value","path","kind","at","pairs","due","pair","other","some","one"] ["script"] (ac nD):=by constructor <;> first | rfl | decide +kernel
theorem pi1 {K:PySem.W.Frag} {X:Cx} {a:Expr} {ta:TE} {i j pos pos'} (hK:X.K=K) (ha:PE X a ta):PE X (.Subscript a (.Constant (.int i) j pos) pos') (tOp (xm K) ta (tC (.int i))):=cv (mH hK) ha pe_int fun _ _=>rfl
theorem isS {K : PySem.W.Frag} {H : Hp} {z : Str} {Q : V → Prop} (h : Q (.str z)) : ∀ v, IsP K H (.str z) v → Q v := fun v hv => by cases hv; exact h
theorem isI {K : PySem.W.Frag} {H : Hp} {z : Int} {Q : V → Prop} (h : Q (.int z)) : ∀ v, IsP K H (.int z) v → Q v := fun v hv => by cases hv; exact h
theorem sz2 : 2 ≤ sizeLine := by decide
theorem sz3 : 3 ≤ sizeLine := by decide
theorem pcl {X:Cx} {x:Str} {st:Stmt} {ps:List Str} {f:Addr} {fd:FuncData} {k:Nat} {sp:Sp} {e:Expr} {es:List Expr} {t:TA} {p pos:Pos} (D:Gn X.K X.mg x st ps f fd) (F:FnOk X.prog X.w X.K X.mg X.base CX0 k f fd ps sp) (hr:Room k X.A) (hg:Gl X x) (ha:PA X (e :: es) t) (hdb:(x == ("__debug__" : Str))=false:=by decide) (he:starEach (e :: es) X.env=(false,eval e X.env) :: starEach es X.env:=by rfl) (hpl:(backTo pos (starEach es X.env)).any (·.1)=false:=by rfl):PE X (.Call (.Name x p) (e :: es) [] pos) (qT sp [] E0 t):=sY F hr hg D.m D.F.kp D.b .nil wR ha hdb he hpl
theorem pa1 {X:Cx} {e:Expr} {te:TE} (ha:PE X e te) (hs:starEach [e] X.env=(false,eval e X.env) :: starEach [] X.env):PA X [e] (dW te p9):=aC ha bT hs
theorem pa2 {X:Cx} {e f:Expr} {te tf:TE} (ha:PE X e te) (hb:PE X f tf) (hs:starEach [e,f] X.env=(false,eval e X.env) :: starEach [f] X.env) (ht:starEach [f] X.env=(false,eval f X.env) :: starEach [] X.env):PA X [e,f] (dW te (dW tf p9)):=aC ha (aC hb bT ht) hs
theorem pa3 {X:Cx} {e f g:Expr} {te tf tg:TE} (ha:PE X e te) (hb:PE X f tf) (hc:PE X g tg) (hs:starEach [e,f,g] X.env=(false,eval e X.env) :: starEach [f,g] X.env) (ht:starEach [f,g] X.env=(false,eval f X.env) :: starEach [g] X.env) (hu:starEach [g] X.env=(false,eval g X.env) :: starEach [] X.env):PA X [e,f,g] (dW te (dW tf (dW tg p9))):=aC ha (aC hb (aC hc bT hu) ht) hs
theorem sz1:1≤sizeLine:=by decide
structure Ads where
 HandError:Addr
 BadKind:Addr
 BadPath:Addr
structure Tx (K:PySem.W.Frag) (mg:Str→Option Value) (ad:Ads):Prop where
 is_name:∃ f fd,Gn K mg "is_name" hV ["text"] f fd
 is_whole:∃ f fd,Gn K mg "is_whole" fW ["thing"] f fd
 is_whole_within:∃ f fd,Gn K mg "is_whole_within" bP ["thing","low","high"] f fd
 made_kind:∃ f fd,Gn K mg "made_kind" eG ["kind"] f fd
 is_formed:∃ f fd,Gn K mg "is_formed" bI ["thing","room"] f fd
 has_parts:∃ f fd,Gn K mg "has_parts" eI ["thing"] f fd
 are_bounds:∃ f fd,Gn K mg "are_bounds" dI ["low","high"] f fd
 are_words:∃ f fd,Gn K mg "are_words" eJ ["words"] f fd
 are_fields:∃ f fd,Gn K mg "are_fields" bA ["fields","room"] f fd
 is_field:∃ f fd,Gn K mg "is_field" cB ["field","room"] f fd
 are_rows:∃ f fd,Gn K mg "are_rows" cC ["key","items","room"] f fd
 field_kind:∃ f fd,Gn K mg "field_kind" cq ["kind","name"] f fd
 item_kind:∃ f fd,Gn K mg "item_kind" cO ["kind"] f fd
 kinds_within:∃ f fd,Gn K mg "kinds_within" cD ["kind"] f fd
 kind_many:∃ f fd,Gn K mg "kind_many" cP ["kind"] f fd
 field_of:∃ f fd,Gn K mg "field_of" fX ["record","name"] f fd
 entries:∃ f fd,Gn K mg "entries" fu ["kind","value"] f fd
 inner_kind:∃ f fd,Gn K mg "inner_kind" dJ ["kind","entry"] f fd
 wheres:∃ f fd,Gn K mg "wheres" iZ ["kind","value","path"] f fd
 places:∃ f fd,Gn K mg "places" eK ["kind","value","path"] f fd
 value_at:∃ f fd,Gn K mg "value_at" dM ["kind","value","where"] f fd
 with_values:∃ f fd,Gn K mg "with_values" cg ["kind","value","some"] f fd
 is_path:∃ f fd,Gn K mg "is_path" hZ ["path"] f fd
 kind_along:∃ f fd,Gn K mg "kind_along" dN ["kind","step"] f fd
 kind_at:∃ f fd,Gn K mg "kind_at" h7 ["kind","path"] f fd
 kind_with:∃ f fd,Gn K mg "kind_with" eL ["kind","path","other"] f fd
 kind_put:∃ f fd,Gn K mg "kind_put" bZ ["kind","path","other"] f fd
 law_mixed:∃ f fd,Gn K mg "_law_mixed" eM ["cell","k"] f fd
 law_stream:∃ f fd,Gn K mg "_law_stream" dO ["script","k"] f fd
 law_digit:∃ f fd,Gn K mg "_law_digit" eO ["row","many"] f fd
 law_leaf:∃ f fd,Gn K mg "_law_leaf" fY ["row"] f fd
 law_record:∃ f fd,Gn K mg "_law_record" bB ["row","deep","names"] f fd
 law_rows:∃ f fd,Gn K mg "_law_rows" cE ["row","deep"] f fd
 law_kind:∃ f fd,Gn K mg "_law_kind" cF ["row","deep"] f fd
 law_shape:∃ f fd,Gn K mg "_law_shape" eP ["row"] f fd
 law_text:∃ f fd,Gn K mg "_law_text" fZ ["row","most"] f fd
 law_number:∃ f fd,Gn K mg "_law_number" dP ["row","low","high"] f fd
 law_pairs:∃ f fd,Gn K mg "_law_pairs" bJ ["row","kind"] f fd
 law_value:∃ f fd,Gn K mg "_law_value" bu ["row","kind"] f fd
 law_ways:∃ f fd,Gn K mg "_law_ways" dQ ["kind","path"] f fd
 law_parted:∃ f fd,Gn K mg "_law_parted" dR ["shape","value","path","at"] f fd
 law_put_good:∃ f fd,Gn K mg "_law_put_good" cG ["shape","value","inner","pair","other"] f fd
 law:∃ f fd,Gn K mg "law" nD ["script"] f fd
 x_HandError:ExC K mg "HandError" ad.HandError
 x_BadKind:ExC K mg "BadKind" ad.BadKind
 x_BadPath:ExC K mg "BadPath" ad.BadPath
 LETTERS:∃ t,mg "LETTERS" = some (.str "abcdefghijklmnopqrstuvwxyz" t)
 LONGEST_NAME:∃ t,mg "LONGEST_NAME" = some (.int 8 t)
 EACH:∃ t,mg "EACH" = some (.str "each" t)
 MOST_SIGNS:∃ t,mg "MOST_SIGNS" = some (.int 60 t)
 MOST_WORDS:∃ t,mg "MOST_WORDS" = some (.int 8 t)
 MOST_FIELDS:∃ t,mg "MOST_FIELDS" = some (.int 8 t)
 MOST_ITEMS:∃ t,mg "MOST_ITEMS" = some (.int 8 t)
 MOST_KINDS:∃ t,mg "MOST_KINDS" = some (.int 40 t)
 DEEPEST:∃ t,mg "DEEPEST" = some (.int 5 t)
 PART_COUNTS:∃ a,mg "PART_COUNTS" = some (.ref a)∧o6 K a [("number",3),("text",2),("choice",2),("list",3),("record",2),("rows",4)]
 LONGEST_PATH:∃ t,mg "LONGEST_PATH" = some (.int 8 t)
 z_all:mg "all" = none
 z_bool:mg "bool" = none
 z_dict:mg "dict" = none
 z_enumerate:mg "enumerate" = none
 z_int:mg "int" = none
 z_isinstance:mg "isinstance" = none
 z_len:mg "len" = none
 z_list:mg "list" = none
 z_min:mg "min" = none
 z_range:mg "range" = none
 z_set:mg "set" = none
 z_sorted:mg "sorted" = none
 z_str:mg "str" = none
 z_sum:mg "sum" = none
 z_tuple:mg "tuple" = none
 z_zip:mg "zip" = none
abbrev depth:Nat:=60
abbrev letters:Str:= "abcdefghijklmnopqrstuvwxyz"
def inB (c:Nat):Bool:=!(Builtin.Str.occurrences letters ⟨#[c]⟩ 0 letters.length 1).isEmpty
def aI (z:Str):Bool:=decide (1≤z.length) && decide (z.length≤8) && !decide (z= "each") && z.cps.toList.all inB
def ltS (a b:Str):Prop:=a.cps.toList < b.cps.toList
instance (a b:Str):Decidable (ltS a b):=inferInstanceAs (Decidable (a.cps.toList < b.cps.toList))
def gU (ws:List Str):Bool:=decide (1≤ws.length) && decide (ws.length≤8) && ws.all aI && decide ws.Nodup
abbrev G4:=Str×Dt×Nat×Nat
abbrev nk (g:G4):Str×Dt:=(g.1,g.2.1)
abbrev prG (g:G4):Dt:=.tup [.str g.1,g.2.1]
def sumN:List Nat→Nat
 | []=>0
 | n :: r=>n+sumN r
def ix:List Nat→Nat
 | []=>0
 | n :: r=>max n (ix r)
def yg (l:List Dt) (z:Str):Prop:=∃ w r,Dt.tup [.str z,.tup (.str w :: r)]∈l∧(w= "number" ∨w= "text")∧z= "id"
inductive FK:Nat→Nat→Dt→Prop
 | text (i:Int):0≤i→i≤60→FK 1 1 (.tup [.str "text",.int i])
 | choice (ws:List Str):gU ws=true→FK 1 1 (.tup [.str "choice",.tup (ws.map Dt.str)])
 | number (i j:Int):-1000000000000000000000000000000≤i→i≤j→j≤1000000000000000000000000000000→FK 1 1 (.tup [.str "number",.int i,.int j])
 | list {a c:Nat} {k:Dt} {i:Int}:FK a c k→0≤i→i≤8→FK (a+1) (c+1) (.tup [.str "list",k,.int i])
 | rows {a c:Nat} {z:Str} {l:List Dt} {i:Int}:FK a c (.tup [.str "record",.tup l])→yg l z→0≤i→i≤8→FK (a+1) (c+1) (.tup [.str "rows",.str z,.tup [.str "record",.tup l],.int i])
 | rcd {gs:List G4}:(∀ g∈gs,FK g.2.2.1 g.2.2.2 g.2.1)→(gs.map (·.1)).Pairwise ltS→(∀ g∈gs,aI g.1=true)→gs.length≤8→FK (ix (gs.map (·.2.2.1))+1) (sumN (gs.map (·.2.2.2))+1) (.tup [.str "record",.tup (gs.map prG)])
theorem FK.pos {a c:Nat} {d:Dt} (h:FK a c d):1≤a:=by cases h <;> lia
theorem gW {n:Nat}:∀ {l:List Nat},n∈l→n≤ix l
 | m :: l,h=>by
  show n≤max m (ix l);rcases List.mem_cons.mp h with rfl | h
  ·exact Nat.le_max_left _ _
  ·exact Nat.le_trans (gW h) (Nat.le_max_right _ _)
theorem max_le {b:Nat}:∀ {l:List Nat},(∀ n∈l,n≤b)→ix l≤b
 | [],_=>Nat.zero_le _
 | m :: l,h=>by
  show max m (ix l)≤b;exact Nat.max_le.mpr ⟨h m List.mem_cons_self,max_le fun n hn=>h n (List.mem_cons_of_mem _ hn)⟩
def ao (d:Dt):Option Dt:=match d with
 | .tup [.str w,k,_]=>if w= "list" then some k else none
 | .tup [.str w,_,k,_]=>if w= "rows" then some k else none
 | _=>none
def ja (K:PySem.W.Frag) (H:Hp) (r:Option Dt) (Q:VK):Prop:=match r with
 | none=>Q .non H
 | some e=>∀ v,IsP K H e v→Q v H
mutual
def okD:Dt→Bool
 | .int _=>true
 | .str z=>decide (z.length≤1000)
 | .tup l=>kx l
 | _=>false
def kx:List Dt→Bool
 | []=>true
 | d :: l=>okD d && kx l
end
theorem bt:∀ {l:List Dt},kx l=true→∀ d∈l,okD d=true
 | e :: l,h,d,hd=>by
  rw [kx,Bool.and_eq_true] at h;rcases List.mem_cons.mp hd with rfl | hd
  ·exact h.1
  ·exact bt h.2 d hd
theorem om:∀ {l:List Dt},(∀ d∈l,okD d=true)→kx l=true
 | [],_=>rfl
 | e :: l,h=>by rw [kx,h e List.mem_cons_self,om fun d hd=>h d (List.mem_cons_of_mem _ hd)];rfl
def bD:Dt→Bool
 | .str z=>aI z
 | _=>false
def vL:Dt→Bool
 | .int _=>true
 | _=>false
def cJ (d:Dt) (j k:Int):Bool:=match d with
 | .int i=>decide (j≤i) && decide (i≤k)
 | _=>false
def pi (d e:Dt):Bool:=match d,e with
 | .int i,.int j=>decide (-1000000000000000000000000000000≤i) && decide (i≤j) && decide (j≤1000000000000000000000000000000)
 | _,_=>false
abbrev pj:List (Str×Int):=[("number",3),("text",2),("choice",2),("list",3),("record",2),("rows",4)]
def cw:Dt→Bool
 | .tup (.str u :: l)=>decide (ck u pj=.int ((l.length+1:Nat):Int))
 | _=>false
def qz:Dt→Str
 | .str z=>z
 | _=> ""
def mO (ws:List Str):Nat:=(L2.gS (ws.map (Sum.inr:Str→Key)) (ws.map (Sum.inr:Str→Key)).length).length
def rN:Dt→Bool
 | .tup ws=>decide (1≤ws.length) && decide (ws.length≤8) && ws.all bD && decide (mO (ws.map qz)=ws.length)
 | _=>false
def aU (f:Dt→Bool):Dt→Bool
 | .tup [a,b]=>bD a && f b
 | _=>false
def nmD:Dt→Str
 | .tup [.str z,_]=>z
 | _=> ""
def qA (ns:List Str):Bool:=(ns.zip (ns.drop 1)).all fun p=>decide (ltS p.1 p.2)
def kz (f:Dt→Bool):Dt→Bool
 | .tup fs=>decide (fs.length≤8) && fs.all (aU f) && qA (fs.map nmD)
 | _=>false
def mP (key:Dt):Dt→Bool
 | .tup [o,_]=>eqD o key
 | _=>false
def dX (fs:List Dt) (key:Dt):Option Dt:=match fs.find? (mP key) with
 | some (.tup [_,k])=>some k
 | _=>none
def pp:Option Dt→Bool
 | some (.tup (.str u :: _))=>decide (u= "number") || decide (u= "text")
 | _=>false
def fB (f:Dt→Bool) (key items:Dt):Bool:=f items && (match items with
 | .tup [.str u,.tup fs]=>decide (u= "record") && pp (dX fs key)
 | _=>false)
def aA:Nat→Dt→Bool
 | 0,_=>false
 | n+1,.tup [.str u,a]=>if u= "text" then cJ a 0 60 else if u= "choice" then rN a else if u= "record" then kz (aA n) a else false
 | n+1,.tup [.str u,a,b]=>if u= "number" then pi a b else if u= "list" then aA n a && cJ b 0 8 else false
 | n+1,.tup [.str u,a,b,c]=>if u= "rows" then fB (aA n) a b && cJ c 0 8 else false
 | _,_=>false
def on (K:PySem.W.Frag) (_:Ads):Sp:=fun vs H Q _=>∃ (d:Dt) (x:V),vs=[x]∧IsP K H d x∧okD d=true∧∀ H',Same H H'→Q (.bl (bD d)) H'
def mQ (K:PySem.W.Frag) (_:Ads):Sp:=fun vs H Q _=>∃ (d:Dt) (x:V),vs=[x]∧IsP K H d x∧okD d=true∧Q (.bl (vL d)) H
def fJ (K:PySem.W.Frag) (_:Ads):Sp:=fun vs H Q _=>∃ (d:Dt) (x:V) (j k:Int),vs=[x,.int j,.int k]∧IsP K H d x∧okD d=true∧Q (.bl (cJ d j k)) H
def jb (K:PySem.W.Frag) (_:Ads):Sp:=fun vs H Q _=>∃ (d e:Dt) (x y:V),vs=[x,y]∧IsP K H d x∧IsP K H e y∧okD d=true∧okD e=true∧Q (.bl (pi d e)) H
def kA (K:PySem.W.Frag) (_:Ads):Sp:=fun vs H Q _=>∃ (d:Dt) (x:V),vs=[x]∧IsP K H d x∧okD d=true∧Q (.bl (cw d)) H
def kB (K:PySem.W.Frag) (_:Ads):Sp:=fun vs H Q _=>∃ (d:Dt) (x:V),vs=[x]∧IsP K H d x∧okD d=true∧∀ H',Same H H'→Q (.bl (rN d)) H'
def kC (K:PySem.W.Frag) (_:Ads):Sp:=fun vs H Q _=>∃ (a c:Nat) (d:Dt) (x:V),vs=[x]∧IsP K H d x∧FK a c d∧ja K H (ao d) Q
def kE (_:PySem.W.Frag) (_:Ads):Sp:=fun vs H Q _=>∃ i k:Int,vs=[.int i,.int k]∧∀ c,Q (.int c) H
def kF (_:PySem.W.Frag) (_:Ads):Sp:=fun vs H Q _=>∃ (r:Addr) (n m:Int),vs=[.ref r,.int m]∧H r=some (.lst [.int n])∧0 < m∧m < 10000000000000000000000000000000000000000000000000000000000000∧Q (.int (n % m)) (upd H r (.lst [.int (n / m)]))
def xC (K:PySem.W.Frag):Sp:=fun vs H Q _=>∃ (a:Addr) (ns:List Int),vs=[.ref a]∧SqL K H a (ns.map V.int)∧ns.length≤63∧∀ H',Q (.bl true) H'
abbrev vM (K:PySem.W.Frag) (_:Ads):Sp:=xC K
theorem small {n:Nat} (h:n≤1000):n≤sizeLine:=Nat.le_of_lt (ag h)
theorem aB {α β:Type} {xs:List α} {i:Nat} {x:α} (f:α→β) (h:xs[i]?=some x):(xs.take i).map f++[f x]=(xs.take (i+1)).map f:=by
 rw [List.take_add_one,h,List.map_append];rfl
theorem gz {l:List Str} (h:l.Pairwise ltS):l.Nodup:=List.Pairwise.imp (fun {a b} hab e=>by
 subst e;exact absurd hab (List.lt_irrefl _)) h
section
variable {P:Program} {w:World} {K:PySem.W.Frag} {mg:Str→Option Value} {base:Heap} {ad:Ads}
theorem vN {K:PySem.W.Frag} {H:Hp} {l:Addr} {z:Str} {Q:VK} {nm:L2.St} (hl:H l=none) (hz:z.length≤sizeLine) (q:∀ H',Same H H'→Q (.bl (z.cps.toList.all inB)) H')
  (hn:nm=[none]):∃ W:Nat→Nat→List V→L2.St→Hp→Prop,(∃ m,W 0 m [] nm (upd H l (.lst [])))∧∀ i m ys σ' H',W i m ys σ' H'→((Its z).stop i H'∧(fun (v:V) (H':Hp)=>∃ p ys,[v]=[V.ref p]∧true=true∧SqL K H' p (bls ys)∧Q (.bl (ys.all id)) H') (.ref l) H') ∨
   ((Its z).go i H'∧∀ x H'',(Its z).yld i H' x H''→ju 0 x σ' H'' fun σ2 H2=>cEl (tOp (fun x y H Q=>∃ i j,x=.str i∧y=.str j∧Q (.bl (!(Builtin.Str.occurrences j i 0 j.length 1).isEmpty)) H) (qL 0) (tC (.str letters))) ys l σ2 H2 fun ys' σ3 H3=>∃ m',m' < m∧W (i+1) m' ys' σ3 H3):=by
 subst hn;refine rl (Q:=fun (v:V) (H':Hp)=>∃ p ys,[v]=[V.ref p]∧true=true∧SqL K H' p (bls ys)∧Q (.bl (ys.all id)) H') (fun i ys σ H'=>ys=bls ((z.cps.toList.take i).map inB)∧H'=upd H l (.lst ys)∧σ.length=1) ⟨rfl,rfl,rfl⟩ ?_ ?_
 ·rintro i c ys σ H1 N hc ⟨rfl,rfl,hσ⟩ next;have hc':z.cps.toList[i]?=some c:=by rw [Array.getElem?_toList];exact hc
  have hi:i < z.cps.toList.length:=(List.getElem?_eq_some_iff.mp hc').1;have hlen:(bls ((z.cps.toList.take i).map inB)).length < sizeLine:=by
   have:z.length=z.cps.toList.length:=by simp [Str.length]
   simp only [bls,List.length_map,List.length_take];lia
  match σ,hσ with
  | [_],_ =>
   refine ⟨.str ⟨#[c]⟩,rfl,_,_,rfl,rfl,aa,hlen,next _ _ _ ⟨?_,sS,rfl⟩⟩;show bls ((z.cps.toList.take i).map inB)++[V.bl (inB c)]=bls ((z.cps.toList.take (i+1)).map inB);unfold bls;rw [List.map_map,List.map_map];exact aB (V.bl ∘ inB) hc'
 ·rintro ys σ H1 ⟨rfl,rfl,hσ⟩;refine ⟨l,(z.cps.toList).map inB,rfl,rfl,SqL.of ?_,?_⟩
  ·rw [aa];have:z.cps.toList.take z.cps.size=z.cps.toList:=List.take_of_length_le (by simp);rw [this]
  ·rw [List.all_map];exact q _ (ab hl _)
theorem fK (T:Tx K mg ad) {f:Addr} {fd:FuncData} (F:Gn K mg "is_name" hV ["text"] f fd):FnOk P w K mg base CX0 1 f fd ["text"] (on K ad):=by
 obtain ⟨t_LONGEST_NAME,c_LONGEST_NAME⟩:=T.LONGEST_NAME;obtain ⟨t_EACH,c_EACH⟩:=T.EACH;obtain ⟨t_LETTERS,c_LETTERS⟩:=T.LETTERS;refine F.F.ok oR (fun vs H Q E h=>?_) (fun cdv A outer s H vs Q E hr h=>?_)
 ·obtain ⟨d,x,rfl,_⟩:=h
  rfl
 obtain ⟨d,x,rfl,hd,ok,q⟩:=h;refine ⟨_,(@pss_cons _ _ _ _ _ (@ps_if _ _ _ _ _ _ _ _ (PW.pt (@pw_or _ _ _ _ _ _ _ (@pt_not _ _ _ _ (@pt_val _ _ _ (pe_callB (a7 (K:=K) rfl) rfl T.z_isinstance boot_isinstance (@pa2 _ _ _ _ _ (pv 0) (dB rfl T.z_str boot_str) (by rfl) (by rfl))) (by intro _;rfl))) (@pw_or1 _ _ _ _ (@pt_not _ _ _ _ (pt_chain op_le op_le pe_int (pe_callB call_len_str rfl T.z_len PySem.boot_len (@pa1 _ _ _ (pv 0) (by rfl))) (pe_gint rfl c_LONGEST_NAME)))))) (@pss_one _ _ _ (@ps_ret _ _ _ _ pe_bl)) pss_nil) (@pss_one _ _ _ (@ps_ret _ _ _ _ (pe_and (pe_cmpR op_ne (pv 0) (pe_gstr rfl c_EACH) (nomark _)) (pe_one (pe_callB (call_allN (K:=K) rfl rfl) rfl T.z_all boot_all (@pa1 _ _ _ (aZ rfl (cs0 (NL:=["letter"]) rfl (by decide +kernel) (by decide +kernel)) (vy (pv 0)) (fun _ _ _ _=>(ah (i:=0) (show List.Nodup (α:=Str) ["letter"] by decide +kernel) rfl (Or.inl rfl))) (fun _ _ _ _=>(pe_cmpR p6 (pv 0) (pe_gstr rfl c_LETTERS) rfl))) (by rfl)))))))),?_⟩
 cases hd with
 | non=>cases ok
 | bl=>cases ok
 | int=>exact ⟨_,rfl,_,_,_,rfl,.int_str,_,rfl,aO (aO (q H (Same.refl H)))⟩
 | tup ht _ _=>exact ⟨_,rfl,_,_,_,rfl,.tup_str ht,_,rfl,aO (aO (q H (Same.refl H)))⟩
 | @str z =>
  have hz:z.length≤sizeLine:=small (of_decide_eq_true ok);replace q:∀ H',Same H H'→Q (.bl (aI z)) H':=q;refine ⟨_,rfl,_,_,_,rfl,.str_str,_,rfl,bq ?_⟩;refine ⟨_,rfl,z,rfl,hz,_,_,rfl,rfl,_,rfl,?_⟩;refine cp (fun c1=>?_) (fun c1=>?_)
  ·refine ⟨_,_,rfl,rfl,_,rfl,?_⟩;refine cp (fun c2=>?_) (fun c2=>?_)
   ·have e:aI z=false:=by
     have c2':¬ ((z.length:Int)≤8):=by simpa using c2
     have:¬ z.length≤8:=by lia
     simp [aI,this]
    rw [← e];exact q H (Same.refl H)
   ·have l1:1≤z.length:=by
     have:(1:Int)≤z.length:=of_decide_eq_true c1;lia
    have l2:z.length≤8:=by
     have:((z.length:Int)≤8):=by simpa using c2
     lia
    refine ⟨_,rfl,rfl,_,rfl,?_⟩;refine cp (fun c3=>?_) (fun c3=>?_)
    ·refine ⟨_,rfl,z,rfl,fun l hl=>vN (K:=K) hl hz (fun H' g=>?_) rfl⟩;have n3:¬ (z= "each"):=by simpa using c3
     have e:aI z=z.cps.toList.all inB:=by simp [aI,l1,l2,n3]
     rw [← e];exact q H' g
    ·have n3:z= "each" :=by simpa using c3
     have e:aI z=false:=by simp [aI,n3]
     rw [← e];exact q H (Same.refl H)
  ·refine ⟨_,rfl,aO ?_⟩;have e:aI z=false:=by
    have:¬ (1:Int)≤z.length:=by simpa using c1
    have:¬ 1≤z.length:=by lia
    simp [aI,this]
   rw [← e];exact q H (Same.refl H)
theorem ar {K:PySem.W.Frag} {H:Hp} {w:Str} {v:V} (h:IsP K H (.str w) v):v=.str w:=by cases h;rfl
theorem aY {A B:Prop} {x:V} (h:A):if decide (x=x)=true then A else B:=by rw [if_pos (decide_eq_true rfl)];exact h
theorem iteN {A B:Prop} {x y:V} (n:x≠y) (h:B):if decide (x=y)=true then A else B:=by rw [if_neg (fun c=>n (of_decide_eq_true c))];exact h
theorem pq {A B:Prop} {x y:V} (n:x≠y) (h:A):if (!decide (x=y))=true then A else B:=by rw [if_pos (by rw [decide_eq_false n];rfl)];exact h
theorem mR {A B:Prop} {x:V} (h:B):if (!decide (x=x))=true then A else B:=by rw [if_neg (by rw [decide_eq_true rfl];decide)];exact h
theorem ak {a b:Str} (h:a≠b):V.str a≠V.str b:=fun e=>h (V.str.inj e)
theorem kG (T:Tx K mg ad) {f:Addr} {fd:FuncData} (F:Gn K mg "item_kind" cO ["kind"] f fd):FnOk P w K mg base CX0 1 f fd ["kind"] (kC K ad):=by
 refine F.F.ok gK (fun vs H Q E h=>?_) (fun cdv A outer s H vs Q E hr h=>?_)
 ·obtain ⟨a,c,d,x,rfl,_⟩:=h
  rfl
 obtain ⟨a,c,d,x,rfl,hd,gk,q⟩:=h;refine ⟨_,(@pss_cons _ _ _ _ _ (@ps_if _ _ _ _ _ _ _ _ (pt_cmpR op_eq (@pi1 K _ _ _ _ _ _ _ rfl (pv 0)) pe_str (nomark _)) (@pss_one _ _ _ (@ps_ret _ _ _ _ (@pi1 K _ _ _ _ _ _ _ rfl (pv 0)))) pss_nil) (@pss_cons _ _ _ _ _ (@ps_if _ _ _ _ _ _ _ _ (pt_cmpR op_eq (@pi1 K _ _ _ _ _ _ _ rfl (pv 0)) pe_str (nomark _)) (@pss_one _ _ _ (@ps_ret _ _ _ _ (@pi1 K _ _ _ _ _ _ _ rfl (pv 0)))) pss_nil) (@pss_one _ _ _ (@ps_ret _ _ _ _ pe_non)))),?_⟩
 cases gk with
 | list g =>
  refine ⟨_,rfl,_,_,_,hd,rfl,rfl,isS ?_⟩;refine ⟨rfl,_,rfl,aY ⟨_,rfl,_,_,_,hd,rfl,rfl,fun v hv=>?_⟩⟩;exact q v hv
 | rows g =>
  refine ⟨_,rfl,_,_,_,hd,rfl,rfl,isS ?_⟩;refine ⟨rfl,_,rfl,iteN (ak (by decide)) ⟨_,rfl,_,_,_,hd,rfl,rfl,fun v hv=>?_⟩⟩;obtain rfl:=ar hv;refine ⟨rfl,_,rfl,aY ⟨_,rfl,_,_,_,hd,rfl,rfl,fun v hv=>?_⟩⟩;exact q v hv
 | _ =>
  refine ⟨_,rfl,_,_,_,hd,rfl,rfl,isS ?_⟩;refine ⟨rfl,_,rfl,iteN (ak (by decide)) ⟨_,rfl,_,_,_,hd,rfl,rfl,fun v hv=>?_⟩⟩;obtain rfl:=ar hv;exact ⟨rfl,_,rfl,iteN (ak (by decide)) q⟩
theorem il (T:Tx K mg ad) {f:Addr} {fd:FuncData} (F:Gn K mg "is_whole" fW ["thing"] f fd):FnOk P w K mg base CX0 1 f fd ["thing"] (mQ K ad):=by
 refine F.F.ok nE (fun vs H Q E h=>?_) (fun cdv A outer s H vs Q E hr h=>?_)
 ·obtain ⟨d,x,rfl,_⟩:=h
  rfl
 obtain ⟨d,x,rfl,hd,ok,q⟩:=h;refine ⟨_,(@pss_one _ _ _ (@ps_ret _ _ _ _ (pe_and (pe_callB (a7 (K:=K) rfl) rfl T.z_isinstance boot_isinstance (@pa2 _ _ _ _ _ (pv 0) (dB rfl T.z_int boot_int) (by rfl) (by rfl))) (pe_one (uV (pe_callB (a7 (K:=K) rfl) rfl T.z_isinstance boot_isinstance (@pa2 _ _ _ _ _ (pv 0) (dB rfl T.z_bool boot_bool) (by rfl) (by rfl)))))))),?_⟩
 cases hd with
 | non=>cases ok
 | bl=>cases ok
 | int=>exact ⟨_,rfl,_,_,_,rfl,.int_int,_,rfl,aO ⟨_,rfl,_,_,_,rfl,.int_bool,_,rfl,q⟩⟩
 | str=>exact ⟨_,rfl,_,_,_,rfl,.str_int,_,rfl,bq q⟩
 | tup ht _ _=>exact ⟨_,rfl,_,_,_,rfl,.tup_int ht,_,rfl,bq q⟩
theorem fM (T:Tx K mg ad) {f:Addr} {fd:FuncData} (F:Gn K mg "is_whole_within" bP ["thing","low","high"] f fd):FnOk P w K mg base CX0 2 f fd ["thing","low","high"] (fJ K ad):=by
 obtain ⟨_,_,yS⟩:=T.is_whole;have y4:=il (P:=P) (w:=w) (base:=base) T yS;refine F.F.ok gh (fun vs H Q E h=>?_) (fun cdv A outer s H vs Q E hr h=>?_)
 ·obtain ⟨d,x,j,k,rfl,_⟩:=h
  rfl
 obtain ⟨d,x,j,k,rfl,hd,ok,q⟩:=h;refine ⟨_,(@pss_one _ _ _ (@ps_ret _ _ _ _ (pe_and (pcl yS y4 (hr.mono (by lia)) rfl (@pa1 _ _ _ (pv 0) (by rfl))) (pe_one (qR op_le op_le (pv 1) (pv 0) (pv 2)))))),?_⟩;refine ⟨_,rfl,d,x,rfl,hd,ok,?_⟩
 cases hd with
 | non=>cases ok
 | bl=>cases ok
 | str=>exact ⟨_,rfl,bq q⟩
 | tup ht _ _=>exact ⟨_,rfl,bq q⟩
 | @int i =>
  replace q:Q (.bl (decide (j≤i) && decide (i≤k))) H:=q;refine ⟨_,rfl,aO ?_⟩;refine ⟨_,rfl,_,rfl,_,_,rfl,rfl,_,rfl,?_⟩;refine cp (fun c=>⟨_,rfl,_,_,rfl,rfl,?_⟩) (fun c=>?_)
  ·show Q (.bl (decide (i≤k))) H;rw [c,Bool.true_and] at q;exact q
  ·rw [Bool.eq_false_iff.mpr c,Bool.false_and] at q;exact q
theorem at0 {α:Type} (c:α) (r:List α):atI (c :: r) 0=some c:=by
 have e:atI (c :: r) ((0:Nat):Int)=some c:=bz (by rfl);exact e
theorem uL:(10:Int) ^ (30:Int).toNat=1000000000000000000000000000000:=by decide +kernel
theorem jc (T:Tx K mg ad) {f:Addr} {fd:FuncData} (F:Gn K mg "are_bounds" dI ["low","high"] f fd):FnOk P w K mg base CX0 2 f fd ["low","high"] (jb K ad):=by
 obtain ⟨_,_,yS⟩:=T.is_whole;have y4:=il (P:=P) (w:=w) (base:=base) T yS;refine F.F.ok jq (fun vs H Q E h=>?_) (fun cdv A outer s H vs Q E hr h=>?_)
 ·obtain ⟨d,e,x,y,rfl,_⟩:=h
  rfl
 obtain ⟨d,e,x,y,rfl,hd,he,ok,ok',q⟩:=h;refine ⟨_,(@pss_cons _ _ _ _ _ (@ps_if _ _ _ _ _ _ _ _ (PW.pt (@pw_or _ _ _ _ _ _ _ (@pt_not _ _ _ _ (@pt_val _ _ _ (pcl yS y4 (hr.mono (by lia)) rfl (@pa1 _ _ _ (pv 0) (by rfl))) (by intro _;rfl))) (@pw_or1 _ _ _ _ (@pt_not _ _ _ _ (@pt_val _ _ _ (pcl yS y4 (hr.mono (by lia)) rfl (@pa1 _ _ _ (pv 1) (by rfl))) (by intro _;rfl)))))) (@pss_one _ _ _ (@ps_ret _ _ _ _ pe_bl)) pss_nil) (@pss_one _ _ _ (@ps_ret _ _ _ _ (pe_chain3 op_le op_le op_le (@pe_un _ _ _ _ _ _ un_neg (@pe_op _ _ _ _ _ _ _ _ op_pow pe_int pe_int)) (pv 0) (pv 1) (@pe_op _ _ _ _ _ _ _ _ op_pow pe_int pe_int))))),?_⟩;refine ⟨_,rfl,d,x,rfl,hd,ok,_,rfl,?_⟩
 cases hd with
 | non=>cases ok
 | bl=>cases ok
 | str=>exact aO (aO q)
 | tup ht _ _=>exact aO (aO q)
 | @int i =>
  refine bq ⟨_,rfl,e,y,rfl,he,ok',_,rfl,?_⟩
  cases he with
  | non=>cases ok'
  | bl=>cases ok'
  | str=>exact aO q
  | tup ht _ _=>exact aO q
  | @int j =>
   replace q:Q (.bl (decide (-1000000000000000000000000000000≤i) && decide (i≤j) && decide (j≤1000000000000000000000000000000))) H:=q;refine bq ?_;refine ⟨_,_,rfl,rfl,⟨by decide,by decide,by decide⟩,_,rfl,_,rfl,_,_,rfl,rfl,_,rfl,?_⟩;rw [uL];refine cp (fun c=>⟨_,rfl,_,_,rfl,rfl,_,rfl,?_⟩) (fun c=>?_)
   ·replace c:decide (-1000000000000000000000000000000≤i)=true:=c;rw [c,Bool.true_and] at q;refine cp (fun c=>?_) (fun c=>?_)
    ·refine ⟨_,_,rfl,rfl,⟨by decide,by decide,by decide⟩,_,_,rfl,rfl,?_⟩;rw [uL];replace c:decide (i≤j)=true:=c;rw [c,Bool.true_and] at q;exact q
    ·replace c:¬ decide (i≤j)=true:=c;rw [Bool.eq_false_iff.mpr c,Bool.false_and] at q;exact q
   ·replace c:¬ decide (-1000000000000000000000000000000≤i)=true:=c;rw [Bool.eq_false_iff.mpr c,Bool.false_and,Bool.false_and] at q;exact q
theorem jL (u:Str) (n:Int):∀ l:List (Str×Int),u3 (ck u l) (.int n)=true
 | []=>rfl
 | (x,i) :: D=>by
  unfold ck
  split
  ·rfl
  ·exact jL u n D
theorem kH (T:Tx K mg ad) {f:Addr} {fd:FuncData} (F:Gn K mg "has_parts" eI ["thing"] f fd):FnOk P w K mg base CX0 1 f fd ["thing"] (kA K ad):=by
 obtain ⟨t_PART_COUNTS,c_PART_COUNTS,d_PART_COUNTS⟩:=T.PART_COUNTS;refine F.F.ok lR (fun vs H Q E h=>?_) (fun cdv A outer s H vs Q E hr h=>?_)
 ·obtain ⟨d,x,rfl,_⟩:=h
  rfl
 obtain ⟨d,x,rfl,hd,ok,q⟩:=h;refine ⟨_,(@pss_cons _ _ _ _ _ (@ps_if _ _ _ _ _ _ _ _ (PW.pt (@pw_or _ _ _ _ _ _ _ (@pt_not _ _ _ _ (@pt_val _ _ _ (pe_callB (a7 (K:=K) rfl) rfl T.z_isinstance boot_isinstance (@pa2 _ _ _ _ _ (pv 0) (dB rfl T.z_tuple boot_tuple) (by rfl) (by rfl))) (by intro _;rfl))) (@pw_or _ _ _ _ _ _ _ (pt_cmpR op_eq (pe_callB (call_lenDN (K:=K) rfl) rfl T.z_len PySem.boot_len (@pa1 _ _ _ (pv 0) (by rfl))) pe_int (nomark _)) (@pw_or1 _ _ _ _ (@pt_not _ _ _ _ (@pt_val _ _ _ (pe_callB (a7 (K:=K) rfl) rfl T.z_isinstance boot_isinstance (@pa2 _ _ _ _ _ (@pi1 K _ _ _ _ _ _ _ rfl (pv 0)) (dB rfl T.z_str boot_str) (by rfl) (by rfl))) (by intro _;rfl))))))) (@pss_one _ _ _ (@ps_ret _ _ _ _ pe_bl)) pss_nil) (@pss_one _ _ _ (@ps_ret _ _ _ _ (pe_cmpR op_eq (pe_kget d_PART_COUNTS rfl c_PART_COUNTS (@pa1 _ _ _ (@pi1 K _ _ _ _ _ _ _ rfl (pv 0)) (by rfl))) (pe_callB (call_lenDN (K:=K) rfl) rfl T.z_len PySem.boot_len (@pa1 _ _ _ (pv 0) (by rfl))) (nomark _))))),?_⟩
 cases d with
 | non=>cases ok
 | bl=>cases ok
 | int i =>
  cases hd
  exact ⟨_,rfl,_,_,_,rfl,.int_tuple,_,rfl,aO (aO q)⟩
 | str z =>
  cases hd
  exact ⟨_,rfl,_,_,_,rfl,.str_tuple,_,rfl,aO (aO q)⟩
 | tup l =>
  obtain ⟨a,xs,rfl,ha,pa,ra⟩:=id hd.unref;refine ⟨_,rfl,_,_,_,rfl,.tup_tuple ha,_,rfl,bq ?_⟩;refine ⟨_,rfl,_,_,rfl,hd.d,rfl,_,rfl,?_⟩
  cases l with
  | nil=>exact aY (aO q)
  | cons e l =>
   refine iteN (fun z=>?_) ?_
   ·injection z with z
    rw [List.length_cons] at z;lia
   have oke:=bt ok e List.mem_cons_self;refine ⟨_,rfl,_,_,_,hd,rfl,at0 _ _,fun v hv=>?_⟩
   cases e with
   | non=>cases oke
   | bl=>cases oke
   | int i =>
    cases hv
    exact ⟨_,_,_,rfl,.int_str,_,rfl,aO q⟩
   | tup l =>
    obtain ⟨a1,xs1,rfl,ha1,_,_⟩:=id hv.unref;exact ⟨_,_,_,rfl,.tup_str ha1,_,rfl,aO q⟩
   | str u =>
    obtain rfl:=ar hv;refine ⟨_,_,_,rfl,.str_str,_,rfl,bq ?_⟩;refine ⟨_,rfl,_,_,_,hd,rfl,at0 _ _,isS ?_⟩;refine ⟨_,rfl,_,rfl,_,_,rfl,hd.d,jL u _ _,q⟩
theorem iO:∀ {l:List Dt},l.all bD=true→l=(l.map qz).map Dt.str
 | [],_=>rfl
 | d :: l,h=>by
  rw [List.all_cons,Bool.and_eq_true] at h;rw [List.map_cons,List.map_cons,← iO h.2]
  cases d with
  | str z=>rfl
  | _=>exact absurd h.1 Bool.false_ne_true
theorem fN {K:PySem.W.Frag} {H:Hp}:∀ {ws:List Str} {xs:List V},IsPs K H (ws.map Dt.str) xs→xs=ws.map V.str
 | [],xs,h=>by cases h;rfl
 | w :: ws,xs,h=>by
  cases h with
  | cons h1 h2=>rw [ar h1,fN h2];rfl
theorem t7 (m n:Nat):decide (V.int (m:Int)=V.int (n:Int))=decide (m=n):=by
 rw [Bool.eq_iff_iff];simp;lia
theorem kI (T:Tx K mg ad) {f:Addr} {fd:FuncData} (F:Gn K mg "are_words" eJ ["words"] f fd):FnOk P w K mg base CX0 2 f fd ["words"] (kB K ad):=by
 obtain ⟨_,_,yI⟩:=T.is_name;have y3:=fK (P:=P) (w:=w) (base:=base) T yI;obtain ⟨t_MOST_WORDS,c_MOST_WORDS⟩:=T.MOST_WORDS;refine F.F.ok lT (fun vs H Q E h=>?_) (fun cdv A outer s H vs Q E hr h=>?_)
 ·obtain ⟨d,x,rfl,_⟩:=h
  rfl
 obtain ⟨d,x,rfl,hd,ok,q⟩:=h;refine ⟨_,(@pss_cons _ _ _ _ _ (@ps_if _ _ _ _ _ _ _ _ (PW.pt (@pw_or _ _ _ _ _ _ _ (@pt_not _ _ _ _ (@pt_val _ _ _ (pe_callB (a7 (K:=K) rfl) rfl T.z_isinstance boot_isinstance (@pa2 _ _ _ _ _ (pv 0) (dB rfl T.z_tuple boot_tuple) (by rfl) (by rfl))) (by intro _;rfl))) (@pw_or1 _ _ _ _ (@pt_not _ _ _ _ (pt_chain op_le op_le pe_int (pe_callB (call_lenDN (K:=K) rfl) rfl T.z_len PySem.boot_len (@pa1 _ _ _ (pv 0) (by rfl))) (pe_gint rfl c_MOST_WORDS)))))) (@pss_one _ _ _ (@ps_ret _ _ _ _ pe_bl)) pss_nil) (@pss_one _ _ _ (@ps_ret _ _ _ _ (pe_and (pe_callB (call_allN (K:=K) rfl rfl) rfl T.z_all boot_all (@pa1 _ _ _ (aZ rfl (cs0 (NL:=["word"]) rfl (by decide +kernel) (by decide +kernel)) (pi_tupN (K:=K) rfl (pv 0)) (fun _ _ _ _=>(ah (i:=0) (show List.Nodup (α:=Str) ["word"] by decide +kernel) rfl (Or.inl rfl))) (fun _ _ _ _=>(pcl yI y3 (hr.mono (by lia)) rfl (@pa1 _ _ _ (pv 0) (by rfl))))) (by rfl))) (pe_one (pe_cmpR op_eq (pe_callB qt rfl T.z_len PySem.boot_len (@pa1 _ _ _ (bh (qr rfl) rfl T.z_set boot_set (@pa1 _ _ _ (pv 0) (by rfl))) (by rfl))) (pe_callB (call_lenDN (K:=K) rfl) rfl T.z_len PySem.boot_len (@pa1 _ _ _ (pv 0) (by rfl))) (nomark _))))))),?_⟩
 cases d with
 | non=>cases ok
 | bl=>cases ok
 | int i =>
  cases hd
  exact ⟨_,rfl,_,_,_,rfl,.int_tuple,_,rfl,aO (aO (q H (Same.refl H)))⟩
 | str z =>
  cases hd
  exact ⟨_,rfl,_,_,_,rfl,.str_tuple,_,rfl,aO (aO (q H (Same.refl H)))⟩
 | tup ds =>
  obtain ⟨a,xs,rfl,hT,pa,ra⟩:=id hd.unref;have el:=ra.length;replace q:∀ H',Same H H'→Q (.bl (decide (1≤ds.length) && decide (ds.length≤8) && ds.all bD && decide (mO (ds.map qz)=ds.length))) H':=q;refine ⟨_,rfl,_,_,_,rfl,.tup_tuple hT,_,rfl,bq ?_⟩;refine ⟨_,rfl,_,_,rfl,hd.d,_,_,rfl,rfl,_,rfl,cp (fun c1=>?_) (fun c1=>?_)⟩
  ·have l1:1≤ds.length:=by
    have:(1:Int)≤ds.length:=of_decide_eq_true c1;lia
   refine ⟨_,_,rfl,rfl,_,rfl,cp (fun c2=>?_) (fun c2=>?_)⟩
   ·have l2:¬ ds.length≤8:=by
     have c2':¬ ((ds.length:Int)≤8):=by simpa using c2
     lia
    rw [decide_eq_false l2,Bool.and_false,Bool.false_and,Bool.false_and] at q;exact q H (Same.refl H)
   ·have l2:ds.length≤8:=by
     have:((ds.length:Int)≤8):=by simpa using c2
     lia
    rw [decide_eq_true l1,decide_eq_true l2,Bool.true_and,Bool.true_and] at q;refine ⟨_,rfl,a,rfl,⟨_,hT⟩,fun l hln=>?_⟩;refine bF (K:=K) (xs:=xs) (fun i ys σ H'=>ys=bls ((ds.take i).map bD)∧Same H H'∧H' l=some (.lst ys)∧σ.length=1) ⟨rfl,ab hln _,aa,rfl⟩ (fun i ys σ H' _ r=>r.2.1.tup hT) ?_ ?_
    ·rintro i y ys σ H1 N hy ⟨rfl,g,e1,hσ⟩ next;obtain ⟨d,hdi,hp⟩:=ra.get' hy;have nx:bls ((ds.take i).map bD)++[V.bl (bD d)]=bls ((ds.take (i+1)).map bD):=by
      show List.map V.bl _++[V.bl (bD d)]=List.map V.bl _;rw [List.map_map,List.map_map];exact aB (V.bl ∘ bD) hdi
     have hlen:(bls ((ds.take i).map bD)).length < sizeLine:=by
      simp only [bls,List.length_map,List.length_take];exact ag (by lia)
     match σ,hσ with
     | [_],_=>exact ⟨_,rfl,d,y,rfl,hp.same g,bt ok d (List.mem_of_getElem? hdi),fun H2 g2=>⟨g2 _ _ e1,hlen,next _ _ _ ⟨nx,be hln (g.trans g2),aa,rfl⟩⟩⟩
    ·rintro ys σ H1 ⟨rfl,g,e1,_⟩;rw [← el,List.take_length] at e1;refine ⟨l,ds.map bD,rfl,rfl,SqL.of e1,_,rfl,?_⟩;have ea:(ds.map bD).all id=ds.all bD:=by rw [List.all_map];rfl
     rw [ea]
     cases hb:ds.all bD with
     | false =>
      rw [hb,Bool.false_and] at q;exact bq (q H1 g)
     | true =>
      rw [hb,Bool.true_and] at q;have es:=iO hb;rw [es] at ra;have ex:=fN ra;subst ex;refine aO ?_;refine ⟨_,rfl,a,(ds.map qz).map Sum.inr,rfl,by rw [List.map_map];exact g.tup hT,by rw [List.length_map,List.length_map];lia,fun p hp=>?_⟩;refine ⟨p,_,rfl,aa,?_⟩;refine ⟨_,rfl,_,_,rfl,((hd.same g).same (ab hp _)).d,rfl,?_⟩;rw [t7];exact q _ (g.trans (ab hp _))
  ·have l1:¬ 1≤ds.length:=by
    have:¬ (1:Int)≤ds.length:=by simpa using c1
    lia
   refine ⟨_,rfl,aO ?_⟩;rw [decide_eq_false l1,Bool.false_and,Bool.false_and,Bool.false_and] at q;exact q H (Same.refl H)
def mS (K:PySem.W.Frag) (n:Nat):Sp:=fun vs H Q _=>∃ (r:Nat) (d:Dt) (x:V),r < n∧vs=[x,.int r]∧IsP K H d x∧okD d=true∧∀ H',Same H H'→Q (.bl (aA r d)) H'
def rO (K:PySem.W.Frag) (n:Nat):Sp:=fun vs H Q _=>∃ (r:Nat) (d:Dt) (x:V),r < n∧vs=[x,.int r]∧IsP K H d x∧okD d=true∧∀ H',Same H H'→Q (.bl (aU (aA r) d)) H'
def pz (K:PySem.W.Frag) (n:Nat):Sp:=fun vs H Q _=>∃ (r:Nat) (d:Dt) (x:V),r < n∧vs=[x,.int r]∧IsP K H d x∧okD d=true∧∀ H',Same H H'→Q (.bl (kz (aA r) d)) H'
def rP (K:PySem.W.Frag) (n:Nat):Sp:=fun vs H Q _=>∃ (r:Nat) (d e:Dt) (x y:V),r < n∧vs=[x,y,.int r]∧IsP K H d x∧IsP K H e y∧okD d=true∧okD e=true∧∀ H',Same H H'→Q (.bl (fB (aA r) d e)) H'
theorem mT (T:Tx K mg ad) {f ff:Addr} {fd fdf:FuncData} (n:Nat) (F:Gn K mg "is_field" cB ["field","room"] f fd) (yy:Gn K mg "is_formed" bI ["thing","room"] ff fdf)
  (yE:FnOk P w K mg base CX0 (3*n+3) ff fdf ["thing","room"] (mS K n)):FnOk P w K mg base CX0 (3*n+3+1) f fd ["field","room"] (rO K n):=by
 obtain ⟨_,_,yI⟩:=T.is_name;have y3:=fK (P:=P) (w:=w) (base:=base) T yI;refine F.F.ok nF (fun vs H Q E h=>?_) (fun cdv A outer s H vs Q E hr h=>?_)
 ·obtain ⟨r,d,x,_,rfl,_⟩:=h
  rfl
 obtain ⟨r,d,x,hrn,rfl,hd,ok,q⟩:=h;refine ⟨_,(@pss_cons _ _ _ _ _ (@ps_if _ _ _ _ _ _ _ _ (PW.pt (@pw_or _ _ _ _ _ _ _ (@pt_not _ _ _ _ (@pt_val _ _ _ (pe_callB (a7 (K:=K) rfl) rfl T.z_isinstance boot_isinstance (@pa2 _ _ _ _ _ (pv 0) (dB rfl T.z_tuple boot_tuple) (by rfl) (by rfl))) (by intro _;rfl))) (@pw_or1 _ _ _ _ (pt_cmpR op_ne (pe_callB (call_lenDN (K:=K) rfl) rfl T.z_len PySem.boot_len (@pa1 _ _ _ (pv 0) (by rfl))) pe_int (nomark _))))) (@pss_one _ _ _ (@ps_ret _ _ _ _ pe_bl)) pss_nil) (@pss_one _ _ _ (@ps_ret _ _ _ _ (pe_and (pcl yI y3 (hr.mono (by lia)) rfl (@pa1 _ _ _ (@pi1 K _ _ _ _ _ _ _ rfl (pv 0)) (by rfl))) (pe_one (pcl yy yE (hr.mono (by lia)) rfl (@pa2 _ _ _ _ _ (@pi1 K _ _ _ _ _ _ _ rfl (pv 0)) (pv 1) (by rfl) (by rfl)))))))),?_⟩
 cases d with
 | non=>cases ok
 | bl=>cases ok
 | int i =>
  cases hd
  exact ⟨_,rfl,_,_,_,rfl,.int_tuple,_,rfl,aO (aO (q H (Same.refl H)))⟩
 | str z =>
  cases hd
  exact ⟨_,rfl,_,_,_,rfl,.str_tuple,_,rfl,aO (aO (q H (Same.refl H)))⟩
 | tup l =>
  obtain ⟨a,xs,rfl,ha,pa,ra⟩:=id hd.unref;refine ⟨_,rfl,_,_,_,rfl,.tup_tuple ha,_,rfl,bq ?_⟩;refine ⟨_,rfl,_,_,rfl,hd.d,rfl,_,rfl,?_⟩
  by_cases h2:l.length=2
  ·match l,h2 with
   | [e,e'],_ =>
    refine mR ?_;refine ⟨_,rfl,_,_,_,hd,rfl,rfl,fun v hv=>?_⟩;refine ⟨e,v,rfl,hv,bt ok e List.mem_cons_self,fun H1 g1=>?_⟩;replace q:∀ H',Same H H'→Q (.bl (bD e && aA r e')) H':=q;refine ⟨_,rfl,?_⟩
    cases hb:bD e with
    | false =>
     rw [hb,Bool.false_and] at q;exact bq (q H1 g1)
    | true =>
     rw [hb,Bool.true_and] at q;refine aO ?_;refine ⟨_,rfl,_,_,_,hd.same g1,rfl,rfl,fun v hv=>?_⟩;exact ⟨_,rfl,r,e',v,hrn,rfl,hv,bt ok e' (List.mem_cons_of_mem _ List.mem_cons_self),fun H2 g2=>q H2 (g1.trans g2)⟩
  ·have e0:aU (aA r) (.tup l)=false:=by
    unfold aU
    split
    ·rename_i h;injection h with h;subst h;exact absurd rfl h2
    ·rfl
   rw [e0] at q;refine pq (fun z=>?_) (q H (Same.refl H));injection z with z
   lia
theorem jM {K:PySem.W.Frag} {H:Hp} {a b:Dt} {v:V} (h:IsP K H (.tup [a,b]) v):∃ c x y,v=.ref c∧SqT K H c [x,y]∧IsP K H a x∧IsP K H b y:=by
 obtain ⟨c,xs,rfl,hc,pc,rc⟩:=h.unref
 cases rc with
 | cons r1 rc =>
  cases rc with
  | cons r2 rc =>
   cases rc
   exact ⟨c,_,_,rfl,hc,r1,r2⟩
theorem fO {f:Dt→Bool} {d:Dt} (h:aU f d=true):∃ z k,d=.tup [.str z,k]∧aI z=true∧f k=true:=by
 unfold aU at h
 split at h
 ·rw [Bool.and_eq_true] at h
  rename_i a b
  cases a with
  | str z=>exact ⟨z,b,rfl,h.1,h.2⟩
  | _=>exact absurd h.1 Bool.false_ne_true
 ·cases h
theorem qB (xs:List V):gQ xs (some 1) none=xs.drop 1:=by
 unfold gQ
 cases xs with
 | nil=>rfl
 | cons x r =>
  have e1:HT.sIx (x :: r).length 0 (some 1)=1:=by
   have:=HT.sIx_nat (x :: r).length 0 1;rw [List.length_cons] at this ⊢;rw [show (1:Int)=((1:Nat):Int) from rfl,this];lia
  have e2:HT.sIx (x :: r).length (x :: r).length none=(x :: r).length:=rfl;rw [e1,e2];apply List.take_of_length_le;rw [List.length_drop];exact Nat.le_refl _
theorem jd (T:Tx K mg ad) {f ff:Addr} {fd fdf:FuncData} (n:Nat) (F:Gn K mg "are_fields" bA ["fields","room"] f fd) (zW:Gn K mg "is_field" cB ["field","room"] ff fdf)
  (zX:FnOk P w K mg base CX0 (3*n+4) ff fdf ["field","room"] (rO K n)):FnOk P w K mg base CX0 (3*n+4+1) f fd ["fields","room"] (pz K n):=by
 obtain ⟨t_MOST_FIELDS,c_MOST_FIELDS⟩:=T.MOST_FIELDS;refine F.F.ok fF (fun vs H Q E h=>?_) (fun cdv A outer s H vs Q E hr h=>?_)
 ·obtain ⟨r,d,x,_,rfl,_⟩:=h
  rfl
 obtain ⟨r,d,x,hrn,rfl,hd,ok,q⟩:=h;refine ⟨_,(@pss_cons _ _ _ _ _ (@ps_if _ _ _ _ _ _ _ _ (PW.pt (@pw_or _ _ _ _ _ _ _ (@pt_not _ _ _ _ (@pt_val _ _ _ (pe_callB (a7 (K:=K) rfl) rfl T.z_isinstance boot_isinstance (@pa2 _ _ _ _ _ (pv 0) (dB rfl T.z_tuple boot_tuple) (by rfl) (by rfl))) (by intro _;rfl))) (@pw_or1 _ _ _ _ (pt_cmpR op_gt (pe_callB (call_lenDN (K:=K) rfl) rfl T.z_len PySem.boot_len (@pa1 _ _ _ (pv 0) (by rfl))) (pe_gint rfl c_MOST_FIELDS) (nomark _))))) (@pss_one _ _ _ (@ps_ret _ _ _ _ pe_bl)) pss_nil) (@pss_cons _ _ _ _ _ (@ps_if _ _ _ _ _ _ _ _ (@pt_not _ _ _ _ (@pt_val _ _ _ (pe_callB (call_allN (K:=K) rfl rfl) rfl T.z_all boot_all (@pa1 _ _ _ (aZ rfl (csR (sc:=ac bA) (NL:=["field"]) (N:=["fields","room","names"]) (ρ:=[1]) (N':=["field","room"]) rfl rfl rfl (by decide +kernel) (by decide +kernel) (by decide +kernel) rfl (by decide +kernel)) (pi_tupN (K:=K) rfl (pv 0)) (fun _ _ _ _=>(ah (i:=0) (show List.Nodup (α:=Str) ["field","room"] by decide +kernel) rfl (Or.inl rfl))) (fun _ _ _ _=>(pcl zW zX (hr.mono (by lia)) rfl (@pa2 _ _ _ _ _ (pv 0) (pv 1) (by rfl) (by rfl))))) (by rfl))) (by intro _;rfl))) (@pss_one _ _ _ (@ps_ret _ _ _ _ pe_bl)) pss_nil) (@pss_cons _ _ _ _ _ (ps_setC (j:=2) fF.nd rfl (Or.inl rfl) rfl (cs0 (NL:=["name","kind"]) rfl (by decide +kernel) (by decide +kernel)) (pi_tupN (K:=K) rfl (pv 0)) (fun _ _ _ _=>(bL (K:=K) (n:=2) rfl rfl (am (ah (i:=0) (show List.Nodup (α:=Str) ["name","kind"] by decide +kernel) rfl (Or.inl rfl)) (am (ah (i:=1) (show List.Nodup (α:=Str) ["name","kind"] by decide +kernel) rfl (Or.inl rfl)) aG)))) (fun _ _ _ _=>(pv 0))) (@pss_one _ _ _ (@ps_ret _ _ _ _ (pe_callB (call_allN (K:=K) rfl rfl) rfl T.z_all boot_all (@pa1 _ _ _ (aZ rfl (cs0 (NL:=["ahead","behind"]) rfl (by decide +kernel) (by decide +kernel)) (vI rfl T.z_zip (@pa2 _ _ _ _ _ (pv 2) (aR (iM (K:=K) rfl) (pv 2) (bp pe_int) bo) (by rfl) (by rfl))) (fun _ _ _ _=>(bL (K:=K) (n:=2) rfl rfl (am (ah (i:=0) (show List.Nodup (α:=Str) ["ahead","behind"] by decide +kernel) rfl (Or.inl rfl)) (am (ah (i:=1) (show List.Nodup (α:=Str) ["ahead","behind"] by decide +kernel) rfl (Or.inl rfl)) aG)))) (fun _ _ _ _=>(pe_cmpR p4 (pv 0) (pv 1) (nomark _)))) (by rfl)))))))),?_⟩
 cases d with
 | non=>cases ok
 | bl=>cases ok
 | int i =>
  cases hd
  exact ⟨_,rfl,_,_,_,rfl,.int_tuple,_,rfl,aO (aO (q H (Same.refl H)))⟩
 | str z =>
  cases hd
  exact ⟨_,rfl,_,_,_,rfl,.str_tuple,_,rfl,aO (aO (q H (Same.refl H)))⟩
 | tup ds =>
  obtain ⟨a,xs,rfl,ha,pa,ra⟩:=id hd.unref;have el:=ra.length;replace q:∀ H',Same H H'→Q (.bl (decide (ds.length≤8) && ds.all (aU (aA r)) && qA (ds.map nmD))) H':=q;refine ⟨_,rfl,_,_,_,rfl,.tup_tuple ha,_,rfl,bq ?_⟩;refine ⟨_,rfl,_,_,rfl,hd.d,_,_,rfl,rfl,_,rfl,cp (fun c1=>?_) (fun c1=>?_)⟩
  ·have l2:¬ ds.length≤8:=by
    have:(8:Int) < ds.length:=of_decide_eq_true c1;lia
   rw [decide_eq_false l2,Bool.false_and,Bool.false_and] at q;exact q H (Same.refl H)
  have l2:ds.length≤8:=by
   have:¬ ((8:Int) < ds.length):=by simpa using c1
   lia
  rw [decide_eq_true l2,Bool.true_and] at q;refine ⟨_,rfl,a,rfl,⟨_,ha⟩,fun l hln=>?_⟩;refine bF (K:=K) (xs:=xs) (fun i ys σ H'=>ys=bls ((ds.take i).map (aU (aA r)))∧Same H H'∧H' l=some (.lst ys)∧∃ v,σ=[v,some (.int r)]) ⟨rfl,ab hln _,aa,none,rfl⟩ (fun i ys σ H' _ r=>r.2.1.tup ha) ?_ ?_
  ·rintro i y ys σ H1 N hy ⟨rfl,g,e1,v,rfl⟩ next;obtain ⟨d,hdi,hp⟩:=ra.get' hy;have nx:bls ((ds.take i).map (aU (aA r)))++[V.bl (aU (aA r) d)]=bls ((ds.take (i+1)).map (aU (aA r))):=by
    show List.map V.bl _++[V.bl _]=List.map V.bl _;rw [List.map_map,List.map_map];exact aB (V.bl ∘ aU (aA r)) hdi
   have hlen:(bls ((ds.take i).map (aU (aA r)))).length < sizeLine:=by
    simp only [bls,List.length_map,List.length_take];exact ag (by lia)
   exact ⟨_,rfl,_,rfl,r,d,y,hrn,rfl,hp.same g,bt ok d (List.mem_of_getElem? hdi),fun H2 g2=>⟨g2 _ _ e1,hlen,next _ _ _ ⟨nx,be hln (g.trans g2),aa,_,rfl⟩⟩⟩
  ·rintro ys σ H1 ⟨rfl,g,e1,v,rfl⟩;rw [← el,List.take_length] at e1;refine ⟨l,ds.map (aU (aA r)),rfl,rfl,SqL.of e1,_,rfl,?_⟩;have ea:(ds.map (aU (aA r))).all id=ds.all (aU (aA r)):=by rw [List.all_map];rfl
   rw [ea]
   cases hb:ds.all (aU (aA r)) with
   | false =>
    rw [hb,Bool.false_and] at q;exact aO (q H1 g)
   | true =>
    rw [hb,Bool.true_and] at q;refine bq ?_;refine ⟨_,rfl,a,rfl,⟨_,g.tup ha⟩,fun l2 hl2=>?_⟩;refine bF (K:=K) (xs:=xs) (fun i ys σ H'=>ys=(ds.take i).map (fun d=>V.str (nmD d))∧Same H1 H'∧H' l2=some (.lst ys)∧σ.length=2) ⟨rfl,ab hl2 _,aa,rfl⟩ (fun i ys σ H' _ r=>(g.trans r.2.1).tup ha) ?_ ?_
    ·rintro i y ys σ H2 N hy ⟨rfl,g2,e2,hσ⟩ next;obtain ⟨d,hdi,hp⟩:=ra.get' hy;obtain ⟨z,k,rfl,_,_⟩:=fO (List.all_eq_true.mp hb d (List.mem_of_getElem? hdi));obtain ⟨b,x1,y2,rfl,hb',hp1,hp2⟩:=jM ((hp.same g).same g2);obtain rfl:=ar hp1
     match σ,hσ with
     | [_,_],_ =>
      refine ⟨b,_,rfl,hb',rfl,_,_,rfl,_,_,rfl,rfl,?_⟩;refine ⟨_,rfl,e2,?_,next _ _ _ ⟨aB (fun d=>V.str (nmD d)) hdi,be hl2 g2,aa,rfl⟩⟩;rw [List.length_map,List.length_take];exact ag (by lia)
    ·rintro ys σ H2 ⟨rfl,g2,e2,hσ⟩;rw [← el,List.take_length] at e2;have en:ds.map (fun d=>V.str (nmD d))=(ds.map nmD).map V.str:=by rw [List.map_map];rfl
     rw [en] at e2;have lns:(ds.map nmD).length=ds.length:=List.length_map ..
     generalize ds.map nmD=ns at *
     refine ⟨_,rfl,_,rfl,_,rfl,l2,_,rfl,SqL.of e2,fun l3 hl3=>?_⟩;have n23:l2≠l3:=ae e2 hl3;have ec:gQ (ns.map V.str) (some 1) none=(ns.drop 1).map V.str:=by rw [qB,List.map_drop]
     rw [ec];have e2':(upd H2 l3 (.lst ((ns.drop 1).map V.str))) l2=some (.lst (ns.map V.str)):=by rw [af n23];exact e2
     refine ⟨l2,l3,rfl,⟨_,SqL.of e2'⟩,⟨_,SqL.of aa⟩,fun l4 hl4=>?_⟩;have g4:=(ab hl3 (.lst ((ns.drop 1).map V.str)));refine qu (K:=K) (xs:=ns.map V.str) (ys:=(ns.drop 1).map V.str) (fun i ys σ H'=>ys=bls (((ns.zip (ns.drop 1)).take i).map fun p=>decide (ltS p.1 p.2))∧Same (upd H2 l3 (.lst ((ns.drop 1).map V.str))) H'∧H' l4=some (.lst ys)∧σ.length=2) ⟨rfl,ab hl4 _,aa,rfl⟩ (fun i us σ H' r=>⟨SqL.of (r.2.1 _ _ e2'),SqL.of (r.2.1 _ _ aa)⟩) ?_ ?_
     ·rintro i x y T us σ H5 N hx hy hT ⟨rfl,g5,e5,hσ⟩ next;rw [List.getElem?_map] at hx hy;obtain ⟨a1,ha1,rfl⟩:=Option.map_eq_some_iff.mp hx;obtain ⟨b1,hb1,rfl⟩:=Option.map_eq_some_iff.mp hy;have n4:l4≠T:=ae e5 hT;have hz:(ns.zip (ns.drop 1))[i]?=some (a1,b1):=List.getElem?_zip_eq_some.mpr ⟨ha1,hb1⟩;have li:=(List.getElem?_eq_some_iff.mp hz).1;rw [List.length_zip] at li
      match σ,hσ with
      | [_,_],_ =>
       refine ⟨T,_,rfl,.inl (.inl aa),rfl,_,_,rfl,_,_,rfl,rfl,?_⟩;refine ⟨_,rfl,_,rfl,_,_,rfl,rfl,by rw [af n4];exact e5,?_,next _ _ _ ⟨?_,?_,aa,rfl⟩⟩
       ·simp only [bls,List.length_map,List.length_take];exact ag (by lia)
       ·show List.map V.bl _++[V.bl (decide (ltS a1 b1))]=List.map V.bl _;rw [List.map_map,List.map_map];exact aB (V.bl ∘ fun p:Str×Str=>decide (ltS p.1 p.2)) hz
       ·exact be hl4 (g5.trans (ab hT _))
     ·rintro us σ H5 ⟨rfl,g5,e5,hσ⟩;rw [List.length_map,List.length_map,← List.length_zip,List.take_length] at e5;refine ⟨l4,_,rfl,rfl,SqL.of e5,?_⟩;rw [List.all_map];exact q H5 (((g.trans g2).trans g4).trans g5)
def je (K:PySem.W.Frag) (_:Ads):Sp:=fun vs H Q _=>∃ (fs:List Dt) (key:Dt) (x y:V),vs=[x,y]∧IsP K H (.tup [.str "record",.tup fs]) x∧IsP K H key y∧(∀ d∈fs,∃ z k,d=.tup [.str z,k])∧ja K H (dX fs key) Q
theorem oo {fs:List Dt} {key:Dt} (h:∀ d∈fs,mP key d=false):dX fs key=none:=by
 unfold dX;rw [List.find?_eq_none.mpr (fun d hd=>by rw [h d hd];exact Bool.false_ne_true)]
theorem mU {fs:List Dt} {key o k:Dt} {i:Nat} (h:fs[i]?=some (.tup [o,k])) (hk:eqD o key=true) (pre:∀ j d,j < i→fs[j]?=some d→mP key d=false):dX fs key=some k:=by
 have e:fs.find? (mP key)=some (.tup [o,k]):=by
  obtain ⟨li,ei⟩:=List.getElem?_eq_some_iff.mp h;rw [List.find?_eq_some_iff_getElem];refine ⟨hk,i,li,ei,fun j hj=>?_⟩;have:=pre j _ hj (List.getElem?_eq_getElem (Nat.lt_trans hj li));rw [this]
  rfl
 unfold dX;rw [e]
theorem jf (T:Tx K mg ad) {f:Addr} {fd:FuncData} (F:Gn K mg "field_kind" cq ["kind","name"] f fd):FnOk P w K mg base CX0 1 f fd ["kind","name"] (je K ad):=by
 refine F.F.ok bn (fun vs H Q E h=>?_) (fun cdv A outer s H vs Q E hr h=>?_)
 ·obtain ⟨fs,key,x,y,rfl,_⟩:=h
  rfl
 obtain ⟨fs,key,x,y,rfl,hd,hk,prs,q'⟩:=h;refine ⟨_,(@pss_cons _ _ _ _ _ (@ps_if _ _ _ _ _ _ _ _ (pt_cmpR op_ne (@pi1 K _ _ _ _ _ _ _ rfl (pv 0)) pe_str (nomark _)) (@pss_one _ _ _ (@ps_ret _ _ _ _ pe_non)) pss_nil) (@pss_cons _ _ _ _ _ (ps_for PassesOwn.never rfl (pi_tupN (K:=K) rfl (@pi1 K _ _ _ _ _ _ _ rfl (pv 0))) (cS rfl (am (ah (i:=2) bn.nd rfl (Or.inl rfl)) (am (ah (i:=3) bn.nd rfl (Or.inl rfl)) aG)))
    (@pss_one _ _ _ (@ps_if _ _ _ _ _ _ _ _ (pt_cmpR (gx (K:=K) rfl hr.units) (pv 2) (pv 1) (nomark _)) (@pss_one _ _ _ (@ps_ret _ _ _ _ (pv 3))) pss_nil))) (@pss_one _ _ _ (@ps_ret _ _ _ _ pe_non)))),?_⟩
 refine ⟨_,rfl,_,_,_,hd,rfl,rfl,isS ?_⟩;refine ⟨rfl,_,rfl,mR ⟨_,rfl,_,_,_,hd,rfl,rfl,fun v hv=>?_⟩⟩;obtain ⟨a,xs,rfl,ha,pa,ra⟩:=hv.unref;have el:=ra.length;refine ⟨a,rfl,⟨xs,ha⟩,eV (xs:=xs) (fun i σ H'=>H'=H∧(∀ j d,j < i→fs[j]?=some d→mP key d=false)∧∃ v1 v2,σ=[some x,some y,v1,v2]) ⟨rfl,fun j f hj=>absurd hj (Nat.not_lt_zero _),_,_,rfl⟩ (fun i σ H' _ p=>p.1 ▸ ha) ?_ ?_⟩
 ·rintro i u σ H' hu ⟨rfl,pre,v1,v2,rfl⟩;obtain ⟨e,he,hp⟩:=ra.get' hu;obtain ⟨z,k,rfl⟩:=prs e (List.mem_of_getElem? he);obtain ⟨b,x1,y2,rfl,hb,hp1,hp2⟩:=jM hp;refine ⟨b,_,rfl,hb,rfl,_,_,rfl,_,_,rfl,rfl,?_⟩;refine ⟨_,rfl,_,rfl,.str z,key,hp1.d,hk.d,(by show 0≤60;decide),_,rfl,cp (fun c=>?_) (fun c=>?_)⟩
  ·rw [mU he c pre] at q';exact ⟨_,rfl,q' _ hp2⟩
  ·refine ⟨rfl,fun j f hj hjf=>?_,_,_,rfl⟩;rcases Nat.lt_succ_iff_lt_or_eq.mp hj with h1 | h1
   ·exact pre j f h1 hjf
   ·subst h1;rw [he] at hjf;obtain rfl:=Option.some.inj hjf;exact Bool.eq_false_iff.mpr c
 ·rintro σ H' ⟨rfl,pre,v1,v2,rfl⟩;rw [oo (fun d hd=>by
   obtain ⟨j,hj,e⟩:=List.mem_iff_getElem.mp hd;exact pre j d (by lia) (by rw [List.getElem?_eq_getElem hj,e]))] at q'
  exact q'
theorem vO (w:Str):inV (.str w) [.str "number",.str "text"]=(decide (w= "number") || decide (w= "text")):=by
 have e:∀ a:Str,eqV (.str a) (.str w)=decide (w=a):=fun a=>by
  show (a == w)=decide (w=a);rw [Bool.eq_iff_iff,decide_eq_true_iff,beq_iff_eq];exact ⟨Eq.symm,Eq.symm⟩
 show (eqV (.str "number") (.str w) || (eqV (.str "text") (.str w) || false))=_;rw [e,e,Bool.or_false]
theorem bG (d:Dt):aA 0 d=false:=by simp [aA]
theorem iP {r:Nat} {d:Dt} (h:aA r d=true):∃ u l,d=.tup (.str u :: l):=by
 unfold aA at h
 split at h <;> first | exact ⟨_,_,rfl⟩ | cases h
theorem rQ {r:Nat} {l:List Dt} (h:aA r (.tup (.str "record" :: l))=true):∃ r' fs,r=r' + 1∧l=[.tup fs]∧fs.all (aU (aA r'))=true:=by
 cases r with
 | zero=>rw [bG] at h;cases h
 | succ r =>
  match l with
  | []=>cases h
  | [a] =>
   have h':kz (aA r) a=true:=h
   cases a with
   | tup fs =>
    have h2:(decide (fs.length≤8) && fs.all (aU (aA r)) && qA (fs.map nmD))=true:=h';rw [Bool.and_eq_true,Bool.and_eq_true] at h2;exact ⟨r,fs,rfl,rfl,h2.1.2⟩
   | _=>cases h'
  | [a,b]=>cases h
  | [a,b,c]=>cases h
  | a :: b :: c :: e :: l=>cases h
theorem t8 {f:Dt→Bool} {key:Dt} {u:Str} {l:List Dt} (h:u≠ "record"):fB f key (.tup (.str u :: l))=false:=by
 unfold fB
 split
 ·rename_i e
  injection e with e
  injection e with e _
  injection e with e
  subst e;rw [decide_eq_false h,Bool.false_and,Bool.and_false]
 ·exact Bool.and_false _
theorem rR {fs:List Dt} {key k:Dt} (h:dX fs key=some k):∃ o,.tup [o,k]∈fs:=by
 unfold dX at h
 split at h
 ·rename_i o k' e
  obtain rfl:=Option.some.inj h;exact ⟨o,List.mem_of_find?_eq_some e⟩
 ·cases h
theorem mV (T:Tx K mg ad) {f ff:Addr} {fd fdf:FuncData} (n:Nat) (F:Gn K mg "are_rows" cC ["key","items","room"] f fd) (yy:Gn K mg "is_formed" bI ["thing","room"] ff fdf)
  (yE:FnOk P w K mg base CX0 (3*n+3) ff fdf ["thing","room"] (mS K n)):FnOk P w K mg base CX0 (3*n+3+1) f fd ["key","items","room"] (rP K n):=by
 obtain ⟨_,_,yB⟩:=T.field_kind;have yN:=jf (P:=P) (w:=w) (base:=base) T yB;refine F.F.ok sc_are_rows (fun vs H Q E h=>?_) (fun cdv A outer s H vs Q E hr h=>?_)
 ·obtain ⟨r,key,items,x,y,_,rfl,_⟩:=h
  rfl
 obtain ⟨r,key,items,x,y,hrn,rfl,hx,hy,okk,oki,q⟩:=h;refine ⟨_,(@pss_cons _ _ _ _ _ (@ps_if _ _ _ _ _ _ _ _ (PW.pt (@pw_or _ _ _ _ _ _ _ (@pt_not _ _ _ _ (@pt_val _ _ _ (pcl yy yE (hr.mono (by lia)) rfl (@pa2 _ _ _ _ _ (pv 1) (pv 2) (by rfl) (by rfl))) (by intro _;rfl))) (@pw_or1 _ _ _ _ (pt_cmpR op_ne (@pi1 K _ _ _ _ _ _ _ rfl (pv 1)) pe_str (nomark _))))) (@pss_one _ _ _ (@ps_ret _ _ _ _ pe_bl)) pss_nil) (@pss_cons _ _ _ _ _ (@ps_set _ _ 3 _ _ _ _ sc_are_rows.nd rfl (Or.inl rfl) (pcl yB yN (hr.mono (by lia)) rfl (@pa2 _ _ _ _ _ (pv 1) (pv 0) (by rfl) (by rfl))) (by rfl) (by first | exact .inl rfl | exact .inr rfl | assumption)) (@pss_one _ _ _ (@ps_ret _ _ _ _ (pe_and (pe_cmpR op_notN (pv 3) pe_non (nomark _)) (pe_one (pe_cmpR (op_in_seqK (K:=K) rfl) (@pi1 K _ _ _ _ _ _ _ rfl (pv 3)) (@aj _ K _ _ _ _ rfl (@pa2 _ _ _ _ _ pe_str pe_str (by rfl) (by rfl))) rfl))))))),?_⟩;refine ⟨_,rfl,_,rfl,r,items,y,hrn,rfl,hy,oki,fun H1 g1=>⟨_,rfl,?_⟩⟩
 cases hb:aA r items with
 | false =>
  have e:fB (aA r) key items=false:=by unfold fB;rw [hb,Bool.false_and]
  rw [e] at q;exact aO (aO (q H1 g1))
 | true =>
  obtain ⟨u,l,rfl⟩:=iP hb;refine bq ?_;refine ⟨_,rfl,_,_,_,hy.same g1,rfl,at0 _ _,fun v hv=>?_⟩;obtain rfl:=ar hv;refine ⟨rfl,_,rfl,?_⟩
  by_cases hu:u= "record"
  ·subst hu;obtain ⟨r',fs,rfl,rfl,hall⟩:=rQ hb;have e:fB (aA (r' + 1)) key (.tup [.str "record",.tup fs])=pp (dX fs key):=by
    unfold fB;rw [hb]
    rfl
   rw [e] at q;refine mR ?_;refine ⟨_,rfl,_,rfl,fs,key,y,x,rfl,hy.same g1,hx.same g1,fun d hd=>?_,?_⟩
   ·obtain ⟨z,k,rfl,_⟩:=fO (List.all_eq_true.mp hall d hd);exact ⟨z,k,rfl⟩
   cases hl:dX fs key with
   | none =>
    rw [hl] at q;exact ⟨_,rfl,rfl,_,rfl,bq (q H1 g1)⟩
   | some k =>
    rw [hl] at q;obtain ⟨o,hm⟩:=rR hl;obtain ⟨z,k',e2,_,fk⟩:=fO (List.all_eq_true.mp hall _ hm);injection e2 with e2
    injection e2 with e2 e3
    injection e3 with e3 _
    subst e3;obtain ⟨w1,l1,rfl⟩:=iP fk;intro v hv;obtain ⟨av,xv,rfl,_⟩:=id hv.unref;refine ⟨_,rfl,rfl,_,rfl,?_⟩;rw [decide_eq_false (show ¬ (V.ref av=V.non) by intro z;cases z)];refine aO ?_;refine ⟨_,rfl,_,_,_,hv,rfl,at0 _ _,isS ?_⟩;refine ⟨[.str "number",.str "text"],.cons .str (.cons .str .nil),sz2,fun v3 H3 g3 hv3=>?_⟩;obtain ⟨a3,x3,rfl,hT3,_,r3⟩:=id hv3.unref;obtain rfl:=fN (ws:=["number","text"]) r3;refine ⟨a3,_,rfl,.inr hT3,rfl,rfl,?_⟩;show Q (.bl (inV (.str w1) [.str "number",.str "text"])) H3;rw [vO];exact q H3 (g1.trans g3)
  ·rw [t8 hu] at q;exact pq (ak hu) (q H1 g1)
theorem mW {d:Dt} (h:cw d=true):(∃ a b,d=.tup [.str "number",a,b])∨(∃ a,d=.tup [.str "text",a])∨(∃ a,d=.tup [.str "choice",a])∨(∃ a b,d=.tup [.str "list",a,b])∨(∃ a,d=.tup [.str "record",a])∨(∃ a b c,d=.tup [.str "rows",a,b,c]):=by
 unfold cw at h
 split at h
 ·rename_i u l
  have h:=of_decide_eq_true h;have l1:∀ {l:List Dt},(2:Int)=((l.length+1:Nat):Int)→∃ a,l=[a]:=fun {l} e=>by
   match l with
   | []=>exact absurd e (by decide)
   | [a]=>exact ⟨a,rfl⟩
   | a :: b :: l=>exact absurd e (by simp only [List.length_cons];lia)
  have l2:∀ {l:List Dt},(3:Int)=((l.length+1:Nat):Int)→∃ a b,l=[a,b]:=fun {l} e=>by
   match l with
   | []=>exact absurd e (by decide)
   | [a]=>exact absurd e (by simp only [List.length_cons,List.length_nil];lia)
   | [a,b]=>exact ⟨a,b,rfl⟩
   | a :: b :: c :: l=>exact absurd e (by simp only [List.length_cons];lia)
  have l3:∀ {l:List Dt},(4:Int)=((l.length+1:Nat):Int)→∃ a b c,l=[a,b,c]:=fun {l} e=>by
   match l with
   | []=>exact absurd e (by decide)
   | [a]=>exact absurd e (by simp only [List.length_cons,List.length_nil];lia)
   | [a,b]=>exact absurd e (by simp only [List.length_cons,List.length_nil];lia)
   | [a,b,c]=>exact ⟨a,b,c,rfl⟩
   | a :: b :: c :: d :: l=>exact absurd e (by simp only [List.length_cons];lia)
  by_cases e1:u= "number"
  ·subst e1;obtain ⟨a,b,rfl⟩:=l2 (V.int.inj h);exact .inl ⟨a,b,rfl⟩
  by_cases e2:u= "text"
  ·subst e2;obtain ⟨a,rfl⟩:=l1 (V.int.inj h);exact .inr (.inl ⟨a,rfl⟩)
  by_cases e3:u= "choice"
  ·subst e3;obtain ⟨a,rfl⟩:=l1 (V.int.inj h);exact .inr (.inr (.inl ⟨a,rfl⟩))
  by_cases e4:u= "list"
  ·subst e4;obtain ⟨a,b,rfl⟩:=l2 (V.int.inj h);exact .inr (.inr (.inr (.inl ⟨a,b,rfl⟩)))
  by_cases e5:u= "record"
  ·subst e5;obtain ⟨a,rfl⟩:=l1 (V.int.inj h);exact .inr (.inr (.inr (.inr (.inl ⟨a,rfl⟩))))
  by_cases e6:u= "rows"
  ·subst e6;obtain ⟨a,b,c,rfl⟩:=l3 (V.int.inj h);exact .inr (.inr (.inr (.inr (.inr ⟨a,b,c,rfl⟩))))
  exfalso
  simp only [pj,ck,e1,e2,e3,e4,e5,e6,if_false] at h
  cases h
 ·cases h
theorem vP:ck "number" [("number",3),("text",2),("choice",2),("list",3),("record",2),("rows",4)]=.int 3:=by decide +kernel
theorem vQ:ck "text" [("number",3),("text",2),("choice",2),("list",3),("record",2),("rows",4)]=.int 2:=by decide +kernel
theorem vR:ck "choice" [("number",3),("text",2),("choice",2),("list",3),("record",2),("rows",4)]=.int 2:=by decide +kernel
theorem vS:ck "list" [("number",3),("text",2),("choice",2),("list",3),("record",2),("rows",4)]=.int 3:=by decide +kernel
theorem vT:ck "record" [("number",3),("text",2),("choice",2),("list",3),("record",2),("rows",4)]=.int 2:=by decide +kernel
theorem vU:ck "rows" [("number",3),("text",2),("choice",2),("list",3),("record",2),("rows",4)]=.int 4:=by decide +kernel
theorem oq {r:Nat} {d:Dt} (h:cw d=false):aA r d=false:=by
 cases hb:aA r d with
 | false=>rfl
 | true =>
  exfalso
  unfold aA at hb
  split at hb
  ·cases hb
  ·rename_i u a
   split at hb
   ·subst_vars
    rw [show cw (.tup [.str "text",a])=true from decide_eq_true vQ] at h
    cases h
   ·split at hb
    ·subst_vars
     rw [show cw (.tup [.str "choice",a])=true from decide_eq_true vR] at h
     cases h
    ·split at hb
     ·subst_vars
      rw [show cw (.tup [.str "record",a])=true from decide_eq_true vT] at h
      cases h
     ·cases hb
  ·rename_i u a b
   split at hb
   ·subst_vars
    rw [show cw (.tup [.str "number",a,b])=true from decide_eq_true vP] at h
    cases h
   ·split at hb
    ·subst_vars
     rw [show cw (.tup [.str "list",a,b])=true from decide_eq_true vS] at h
     cases h
    ·cases hb
  ·rename_i u a b c
   split at hb
   ·subst_vars
    rw [show cw (.tup [.str "rows",a,b,c])=true from decide_eq_true vU] at h
    cases h
   ·cases hb
  ·cases hb
theorem kJ (T:Tx K mg ad) {f ff fr:Addr} {fd fdf fdr:FuncData} (n:Nat) (yy:Gn K mg "is_formed" bI ["thing","room"] f fd) (zG:Gn K mg "are_fields" bA ["fields","room"] ff fdf) (zQ:Gn K mg "are_rows" cC ["key","items","room"] fr fdr)
  (yE:FnOk P w K mg base CX0 (3*n+3) f fd ["thing","room"] (mS K n)) (zJ:FnOk P w K mg base CX0 (3*n+5) ff fdf ["fields","room"] (pz K n)) (zV:FnOk P w K mg base CX0 (3*n+4) fr fdr ["key","items","room"] (rP K n)) :
  FnOk P w K mg base CX0 (3*n+5+1) f fd ["thing","room"] (mS K (n+1)):=by
 obtain ⟨_,_,zq⟩:=T.has_parts;have zN:=kH (P:=P) (w:=w) (base:=base) T zq;obtain ⟨_,_,zi⟩:=T.are_bounds;have zH:=jc (P:=P) (w:=w) (base:=base) T zi;obtain ⟨_,_,yF⟩:=T.is_whole_within;have yT:=fM (P:=P) (w:=w) (base:=base) T yF;obtain ⟨_,_,zt⟩:=T.are_words;have zP:=kI (P:=P) (w:=w) (base:=base) T zt;obtain ⟨t_MOST_SIGNS,c_MOST_SIGNS⟩:=T.MOST_SIGNS;obtain ⟨t_MOST_ITEMS,c_MOST_ITEMS⟩:=T.MOST_ITEMS;refine yy.F.ok sc_is_formed (fun vs H Q E h=>?_) (fun cdv A outer s H vs Q E hr h=>?_)
 ·obtain ⟨r,d,x,_,rfl,_⟩:=h
  rfl
 obtain ⟨r,d,x,hrn,rfl,hd,ok,q⟩:=h;refine ⟨_,(@pss_cons _ _ _ _ _ (@ps_if _ _ _ _ _ _ _ _ (PW.pt (@pw_or _ _ _ _ _ _ _ (pt_cmpR op_eq (pv 1) pe_int (nomark _)) (@pw_or1 _ _ _ _ (@pt_not _ _ _ _ (@pt_val _ _ _ (pcl zq zN (hr.mono (by lia)) rfl (@pa1 _ _ _ (pv 0) (by rfl))) (by intro _;rfl)))))) (@pss_one _ _ _ (@ps_ret _ _ _ _ pe_bl)) pss_nil) (@pss_cons _ _ _ _ _ (@ps_set _ _ 2 _ _ _ _ sc_is_formed.nd rfl (Or.inl rfl) (@pi1 K _ _ _ _ _ _ _ rfl (pv 0)) (by rfl) (by first | exact .inl rfl | exact .inr rfl | assumption)) (@pss_cons _ _ _ _ _ (@ps_if _ _ _ _ _ _ _ _ (pt_cmpR op_eq (pv 2) pe_str (nomark _)) (@pss_one _ _ _ (@ps_ret _ _ _ _ (pcl zi zH (hr.mono (by lia)) rfl (@pa2 _ _ _ _ _ (@pi1 K _ _ _ _ _ _ _ rfl (pv 0)) (@pi1 K _ _ _ _ _ _ _ rfl (pv 0)) (by rfl) (by rfl))))) pss_nil) (@pss_cons _ _ _ _ _ (@ps_if _ _ _ _ _ _ _ _ (pt_cmpR op_eq (pv 2) pe_str (nomark _)) (@pss_one _ _ _ (@ps_ret _ _ _ _ (pcl yF yT (hr.mono (by lia)) rfl (@pa3 _ _ _ _ _ _ _ (@pi1 K _ _ _ _ _ _ _ rfl (pv 0)) pe_int (pe_gint rfl c_MOST_SIGNS) (by rfl) (by rfl) (by rfl))))) pss_nil) (@pss_cons _ _ _ _ _ (@ps_if _ _ _ _ _ _ _ _ (pt_cmpR op_eq (pv 2) pe_str (nomark _)) (@pss_one _ _ _ (@ps_ret _ _ _ _ (pcl zt zP (hr.mono (by lia)) rfl (@pa1 _ _ _ (@pi1 K _ _ _ _ _ _ _ rfl (pv 0)) (by rfl))))) pss_nil) (@pss_cons _ _ _ _ _ (@ps_if _ _ _ _ _ _ _ _ (pt_cmpR op_eq (pv 2) pe_str (nomark _)) (@pss_one _ _ _ (@ps_ret _ _ _ _ (pe_and (pcl yy yE (hr.mono (by lia)) rfl (@pa2 _ _ _ _ _ (@pi1 K _ _ _ _ _ _ _ rfl (pv 0)) (@pe_op _ _ _ _ _ _ _ _ op_sub (pv 1) pe_int) (by rfl) (by rfl))) (pe_one (pcl yF yT (hr.mono (by lia)) rfl (@pa3 _ _ _ _ _ _ _ (@pi1 K _ _ _ _ _ _ _ rfl (pv 0)) pe_int (pe_gint rfl c_MOST_ITEMS) (by rfl) (by rfl) (by rfl))))))) pss_nil) (@pss_cons _ _ _ _ _ (@ps_if _ _ _ _ _ _ _ _ (pt_cmpR op_eq (pv 2) pe_str (nomark _)) (@pss_one _ _ _ (@ps_ret _ _ _ _ (pcl zG zJ (hr.mono (by lia)) rfl (@pa2 _ _ _ _ _ (@pi1 K _ _ _ _ _ _ _ rfl (pv 0)) (@pe_op _ _ _ _ _ _ _ _ op_sub (pv 1) pe_int) (by rfl) (by rfl))))) pss_nil) (@pss_one _ _ _ (@ps_ret _ _ _ _ (pe_and (pcl zQ zV (hr.mono (by lia)) rfl (@pa3 _ _ _ _ _ _ _ (@pi1 K _ _ _ _ _ _ _ rfl (pv 0)) (@pi1 K _ _ _ _ _ _ _ rfl (pv 0)) (@pe_op _ _ _ _ _ _ _ _ op_sub (pv 1) pe_int) (by rfl) (by rfl) (by rfl))) (pe_one (pcl yF yT (hr.mono (by lia)) rfl (@pa3 _ _ _ _ _ _ _ (@pi1 K _ _ _ _ _ _ _ rfl (pv 0)) pe_int (pe_gint rfl c_MOST_ITEMS) (by rfl) (by rfl) (by rfl)))))))))))))),?_⟩;refine ⟨_,rfl,rfl,_,rfl,?_⟩
 cases r with
 | zero =>
  rw [bG] at q;exact aY (aO (q H (Same.refl H)))
 | succ r =>
  refine iteN (fun z=>by have:=V.int.inj z;lia) ?_;have e1:(((r+1:Nat):Int)) - 1=(r:Int):=by lia
  refine ⟨_,rfl,d,x,rfl,hd,ok,_,rfl,?_⟩
  cases hb:cw d with
  | false =>
   rw [oq hb] at q;exact aO (q H (Same.refl H))
  | true =>
   refine bq ?_;rcases mW hb with ⟨a,b,rfl⟩ | ⟨a,rfl⟩ | ⟨a,rfl⟩ | ⟨a,b,rfl⟩ | ⟨a,rfl⟩ | ⟨a,b,c,rfl⟩
   ·refine ⟨_,rfl,_,_,_,hd,rfl,rfl,isS ?_⟩;refine ⟨_,rfl,rfl,_,rfl,aY ?_⟩;refine ⟨_,rfl,_,_,_,hd,rfl,rfl,fun va hva=>?_⟩;refine ⟨_,rfl,_,_,_,hd,rfl,rfl,fun vb hvb=>?_⟩;exact ⟨a,b,va,vb,rfl,hva,hvb,bt ok a (by simp),bt ok b (by simp),q H (Same.refl H)⟩
   ·refine ⟨_,rfl,_,_,_,hd,rfl,rfl,isS ?_⟩;refine ⟨_,rfl,rfl,_,rfl,iteN (ak (by decide)) ?_⟩;refine ⟨_,rfl,rfl,_,rfl,aY ?_⟩;refine ⟨_,rfl,_,_,_,hd,rfl,rfl,fun va hva=>?_⟩;exact ⟨a,va,0,60,rfl,hva,bt ok a (by simp),q H (Same.refl H)⟩
   ·refine ⟨_,rfl,_,_,_,hd,rfl,rfl,isS ?_⟩;refine ⟨_,rfl,rfl,_,rfl,iteN (ak (by decide)) ?_⟩;refine ⟨_,rfl,rfl,_,rfl,iteN (ak (by decide)) ?_⟩;refine ⟨_,rfl,rfl,_,rfl,aY ?_⟩;refine ⟨_,rfl,_,_,_,hd,rfl,rfl,fun va hva=>?_⟩;exact ⟨a,va,rfl,hva,bt ok a (by simp),q⟩
   ·replace q:∀ H',Same H H'→Q (.bl (aA r a && cJ b 0 8)) H':=q;refine ⟨_,rfl,_,_,_,hd,rfl,rfl,isS ?_⟩;refine ⟨_,rfl,rfl,_,rfl,iteN (ak (by decide)) ?_⟩;refine ⟨_,rfl,rfl,_,rfl,iteN (ak (by decide)) ?_⟩;refine ⟨_,rfl,rfl,_,rfl,iteN (ak (by decide)) ?_⟩;refine ⟨_,rfl,rfl,_,rfl,aY ?_⟩;refine ⟨_,rfl,_,_,_,hd,rfl,rfl,fun va hva=>?_⟩;refine ⟨_,rfl,_,_,rfl,rfl,r,a,va,by lia,(by show [va,V.int (((r+1:Nat):Int) - 1)]=_;rw [e1]),hva,bt ok a (by simp),fun H1 g1=>⟨_,rfl,?_⟩⟩
    cases hf:aA r a with
    | false =>
     rw [hf,Bool.false_and] at q;exact bq (q H1 g1)
    | true =>
     rw [hf,Bool.true_and] at q;refine aO ?_;refine ⟨_,rfl,_,_,_,hd.same g1,rfl,rfl,fun vb hvb=>?_⟩;exact ⟨b,vb,0,8,rfl,hvb,bt ok b (by simp),q H1 g1⟩
   ·refine ⟨_,rfl,_,_,_,hd,rfl,rfl,isS ?_⟩;refine ⟨_,rfl,rfl,_,rfl,iteN (ak (by decide)) ?_⟩;refine ⟨_,rfl,rfl,_,rfl,iteN (ak (by decide)) ?_⟩;refine ⟨_,rfl,rfl,_,rfl,iteN (ak (by decide)) ?_⟩;refine ⟨_,rfl,rfl,_,rfl,iteN (ak (by decide)) ?_⟩;refine ⟨_,rfl,rfl,_,rfl,aY ?_⟩;refine ⟨_,rfl,_,_,_,hd,rfl,rfl,fun va hva=>?_⟩;exact ⟨_,rfl,_,_,rfl,rfl,r,a,va,by lia,(by show [va,V.int (((r+1:Nat):Int) - 1)]=_;rw [e1]),hva,bt ok a (by simp),q⟩
   ·replace q:∀ H',Same H H'→Q (.bl (fB (aA r) a b && cJ c 0 8)) H':=q;refine ⟨_,rfl,_,_,_,hd,rfl,rfl,isS ?_⟩;refine ⟨_,rfl,rfl,_,rfl,iteN (ak (by decide)) ?_⟩;refine ⟨_,rfl,rfl,_,rfl,iteN (ak (by decide)) ?_⟩;refine ⟨_,rfl,rfl,_,rfl,iteN (ak (by decide)) ?_⟩;refine ⟨_,rfl,rfl,_,rfl,iteN (ak (by decide)) ?_⟩;refine ⟨_,rfl,rfl,_,rfl,iteN (ak (by decide)) ?_⟩;refine ⟨_,rfl,_,_,_,hd,rfl,rfl,fun va hva=>?_⟩;refine ⟨_,rfl,_,_,_,hd,rfl,rfl,fun vb hvb=>?_⟩;refine ⟨_,rfl,_,_,rfl,rfl,r,a,b,va,vb,by lia,(by show [va,vb,V.int (((r+1:Nat):Int) - 1)]=_;rw [e1]),hva,hvb,bt ok a (by simp),bt ok b (by simp),fun H1 g1=>⟨_,rfl,?_⟩⟩
    cases hf:fB (aA r) a b with
    | false =>
     rw [hf,Bool.false_and] at q;exact bq (q H1 g1)
    | true =>
     rw [hf,Bool.true_and] at q;refine aO ?_;refine ⟨_,rfl,_,_,_,hd.same g1,rfl,rfl,fun vc hvc=>?_⟩;exact ⟨c,vc,0,8,rfl,hvc,bt ok c (by simp),q H1 g1⟩
theorem iQ (T:Tx K mg ad) {f ff fr fi:Addr} {fd fdf fdr fdi:FuncData} (A:Gn K mg "is_formed" bI ["thing","room"] f fd) (B:Gn K mg "are_fields" bA ["fields","room"] ff fdf) (C:Gn K mg "are_rows" cC ["key","items","room"] fr fdr) (D:Gn K mg "is_field" cB ["field","room"] fi fdi) :
  ∀ n,FnOk P w K mg base CX0 (3*n+3) f fd ["thing","room"] (mS K n)
 | 0=>ce fun vs H Q E z=>by obtain ⟨_,_,_,e,_⟩:=z;lia
 | n+1=>by
  have a:=iQ T A B C D n;exact kJ T n A B C a (jd T n B D (mT T n D A a)) (mV T n C A a)
theorem t9 {a c:Nat} {d:Dt} (h:FK a c d):∃ w l,d=.tup (.str w :: l):=by
 cases h <;> exact ⟨_,_,rfl⟩
theorem rS {K:PySem.W.Frag} {H:Hp} {z:Str} {d:Dt} {v:V} (h:IsP K H (prD (z,d)) v):∃ b y,v=.ref b∧SqT K H b [.str z,y]∧IsP K H d y:=by
 obtain ⟨b,ys,rfl,hb,pb,rb⟩:=h.unref
 cases rb with
 | cons r1 rb =>
  cases rb with
  | @cons _ _ y2 _ r2 rb =>
   cases rb
   obtain rfl:=ar r1;exact ⟨b,_,rfl,hb,r2⟩
theorem pA {z:Str} (h:aI z=true):okD (.str z)=true:=by
 simp only [aI,Bool.and_eq_true,decide_eq_true_eq] at h;exact decide_eq_true (by lia)
theorem bM {ws:List Str} (h:gU ws=true):1≤ws.length∧ws.length≤8∧ws.all aI=true∧ws.Nodup:=by
 simp only [gU,Bool.and_eq_true,decide_eq_true_eq] at h;exact ⟨h.1.1.1,h.1.1.2,h.1.2,h.2⟩
theorem ou {ws:List Str} (h:ws.Nodup):mO ws=ws.length:=by
 unfold mO L2.gS;rw [List.take_length,pf,List.length_reverse,List.length_map];exact List.pairwise_reverse.mpr (List.Pairwise.map _ (fun a b n e=>n (Sum.inr.inj e).symm) h)
theorem ow {a b:Dt} (ha:okD a=true) (hb:okD b=true):okD (.tup [a,b])=true:=by
 show (okD a && (okD b && true))=true;rw [ha,hb]
 rfl
theorem xD {a c:Nat} {d:Dt} (h:FK a c d):okD d=true:=by
 induction h with
 | text i=>rfl
 | choice ws hw =>
  obtain ⟨_,_,hn,_⟩:=bM hw;refine ow (by decide +kernel) (om fun d hd=>?_);obtain ⟨z,hz,rfl⟩:=List.mem_map.mp hd;exact pA (List.all_eq_true.mp hn z hz)
 | number i j=>rfl
 | list g _ _ ih =>
  show (okD (.str "list") && (okD _ && (true && true)))=true;rw [ih]
  decide +kernel
 | @rows a c z l i g hz _ _ ih =>
  have hl:kx l=true:=by
   have:(okD (.str "record") && (kx l && true))=true:=ih;rw [Bool.and_eq_true,Bool.and_true] at this;exact this.2
  obtain ⟨w1,l1,hm,_⟩:=hz;have h2:(okD (.str z) && kx [.tup (.str w1 :: l1)])=true:=bt hl _ hm;rw [Bool.and_eq_true] at h2;show (okD (.str "rows") && (okD (.str z) && (okD (.tup [.str "record",.tup l]) && (true && true))))=true;rw [h2.1,ih]
  decide +kernel
 | @rcd gs g hs hn hl ih =>
  refine ow (by decide +kernel) (om fun d hd=>?_);obtain ⟨u,hu,rfl⟩:=List.mem_map.mp hd;exact ow (pA (hn u hu)) (ih u hu)
theorem rV {a c:Nat} {l:List Dt} (h:FK a c (.tup [.str "record",.tup l])):∃ gs:List G4,l=gs.map prG∧a=ix (gs.map (·.2.2.1))+1∧c=sumN (gs.map (·.2.2.2))+1∧(∀ g∈gs,FK g.2.2.1 g.2.2.2 g.2.1)∧(gs.map (·.1)).Pairwise ltS∧(∀ g∈gs,aI g.1=true)∧gs.length≤8:=by
 cases h with
 | rcd h1 h2 h3 h4=>exact ⟨_,rfl,rfl,rfl,h1,h2,(fun g hg=>(h3 g hg)),h4⟩
theorem xE {gs:List G4} (nd:(gs.map (·.1)).Pairwise ltS) {g:G4} (h:g∈gs):dX (gs.map prG) (.str g.1)=some g.2.1:=by
 obtain ⟨i,hi,e⟩:=List.mem_iff_getElem.mp h;have e1:gs[i]?=some g:=by rw [List.getElem?_eq_getElem hi,e]
 refine mU (i:=i) (o:=.str g.1) (by rw [List.getElem?_map,e1];rfl) (aF _) fun j d hj hf=>?_;rw [List.getElem?_map] at hf;obtain ⟨g',hg',rfl⟩:=Option.map_eq_some_iff.mp hf;have hjl:=(List.getElem?_eq_some_iff.mp hg').1;have nd':=gz nd;show (g'.1 == g.1)=false;rw [beq_eq_false_iff_ne];intro c;have f1:(gs.map (·.1))[j]'(by simpa using hjl)=g.1:=by
  rw [List.getElem_map,(List.getElem?_eq_some_iff.mp hg').2];exact c
 have f2:(gs.map (·.1))[i]'(by simpa using hi)=g.1:=by
  rw [List.getElem_map,(List.getElem?_eq_some_iff.mp e1).2]
 exact List.pairwise_iff_getElem.mp nd' j i (by simpa using hjl) (by simpa using hi) hj (f1.trans f2.symm)
theorem rW:∀ {ns:List Str},ns.Pairwise ltS→qA ns=true
 | [],_=>rfl
 | [_],_=>rfl
 | a :: b :: l,h=>by
  have h':=List.pairwise_cons.mp h;have:=rW h'.2;unfold qA at this ⊢;rw [List.drop_one,List.tail_cons,List.zip_cons_cons,List.all_cons,Bool.and_eq_true];exact ⟨decide_eq_true (h'.1 b List.mem_cons_self),this⟩
theorem ua {a c:Nat} {d:Dt} (h:FK a c d):∀ n,aA n d=decide (a≤n):=by
 induction h with
 | text i h1 h2 =>
  intro n
  cases n with
  | zero=>rw [bG];rfl
  | succ n =>
   show cJ (.int i) 0 60=_;simp [cJ,h1,h2]
 | choice ws hw =>
  obtain ⟨h1,h2,hn,nd⟩:=bM hw;intro n
  cases n with
  | zero=>rw [bG];rfl
  | succ n =>
   show (decide (1≤(ws.map Dt.str).length) && decide ((ws.map Dt.str).length≤8) && (ws.map Dt.str).all bD && decide (mO ((ws.map Dt.str).map qz)=(ws.map Dt.str).length))=_;have e1:(ws.map Dt.str).map qz=ws:=by rw [List.map_map];exact List.map_id _
   have e2:(ws.map Dt.str).all bD=true:=by rw [List.all_map];exact hn
   rw [e1,e2,List.length_map,ou nd];simp [h1,h2]
 | number i j h1 h12 h2 =>
  intro n
  cases n with
  | zero=>rw [bG];rfl
  | succ n =>
   show (decide (-1000000000000000000000000000000≤i) && decide (i≤j) && decide (j≤1000000000000000000000000000000))=_;simp [h1,h12,h2]
 | @list a c k i g h1 h2 ih =>
  intro n
  cases n with
  | zero=>rw [bG];simp
  | succ n =>
   show (aA n k && (decide ((0:Int)≤i) && decide (i≤8)))=_;rw [ih n];simp [h1,h2]
 | @rows a c z l i g hz h1 h2 ih =>
  intro n
  cases n with
  | zero=>rw [bG];simp
  | succ n =>
   show ((aA n (.tup [.str "record",.tup l]) && (decide (Str.ofString "record" = "record") && pp (dX l (.str z)))) && (decide ((0:Int)≤i) && decide (i≤8)))=_;obtain ⟨gs,rfl,_,_,_,nd,_,_⟩:=rV g;obtain ⟨w1,l1,hm,hw,_⟩:=hz;obtain ⟨u,hu,eu⟩:=List.mem_map.mp hm;have e1:u.1=z:=by injection eu with e;injection e with e _;injection e
   have e2:u.2.1=.tup (.str w1 :: l1):=by injection eu with e;injection e with _ e;injection e
   have e3:=xE nd hu;rw [e1,e2] at e3;rw [ih n,e3,show pp (some (.tup (.str w1 :: l1)))=true by show (decide (w1= "number") || decide (w1= "text"))=true;simpa using hw];simp [h1,h2]
 | @rcd gs g hs hn hl ih =>
  intro n
  cases n with
  | zero=>rw [bG];simp
  | succ n =>
   show (decide ((gs.map prG).length≤8) && (gs.map prG).all (aU (aA n)) && qA ((gs.map prG).map nmD))=_;have e1:(gs.map prG).map nmD=gs.map (·.1):=by rw [List.map_map];rfl
   have e2:(gs.map prG).all (aU (aA n))=decide (ix (gs.map (·.2.2.1))≤n):=by
    rw [List.all_map,Bool.eq_iff_iff,List.all_eq_true,decide_eq_true_iff]
    constructor
    ·intro h;refine max_le fun m hm=>?_;obtain ⟨u,hu,rfl⟩:=List.mem_map.mp hm;have:=h u hu;have h':(aI u.1 && aA n u.2.1)=true:=this;rw [Bool.and_eq_true,ih u hu n] at h';exact of_decide_eq_true h'.2
    ·intro h u hu;show (aI u.1 && aA n u.2.1)=true;rw [(hn u hu),ih u hu n,Bool.true_and];exact decide_eq_true (Nat.le_trans (gW (List.mem_map.mpr ⟨u,hu,rfl⟩)) h)
   rw [e1,rW hs,e2,List.length_map,decide_eq_true hl];simp
structure Wi (a c:Nat) (ks:List (Dt×Nat×Nat)):Prop where
 deep:a=ix (ks.map (·.2.1))+1
 many:c=sumN (ks.map (·.2.2))+1
 each:∀ k∈ks,FK k.2.1 k.2.2 k.1
 few:ks.length≤8
def ub (K:PySem.W.Frag):Sp:=fun vs H Q _=>∃ (a c:Nat) (d:Dt) (x:V),vs=[x]∧IsP K H d x∧FK a c d∧∀ p ys ks H',Same H H'→H p=none→H' p=some (.lst ys)→IsPs K H' (ks.map (·.1)) ys→Wi a c ks→Q (.ref p) H'
abbrev iy (K:PySem.W.Frag) (_:Ads):Sp:=ub K
theorem rX {a c:Nat} {k:Dt} (g:FK a c k):Wi (a+1) (c+1) [(k,a,c)]:=⟨by show a+1=max a 0+1;lia,rfl,fun k' hk=>by rw [List.mem_singleton.mp hk];exact g,by show 1≤8;decide⟩
theorem kL:Wi 1 1 []:=⟨rfl,rfl,(fun k hk=>by cases hk),by decide⟩
theorem vV {gs:List G4} (g:∀ g∈gs,FK g.2.2.1 g.2.2.2 g.2.1) (hl:gs.length≤8):Wi (ix (gs.map (·.2.2.1))+1) (sumN (gs.map (·.2.2.2))+1) (gs.map (·.2)):=by
 refine ⟨by rw [List.map_map];rfl,by rw [List.map_map];rfl,fun k hk=>?_,by rw [List.length_map];exact hl⟩;obtain ⟨g0,h0,rfl⟩:=List.mem_map.mp hk;exact g g0 h0
theorem iz (T:Tx K mg ad) {f:Addr} {fd:FuncData} (F:Gn K mg "kinds_within" cD ["kind"] f fd):FnOk P w K mg base CX0 2 f fd ["kind"] (iy K ad):=by
 obtain ⟨_,_,yD⟩:=T.item_kind;have yU:=kG (P:=P) (w:=w) (base:=base) T yD;refine F.F.ok dY (fun vs H Q E h=>?_) (fun cdv A outer s H vs Q E hr h=>?_)
 ·obtain ⟨a0,c0,d,x,rfl,_⟩:=h
  rfl
 obtain ⟨a0,c0,d,x,rfl,hd,pk,q⟩:=h;refine ⟨_,(@pss_cons _ _ _ _ _ (@ps_if _ _ _ _ _ _ _ _ (pt_cmpR op_eq (@pi1 K _ _ _ _ _ _ _ rfl (pv 0)) pe_str (nomark _)) (@pss_one _ _ _ (@ps_ret _ _ _ _ (aZ rfl (cs0 (NL:=["name","inner"]) rfl (by decide +kernel) (by decide +kernel)) (pi_tupN (K:=K) rfl (@pi1 K _ _ _ _ _ _ _ rfl (pv 0))) (fun _ _ _ _=>(bL (K:=K) (n:=2) rfl rfl (am (ah (i:=0) (show List.Nodup (α:=Str) ["name","inner"] by decide +kernel) rfl (Or.inl rfl)) (am (ah (i:=1) (show List.Nodup (α:=Str) ["name","inner"] by decide +kernel) rfl (Or.inl rfl)) aG)))) (fun _ _ _ _=>(pv 1))))) pss_nil) (@pss_cons _ _ _ _ _ (@ps_set _ _ 1 _ _ _ _ dY.nd rfl (Or.inl rfl) (pcl yD yU (hr.mono (by lia)) rfl (@pa1 _ _ _ (pv 0) (by rfl))) (by rfl) (by first | exact .inl rfl | exact .inr rfl | assumption)) (@pss_one _ _ _ (@ps_ret _ _ _ _ (iF (pt_cmpR nL (pv 1) pe_non (nomark _)) (@aH _ _ _ _ bT) (@aH _ _ _ _ (@pa1 _ _ _ (pv 1) (by rfl)))))))),?_⟩
 cases pk
 case rcd gs g hs hnm hl =>
  refine ⟨_,rfl,_,_,_,hd,rfl,rfl,isS ?_⟩;refine ⟨rfl,_,rfl,aY ?_⟩;refine ⟨_,rfl,_,_,_,hd,rfl,rfl,fun v hv=>?_⟩;obtain ⟨a,xs,rfl,ha,pa,ra⟩:=id hv.unref;have el:=ra.length;rw [List.length_map] at el;refine ⟨a,rfl,⟨_,ha⟩,fun l hln=>?_⟩;refine bF (K:=K) (xs:=xs) (fun i ys σ H'=>Same H H'∧H' l=some (.lst ys)∧IsPs K H' ((gs.take i).map (·.2.1)) ys∧σ.length=2) ⟨ab hln _,aa,.nil,rfl⟩ (fun i ys σ H' _ r=>r.1.tup ha) ?_ ?_
  ·rintro i y ys σ H1 N hy ⟨g1,e1,hp1,hσ⟩ next;obtain ⟨d1,hdi,hp⟩:=ra.get' hy;rw [List.getElem?_map] at hdi;obtain ⟨⟨z,k,u1,u2⟩,hfi,rfl⟩:=Option.map_eq_some_iff.mp hdi;obtain ⟨b,y2,rfl,hb,hp2⟩:=rS (hp.same g1);have ly:=hp1.length;rw [List.length_map,List.length_take] at ly
   match σ,hσ with
   | [_,_],_ =>
    refine ⟨b,_,rfl,hb,rfl,_,_,rfl,_,_,rfl,rfl,?_⟩;refine ⟨_,rfl,e1,ag (by lia),next _ _ _ ⟨be hln g1,aa,?_,rfl⟩⟩;have e:(gs.take (i+1)).map (·.2.1)=(gs.take i).map (·.2.1)++[k]:=by rw [List.take_add_one,hfi,List.map_append];rfl
    rw [e];have bb:But l H1 (upd H1 l (.lst (ys++[y2]))):=But.put;exact (hp1.append (.cons hp2 .nil)).but e1 bb
  ·rintro ys σ H1 ⟨g1,e1,hp1,_⟩;rw [← el,List.take_length] at hp1;refine q l ys (gs.map (·.2)) H1 g1 hln e1 (by rw [List.map_map];exact hp1) (vV g hl)
 case list a1 c1 k i g h1 h2 =>
  refine ⟨_,rfl,_,_,_,hd,rfl,rfl,isS ?_⟩;refine ⟨rfl,_,rfl,iteN (ak (by decide)) ?_⟩;refine ⟨_,rfl,_,_,_,x,rfl,hd,.list g h1 h2,fun v hv=>?_⟩;refine ⟨_,rfl,rfl,_,rfl,iteN (by obtain ⟨w0,l,rfl⟩:=t9 g;obtain ⟨a,_,rfl,_⟩:=hv.unref;intro e;cases e) ?_⟩;exact ⟨_,rfl,sz1,fun p hp=>q p _ [(k,a1,c1)] _ (ab hp _) hp aa (.cons (hv.same (ab hp _)) .nil) (rX g)⟩
 case rows a1 c1 z l i g hz h1 h2 =>
  refine ⟨_,rfl,_,_,_,hd,rfl,rfl,isS ?_⟩;refine ⟨rfl,_,rfl,iteN (ak (by decide)) ?_⟩;refine ⟨_,rfl,_,_,_,x,rfl,hd,.rows g hz h1 h2,fun v hv=>?_⟩;refine ⟨_,rfl,rfl,_,rfl,iteN (by obtain ⟨a,_,rfl,_⟩:=hv.unref;intro e;cases e) ?_⟩;exact ⟨_,rfl,sz1,fun p hp=>q p _ [(_,a1,c1)] _ (ab hp _) hp aa (.cons (hv.same (ab hp _)) .nil) (rX g)⟩
 case text i h1 h2 =>
  refine ⟨_,rfl,_,_,_,hd,rfl,rfl,isS ?_⟩;refine ⟨rfl,_,rfl,iteN (ak (by decide)) ?_⟩;refine ⟨_,rfl,_,_,_,x,rfl,hd,.text i h1 h2,?_⟩;exact ⟨_,rfl,rfl,_,rfl,aY ⟨(by show 0≤sizeLine;decide),fun p hp=>q p _ [] _ (ab hp _) hp aa .nil kL⟩⟩
 case choice ws h1 =>
  refine ⟨_,rfl,_,_,_,hd,rfl,rfl,isS ?_⟩;refine ⟨rfl,_,rfl,iteN (ak (by decide)) ?_⟩;refine ⟨_,rfl,_,_,_,x,rfl,hd,.choice ws h1,?_⟩;exact ⟨_,rfl,rfl,_,rfl,aY ⟨(by show 0≤sizeLine;decide),fun p hp=>q p _ [] _ (ab hp _) hp aa .nil kL⟩⟩
 case number i j h1 h12 h2 =>
  refine ⟨_,rfl,_,_,_,hd,rfl,rfl,isS ?_⟩;refine ⟨rfl,_,rfl,iteN (ak (by decide)) ?_⟩;refine ⟨_,rfl,_,_,_,x,rfl,hd,.number i j h1 h12 h2,?_⟩;exact ⟨_,rfl,rfl,_,rfl,aY ⟨(by show 0≤sizeLine;decide),fun p hp=>q p _ [] _ (ab hp _) hp aa .nil kL⟩⟩
def rY (K:PySem.W.Frag) (n:Nat):Sp:=fun vs H Q _=>∃ (a c:Nat) (d:Dt) (x:V),a≤n∧vs=[x]∧IsP K H d x∧FK a c d∧∀ H',Same H H'→Q (.int c) H'
theorem pB:∀ l:List Nat,(l.map fun n:Nat=>(n:Int)).sum=((sumN l:Nat):Int)
 | []=>rfl
 | n :: l=>by
  rw [List.map_cons,List.sum_cons,pB l];show _=((n+sumN l:Nat):Int);lia
theorem kM (T:Tx K mg ad) {f:Addr} {fd:FuncData} (n:Nat) (yV:Gn K mg "kind_many" cP ["kind"] f fd) (za:FnOk P w K mg base CX0 (n+3) f fd ["kind"] (rY K n)):FnOk P w K mg base CX0 (n+3+1) f fd ["kind"] (rY K (n+1)):=by
 obtain ⟨_,_,zb⟩:=T.kinds_within;have zA:=iz (P:=P) (w:=w) (base:=base) T zb;refine yV.F.ok lU (fun vs H Q E h=>?_) (fun cdv A outer s H vs Q E hr h=>?_)
 ·obtain ⟨a0,c0,d,x,_,rfl,_⟩:=h
  rfl
 obtain ⟨a0,c0,d,x,hle,rfl,hd,pk,q⟩:=h;refine ⟨_,(@pss_one _ _ _ (@ps_ret _ _ _ _ (@pe_op _ _ _ _ _ _ _ _ bS pe_int (pe_callB rj rfl T.z_sum boot_sum (@pa1 _ _ _ (aZ rfl (cs0 (NL:=["inner"]) rfl (by decide +kernel) (by decide +kernel)) (aL (K:=K) rfl (pcl zb zA (hr.mono (by lia)) rfl (@pa1 _ _ _ (pv 0) (by rfl)))) (fun _ _ _ _=>(ah (i:=0) (show List.Nodup (α:=Str) ["inner"] by decide +kernel) rfl (Or.inl rfl))) (fun _ _ _ _=>(pcl yV za (hr.mono (by lia)) rfl (@pa1 _ _ _ (pv 0) (by rfl))))) (by rfl)))))),?_⟩;refine ⟨_,rfl,a0,c0,d,x,rfl,hd,pk,fun p ys ks H1 g1 hpn e1 hks wi=>?_⟩;have ly:=hks.length;rw [List.length_map] at ly;have few:=wi.few;refine ⟨p,rfl,⟨_,SqL.of e1⟩,fun l hln=>?_⟩;refine aT (K:=K) (xs:=ys) (fun i us σ H'=>us=((ks.take i).map fun k=>V.int (k.2.2:Nat))∧Same H1 H'∧H' l=some (.lst us)∧σ.length=1) ⟨rfl,ab hln _,aa,rfl⟩ (fun i us σ H' _ r=>SqL.of (r.2.1 _ _ e1)) ?_ ?_
 ·rintro i y us σ H2 N hy ⟨rfl,g2,e2,hσ⟩ next;obtain ⟨k0,hk0,hp⟩:=hks.get' hy;rw [List.getElem?_map] at hk0;obtain ⟨k,hk,rfl⟩:=Option.map_eq_some_iff.mp hk0;have mem:=List.mem_of_getElem? hk;have dl:=gW (List.mem_map.mpr ⟨k,mem,rfl⟩:k.2.1∈ks.map (·.2.1));have dd:=wi.deep
  match σ,hσ with
  | [_],_ =>
   refine ⟨_,rfl,k.2.1,k.2.2,k.1,y,by lia,rfl,hp.same g2,wi.each k mem,fun H3 g3=>⟨g3 _ _ e2,?_,next _ _ _ ⟨aB (fun k:Dt×Nat×Nat=>V.int (k.2.2:Nat)) hk,be hln (g2.trans g3),aa,rfl⟩⟩⟩;rw [List.length_map,List.length_take];exact ag (by lia)
 ·rintro us σ H2 ⟨rfl,g2,e2,_⟩;rw [← ly,List.take_length] at e2;have e2':H2 l=some (.lst (((ks.map (·.2.2)).map fun n:Nat=>(n:Int)).map V.int)):=by rw [e2,List.map_map,List.map_map];rfl
  refine ⟨l,_,rfl,rfl,SqL.of e2',_,_,rfl,rfl,?_⟩;rw [pB];show Q (.int ((1:Int)+((sumN (ks.map (·.2.2)):Nat):Int))) H2;have e:(1:Int)+((sumN (ks.map (·.2.2)):Nat):Int)=((c0:Nat):Int):=by rw [wi.many];lia
  rw [e];exact q H2 (g1.trans g2)
theorem mX (T:Tx K mg ad) {f:Addr} {fd:FuncData} (A:Gn K mg "kind_many" cP ["kind"] f fd):∀ n,FnOk P w K mg base CX0 (n+3) f fd ["kind"] (rY K n)
 | 0=>ce fun vs H Q E z=>by obtain ⟨_,_,_,_,h,_,_,pk,_⟩:=z;have:=pk.pos;lia
 | n+1=>kM T n A (mX T A n)
def kN (K:PySem.W.Frag) (_:Ads):Sp:=fun vs H Q _=>∃ (a c:Nat) (d:Dt) (x:V),vs=[x]∧IsP K H d x∧FK a c d∧a≤5∧c≤40∧∀ H',Same H H'→Q x H'
theorem kP (T:Tx K mg ad) {f:Addr} {fd:FuncData} (F:Gn K mg "made_kind" eG ["kind"] f fd):FnOk P w K mg base CX0 22 f fd ["kind"] (kN K ad):=by
 obtain ⟨_,_,yy⟩:=T.is_formed;obtain ⟨f1,d1,D1⟩:=T.are_fields;obtain ⟨f2,d2,D2⟩:=T.are_rows;obtain ⟨f3,d3,D3⟩:=T.is_field;have yE:=iQ (P:=P) (w:=w) (base:=base) T yy D1 D2 D3 6;obtain ⟨_,_,yV⟩:=T.kind_many;have za:=mX (P:=P) (w:=w) (base:=base) T yV 5;obtain ⟨t_DEEPEST,c_DEEPEST⟩:=T.DEEPEST;obtain ⟨t_MOST_KINDS,c_MOST_KINDS⟩:=T.MOST_KINDS;refine F.F.ok lQ (fun vs H Q E h=>?_) (fun cdv A outer s H vs Q E hr h=>?_)
 ·obtain ⟨a,c,d,x,rfl,_⟩:=h
  rfl
 obtain ⟨a,c,d,x,rfl,hd,fk,ha,hc,q⟩:=h;refine ⟨_,(@pss_cons _ _ _ _ _ (@ps_if _ _ _ _ _ _ _ _ (@pt_not _ _ _ _ (@pt_val _ _ _ (pcl yy yE (hr.mono (by lia)) rfl (@pa2 _ _ _ _ _ (pv 0) (pe_gint rfl c_DEEPEST) (by rfl) (by rfl))) (by intro _;rfl))) (@pss_one _ _ _ ps_never) pss_nil) (@pss_cons _ _ _ _ _ (@ps_if _ _ _ _ _ _ _ _ (pt_cmpR op_gt (pcl yV za (hr.mono (by lia)) rfl (@pa1 _ _ _ (pv 0) (by rfl))) (pe_gint rfl c_MOST_KINDS) (nomark _)) (@pss_one _ _ _ ps_never) pss_nil) (@pss_one _ _ _ (@ps_ret _ _ _ _ (pv 0))))),?_⟩;refine ⟨_,rfl,5,d,x,by decide,rfl,hd,xD fk,fun H1 g1=>⟨_,rfl,?_⟩⟩;rw [ua fk,decide_eq_true ha];refine bq ?_;refine ⟨_,rfl,a,c,d,x,ha,rfl,hd.same g1,fk,fun H2 g2=>⟨_,_,rfl,rfl,_,rfl,?_⟩⟩;rw [decide_eq_false (by lia)];exact bq ⟨_,rfl,q H2 (g1.trans g2)⟩
def jg (d:Dt):Prop:=(∃ i j:Int,d=.tup [.str "number",.int i,.int j])∨∃ i:Int,d=.tup [.str "text",.int i]
inductive SK:Nat→Dt→Prop
 | text (n:Nat) (i:Int):0≤i→i≤60→SK n (.tup [.str "text",.int i])
 | choice (n:Nat) (ws:List Str):1≤ws.length→ws.length≤8→SK n (.tup [.str "choice",.tup (ws.map Dt.str)])
 | number (n:Nat) (i j:Int):-1000000000000000000000000000000≤i→i≤j→j≤1000000000000000000000000000000→SK n (.tup [.str "number",.int i,.int j])
 | list {n:Nat} {k:Dt} {i:Int}:SK n k→0≤i→i≤8→SK (n+1) (.tup [.str "list",k,.int i])
 | rows {n:Nat} {z:Str} {fs:List (Str×Dt)} {kk:Dt} {i:Int}:SK n (.tup [.str "record",.tup (fs.map prD)])→lookS fs z=some kk→jg kk→0≤i→i≤8→SK (n+1) (.tup [.str "rows",.str z,.tup [.str "record",.tup (fs.map prD)],.int i])
 | rcd {n:Nat} {fs:List (Str×Dt)}:(∀ f∈fs,SK n f.2)→(fs.map (·.1)).Nodup→(∀ f∈fs,f.1≠ "each" ∧f.1.length≤8∧f.1≠ "")→fs.length≤8→SK (n+1) (.tup [.str "record",.tup (fs.map prD)])
theorem fP:∀ {l:List (Str×Dt)} {z:Str} {d:Dt},(l.map (·.1)).Nodup→(z,d)∈l→lookS l z=some d
 | (y,e) :: l,z,d,nd,h=>by
  have nd':=List.nodup_cons.mp nd;rcases List.mem_cons.mp h with h | h
  ·injection h with h1 h2
   subst h1;subst h2;simp [lookS]
  ·have:y≠z:=fun c=>nd'.1 (List.mem_map.mpr ⟨(z,d),h,c.symm⟩);have e:lookS ((y,e) :: l) z=lookS l z:=by simp [lookS,this]
   rw [e];exact fP nd'.2 h
theorem pC {z:Str} (h:aI z=true):z≠ "each" ∧z.length≤8∧z≠ "" :=by
 unfold aI at h;simp only [Bool.and_eq_true,decide_eq_true_eq,Bool.not_eq_true',decide_eq_false_iff_not] at h;refine ⟨h.1.2,h.1.1.2,fun c=>?_⟩;have:=h.1.1.1;rw [c] at this;exact absurd this (by decide)
theorem kQ {m:Nat} {fs:List (Str×Dt)} {zs:List Str} (sub:(fs.map (·.1)).Sublist zs) (as:zs.Pairwise ltS) (nm:zs.all aI=true) (hz:zs.length≤8) (g:∀ f∈fs,SK m f.2):SK (m+1) (.tup [.str "record",.tup (fs.map prD)]) :=
 .rcd g (sub.nodup (gz as)) (fun f hf=>pC (List.all_eq_true.mp nm f.1 (sub.subset (List.mem_map_of_mem hf)))) (by have:=sub.length_le;rw [List.length_map] at this;lia)
def jh (K:PySem.W.Frag) (_:Ads):Sp:=fun vs H Q _=>∃ (a:Addr) (ns:List Int) (k:Int),vs=[.ref a,.int k]∧SqL K H a (ns.map V.int)∧ns.length≤64∧0≤k∧k < 1000 ∧
 ∀ r n H',H r=none→Same H H'→H' r=some (.lst [.int n])→Q (.ref r) H'
theorem kR (T:Tx K mg ad) {f:Addr} {fd:FuncData} (F:Gn K mg "_law_mixed" eM ["cell","k"] f fd):FnOk P w K mg base CX0 1 f fd ["cell","k"] (kE K ad):=by
 refine F.F.ok gL (fun vs H Q E h=>?_) (fun cdv A outer s H vs Q E hr h=>?_)
 ·obtain ⟨i,k,rfl,_⟩:=h
  rfl
 obtain ⟨i,k,rfl,q⟩:=h;refine ⟨_,(@pss_cons _ _ _ _ _ (@ps_set _ _ 2 _ _ _ _ gL.nd rfl (Or.inl rfl) (@pe_op _ _ _ _ _ _ _ _ fI (@pe_op _ _ _ _ _ _ _ _ gO (@pe_op _ _ _ _ _ _ _ _ bS (@pe_op _ _ _ _ _ _ _ _ bS (@pe_op _ _ _ _ _ _ _ _ fI (pv 0) pe_int) (@pe_op _ _ _ _ _ _ _ _ gO pe_int (pv 1))) pe_int) pe_int) pe_int) (by rfl) (by first | exact .inl rfl | exact .inr rfl | assumption)) (@pss_one _ _ _ (@ps_ret _ _ _ _ (@pe_op _ _ _ _ _ _ _ _ fI (@pe_op _ _ _ _ _ _ _ _ gO (@pe_op _ _ _ _ _ _ _ _ fI (@pe_op _ _ _ _ _ _ _ _ gO (pv 2) (pv 2)) pe_int) pe_int) pe_int)))),?_⟩;refine ⟨_,rfl,_,_,rfl,rfl,(by show (0:Int) < 1000000007;decide),_,rfl,_,_,rfl,rfl,.inl ⟨by decide,by decide⟩,_,_,rfl,rfl,_,_,rfl,rfl,_,_,rfl,rfl,.inr ⟨by decide,by decide⟩,_,_,rfl,rfl,(by show (0:Int) < 2147483647;decide),?_⟩;have b0:(0:Int)≤(i % 1000000007+7919*k+1)*48271 % 2147483647:=Int.emod_nonneg _ (by decide);have b1:(i % 1000000007+7919*k+1)*48271 % 2147483647 < 2147483647:=Int.emod_lt_of_pos _ (by decide);exact ⟨_,rfl,_,rfl,_,_,rfl,rfl,.inl ⟨by lia,by lia⟩,_,_,rfl,rfl,(by show (0:Int) < 2147483629;decide),_,_,rfl,rfl,.inr ⟨by decide,by decide⟩,_,_,rfl,rfl,(by show (0:Int) < 2147483647;decide),q _⟩
theorem aS (T:Tx K mg ad) {f:Addr} {fd:FuncData} (F:Gn K mg "_law_digit" eO ["row","many"] f fd):FnOk P w K mg base CX0 1 f fd ["row","many"] (kF K ad):=by
 refine F.F.ok gM (fun vs H Q E h=>?_) (fun cdv A outer s H vs Q E hr h=>?_)
 ·obtain ⟨r,n,m,rfl,_⟩:=h
  rfl
 obtain ⟨r,n,m,rfl,hr0,h0,h1,q⟩:=h;refine ⟨_,(@pss_cons _ _ _ _ _ (@ps_set _ _ 2 _ _ _ _ gM.nd rfl (Or.inl rfl) (@pe_op _ _ _ _ _ _ _ _ fI (@cv _ _ _ _ _ _ _ (bf (K:=K) rfl) (pv 0) pe_int (fun _ _=>rfl)) (pv 1)) (by rfl) (by first | exact .inl rfl | exact .inr rfl | assumption)) (@pss_cons _ _ _ _ _ (qN (@pe_op _ _ _ _ _ _ _ _ mE (@cv _ _ _ _ _ _ _ (bf (K:=K) rfl) (pv 0) pe_int (fun _ _=>rfl)) (pv 1)) (uY (pv 0) pe_int qV)) (@pss_one _ _ _ (@ps_ret _ _ _ _ (pv 2))))),?_⟩;have e0:atI [V.int n] 0=some (.int n):=rfl;exact ⟨_,rfl,r,_,_,_,rfl,rfl,SqL.of hr0,e0,_,rfl,_,_,rfl,rfl,h0,_,rfl,r,_,_,_,rfl,rfl,SqL.of hr0,e0,_,rfl,_,_,rfl,rfl,⟨h0,h1⟩,_,rfl,r,_,_,_,rfl,rfl,hr0,rfl,_,rfl,q⟩
theorem uc {α:Type} {xs:List α} {d:Int} (h0:0≤d) (h1:d < (xs.length:Int)):∃ v,v∈xs∧atI xs d=some v:=by
 have hk:d.toNat < xs.length:=by lia
 have ek:((d.toNat:Nat):Int)=d:=by lia
 have e:atI xs ((d.toNat:Nat):Int)=some xs[d.toNat]:=bz (by simp [hk]);rw [ek] at e;exact ⟨xs[d.toNat],List.getElem_mem hk,e⟩
theorem bU (n:Int) {m:Int} (h:0 < m):0≤n % m∧n % m < m:=⟨Int.emod_nonneg _ (by lia),Int.emod_lt_of_pos _ h⟩
theorem vW (x:Int):Builtin.Int.intBits (x % 10 ^ (60:Int).toNat)≤200:=by
 have h0:(0:Int) < 10 ^ (60:Int).toNat:=by decide +kernel
 refine tM (Int.emod_nonneg _ (Int.ne_of_gt h0)) (Int.lt_trans (Int.emod_lt_of_pos _ h0) ?_)
 decide +kernel
theorem pD:Builtin.Int.intBits ((10:Int) ^ (60:Int).toNat)≤200:=by decide +kernel
theorem ox {lo c:Int} {n:Nat} {g:TG} {tb:TS} {D:Ends} {σ:L2.St} {H:Hp} (Pv:Nat→L2.St→Hp→Prop) (h0:Pv 0 σ H)
  (hs:∀ i σ H,i < n→Pv i σ H→g (.int (lo+i*c)) σ H fun σ2 H2=>tb { D with nx:=Pv (i+1),ct:=Pv (i+1),bk:=D.nx } σ2 H2) (hd:∀ σ H,Pv n σ H→D.nx σ H) :
  ∃ W:Nat→Nat→L2.St→Hp→Prop,(∃ m,W 0 m σ H)∧∀ i m σ H,W i m σ H →
   ((rC lo c n).stop i H∧D.nx σ H)∨((rC lo c n).go i H∧∃ N:L2.St→Hp→Prop,(∀ σ' H',N σ' H'→∃ m',m' < m∧W (i+1) m' σ' H')∧∀ x H',(rC lo c n).yld i H x H'→g x σ H' fun σ2 H2=>tb { D with nx:=N,ct:=N,bk:=D.nx } σ2 H2):=by
 refine ⟨fun i m σ H=>m=n - i∧i≤n∧Pv i σ H,⟨n,by simp,Nat.zero_le _,h0⟩,?_⟩;rintro i m σ H ⟨rfl,hi,p⟩
 by_cases hlt:i < n
 ·refine .inr ⟨hlt,Pv (i+1),fun σ' H' p'=>⟨n - (i+1),by lia,rfl,hlt,p'⟩,fun x H' y=>?_⟩;obtain ⟨e,y⟩:=y;subst e y;exact hs i σ _ hlt p
 ·have e:i=n:=by lia
  subst e;exact .inl ⟨Nat.le_refl _,hd σ H p⟩
theorem ji (T:Tx K mg ad) {f:Addr} {fd:FuncData} (F:Gn K mg "_law_stream" dO ["script","k"] f fd):FnOk P w K mg base CX0 2 f fd ["script","k"] (jh K ad):=by
 obtain ⟨_,_,zv⟩:=T.law_mixed;have zK:=kR (P:=P) (w:=w) (base:=base) T zv;refine F.F.ok aV (fun vs H Q E h=>?_) (fun cdv A outer s H vs Q E hr h=>?_)
 ·obtain ⟨a,ns,k,rfl,_⟩:=h
  rfl
 obtain ⟨a,ns,k,rfl,hS,h63,h0,h1,q⟩:=h;refine ⟨_,(@pss_cons _ _ _ _ _ (@ps_set _ _ 2 _ _ _ _ aV.nd rfl (Or.inl rfl) pe_int (by rfl) (by first | exact .inl rfl | exact .inr rfl | assumption)) (@pss_cons _ _ _ _ _ (ps_for PassesOwn.never rfl (qq rfl T.z_range (@pa3 _ _ _ _ _ _ _ (pv 1) (pe_callB (bj (K:=K) rfl) rfl T.z_len PySem.boot_len (@pa1 _ _ _ (pv 0) (by rfl))) pe_int (by rfl) (by rfl) (by rfl))) (ah (i:=3) aV.nd rfl (Or.inl rfl))
    (@pss_one _ _ _ (@ps_set _ _ 2 _ _ _ _ aV.nd rfl (Or.inl rfl) (@pe_op _ _ _ _ _ _ _ _ bS (@pe_op _ _ _ _ _ _ _ _ tK (pv 2) (@pe_op _ _ _ _ _ _ _ _ op_pow pe_int pe_int)) (@pe_op _ _ _ _ _ _ _ _ fI (@cv _ _ _ _ _ _ _ (bf (K:=K) rfl) (pv 0) (pv 3) (fun _ _=>rfl)) (@pe_op _ _ _ _ _ _ _ _ op_pow pe_int pe_int))) (by rfl) (by first | exact .inl rfl | exact .inr rfl | assumption)))) (@pss_cons _ _ _ _ _ (@ps_if _ _ _ _ _ _ _ _ (pt_cmpR wJ (pv 2) (@pe_op _ _ _ _ _ _ _ _ op_pow pe_int pe_int) (nomark _)) (@pss_one _ _ _ (@ps_ret _ _ _ _ (@aH _ _ _ _ (@pa1 _ _ _ (pv 2) (by rfl))))) pss_nil) (@pss_cons _ _ _ _ _ (@ps_set _ _ 4 _ _ _ _ aV.nd rfl (Or.inl rfl) pe_int (by rfl) (by first | exact .inl rfl | exact .inr rfl | assumption)) (@pss_cons _ _ _ _ _ (ps_for PassesOwn.never rfl (eU rfl T.z_range (@pa1 _ _ _ pe_int (by rfl))) (ah (i:=3) aV.nd rfl (Or.inl rfl))
    (@pss_one _ _ _ (@ps_set _ _ 4 _ _ _ _ aV.nd rfl (Or.inl rfl) (@pe_op _ _ _ _ _ _ _ _ bS (@pe_op _ _ _ _ _ _ _ _ gO (pv 4) pe_int) (pcl zv zK (hr.mono (by lia)) rfl (@pa2 _ _ _ _ _ (@pe_op _ _ _ _ _ _ _ _ bS (@pe_op _ _ _ _ _ _ _ _ bS (pv 2) (@pe_op _ _ _ _ _ _ _ _ gO pe_int (pv 1))) (pe_callB (bj (K:=K) rfl) rfl T.z_len PySem.boot_len (@pa1 _ _ _ (pv 0) (by rfl)))) (pv 3) (by rfl) (by rfl)))) (by rfl) (by first | exact .inl rfl | exact .inr rfl | assumption)))) (@pss_one _ _ _ (@ps_ret _ _ _ _ (@aH _ _ _ _ (@pa1 _ _ _ (@pe_op _ _ _ _ _ _ _ _ mE (pv 4) pe_int) (by rfl)))))))))),?_⟩
 have hlen:(ns.map V.int).length=ns.length:=List.length_map _;have hn:rngN k ns.length 9≤64:=by
  have:=o9 (a:=k) (b:=ns.length) (c:=9) (by decide)
  split at this <;> lia
 refine ⟨_,rfl,_,rfl,a,_,rfl,.inl hS,_,_,_,rfl,⟨h0,by lia,by lia,by rw [hlen];lia,by decide,by decide⟩,?_⟩;rw [hlen];refine ox (lo:=k) (c:=9) (n:=rngN k ns.length 9) (fun i σ H'=>H'=H∧∃ x v,Builtin.Int.intBits x≤1+402*i∧σ=[some (.ref a),some (.int k),some (.int x),v,none]) ⟨rfl,0,none,by decide,rfl⟩ ?_ ?_
 ·rintro i σ H' hi ⟨rfl,x,v,hx,rfl⟩;have hlt:=tL (a:=k) (b:=ns.length) (c:=9) (by decide) hi;have hk:(k+i*9).toNat < ns.length:=by lia
  have ek:(((k+i*9).toNat:Nat):Int)=k+i*9:=by lia
  have e:atI (ns.map V.int) (((k+i*9).toNat:Nat):Int)=some (.int ns[(k+i*9).toNat]):=bz (by simp [hk]);rw [ek] at e;refine ⟨_,rfl,_,_,rfl,rfl,⟨by decide,by decide,by decide⟩,_,_,rfl,rfl,mulOk_of_bits (m:=1+402*i) (n:=200) hx pD (by lia),?_⟩;refine ⟨_,rfl,_,rfl,a,_,_,_,rfl,rfl,hS,e,_,_,rfl,rfl,⟨by decide,by decide,by decide⟩,_,_,rfl,rfl,(by show (0:Int) < 10 ^ (60:Int).toNat;decide +kernel),_,_,rfl,rfl,?_⟩;refine ⟨rfl,_,_,?_,rfl⟩;refine Nat.le_trans (intBits_add_le (intBits_mul_le hx pD) (vW _)) ?_;lia
 ·rintro σ H' ⟨rfl,x,v,hx,rfl⟩;refine ⟨_,rfl,_,_,rfl,rfl,⟨by decide,by decide,by decide⟩,_,_,rfl,rfl,_,rfl,?_⟩;refine cp (fun c1=>?_) (fun c1=>?_)
  ·exact ⟨_,rfl,sz1,fun r hr'=>q r x _ hr' (ab hr' _) aa⟩
  refine ⟨9,rfl,by decide,by decide,gN (lo:=0) (n:=(9:Int).toNat) (fun i σ H1=>H1=H'∧∃ y v,σ=[some (.ref a),some (.int k),some (.int x),v,some (.int y)]) ⟨rfl,0,_,rfl⟩ ?_ ?_⟩
  ·rintro i σ H1 hi ⟨rfl,y,v,rfl⟩;refine ⟨_,rfl,_,_,rfl,rfl,.inr ⟨by decide,by decide⟩,?_⟩;refine ⟨_,rfl,_,rfl,_,_,rfl,rfl,.inl ⟨by decide,by decide⟩,_,_,rfl,rfl,_,rfl,a,_,rfl,.inl hS,_,_,rfl,rfl,_,rfl,_,_,rfl,fun m=>?_⟩;exact ⟨_,_,rfl,rfl,rfl,_,_,rfl⟩
  ·rintro σ H1 ⟨rfl,y,v,rfl⟩;exact ⟨_,rfl,_,_,rfl,rfl,⟨by decide,by decide⟩,sz1,fun r hr'=>q r _ _ hr' (ab hr' _) aa⟩
def cb:Nat→Nat
 | 0=>1
 | n+1=>2*cb n+1
theorem oy:∀ n,1≤cb n
 | 0=>Nat.le_refl 1
 | n+1=>by show 1≤2*cb n+1;lia
def GK (n:Nat) (d:Dt):Prop:=(∃ a c,FK a c d∧a≤n+1∧c≤cb n)∧SK n d
theorem GK.text (n:Nat) (i:Int) (h1:0≤i) (h2:i≤60):GK n (.tup [.str "text",.int i]):=⟨⟨1,1,.text i h1 h2,by lia,oy n⟩,.text n i h1 h2⟩
theorem GK.choice (n:Nat) (ws:List Str) (h:gU ws=true):GK n (.tup [.str "choice",.tup (ws.map Dt.str)]):=⟨⟨1,1,.choice ws h,by lia,oy n⟩,.choice n ws (bM h).1 (bM h).2.1⟩
theorem GK.number (n:Nat) (i j:Int) (h1:-1000000000000000000000000000000≤i) (h2:i≤j) (h3:j≤1000000000000000000000000000000):GK n (.tup [.str "number",.int i,.int j]):=⟨⟨1,1,.number i j h1 h2 h3,by lia,oy n⟩,.number n i j h1 h2 h3⟩
theorem GK.list {n:Nat} {k:Dt} {i:Int} (g:GK n k) (h1:0≤i) (h2:i≤8):GK (n+1) (.tup [.str "list",k,.int i]):=by
 obtain ⟨⟨a,c,fk,ha,hc⟩,sk⟩:=g;exact ⟨⟨a+1,c+1,.list fk h1 h2,by lia,(by show c+1≤2*cb n+1;lia)⟩,.list sk h1 h2⟩
theorem oA {b:Nat}:∀ {l:List Nat},(∀ n∈l,n≤b)→sumN l≤l.length*b
 | [],_=>Nat.zero_le _
 | m :: l,h=>by
  have h1:=oA (l:=l) fun n hn=>h n (List.mem_cons_of_mem _ hn);have h2:=h m List.mem_cons_self;show m+sumN l≤(l.length+1)*b;rw [Nat.succ_mul];lia
theorem rZ {m:Nat}:∀ {fs:List (Str×Dt)},(∀ f∈fs,GK m f.2)→∃ gs:List G4,gs.map nk=fs∧(∀ g∈gs,FK g.2.2.1 g.2.2.2 g.2.1∧g.2.2.1≤m+1∧g.2.2.2≤cb m)
 | [],_=>⟨[],rfl,fun g hg=>nomatch hg⟩
 | f :: fs,h=>by
  obtain ⟨gs,e,hg⟩:=rZ (fs:=fs) fun g hg=>h g (List.mem_cons_of_mem _ hg);obtain ⟨⟨a,c,fk,ha⟩,_⟩:=h f List.mem_cons_self;refine ⟨(f.1,f.2,a,c) :: gs,by rw [List.map_cons,e],fun g hg'=>?_⟩;rcases List.mem_cons.mp hg' with rfl | hg'
  ·exact ⟨fk,ha⟩
  ·exact hg g hg'
def Gen (K:PySem.W.Frag) (r:Addr) (H:Hp) (n:Nat) (Q:VK):Prop:=∀ v d n' H',But r H H'→H' r=some (.lst [.int n'])→IsP K H' d v→GK n d→Q v H'
def mY (K:PySem.W.Frag) (_:Ads):Sp:=fun vs H Q _=>∃ (r:Addr) (c:Int),vs=[.ref r]∧H r=some (.lst [.int c])∧∀ v d n' H',But r H H'→H' r=some (.lst [.int n'])→IsP K H' d v→(∀ m,GK m d)→Q v H'
def pE (K:PySem.W.Frag) (n:Nat):Sp:=fun vs H Q _=>∃ (r:Addr) (c:Int) (m:Nat),n=m+1∧vs=[.ref r,.int m]∧H r=some (.lst [.int c])∧Gen K r H m Q
def eX (K:PySem.W.Frag) (n:Nat):Sp:=fun vs H Q _=>∃ (r a:Addr) (c:Int) (zs:List Str) (m:Nat),n=m+1∧vs=[.ref r,.int (m+1:Nat),.ref a]∧H r=some (.lst [.int c])∧H a=some (.lst (zs.map V.str))∧zs.length≤5 ∧
 ∀ (v:V) (fs:List (Str×Dt)) (n':Int) (H':Hp),But r H H'→H' r=some (.lst [.int n'])→IsP K H' (.tup [.str "record",.tup (fs.map prD)]) v→(fs.map (·.1)).Sublist zs→(∀ f∈fs,GK m f.2)→Q v H'
def uM (K:PySem.W.Frag) (n:Nat):Sp:=fun vs H Q _=>∃ (r:Addr) (c:Int) (m:Nat),n=m+2∧vs=[.ref r,.int (m+2:Nat)]∧H r=some (.lst [.int c])∧Gen K r H (m+2) Q
theorem mZ {ns:List Int} {d:Int} (h0:0≤d) (h1:d < (ns.length:Int)):∃ i:Int,i∈ns∧atI (ns.map V.int) d=some (.int i):=by
 obtain ⟨v,hv,e⟩:=uc (xs:=ns.map V.int) h0 (by rw [List.length_map];exact h1);obtain ⟨i,hi,rfl⟩:=List.mem_map.mp hv;exact ⟨i,hi,e⟩
theorem uN:(10:Int) ^ (30:Int).toNat=1000000000000000000000000000000:=by decide +kernel
theorem vX {i j:Int} (h:i≤1000000000000000000000000000000) (hj:0≤j):i≤if i+j < 10 ^ (30:Int).toNat then i+j else 10 ^ (30:Int).toNat:=by
 rw [uN]
 split <;> lia
theorem vY (x:Int):(if x < 10 ^ (30:Int).toNat then x else 10 ^ (30:Int).toNat)≤1000000000000000000000000000000:=by
 rw [uN]
 split <;> lia
theorem pF:∀ i∈([0,1,3,5,60]:List Int),0≤i∧i≤60:=by decide
theorem se:∀ i∈([0,0,-7,10,3,-(10 ^ (30:Int).toNat)]:List Int),-1000000000000000000000000000000≤i∧i≤1000000000000000000000000000000:=by decide +kernel
theorem qS:∀ i∈([9,0,30,99,20,10 ^ (30:Int).toNat]:List Int),0≤i:=by decide +kernel
theorem vZ:∀ k:Fin 3,∃ ws:List Str,gU ws=true∧i5 [.str "b",.str "a",.str "no",.str "yes"] (some (k.val:Int)) none=ws.map Dt.str
 | 0=>⟨["b","a","no","yes"],by decide +kernel,by rfl⟩
 | 1=>⟨["a","no","yes"],by decide +kernel,by rfl⟩
 | 2=>⟨["no","yes"],by decide +kernel,by rfl⟩
theorem ud (c:Int):∃ ws:List Str,gU ws=true∧i5 [.str "b",.str "a",.str "no",.str "yes"] (some (c % 3)) none=ws.map Dt.str:=by
 obtain ⟨h0,h1⟩:=bU c (m:=3) (by decide);obtain ⟨ws,a,e⟩:=vZ ⟨(c % 3).toNat,by lia⟩;refine ⟨ws,a,?_⟩;rw [← e];show i5 _ (some (c % 3)) none=i5 _ (some (((c % 3).toNat:Nat):Int)) none;rw [show (((c % 3).toNat:Nat):Int)=c % 3 by lia]
theorem im (T:Tx K mg ad) {f:Addr} {fd:FuncData} (F:Gn K mg "_law_leaf" fY ["row"] f fd):FnOk P w K mg base CX0 2 f fd ["row"] (mY K ad):=by
 obtain ⟨_,_,yu⟩:=T.law_digit;have yv:=aS (P:=P) (w:=w) (base:=base) T yu;refine F.F.ok eR (fun vs H Q E h=>?_) (fun cdv A outer s H vs Q E hr h=>?_)
 ·obtain ⟨r,c,rfl,_⟩:=h
  rfl
 obtain ⟨r,c,rfl,hr0,q⟩:=h;refine ⟨_,(@pss_cons _ _ _ _ _ (@ps_set _ _ 1 _ _ _ _ eR.nd rfl (Or.inl rfl) (pcl yu yv (hr.mono (by lia)) rfl (@pa2 _ _ _ _ _ (pv 0) pe_int (by rfl) (by rfl))) (by rfl) (by first | exact .inl rfl | exact .inr rfl | assumption)) (@pss_cons _ _ _ _ _ (@ps_if _ _ _ _ _ _ _ _ (pt_cmpR op_eq (pv 1) pe_int (nomark _)) (@pss_one _ _ _ (@ps_ret _ _ _ _ (@aj _ K _ _ _ _ rfl (@pa2 _ _ _ _ _ pe_str (@cv _ _ _ _ _ _ _ (bf (K:=K) rfl) (@aH _ _ _ _ (@aC _ _ _ _ _ pe_int (@aC _ _ _ _ _ pe_int (@pa3 _ _ _ _ _ _ _ pe_int pe_int pe_int (by rfl) (by rfl) (by rfl)) (by rfl)) (by rfl))) (pcl yu yv (hr.mono (by lia)) rfl (@pa2 _ _ _ _ _ (pv 0) pe_int (by rfl) (by rfl))) (fun _ _=>rfl)) (by rfl) (by rfl))))) pss_nil) (@pss_cons _ _ _ _ _ (@ps_if _ _ _ _ _ _ _ _ (pt_cmpR op_eq (pv 1) pe_int (nomark _)) (@pss_one _ _ _ (@ps_ret _ _ _ _ (@aj _ K _ _ _ _ rfl (@pa2 _ _ _ _ _ pe_str (aR (br (K:=K) rfl) (@aj _ K _ _ _ _ rfl (@aC _ _ _ _ _ pe_str (@pa3 _ _ _ _ _ _ _ pe_str pe_str pe_str (by rfl) (by rfl) (by rfl)) (by rfl))) (bp (pcl yu yv (hr.mono (by lia)) rfl (@pa2 _ _ _ _ _ (pv 0) pe_int (by rfl) (by rfl)))) bo) (by rfl) (by rfl))))) pss_nil) (@pss_cons _ _ _ _ _ (@ps_set _ _ 2 _ _ _ _ eR.nd rfl (Or.inl rfl) (@cv _ _ _ _ _ _ _ (bf (K:=K) rfl) (@aH _ _ _ _ (@aC _ _ _ _ _ pe_int (@aC _ _ _ _ _ pe_int (@aC _ _ _ _ _ (@pe_un _ _ _ _ _ _ un_neg pe_int) (@pa3 _ _ _ _ _ _ _ pe_int pe_int (@pe_un _ _ _ _ _ _ un_neg (@pe_op _ _ _ _ _ _ _ _ op_pow pe_int pe_int)) (by rfl) (by rfl) (by rfl)) (by rfl)) (by rfl)) (by rfl))) (pcl yu yv (hr.mono (by lia)) rfl (@pa2 _ _ _ _ _ (pv 0) pe_int (by rfl) (by rfl))) (fun _ _=>rfl)) (by rfl) (by first | exact .inl rfl | exact .inr rfl | assumption)) (@pss_one _ _ _ (@ps_ret _ _ _ _ (@aj _ K _ _ _ _ rfl (@pa3 _ _ _ _ _ _ _ pe_str (pv 2) (pe_callB (jv rfl) rfl T.z_min boot_min (@pa2 _ _ _ _ _ (@pe_op _ _ _ _ _ _ _ _ op_pow pe_int pe_int) (@pe_op _ _ _ _ _ _ _ _ bS (pv 2) (@cv _ _ _ _ _ _ _ (bf (K:=K) rfl) (@aH _ _ _ _ (@aC _ _ _ _ _ pe_int (@aC _ _ _ _ _ pe_int (@aC _ _ _ _ _ pe_int (@pa3 _ _ _ _ _ _ _ pe_int pe_int (@pe_op _ _ _ _ _ _ _ _ op_pow pe_int pe_int) (by rfl) (by rfl) (by rfl)) (by rfl)) (by rfl)) (by rfl))) (pcl yu yv (hr.mono (by lia)) rfl (@pa2 _ _ _ _ _ (pv 0) pe_int (by rfl) (by rfl))) (fun _ _=>rfl))) (by rfl) (by rfl))) (by rfl) (by rfl) (by rfl))))))))),?_⟩;refine ⟨_,rfl,r,c,4,rfl,hr0,by decide,by decide,?_⟩;refine ⟨_,rfl,rfl,_,rfl,?_⟩;refine cp (fun c1=>?_) (fun c1=>?_)
 ·refine ⟨(by show 5≤sizeLine;decide),fun p hp=>?_⟩;have nrp:r≠p:=ae aa hp;obtain ⟨d0,d1⟩:=bU (c / 4) (m:=5) (by decide);obtain ⟨i,mi,ei⟩:=mZ (ns:=[0,1,3,5,60]) d0 d1;refine ⟨_,rfl,r,c / 4,5,rfl,(by rw [af nrp];exact aa),by decide,by decide,p,_,_,_,rfl,rfl,SqL.of (by rw [af nrp.symm];exact aa),ei,?_⟩;refine ⟨[.str "text",.int i],.cons .str (.cons .int .nil),sz2,fun v H' g hv=>?_⟩;exact q v _ _ H' (((But.put.trans (But.same (ab hp _))).trans But.put).trans (But.same g)) (g _ _ aa) hv fun m=>.text m i (pF i mi).1 (pF i mi).2
 refine ⟨_,rfl,rfl,_,rfl,?_⟩;refine cp (fun c2=>?_) (fun c2=>?_)
 ·refine ⟨[.str "b",.str "a",.str "no",.str "yes"],.cons .str (.cons .str (.cons .str (.cons .str .nil))),(by show 4≤sizeLine;decide),fun v1 H1 g1 hv1=>?_⟩;have e1:=g1 _ _ (aa (H:=H) (a:=r) (o:=.lst [.int (c / 4)]));refine ⟨_,rfl,r,c / 4,3,rfl,e1,by decide,by decide,_,rfl,?_⟩;have hv2:=hv1.but e1 (But.put (o:=.lst [.int (c / 4 / 3)]));refine ⟨_,hv2,fun v3 H3 g3 hv3=>?_⟩;refine ⟨[.str "choice",_],.cons .str (.cons hv3 .nil),sz2,fun v H' g hv=>?_⟩;refine q v _ _ H' ((((But.put.trans (But.same g1)).trans But.put).trans (But.same g3)).trans (But.same g)) (g _ _ (g3 _ _ aa)) hv fun m=>?_;obtain ⟨ws,l1,ew⟩:=ud (c / 4);rw [ew];exact .choice m ws l1
 refine ⟨_,rfl,_,_,rfl,rfl,⟨by decide,by decide,by decide⟩,_,rfl,(by show 6≤sizeLine;decide),fun p hp=>?_⟩;have nrp:r≠p:=ae aa hp;obtain ⟨d0,d1⟩:=bU (c / 4) (m:=6) (by decide);obtain ⟨i,mi,ei⟩:=mZ (ns:=[0,0,-7,10,3,-(10 ^ (30:Int).toNat)]) d0 d1;refine ⟨_,rfl,r,c / 4,6,rfl,(by rw [af nrp];exact aa),by decide,by decide,p,_,_,_,rfl,rfl,SqL.of (by rw [af nrp.symm];exact aa),ei,?_⟩;refine ⟨_,rfl,_,_,rfl,rfl,⟨by decide,by decide,by decide⟩,_,rfl,_,_,rfl,rfl,⟨by decide,by decide,by decide⟩,(by show 6≤sizeLine;decide),fun p2 hp2=>?_⟩;have nrp2:r≠p2:=ae aa hp2;obtain ⟨g0,g1⟩:=bU (c / 4 / 6) (m:=6) (by decide);obtain ⟨j,mj,ej⟩:=mZ (ns:=[9,0,30,99,20,10 ^ (30:Int).toNat]) g0 g1;refine ⟨_,rfl,r,c / 4 / 6,6,rfl,(by rw [af nrp2];exact aa),by decide,by decide,p2,_,_,_,rfl,rfl,SqL.of (by rw [af nrp2.symm];exact aa),ej,_,_,rfl,rfl,_,_,rfl,?_⟩;refine ⟨[.str "number",.int _,.int _],.cons .str (.cons .int (.cons .int .nil)),sz3,fun v H' g hv=>?_⟩;exact q v _ _ H' (((((But.put.trans (But.same (ab hp _))).trans But.put).trans (But.same (ab hp2 _))).trans But.put).trans (But.same g)) (g _ _ aa) hv fun m=>.number m _ _ (se i mi).1 (vX (se i mi).2 (qS j mj)) (vY _)
theorem cT (T:Tx K mg ad) {f fk:Addr} {fd fdk:FuncData} (n:Nat) (F:Gn K mg "_law_record" bB ["row","deep","names"] f fd) (y6:Gn K mg "_law_kind" cF ["row","deep"] fk fdk)
  (zd:FnOk P w K mg base CX0 (3*n+3) fk fdk ["row","deep"] (pE K n)):FnOk P w K mg base CX0 (3*n+3+1) f fd ["row","deep","names"] (eX K n):=by
 obtain ⟨_,_,yu⟩:=T.law_digit;have yv:=aS (P:=P) (w:=w) (base:=base) T yu;refine F.F.ok cV (fun vs H Q E h=>?_) (fun cdv A outer s H vs Q E hr h=>?_)
 ·obtain ⟨r,a,c,zs,m,_,rfl,_⟩:=h
  rfl
 obtain ⟨r,a,c,zs,m,rfl,rfl,hr0,ha,hz,q⟩:=h;refine ⟨_,(@pss_cons _ _ _ _ _ (@ps_set _ _ 3 _ _ _ _ cV.nd rfl (Or.inl rfl) (@aH _ _ _ _ bT) (by rfl) (by first | exact .inl rfl | exact .inr rfl | assumption)) (@pss_cons _ _ _ _ _ (ps_for PassesOwn.never rfl (aL (K:=K) rfl (pv 2)) (ah (i:=4) cV.nd rfl (Or.inl rfl))
    (@pss_one _ _ _ (@ps_if _ _ _ _ _ _ _ _ (pt_cmpR op_gt (pcl yu yv (hr.mono (by lia)) rfl (@pa2 _ _ _ _ _ (pv 0) pe_int (by rfl) (by rfl))) pe_int (nomark _)) (@pss_one _ _ _ (@eS _ _ _ _ (md PySem.F.plainAttrs_list PySem.F.slot_list_append PySem.F.type_list_append cX (pv 3) (@pa1 _ _ _ (@aj _ K _ _ _ _ rfl (@pa2 _ _ _ _ _ (pv 4) (pcl y6 zd (hr.mono (by lia)) rfl (@pa2 _ _ _ _ _ (pv 0) (@pe_op _ _ _ _ _ _ _ _ op_sub (pv 1) pe_int) (by rfl) (by rfl))) (by rfl) (by rfl))) (by rfl))) (by rfl))) pss_nil))) (@pss_one _ _ _ (@ps_ret _ _ _ _ (@aj _ K _ _ _ _ rfl (@pa2 _ _ _ _ _ pe_str (bh (a8 (K:=K) rfl) rfl T.z_tuple boot_tuple (@pa1 _ _ _ (pv 3) (by rfl))) (by rfl) (by rfl))))))),?_⟩
 have nar:a≠r:=gj ha hr0 (by
  intro e;injection e with e
  cases zs with
  | nil=>cases e
  | cons z zs=>cases e)
 refine ⟨(by show 0≤sizeLine;decide),fun l hl=>?_⟩;have nlr:r≠l:=ae hr0 hl;have nla:a≠l:=ae ha hl;refine ⟨_,rfl,a,rfl,⟨_,SqL.of (by rw [af nla];exact ha)⟩,cj (xs:=zs.map V.str) (fun i σ H'=>∃ ys fs c' v4,But r H H'∧H' r=some (.lst [.int c'])∧H' l=some (.lst ys)∧IsPs K H' (List.map prD fs) ys∧ys.length≤i∧(fs.map (·.1)).Sublist (zs.take i)∧(∀ f∈fs,GK m f.2)∧σ=[some (.ref r),some (.int (m+1:Nat)),some (.ref a),some (.ref l),v4])
  ⟨[],[],c,none,But.same (ab hl _),(by rw [af nlr];exact hr0),aa,.nil,Nat.le_refl _,List.Sublist.slnil,(by intro f hf;cases hf),rfl⟩ (fun i σ H' _ p=>by
   obtain ⟨ys,fs,c',v4,b,_⟩:=p;exact SqL.of (b _ _ nar ha)) ?_ ?_⟩
 ·rintro i y σ H1 hy ⟨ys,fs,c',v4,b1,e1,e2,hp,hle,sub,gk,rfl⟩;rw [List.getElem?_map] at hy;obtain ⟨z,hzi,rfl⟩:=Option.map_eq_some_iff.mp hy;have hi:i < zs.length:=(List.getElem?_eq_some_iff.mp hzi).1;have tk:zs.take (i+1)=zs.take i++[z]:=by rw [List.take_add_one,hzi];rfl
  refine ⟨_,rfl,r,c',3,rfl,e1,by decide,by decide,_,_,rfl,rfl,_,rfl,?_⟩;have b2:But r H1 (upd H1 r (.lst [.int (c' / 3)])):=But.put;have f2:upd H1 r (.lst [.int (c' / 3)]) l=some (.lst ys):=by rw [af nlr.symm];exact e2
  refine cp (fun c1=>?_) (fun c1=>?_)
  ·refine ⟨_,rfl,.inl ⟨rfl,_,SqL.of f2⟩,_,rfl,_,rfl,_,rfl,_,_,rfl,rfl,r,c' / 3,m,rfl,(by rw [Int.natCast_add];simp),aa,fun v d n' H3 b3 e3 hv gd=>?_⟩;have f3:=b3 _ _ nlr.symm f2;have hp3:IsPs K H3 (List.map prD fs) ys:=(hp.but e1 b2).but aa b3;refine ⟨[.str z,d],.cons .str (.cons hv .nil),sz2,fun v4 H4 g4 hv4=>?_⟩;have f4:=g4 _ _ f3;refine ⟨l,ys,_,rfl,rfl,f4,ag (by lia),?_⟩;have b5:But l H4 (upd H4 l (.lst (ys++[v4]))):=But.put;refine ⟨ys++[v4],fs++[(z,d)],n',_,fun x o nx ex=>?_,?_,aa,?_,?_,?_,fun f hf=>?_,rfl⟩
   ·rw [af (ae ex hl)];exact g4 _ _ (b3 x o nx (b2 x o nx (b1 x o nx ex)))
   ·rw [af nlr];exact g4 _ _ e3
   ·rw [List.map_append];exact ((hp3.same g4).but f4 b5).append (.cons (hv4.but f4 b5) .nil)
   ·rw [List.length_append];simp only [List.length_cons,List.length_nil];lia
   ·rw [tk,List.map_append];exact sub.append (List.Sublist.refl _)
   ·rcases List.mem_append.mp hf with h1 | h1
    ·exact gk f h1
    ·obtain rfl:=List.mem_singleton.mp h1;exact gd
  ·refine ⟨ys,fs,c' / 3,_,fun x o nx ex=>b2 x o nx (b1 x o nx ex),aa,f2,hp.but e1 b2,by lia,?_,gk,rfl⟩;rw [tk];exact sub.trans (List.sublist_append_left _ _)
 ·rintro σ H1 ⟨ys,fs,c',v4,b1,e1,e2,hp,hle,sub,gk,rfl⟩;refine ⟨_,rfl,l,ys,_,rfl,SqL.of e2,hp,fun v2 H2 g2 hv2=>?_⟩;refine ⟨[.str "record",.tup (List.map prD fs)],.cons .str (.cons hv2 .nil),sz2,fun v H3 g3 hv=>?_⟩;refine q v fs c' H3 ((b1.trans (But.same g2)).trans (But.same g3)) (g3 _ _ (g2 _ _ e1)) hv ?_ gk;rw [List.length_map,List.take_length] at sub;exact sub
theorem xF:(["a","b"]:List Str).all aI=true:=by decide +kernel
theorem pG:(["a","b","id"]:List Str).all aI=true:=by decide +kernel
theorem xG:(["a","b"]:List Str).Pairwise ltS:=by decide +kernel
theorem kS:(["a","b","id"]:List Str).Pairwise ltS:=by decide +kernel
theorem oB {m:Nat} {fs:List (Str×Dt)} {zs:List Str} (sub:(fs.map (·.1)).Sublist zs) (as:zs.Pairwise ltS) (nm:zs.all aI=true) (hz:zs.length≤8) (g:∀ f∈fs,GK m f.2):∃ a c,FK a c (.tup [.str "record",.tup (fs.map prD)])∧a≤m+2∧c≤zs.length*cb m+1:=by
 obtain ⟨gs,e,hg⟩:=rZ g;have e1:gs.map (·.1)=fs.map (·.1):=by rw [← e,List.map_map];rfl
 have e2:gs.map prG=fs.map prD:=by rw [← e,List.map_map];rfl
 have hl:gs.length≤zs.length:=by
  have:=sub.length_le;rw [← e1,List.length_map] at this;exact this
 rw [← e2];refine ⟨_,_,FK.rcd (fun g h=>(hg g h).1) (by rw [e1];exact as.sublist sub) (fun g h=>?_) (Nat.le_trans hl hz),?_,?_⟩
 ·exact List.all_eq_true.mp nm g.1 (sub.subset (by rw [← e1];exact List.mem_map_of_mem h))
 ·have:=max_le (b:=m+1) (l:=gs.map (·.2.2.1)) fun n hn=>by
   obtain ⟨g,h,rfl⟩:=List.mem_map.mp hn;exact (hg g h).2.1
  lia
 ·have h1:=oA (b:=cb m) (l:=gs.map (·.2.2.2)) fun n hn=>by
   obtain ⟨g,h,rfl⟩:=List.mem_map.mp hn;exact (hg g h).2.2
  rw [List.length_map] at h1;have h2:=Nat.mul_le_mul_right (cb m) hl;lia
theorem wb {m:Nat} {fs:List (Str×Dt)} {zs:List Str} (sub:(fs.map (·.1)).Sublist zs) (as:zs.Pairwise ltS) (nm:zs.all aI=true) (hz:zs.length≤2) (g:∀ f∈fs,GK m f.2):GK (m+1) (.tup [.str "record",.tup (fs.map prD)]):=by
 obtain ⟨a,c,fk,ha,hc⟩:=oB sub as nm (by lia) g;have h2:=Nat.mul_le_mul_right (cb m) hz;exact ⟨⟨a,c,fk,ha,(by show c≤2*cb m+1;lia)⟩,kQ sub as nm (by lia) fun f hf=>(g f hf).2⟩
theorem d5 (T:Tx K mg ad) {f fk:Addr} {fd fdk:FuncData} (n k:Nat) (hk:k≤3*n+3) (F:Gn K mg "_law_rows" cE ["row","deep"] f fd) (yG:Gn K mg "_law_record" bB ["row","deep","names"] fk fdk)
  (yO:FnOk P w K mg base CX0 k fk fdk ["row","deep","names"] (eX K (n - 1))):FnOk P w K mg base CX0 (3*n+3+1) f fd ["row","deep"] (uM K n):=by
 obtain ⟨_,_,yu⟩:=T.law_digit;have yv:=aS (P:=P) (w:=w) (base:=base) T yu;refine F.F.ok cQ (fun vs H Q E h=>?_) (fun cdv A outer s H vs Q E hr h=>?_)
 ·obtain ⟨r,c,m,_,rfl,_⟩:=h
  rfl
 obtain ⟨r,c,m,rfl,rfl,hr0,q⟩:=h;refine ⟨_,(@pss_cons _ _ _ _ _ (@ps_set _ _ 2 _ _ _ _ cQ.nd rfl (Or.inl rfl) (pcl yG yO (hr.mono (by lia)) rfl (@pa3 _ _ _ _ _ _ _ (pv 0) (@pe_op _ _ _ _ _ _ _ _ op_sub (pv 1) pe_int) (@aH _ _ _ _ (@pa2 _ _ _ _ _ pe_str pe_str (by rfl) (by rfl))) (by rfl) (by rfl) (by rfl))) (by rfl) (by first | exact .inl rfl | exact .inr rfl | assumption)) (@pss_cons _ _ _ _ _ (@ps_set _ _ 3 _ _ _ _ cQ.nd rfl (Or.inl rfl) (@cv _ _ _ _ _ _ _ (bf (K:=K) rfl) (@aH _ _ _ _ (@pa2 _ _ _ _ _ (@aj _ K _ _ _ _ rfl (@pa3 _ _ _ _ _ _ _ pe_str (@pe_un _ _ _ _ _ _ un_neg pe_int) pe_int (by rfl) (by rfl) (by rfl))) (@aj _ K _ _ _ _ rfl (@pa2 _ _ _ _ _ pe_str pe_int (by rfl) (by rfl))) (by rfl) (by rfl))) (pcl yu yv (hr.mono (by lia)) rfl (@pa2 _ _ _ _ _ (pv 0) pe_int (by rfl) (by rfl))) (fun _ _=>rfl)) (by rfl) (by first | exact .inl rfl | exact .inr rfl | assumption)) (@pss_cons _ _ _ _ _ (@ps_set _ _ 4 _ _ _ _ cQ.nd rfl (Or.inl rfl) (@cv _ _ _ _ _ _ _ (bf (K:=K) rfl) (@aH _ _ _ _ (@aC _ _ _ _ _ pe_int (@aC _ _ _ _ _ pe_int (@pa3 _ _ _ _ _ _ _ pe_int pe_int pe_int (by rfl) (by rfl) (by rfl)) (by rfl)) (by rfl))) (pcl yu yv (hr.mono (by lia)) rfl (@pa2 _ _ _ _ _ (pv 0) pe_int (by rfl) (by rfl))) (fun _ _=>rfl)) (by rfl) (by first | exact .inl rfl | exact .inr rfl | assumption)) (@pss_one _ _ _ (@ps_ret _ _ _ _ (@aj _ K _ _ _ _ rfl (@aC _ _ _ _ _ pe_str (@pa3 _ _ _ _ _ _ _ pe_str (@aj _ K _ _ _ _ rfl (@pa2 _ _ _ _ _ pe_str (@pe_op _ _ _ _ _ _ _ _ (bC (K:=K) rfl) (@pi1 K _ _ _ _ _ _ _ rfl (pv 2)) (@aj _ K _ _ _ _ rfl (@pa1 _ _ _ (@aj _ K _ _ _ _ rfl (@pa2 _ _ _ _ _ pe_str (pv 3) (by rfl) (by rfl))) (by rfl)))) (by rfl) (by rfl))) (pv 4) (by rfl) (by rfl) (by rfl)) (by rfl)))))))),?_⟩;have e1:(((m+2:Nat):Int)) - 1=((m+1:Nat):Int):=by lia
 refine ⟨_,rfl,_,rfl,_,_,rfl,rfl,sz2,fun p hp=>?_⟩;have nrp:r≠p:=ae hr0 hp;refine ⟨r,p,c,["a","b"],m,rfl,(by show [V.ref r,V.int (((m+2:Nat):Int) - 1),V.ref p]=_;rw [e1]),(by rw [af nrp];exact hr0),aa,by decide,fun v2 fs c2 H2 b2 r2 hv2 sub gk=>?_⟩;have B2:But r H H2:=(But.same (ab hp _)).trans b2;refine ⟨_,rfl,[.str "number",.int _,.int 40],.cons .str (.cons .int (.cons .int .nil)),sz3,fun v3 H3 g3 hv3=>?_⟩;refine ⟨[.str "text",.int 3],.cons .str (.cons .int .nil),sz2,fun v4 H4 g4 hv4=>?_⟩;refine ⟨sz2,fun p5 hp5=>?_⟩;have g5:=ab hp5 (.lst [v3,v4]);have r5:=g5 _ _ (g4 _ _ (g3 _ _ r2));obtain ⟨d0,d1⟩:=bU c2 (m:=2) (by decide);obtain ⟨vk,hvk,ek⟩:=uc (xs:=[v3,v4]) d0 d1;have nrp5:r≠p5:=ae (g4 _ _ (g3 _ _ r2)) hp5;have B5:But r H (upd H4 p5 (.lst [v3,v4])):=(((B2.trans (But.same g3)).trans (But.same g4)).trans (But.same g5));have key:∃ kd,IsP K (upd H4 p5 (.lst [v3,v4])) kd vk∧jg kd∧∀ m,GK m kd:=by
  rcases List.mem_cons.mp hvk with rfl | h
  ·exact ⟨_,(hv3.same g4).same g5,.inl ⟨_,_,rfl⟩,fun m=>.number m _ _ (by decide) (by decide) (by decide)⟩
  ·obtain rfl:=List.mem_singleton.mp h;exact ⟨_,hv4.same g5,.inr ⟨_,rfl⟩,fun m=>.text m _ (by decide) (by decide)⟩
 obtain ⟨kd,hkd,kk,gkd⟩:=key;refine ⟨_,rfl,r,c2,2,rfl,r5,by decide,by decide,p5,_,_,_,rfl,rfl,SqL.of (by rw [af nrp5.symm];exact aa),ek,?_⟩;have b6:But r (upd H4 p5 (.lst [v3,v4])) (upd (upd H4 p5 (.lst [v3,v4])) r (.lst [.int (c2 / 2)])):=But.put;refine ⟨(by show 5≤sizeLine;decide),fun p7 hp7=>?_⟩;have nrp7:r≠p7:=ae aa hp7;have g7:=ab hp7 (.lst [.int 0,.int 1,.int 2,.int 3,.int 8]);obtain ⟨g0,g1⟩:=bU (c2 / 2) (m:=5) (by decide);obtain ⟨i,mi,ei⟩:=mZ (ns:=[0,1,2,3,8]) g0 g1;have bi:0≤i∧i≤8:=(by decide:∀ i∈([0,1,2,3,8]:List Int),0≤i∧i≤8) i mi;refine ⟨_,rfl,r,c2 / 2,5,rfl,g7 _ _ aa,by decide,by decide,p7,_,_,_,rfl,rfl,SqL.of (by rw [af nrp7.symm];exact aa),ei,?_⟩;have b8:But r (upd H4 p5 (.lst [v3,v4])) (upd (upd (upd (upd H4 p5 (.lst [v3,v4])) r (.lst [.int (c2 / 2)])) p7 (.lst [.int 0,.int 1,.int 2,.int 3,.int 8])) r (.lst [.int (c2 / 2 / 5)])):=(b6.trans (But.same g7)).trans But.put;have hin:=(((hv2.same g3).same g4).same g5).but r5 b8;have hke:=hkd.but r5 b8;have r8:(upd (upd (upd (upd H4 p5 (.lst [v3,v4])) r (.lst [.int (c2 / 2)])) p7 (.lst [.int 0,.int 1,.int 2,.int 3,.int 8])) r (.lst [.int (c2 / 2 / 5)])) r=some (.lst [.int (c2 / 2 / 5)]):=aa;refine ⟨_,rfl,_,_,_,hin,rfl,rfl,fun v9 hv9=>?_⟩;refine ⟨_,rfl,[.str "id",kd],.cons .str (.cons hke .nil),sz2,fun v10 H10 g10 hv10=>?_⟩;refine ⟨[prD ("id",kd)],.cons hv10 .nil,sz1,fun v11 H11 g11 hv11=>?_⟩;have lf:fs.length≤2:=by have:=sub.length_le;rw [List.length_map] at this;exact this
 refine ⟨_,_,(hv9.same g10).same g11,hv11,(by rw [List.length_map];exact Nat.le_of_lt (ag (by simp only [List.length_cons,List.length_nil];lia))),fun v12 H12 g12 hv12=>?_⟩;refine ⟨[.str "record",_],.cons .str (.cons hv12 .nil),sz2,fun v13 H13 g13 hv13=>?_⟩;refine ⟨_,rfl,[.str "rows",.str "id",_,.int i],.cons .str (.cons .str (.cons hv13 (.cons .int .nil))),(by show 4≤sizeLine;decide),fun v14 H14 g14 hv14=>?_⟩;refine q v14 _ _ H14 (((((B5.trans b8).trans (But.same g10)).trans (But.same g11)).trans (But.same g12)).trans ((But.same g13).trans (But.same g14))) (g14 _ _ (g13 _ _ (g12 _ _ (g11 _ _ (g10 _ _ r8))))) hv14 ?_;have e:fs.map prD++[prD ("id",kd)]=(fs++[(("id" : Str),kd)]).map prD:=by rw [List.map_append];rfl
 rw [e];have subi:((fs++[(("id" : Str),kd)]).map (·.1)).Sublist (["a","b","id"]:List Str):=by
  rw [List.map_append];exact sub.append (List.Sublist.refl [("id" : Str)])
 have gki:∀ f∈fs++[(("id" : Str),kd)],GK m f.2:=fun f hf=>by
  rcases List.mem_append.mp hf with h1 | h1
  ·exact gk f h1
  ·obtain rfl:=List.mem_singleton.mp h1;exact gkd m
 obtain ⟨a,cc,fk,ha,hc⟩:=oB subi kS pG (by decide) gki;have hc':cc≤3*cb m+1:=hc;have hm:prD ("id",kd)∈(fs++[(("id" : Str),kd)]).map prD:=List.mem_map_of_mem (List.mem_append_right _ (List.mem_singleton.mpr rfl));have lki:lookS (fs++[(("id" : Str),kd)]) "id" = some kd:=fP (subi.nodup (gz kS)) (List.mem_append_right _ (List.mem_singleton.mpr rfl));refine ⟨⟨a+1,cc+1,.rows fk ?_ bi.1 bi.2,by lia,(by show cc+1≤2*(2*cb m+1)+1;lia)⟩,.rows (kQ subi kS pG (by decide) fun f hf=>(gki f hf).2) lki kk bi.1 bi.2⟩;rcases kk with ⟨i,j,rfl⟩ | ⟨i,rfl⟩
 ·exact ⟨"number",_,hm,.inl rfl,rfl⟩
 ·exact ⟨"text",_,hm,.inr rfl,rfl⟩
theorem d7 (T:Tx K mg ad) {f fr fw:Addr} {fd fdr fdw:FuncData} (n:Nat) (y6:Gn K mg "_law_kind" cF ["row","deep"] f fd) (yG:Gn K mg "_law_record" bB ["row","deep","names"] fr fdr) (zU:Gn K mg "_law_rows" cE ["row","deep"] fw fdw)
  (zd:FnOk P w K mg base CX0 (3*n+3) f fd ["row","deep"] (pE K n)) (yO:FnOk P w K mg base CX0 (3*n+4) fr fdr ["row","deep","names"] (eX K n)) (zT:FnOk P w K mg base CX0 (3*n+4) fw fdw ["row","deep"] (uM K n)) :
  FnOk P w K mg base CX0 (3*n+5+1) f fd ["row","deep"] (pE K (n+1)):=by
 obtain ⟨_,_,yu⟩:=T.law_digit;have yv:=aS (P:=P) (w:=w) (base:=base) T yu;obtain ⟨_,_,yR⟩:=T.law_leaf;have y7:=im (P:=P) (w:=w) (base:=base) T yR;refine y6.F.ok iq (fun vs H Q E h=>?_) (fun cdv A outer s H vs Q E hr h=>?_)
 ·obtain ⟨r,c,m,_,rfl,_⟩:=h
  rfl
 obtain ⟨r,c,m,e0,rfl,hr0,q⟩:=h;obtain rfl:n=m:=Nat.succ.inj e0;refine ⟨_,(@pss_cons _ _ _ _ _ (@ps_set _ _ 2 _ _ _ _ iq.nd rfl (Or.inl rfl) (pcl yu yv (hr.mono (by lia)) rfl (@pa2 _ _ _ _ _ (pv 0) pe_int (by rfl) (by rfl))) (by rfl) (by first | exact .inl rfl | exact .inr rfl | assumption)) (@pss_cons _ _ _ _ _ (@ps_if _ _ _ _ _ _ _ _ (PW.pt (@pw_or _ _ _ _ _ _ _ (pt_cmpR op_le (pv 1) pe_int (nomark _)) (@pw_or1 _ _ _ _ (pt_cmpR wI (pv 2) pe_int (nomark _))))) (@pss_one _ _ _ (@ps_ret _ _ _ _ (pcl yR y7 (hr.mono (by lia)) rfl (@pa1 _ _ _ (pv 0) (by rfl))))) pss_nil) (@pss_cons _ _ _ _ _ (@ps_if _ _ _ _ _ _ _ _ (pt_cmpR op_eq (pv 2) pe_int (nomark _)) (@pss_one _ _ _ (@ps_ret _ _ _ _ (@aj _ K _ _ _ _ rfl (@pa3 _ _ _ _ _ _ _ pe_str (pcl y6 zd (hr.mono (by lia)) rfl (@pa2 _ _ _ _ _ (pv 0) (@pe_op _ _ _ _ _ _ _ _ op_sub (pv 1) pe_int) (by rfl) (by rfl))) (@cv _ _ _ _ _ _ _ (bf (K:=K) rfl) (@aH _ _ _ _ (@aC _ _ _ _ _ pe_int (@pa3 _ _ _ _ _ _ _ pe_int pe_int pe_int (by rfl) (by rfl) (by rfl)) (by rfl))) (pcl yu yv (hr.mono (by lia)) rfl (@pa2 _ _ _ _ _ (pv 0) pe_int (by rfl) (by rfl))) (fun _ _=>rfl)) (by rfl) (by rfl) (by rfl))))) pss_nil) (@pss_cons _ _ _ _ _ (@ps_if _ _ _ _ _ _ _ _ (PW.pt (@nI _ _ _ _ _ _ _ (pt_cmpR op_eq (pv 2) pe_int (nomark _)) (@oW _ _ _ _ (pt_cmpR op_gt (pv 1) pe_int (nomark _))))) (@pss_one _ _ _ (@ps_ret _ _ _ _ (pcl zU zT (hr.mono (by lia)) rfl (@pa2 _ _ _ _ _ (pv 0) (pv 1) (by rfl) (by rfl))))) pss_nil) (@pss_one _ _ _ (@ps_ret _ _ _ _ (pcl yG yO (hr.mono (by lia)) rfl (@pa3 _ _ _ _ _ _ _ (pv 0) (pv 1) (@aH _ _ _ _ (@pa2 _ _ _ _ _ pe_str pe_str (by rfl) (by rfl))) (by rfl) (by rfl) (by rfl))))))))),?_⟩;refine ⟨_,rfl,r,c,8,rfl,hr0,by decide,by decide,?_⟩;have leafy:∀ v d n' H',But r (upd H r (.lst [.int (c / 8)])) H'→H' r=some (.lst [.int n'])→IsP K H' d v→(∀ m,GK m d)→Q v H':=fun v d n' H' b e hv g=>q v d n' H' (But.put.trans b) e hv (g n);refine ⟨_,rfl,_,_,rfl,rfl,_,rfl,?_⟩;refine cp (fun c1=>⟨_,rfl,r,_,rfl,aa,leafy⟩) (fun c1=>?_);have hn:0 < n:=by
  have:¬ ((n:Int)≤0):=fun z=>c1 (decide_eq_true z);lia
 obtain ⟨m,rfl⟩:∃ m,n=m+1:=⟨n - 1,by lia⟩;refine ⟨_,rfl,_,_,rfl,rfl,_,rfl,?_⟩;refine cp (fun c2=>⟨_,rfl,r,_,rfl,aa,leafy⟩) (fun c2=>?_);refine ⟨_,rfl,rfl,_,rfl,?_⟩;refine cp (fun c3=>?_) (fun c3=>?_)
 ·have e1:(((m+1:Nat):Int)) - 1=(m:Int):=by lia
  refine ⟨_,rfl,_,rfl,_,_,rfl,rfl,r,_,m,rfl,(by show [V.ref r,V.int (((m+1:Nat):Int) - 1)]=_;rw [e1]),aa,fun v2 d2 c2 H2 b2 r2 hv2 gk2=>?_⟩;refine ⟨(by show 4≤sizeLine;decide),fun p hp=>?_⟩;have nrp:r≠p:=ae r2 hp;have g3:=ab hp (.lst [.int 0,.int 1,.int 2,.int 8]);obtain ⟨g0,g1⟩:=bU c2 (m:=4) (by decide);obtain ⟨i,mi,ei⟩:=mZ (ns:=[0,1,2,8]) g0 g1;have bi:0≤i∧i≤8:=(by decide:∀ i∈([0,1,2,8]:List Int),0≤i∧i≤8) i mi;refine ⟨_,rfl,r,c2,4,rfl,g3 _ _ r2,by decide,by decide,p,_,_,_,rfl,rfl,SqL.of (by rw [af nrp.symm];exact aa),ei,?_⟩;have hv4:=(hv2.same g3).but (g3 _ _ r2) (But.put (o:=.lst [.int (c2 / 4)]));refine ⟨[.str "list",d2,.int i],.cons .str (.cons hv4 (.cons .int .nil)),sz3,fun v5 H5 g5 hv5=>?_⟩;exact q v5 _ _ H5 (((((But.put.trans b2).trans (But.same g3)).trans But.put)).trans (But.same g5)) (g5 _ _ aa) hv5 (.list gk2 bi.1 bi.2)
 refine ⟨_,rfl,rfl,_,rfl,?_⟩;have recd:(wB (qT (eX K (m+1)) [] E0 (dW (qL 0) (dW (qL 1) (dW (wK (dW (tC (V.str "a")) (dW (tC (V.str "b")) p9))) p9))))) { nx:=fun _ H'=>Q .non H',rt:=Q } [some (.ref r),some (.int (m+1:Nat)),some (.int (c % 8))] (upd H r (.lst [.int (c / 8)])):=by
  refine ⟨_,rfl,_,rfl,sz2,fun p hp=>?_⟩;have nrp:r≠p:=ae aa hp;have g3:=ab hp (.lst [.str "a",.str "b"]);exact ⟨r,p,_,["a","b"],m,rfl,rfl,g3 _ _ aa,aa,by decide,fun v2 fs c2 H2 b2 r2 hv2 sub gk=>q v2 _ _ H2 ((But.put.trans (But.same g3)).trans b2) r2 hv2 (wb sub xG xF (by decide) gk)⟩
 refine cp (fun c4=>?_) (fun c4=>recd);refine ⟨_,rfl,_,_,rfl,rfl,_,rfl,?_⟩;refine cp (fun c5=>?_) (fun c5=>recd);have hm:0 < m:=by
  have:(1:Int) < ((m+1:Nat):Int):=of_decide_eq_true c5;lia
 obtain ⟨j,rfl⟩:∃ j,m=j+1:=⟨m - 1,by lia⟩;exact ⟨_,rfl,_,rfl,r,_,j,rfl,rfl,aa,fun v2 d2 c2 H2 b2 r2 hv2 gk2=>q v2 d2 c2 H2 (But.put.trans b2) r2 hv2 gk2⟩
theorem yh (T:Tx K mg ad) {fr fk fw:Addr} {fdr fdk fdw:FuncData} (R:Gn K mg "_law_record" bB ["row","deep","names"] fr fdr) (D:Gn K mg "_law_kind" cF ["row","deep"] fk fdk) (W:Gn K mg "_law_rows" cE ["row","deep"] fw fdw) :
  FnOk P w K mg base CX0 13 fr fdr ["row","deep","names"] (eX K 3):=by
 have k0:FnOk P w K mg base CX0 (3*0+3) fk fdk ["row","deep"] (pE K 0):=ce fun vs H Q E z=>by obtain ⟨_,_,m,e,_⟩:=z;cases e
 have r0:FnOk P w K mg base CX0 (3*0+3+1) fr fdr ["row","deep","names"] (eX K 0):=ce fun vs H Q E z=>by obtain ⟨_,_,_,_,m,e,_⟩:=z;cases e
 have w0:=d5 (P:=P) (w:=w) (base:=base) T 0 0 (by decide) W R (ce fun vs H Q E z=>by obtain ⟨_,_,_,_,m,e,_⟩:=z;cases e);have k1:=d7 T 0 D R W k0 r0 w0;have r1:=cT T 1 R D k1;have w1:=d5 T 1 (3*0+3+1) (by decide) W R r0;have k2:=d7 T 1 D R W k1 r1 w1;have r2:=cT T 2 R D k2;have w2:=d5 T 2 (3*1+3+1) (by decide) W R r1;have k3:=d7 T 2 D R W k2 r2 w2;exact cT T 3 R D k3
def Shp (d:Dt):Prop:=(∃ a c,FK a c d∧a≤5∧c≤40)∧SK 3 d
def kT (K:PySem.W.Frag) (_:Ads):Sp:=fun vs H Q _=>∃ (r:Addr) (c:Int),vs=[.ref r]∧H r=some (.lst [.int c])∧∀ v d n' H',But r H H'→H' r=some (.lst [.int n'])→IsP K H' d v→Shp d→Q v H'
theorem nm7:(["a","b","box","n","t","u","w"]:List Str).all aI=true:=by decide +kernel
theorem nm5:(["a","b","box","n","t"]:List Str).all aI=true:=by decide +kernel
theorem as7:(["a","b","box","n","t","u","w"]:List Str).Pairwise ltS:=by decide +kernel
theorem as5:(["a","b","box","n","t"]:List Str).Pairwise ltS:=by decide +kernel
theorem pH:∀ l m:List Nat,sumN (l++m)=sumN l+sumN m
 | [],m=>by show sumN m=0+sumN m;lia
 | n :: l,m=>by
  have:=pH l m;show n+sumN (l++m)=n+sumN l+sumN m;lia
theorem sj {gs:List G4} {fs:List (Str×Dt)} (e:gs.map nk=fs) (sub:(fs.map (·.1)).Sublist (["a","b","box","n","t","u","w"]:List Str)) (hg:∀ g∈gs,FK g.2.2.1 g.2.2.2 g.2.1∧g.2.2.1≤3) (hl:gs.length≤8) (hs:sumN (gs.map (·.2.2.2))+1≤40):∃ a c,FK a c (.tup [.str "record",.tup (fs.map prD)])∧a≤5∧c≤40:=by
 have e1:gs.map (·.1)=fs.map (·.1):=by rw [← e,List.map_map];rfl
 have e2:gs.map prG=fs.map prD:=by rw [← e,List.map_map];rfl
 rw [← e2];refine ⟨_,_,FK.rcd (fun g h=>(hg g h).1) (by rw [e1];exact as7.sublist sub) (fun g h=>?_) hl,?_,hs⟩
 ·exact List.all_eq_true.mp nm7 g.1 (sub.subset (by rw [← e1];exact List.mem_map_of_mem h))
 ·have:=max_le (b:=3) (l:=gs.map (·.2.2.1)) fun n hn=>by
   obtain ⟨g,h,rfl⟩:=List.mem_map.mp hn;exact (hg g h).2
  lia
theorem kU (T:Tx K mg ad) {f:Addr} {fd:FuncData} (F:Gn K mg "_law_shape" eP ["row"] f fd):FnOk P w K mg base CX0 14 f fd ["row"] (kT K ad):=by
 obtain ⟨_,_,yR⟩:=T.law_leaf;have y7:=im (P:=P) (w:=w) (base:=base) T yR;obtain ⟨_,_,yG⟩:=T.law_record;obtain ⟨fk,fdk,Dk⟩:=T.law_kind;obtain ⟨fw,fdw,Dw⟩:=T.law_rows;have yO:=yh (P:=P) (w:=w) (base:=base) T yG Dk Dw;refine F.F.ok dS (fun vs H Q E h=>?_) (fun cdv A outer s H vs Q E hr h=>?_)
 ·obtain ⟨r,c,rfl,_⟩:=h
  rfl
 obtain ⟨r,c,rfl,hr0,q⟩:=h;refine ⟨_,(@pss_cons _ _ _ _ _ (@ps_set _ _ 1 _ _ _ _ dS.nd rfl (Or.inl rfl) (pcl yG yO (hr.mono (by lia)) rfl (@pa3 _ _ _ _ _ _ _ (pv 0) pe_int (@aH _ _ _ _ (@aC _ _ _ _ _ pe_str (@aC _ _ _ _ _ pe_str (@pa3 _ _ _ _ _ _ _ pe_str pe_str pe_str (by rfl) (by rfl) (by rfl)) (by rfl)) (by rfl))) (by rfl) (by rfl) (by rfl))) (by rfl) (by first | exact .inl rfl | exact .inr rfl | assumption)) (@pss_cons _ _ _ _ _ (@ps_if _ _ _ _ _ _ _ _ (pt_cmpR op_eq (@pe_op _ _ _ _ _ _ _ _ fI (@cv _ _ _ _ _ _ _ (bf (K:=K) rfl) (pv 0) pe_int (fun _ _=>rfl)) pe_int) pe_int (nomark _)) (@pss_one _ _ _ (@ps_set _ _ 1 _ _ _ _ dS.nd rfl (Or.inl rfl) (@aj _ K _ _ _ _ rfl (@pa2 _ _ _ _ _ pe_str (@pe_op _ _ _ _ _ _ _ _ (bC (K:=K) rfl) (@pi1 K _ _ _ _ _ _ _ rfl (pv 1)) (@aj _ K _ _ _ _ rfl (@pa2 _ _ _ _ _ (@aj _ K _ _ _ _ rfl (@pa2 _ _ _ _ _ pe_str (pcl yR y7 (hr.mono (by lia)) rfl (@pa1 _ _ _ (pv 0) (by rfl))) (by rfl) (by rfl))) (@aj _ K _ _ _ _ rfl (@pa2 _ _ _ _ _ pe_str (pcl yR y7 (hr.mono (by lia)) rfl (@pa1 _ _ _ (pv 0) (by rfl))) (by rfl) (by rfl))) (by rfl) (by rfl)))) (by rfl) (by rfl))) (by rfl) (by first | exact .inl rfl | exact .inr rfl | assumption))) pss_nil) (@pss_one _ _ _ (@ps_ret _ _ _ _ (pv 1))))),?_⟩;refine ⟨_,rfl,(by show 5≤sizeLine;decide),fun p hp=>?_⟩;have nrp:r≠p:=ae hr0 hp;have g1:=ab hp (.lst [.str "a",.str "b",.str "box",.str "n",.str "t"]);refine ⟨r,p,c,["a","b","box","n","t"],2,rfl,rfl,g1 _ _ hr0,aa,by decide,fun v2 fs c2 H2 b2 r2 hv2 sub gk=>?_⟩;have B2:But r H H2:=(But.same g1).trans b2;have ei:atI [V.int c2] 0=some (.int c2):=rfl;refine ⟨_,rfl,r,_,_,_,rfl,rfl,SqL.of r2,ei,_,_,rfl,rfl,(by show (0:Int) < 8;decide),rfl,_,rfl,?_⟩;refine cp (fun c1=>?_) (fun c1=>?_)
 ·refine ⟨_,rfl,_,_,_,hv2,rfl,rfl,fun v3 hv3=>?_⟩;refine ⟨_,rfl,r,c2,rfl,r2,fun v4 d4 c4 H4 b4 r4 hv4 g4=>?_⟩;refine ⟨[.str "u",d4],.cons .str (.cons hv4 .nil),sz2,fun v5 H5 g5 hv5=>?_⟩;refine ⟨_,rfl,r,c4,rfl,g5 _ _ r4,fun v6 d6 c6 H6 b6 r6 hv6 g6=>?_⟩;refine ⟨[.str "w",d6],.cons .str (.cons hv6 .nil),sz2,fun v7 H7 g7 hv7=>?_⟩;have hv5':=(hv5.but (g5 _ _ r4) b6).same g7;refine ⟨[prD ("u",d4),prD ("w",d6)],.cons hv5' (.cons hv7 .nil),sz2,fun v8 H8 g8 hv8=>?_⟩;have hv3':=((((hv3.but r2 b4).same g5).but (g5 _ _ r4) b6).same g7).same g8;have lf:fs.length≤5:=by have:=sub.length_le;rw [List.length_map] at this;exact this
  refine ⟨_,_,hv3',hv8,(by rw [List.length_map];exact Nat.le_of_lt (ag (by simp only [List.length_cons,List.length_nil];lia))),fun v9 H9 g9 hv9=>?_⟩;refine ⟨[.str "record",_],.cons .str (.cons hv9 .nil),sz2,fun v10 H10 g10 hv10=>?_⟩;refine ⟨_,rfl,q v10 _ c6 H10 ((((((B2.trans b4).trans (But.same g5)).trans b6).trans (But.same g7)).trans (But.same g8)).trans ((But.same g9).trans (But.same g10))) (g10 _ _ (g9 _ _ (g8 _ _ (g7 _ _ r6)))) hv10 ?_⟩;have e:fs.map prD++[prD ("u",d4),prD ("w",d6)]=(fs++[(("u" : Str),d4),(("w" : Str),d6)]).map prD:=by rw [List.map_append];rfl
  rw [e];have sub7:((fs++[(("u" : Str),d4),(("w" : Str),d6)]).map (·.1)).Sublist (["a","b","box","n","t","u","w"]:List Str):=by
   rw [List.map_append];exact sub.append (List.Sublist.refl [("u" : Str),"w"])
  refine ⟨?_,kQ sub7 as7 nm7 (by decide) fun f hf=>?_⟩
  ·obtain ⟨gs,e1,hg⟩:=rZ gk;obtain ⟨⟨a4,k4,f4,h4,h4'⟩,_⟩:=g4 0;obtain ⟨⟨a6,k6,f6,h6,h6'⟩,_⟩:=g6 0;have e2:(gs++[((("u" : Str),d4,a4,k4):G4),(("w" : Str),d6,a6,k6)]).map nk=fs++[(("u" : Str),d4),(("w" : Str),d6)]:=by rw [List.map_append,e1];rfl
   have hg':∀ g∈gs++[((("u" : Str),d4,a4,k4):G4),(("w" : Str),d6,a6,k6)],FK g.2.2.1 g.2.2.2 g.2.1∧g.2.2.1≤3:=fun g hgm=>by
    rcases List.mem_append.mp hgm with h1 | h1
    ·exact ⟨(hg g h1).1,(hg g h1).2.1⟩
    ·rcases List.mem_cons.mp h1 with rfl | h1
     ·exact ⟨f4,by show a4≤3;lia⟩
     ·obtain rfl:=List.mem_singleton.mp h1;exact ⟨f6,by show a6≤3;lia⟩
   have lg:gs.length≤5:=by
    have:=congrArg List.length e1;rw [List.length_map] at this;lia
   refine sj e2 sub7 hg' (by rw [List.length_append];simp only [List.length_cons,List.length_nil];lia) ?_;rw [List.map_append,pH];have hs:=oA (b:=cb 2) (l:=gs.map (·.2.2.2)) fun n hn=>by
    obtain ⟨g,h,rfl⟩:=List.mem_map.mp hn;exact (hg g h).2.2
   rw [List.length_map] at hs;have h2:=Nat.mul_le_mul_right (cb 2) lg;have e5:5*cb 2=35:=by decide
   have c0:cb 0=1:=rfl;show _+(k4+(k6+0))+1≤40;lia
  ·rcases List.mem_append.mp hf with h1 | h1
   ·exact (gk f h1).2
   ·rcases List.mem_cons.mp h1 with rfl | h1
    ·exact (g4 2).2
    ·obtain rfl:=List.mem_singleton.mp h1;exact (g6 2).2
 ·refine ⟨_,rfl,q v2 _ c2 H2 B2 r2 hv2 ⟨?_,kQ sub as5 nm5 (by decide) fun f hf=>(gk f hf).2⟩⟩;obtain ⟨a,c',fk,ha,hc⟩:=oB sub as5 nm5 (by decide) gk;have e5:5*cb 2+1≤40:=by decide
  have hc':c'≤5*cb 2+1:=hc;exact ⟨a,c',fk,by lia,by lia⟩
theorem wc {K:PySem.W.Frag} {H:Hp} {i:Int} {v:V} (h:IsP K H (.int i) v):v=.int i:=by cases h;rfl
def okC (c:Nat):Bool:=decide (32≤c) && decide (c≤126) && !decide (c=34) && !decide (c=37)
def okT (z:Str):Prop:=∀ c∈z.cps.toList,okC c=true
theorem pI (c:Nat):(⟨#[c]⟩:Str).length=1:=rfl
theorem ue (a b:Str):(a++b).cps.toList=a.cps.toList++b.cps.toList:=Array.toList_append
theorem xH {z:Str} {d:Int} (h0:0≤d) (h1:d < (z.length:Int)):∃ c,c∈z.cps.toList∧atI z.cps.toList d=some c:=uc (xs:=z.cps.toList) (d:=d) h0 (by simpa [Str.length] using h1)
def bQ:List Dt→Str→Option Dt
 | .tup [.str n,k] :: r,z=>if n=z then some k else bQ r z
 | _,_=>none
theorem au (z:Str):∀ fs:List (Str×Dt),bQ (fs.map prD) z=lookS fs z
 | []=>rfl
 | (n,k) :: fs=>by
  show (if n=z then some k else bQ (fs.map prD) z)=_;rw [au z fs]
  by_cases h:n=z <;> simp [lookS,h]
def keyD (v:Dt) (z:Str):Dt:=match v with
 | .tup [_,.tup l]=>(bQ l z).getD .non
 | _=>.non
def kD:Key→Dt
 | .inl i=>.int i
 | .inr z=>.str z
def Asc (l:List Dt):Prop:=(∃ ns:List Int,l=ns.map Dt.int∧ns.Pairwise (· < ·))∨∃ ss:List Str,l=ss.map Dt.str∧ss.Pairwise ltS
inductive FV:Dt→Dt→Prop
 | number {i j x:Int}:i≤x→x≤j→FV (.tup [.str "number",.int i,.int j]) (.int x)
 | text {i:Int} {z:Str}:(z.length:Int)≤i→okT z→FV (.tup [.str "text",.int i]) (.str z)
 | choice {ws:List Str} {z:Str}:z∈ws→FV (.tup [.str "choice",.tup (ws.map Dt.str)]) (.str z)
 | list {k:Dt} {i:Int} {vs:List Dt}:(∀ v∈vs,FV k v)→(vs.length:Int)≤i→FV (.tup [.str "list",k,.int i]) (.tup [.str "list",.tup vs])
 | rows {k:Dt} {z:Str} {i:Int} {vs:List Dt}:(∀ v∈vs,FV k v)→(vs.length:Int)≤i→Asc (vs.map fun v=>keyD v z)→FV (.tup [.str "rows",.str z,k,.int i]) (.tup [.str "rows",.tup vs])
 | rcd {fs gs:List (Str×Dt)}:gs.map (·.1)=fs.map (·.1)→(∀ (i:Nat) (f g:Str×Dt),fs[i]?=some f→gs[i]?=some g→FV f.2 g.2)→FV (.tup [.str "record",.tup (fs.map prD)]) (.tup [.str "record",.tup (gs.map prD)])
def jj (_:PySem.W.Frag) (_:Ads):Sp:=fun vs H Q _=>∃ (r:Addr) (c i j:Int),vs=[.ref r,.int i,.int j]∧H r=some (.lst [.int c])∧-1000000000000000000000000000000≤i∧i≤j∧j≤1000000000000000000000000000000∧∀ x c' H',But r H H'→H' r=some (.lst [.int c'])→i≤x→x≤j→Q (.int x) H'
def m3 (_:PySem.W.Frag) (_:Ads):Sp:=fun vs H Q _=>∃ (r:Addr) (c i:Int),vs=[.ref r,.int i]∧H r=some (.lst [.int c])∧0≤i∧i≤60∧∀ z c' H',But r H H'→H' r=some (.lst [.int c'])→((z:Str).length:Int)≤i→okT z→Q (.str z) H'
theorem jk (T:Tx K mg ad) {f:Addr} {fd:FuncData} (F:Gn K mg "_law_number" dP ["row","low","high"] f fd):FnOk P w K mg base CX0 2 f fd ["row","low","high"] (jj K ad):=by
 obtain ⟨_,_,yu⟩:=T.law_digit;have yv:=aS (P:=P) (w:=w) (base:=base) T yu;refine F.F.ok fG (fun vs H Q E h=>?_) (fun cdv A outer s H vs Q E hr h=>?_)
 ·obtain ⟨r,c,i,j,rfl,_⟩:=h
  rfl
 obtain ⟨r,c,i,j,rfl,hr0,h1,h2,h3,q⟩:=h;refine ⟨_,(@pss_cons _ _ _ _ _ (@ps_set _ _ 3 _ _ _ _ fG.nd rfl (Or.inl rfl) (pcl yu yv (hr.mono (by lia)) rfl (@pa2 _ _ _ _ _ (pv 0) pe_int (by rfl) (by rfl))) (by rfl) (by first | exact .inl rfl | exact .inr rfl | assumption)) (@pss_cons _ _ _ _ _ (@ps_if _ _ _ _ _ _ _ _ (pt_cmpR op_eq (pv 3) pe_int (nomark _)) (@pss_one _ _ _ (@ps_ret _ _ _ _ (pv 1))) pss_nil) (@pss_cons _ _ _ _ _ (@ps_if _ _ _ _ _ _ _ _ (pt_cmpR op_eq (pv 3) pe_int (nomark _)) (@pss_one _ _ _ (@ps_ret _ _ _ _ (pv 2))) pss_nil) (@pss_one _ _ _ (@ps_ret _ _ _ _ (@pe_op _ _ _ _ _ _ _ _ bS (pv 1) (pcl yu yv (hr.mono (by lia)) rfl (@pa2 _ _ _ _ _ (pv 0) (@pe_op _ _ _ _ _ _ _ _ bS (@pe_op _ _ _ _ _ _ _ _ op_sub (pv 2) (pv 1)) pe_int) (by rfl) (by rfl))))))))),?_⟩;refine ⟨_,rfl,r,c,6,rfl,hr0,by decide,by decide,?_⟩;refine ⟨_,rfl,rfl,_,rfl,?_⟩;refine cp (fun c1=>⟨_,rfl,q i _ _ But.put aa (Int.le_refl _) h2⟩) (fun c1=>?_);refine ⟨_,rfl,rfl,_,rfl,?_⟩;refine cp (fun c2=>⟨_,rfl,q j _ _ But.put aa h2 (Int.le_refl _)⟩) (fun c2=>?_);obtain ⟨d0,d1⟩:=bU (c / 6) (m:=j - i+1) (by lia);refine ⟨_,rfl,_,rfl,_,rfl,_,rfl,_,_,rfl,rfl,_,_,rfl,rfl,r,_,_,rfl,aa,by lia,by lia,_,_,rfl,rfl,?_⟩;exact q _ _ _ (But.put.trans But.put) aa (by lia) (by lia)
theorem yi (i c:Int) (h1:0≤i) (h2:i≤60):(0:Int)≤(if c % 6 < i then c % 6 else i)∧(if c % 6 < i then c % 6 else i)≤5∧(if c % 6 < i then c % 6 else i)≤i:=by
 have:=bU c (m:=6) (by decide)
 split <;> lia
theorem we:∀ c∈(Str.ofString "a-|170 b").cps.toList,okC c=true:=by decide +kernel
theorem m4 (T:Tx K mg ad) {f:Addr} {fd:FuncData} (F:Gn K mg "_law_text" fZ ["row","most"] f fd):FnOk P w K mg base CX0 2 f fd ["row","most"] (m3 K ad):=by
 obtain ⟨_,_,yu⟩:=T.law_digit;have yv:=aS (P:=P) (w:=w) (base:=base) T yu;refine F.F.ok cR (fun vs H Q E h=>?_) (fun cdv A outer s H vs Q E hr h=>?_)
 ·obtain ⟨r,c,i,rfl,_⟩:=h
  rfl
 obtain ⟨r,c,i,rfl,hr0,h1,h2,q⟩:=h;refine ⟨_,(@pss_cons _ _ _ _ _ (@ps_set _ _ 2 _ _ _ _ cR.nd rfl (Or.inl rfl) pe_str (by rfl) (by first | exact .inl rfl | exact .inr rfl | assumption)) (@pss_cons _ _ _ _ _ (ps_for PassesOwn.never rfl (eU rfl T.z_range (@pa1 _ _ _ (pe_callB (jv rfl) rfl T.z_min boot_min (@pa2 _ _ _ _ _ (pv 1) (pcl yu yv (hr.mono (by lia)) rfl (@pa2 _ _ _ _ _ (pv 0) pe_int (by rfl) (by rfl))) (by rfl) (by rfl))) (by rfl))) (ah (i:=3) cR.nd rfl (Or.inl rfl))
    (@pss_one _ _ _ (@ps_set _ _ 2 _ _ _ _ cR.nd rfl (Or.inl rfl) (@pe_op _ _ _ _ _ _ _ _ nM (pv 2) (@cv _ _ _ _ _ _ _ vj pe_str (pcl yu yv (hr.mono (by lia)) rfl (@pa2 _ _ _ _ _ (pv 0) pe_int (by rfl) (by rfl))) (fun _ _=>rfl))) (by rfl) (by first | exact .inl rfl | exact .inr rfl | assumption)))) (@pss_one _ _ _ (@ps_ret _ _ _ _ (pv 2))))),?_⟩
 obtain ⟨k0,k1,k2⟩:=yi i c h1 h2;refine ⟨_,rfl,_,rfl,r,c,6,rfl,hr0,by decide,by decide,_,_,rfl,_,rfl,by lia,by lia,gN (lo:=0) (n:=(if c % 6 < i then c % 6 else i).toNat) (fun k σ H'=>∃ z n' v,σ=[some (.ref r),some (.int i),some (.str z),v]∧z.length≤k∧okT z∧But r H H'∧H' r=some (.lst [.int n'])) ⟨"",_,_,rfl,by decide,(fun c hc=>by cases (show c∈([]:List Nat) from hc)),But.put,aa⟩ ?_ ?_⟩
 ·rintro k σ H' hk ⟨z,n',v,rfl,hz,oz,b,e⟩;obtain ⟨g0,g1⟩:=bU n' (m:=8) (by decide);obtain ⟨ch,mc,hc⟩:=xH (z:= "a-|170 b") (d:=n' % 8) g0 (by exact g1);refine ⟨_,rfl,_,rfl,r,n',8,rfl,e,by decide,by decide,_,_,_,rfl,rfl,(by decide +kernel),hc,_,_,rfl,rfl,?_,?_⟩
  ·rw [pI];exact Nat.le_of_lt (ag (by lia))
  ·refine ⟨_,_,_,rfl,?_,?_,b.trans But.put,aa⟩
   ·rw [Str.length_append,pI];lia
   ·intro c' hc';rw [ue] at hc';rcases List.mem_append.mp hc' with h | h
    ·exact oz c' h
    ·obtain rfl:c'=ch:=by simpa using h
     exact we _ mc
 ·rintro σ H' ⟨z,n',v,rfl,hz,oz,b,e⟩;exact ⟨_,rfl,q z n' H' b e (by lia) oz⟩
def kW (K:PySem.W.Frag) (n:Nat):Sp:=fun vs H Q _=>∃ (r:Addr) (c:Int) (a ct:Nat) (d:Dt) (x:V),a≤n∧vs=[.ref r,x]∧H r=some (.lst [.int c])∧IsP K H d x∧FK a ct d∧∀ (v:V) (e:Dt) (c':Int) (H':Hp),But r H H'→H' r=some (.lst [.int c'])→IsP K H' e v→FV d e→Q v H'
def sn (K:PySem.W.Frag) (n:Nat):Sp:=fun vs H Q _=>∃ (r:Addr) (c:Int) (fs:List (Str×Dt)) (x:V),vs=[.ref r,x]∧H r=some (.lst [.int c])∧IsP K H (.tup [.str "record",.tup (fs.map prD)]) x∧(∀ f∈fs,∃ a ct,a≤n∧FK a ct f.2)∧fs.length≤8 ∧
 ∀ (v:V) (gs:List (Str×Dt)) (c':Int) (H':Hp),But r H H'→H' r=some (.lst [.int c'])→IsP K H' (.tup [.str "record",.tup (gs.map prD)]) v→gs.map (·.1)=fs.map (·.1)→(∀ (i:Nat) (f g:Str×Dt),fs[i]?=some f→gs[i]?=some g→FV f.2 g.2)→Q v H'
theorem kX (T:Tx K mg ad) {f fk:Addr} {fd fdk:FuncData} (n:Nat) (F:Gn K mg "_law_pairs" bJ ["row","kind"] f fd) (yC:Gn K mg "_law_value" bu ["row","kind"] fk fdk)
  (yM:FnOk P w K mg base CX0 (2*n+3) fk fdk ["row","kind"] (kW K n)):FnOk P w K mg base CX0 (2*n+3+1) f fd ["row","kind"] (sn K n):=by
 refine F.F.ok lW (fun vs H Q E h=>?_) (fun cdv A outer s H vs Q E hr h=>?_)
 ·obtain ⟨r,c,fs,x,rfl,_⟩:=h
  rfl
 obtain ⟨r,c,fs,x,rfl,hr0,hd,gk,hl,q⟩:=h;refine ⟨_,(@pss_one _ _ _ (@ps_ret _ _ _ _ (@aj _ K _ _ _ _ rfl (@pa2 _ _ _ _ _ pe_str (bh (a8 (K:=K) rfl) rfl T.z_tuple boot_tuple (@pa1 _ _ _ (aZ rfl (csR (sc:=ac bJ) (NL:=["name","one"]) (N:=["row","kind"]) (ρ:=[0]) (N':=["name","one","row"]) rfl rfl rfl (by decide +kernel) (by decide +kernel) (by decide +kernel) rfl (by decide +kernel)) (pi_tupN (K:=K) rfl (@pi1 K _ _ _ _ _ _ _ rfl (pv 1))) (fun _ _ _ _=>(bL (K:=K) (n:=2) rfl rfl (am (ah (i:=0) (show List.Nodup (α:=Str) ["name","one","row"] by decide +kernel) rfl (Or.inl rfl)) (am (ah (i:=1) (show List.Nodup (α:=Str) ["name","one","row"] by decide +kernel) rfl (Or.inl rfl)) aG)))) (fun _ _ _ _=>(aj (K:=K) rfl (@pa2 _ _ _ _ _ (pv 0) (pcl yC yM (hr.mono (by lia)) rfl (@pa2 _ _ _ _ _ (pv 2) (pv 1) (by rfl) (by rfl))) (by rfl) (by rfl))))) (by rfl))) (by rfl) (by rfl))))),?_⟩;refine ⟨_,rfl,_,_,_,hd,rfl,rfl,fun v hv=>?_⟩;obtain ⟨a,xs,rfl,ha,pa,ra⟩:=hv.unref;have el:=ra.length;rw [List.length_map] at el;have nar:a≠r:=by
  obtain ⟨o,u,e,_⟩:=pa;exact gj e hr0 (by intro c;cases c)
 refine ⟨a,rfl,⟨xs,ha⟩,fun l hln=>?_⟩;have nlr:r≠l:=ae hr0 hln;refine bF (K:=K) (xs:=xs) (fun i ys σ H'=>∃ (gs:List (Str×Dt)) (c':Int),But r H H'∧H' r=some (.lst [.int c'])∧H' l=some (.lst ys)∧IsPs K H' (gs.map prD) ys∧gs.map (·.1)=(fs.take i).map (·.1)∧(∀ (i:Nat) (f g:Str×Dt),fs[i]?=some f→gs[i]?=some g→FV f.2 g.2)∧∃ v1 v2,σ=[v1,v2,some (.ref r)])
  ⟨[],c,But.same (ab hln _),(by rw [af nlr];exact hr0),aa,.nil,rfl,(by intro i f g _ e;simp at e),none,none,rfl⟩ (fun i ys σ H' _ p=>by
   obtain ⟨_,_,b,_⟩:=p;exact b.tup nar ha) ?_ ?_
 ·rintro i u ys σ H1 N hu ⟨gs,c',b1,e1,e2,hp,en,gv,v1,v2,rfl⟩ next;have hi:i < fs.length:=by
   rw [el];exact (List.getElem?_eq_some_iff.mp hu).1
  obtain ⟨e,he,hx⟩:=ra.get' hu;rw [List.getElem?_map] at he;obtain ⟨⟨w',d'⟩,hf,rfl⟩:=Option.map_eq_some_iff.mp he;have lg:gs.length=i:=by
   have:=congrArg List.length en;simp only [List.length_map,List.length_take] at this;lia
  have ly:ys.length=i:=by rw [← hp.length,List.length_map,lg]
  obtain ⟨b,zs,rfl,hb,pb,rb⟩:=hx.unref;have nbr:b≠r:=by
   obtain ⟨o,u,e,_⟩:=pb;exact gj e hr0 (by intro c;cases c)
  cases rb with
  | cons r1 rb =>
   cases rb with
   | @cons _ _ y2 _ r2 rb =>
    cases rb
    obtain rfl:=ar r1;refine ⟨b,_,rfl,b1.tup nbr hb,rfl,_,_,rfl,_,_,rfl,rfl,?_⟩;obtain ⟨fa,fc,fle,ffk⟩:=gk _ (List.mem_of_getElem? hf);refine ⟨_,rfl,_,rfl,_,rfl,r,c',fa,fc,d',y2,fle,rfl,e1,r2.but hr0 b1,ffk,fun v e c2 H2 b2 e3 hv2 g2=>?_⟩;refine ⟨[.str w',e],.cons .str (.cons hv2 .nil),sz2,fun v4 H4 g4 hv4=>?_⟩;have f2:=b2 _ _ nlr.symm e2;have f4:=g4 _ _ f2;have b5:But l H4 (upd H4 l (.lst (ys++[v4]))):=But.put;refine ⟨f4,ag (by lia),next _ _ _ ⟨gs++[(w',e)],c2,fun x o nx ex=>?_,?_,aa,?_,?_,fun j f g hjf hjg=>?_,_,_,rfl⟩⟩
    ·rw [af (ae ex hln)];exact g4 _ _ (b2 x o nx (b1 x o nx ex))
    ·rw [af nlr];exact g4 _ _ e3
    ·rw [List.map_append];exact (((hp.but e1 b2).same g4).but f4 b5).append (.cons (hv4.but f4 b5) .nil)
    ·rw [List.map_append,en,List.take_add_one,hf,List.map_append]
     rfl
    ·by_cases hj:j < gs.length
     ·rw [List.getElem?_append_left hj] at hjg;exact gv j f g hjf hjg
     ·rw [List.getElem?_append_right (by lia)] at hjg;have hj2:j=i:=by
       have:=(List.getElem?_eq_some_iff.mp hjg).1;simp only [List.length_cons,List.length_nil] at this;lia
      subst hj2;rw [lg,Nat.sub_self] at hjg;obtain rfl:(w',e)=g:=by simpa using hjg
      rw [hf] at hjf;obtain rfl:=Option.some.inj hjf;exact g2
 ·rintro ys σ H1 ⟨gs,c',b1,e1,e2,hp,en,gv,v1,v2,rfl⟩;refine ⟨l,ys,_,rfl,SqL.of e2,hp,fun v2 H2 g2 hv2=>?_⟩;refine ⟨[.str "record",.tup (List.map prD gs)],.cons .str (.cons hv2 .nil),sz2,fun v H3 g3 hv=>?_⟩;refine q v gs c' H3 ((b1.trans (But.same g2)).trans (But.same g3)) (g3 _ _ (g2 _ _ e1)) hv ?_ gv;rw [en,← el,List.take_length]
theorem sq {kvs:List (Key×V)} {k:Key} {v:V}:(bK kvs k v).map (·.1)=kvs.map (·.1)∨(bK kvs k v).map (·.1)=kvs.map (·.1)++[k]:=by
 unfold bK
 split
 ·refine .inl ?_;rw [List.map_map];refine List.map_congr_left fun p _=>?_;show (if p.1=k then (p.1,v) else p).1=p.1
  split <;> rfl
 ·exact .inr (by rw [List.map_append];rfl)
theorem fQ {k:Key}:∀ {kvs:List (Key×V)},k∈kvs.map (·.1)→∃ v,aK kvs k=some v
 | [],h=>by cases h
 | p :: r,h=>by
  by_cases e:p.1=k
  ·exact ⟨_,bc e⟩
  ·rw [bd e];refine fQ ?_;rcases List.mem_cons.mp (show k∈p.1 :: r.map (·.1) from h) with h | h
   ·exact absurd h.symm e
   ·exact h
theorem gX {z:Str} {kk:Dt}:∀ {fs gs:List (Str×Dt)},gs.map (·.1)=fs.map (·.1)→(∀ (i:Nat) (f g:Str×Dt),fs[i]?=some f→gs[i]?=some g→FV f.2 g.2)→lookS fs z=some kk→∃ e,lookS gs z=some e∧FV kk e
 | [],_,_,_,h=>by simp [lookS] at h
 | f :: fs,[],e,_,_=>by simp at e
 | f :: fs,g :: gs,e,gv,h=>by
  have e1:g.1=f.1:=(List.cons.inj (show g.1 :: gs.map (·.1)=f.1 :: fs.map (·.1) from e)).1;have e2:gs.map (·.1)=fs.map (·.1):=(List.cons.inj (show g.1 :: gs.map (·.1)=f.1 :: fs.map (·.1) from e)).2
  by_cases hz:f.1=z
  ·have h':lookS (f :: fs) z=some f.2:=by simp [lookS,hz]
   rw [h'] at h;obtain rfl:=Option.some.inj h;exact ⟨g.2,by simp [lookS,e1,hz],gv 0 f g rfl rfl⟩
  ·have h':lookS (f :: fs) z=lookS fs z:=by simp [lookS,hz]
   rw [h'] at h;obtain ⟨d,h1,h2⟩:=gX e2 (fun i a b ha hb=>gv (i+1) a b (by simpa using ha) (by simpa using hb)) h;refine ⟨d,?_,h2⟩;rw [← h1];simp [lookS,e1,hz]
theorem xI {d e:Dt} (h:FV d e):jg d→((∃ i j:Int,d=.tup [.str "number",.int i,.int j])∧∃ x,e=.int x)∨((∃ i:Int,d=.tup [.str "text",.int i])∧∃ z,e=.str z):=by
 cases h with
 | number _ _=>exact fun _=>.inl ⟨⟨_,_,rfl⟩,_,rfl⟩
 | text _ _=>exact fun _=>.inr ⟨⟨_,rfl⟩,_,rfl⟩
 | list _ _ =>
  rintro (⟨i,j,e⟩ | ⟨i,e⟩)
  ·simp at e;exact absurd e.1 (by decide)
  ·simp at e
 | choice _=>rintro (⟨i,j,e⟩ | ⟨i,e⟩) <;> simp at e
 | rows _ _ _=>rintro (⟨i,j,e⟩ | ⟨i,e⟩) <;> simp at e
 | rcd _ _=>rintro (⟨i,j,e⟩ | ⟨i,e⟩) <;> simp at e
mutual
theorem eh {K:PySem.W.Frag} {H H':Hp} {p:Addr} {kvs:List (Key×V)} (hp:H p=some (.dK kvs)) (g:But p H H'):∀ {d:Dt} {v:V},IsP K H d v→IsP K H' d v
 | _,_,.non=>.non
 | _,_,.bl=>.bl
 | _,_,.int=>.int
 | _,_,.str=>.str
 | _,_,.tup h pl q=>.tup (g.tup (by obtain ⟨o,u,e,dn⟩:=pl;exact gj e hp (by intro c;cases c)) h) (by
   obtain ⟨o,u,e,dn⟩:=pl;exact ⟨o,u,g _ _ (gj e hp (by intro c;cases c)) e,dn⟩) (gY hp g q)
theorem gY {K:PySem.W.Frag} {H H':Hp} {p:Addr} {kvs:List (Key×V)} (hp:H p=some (.dK kvs)) (g:But p H H'):∀ {l:List Dt} {xs:List V},IsPs K H l xs→IsPs K H' l xs
 | _,_,.nil=>.nil
 | _,_,.cons h q=>.cons (eh hp g h) (gY hp g q)
end
def KeysOf (kk:Dt) (ks:List Key):Prop:=((∃ i j:Int,kk=.tup [.str "number",.int i,.int j])∧∃ ns:List Int,ks=ns.map Sum.inl)∨((∃ i:Int,kk=.tup [.str "text",.int i])∧∃ ss:List Str,ks=ss.map Sum.inr)
theorem KeysOf.nil {kk:Dt} (h:jg kk):KeysOf kk []:=by
 rcases h with h | h
 ·exact .inl ⟨h,[],rfl⟩
 ·exact .inr ⟨h,[],rfl⟩
theorem uf {kk e:Dt} (h:FV kk e) (hk:jg kk):∃ k:Key,(∀ (K:PySem.W.Frag) (H:Hp) (v:V),IsP K H e v→v=kV k)∧(∀ ks,KeysOf kk ks→KeysOf kk (ks++[k]))∧e=kD k:=by
 rcases xI h hk with ⟨a,x,rfl⟩ | ⟨a,z,rfl⟩
 ·refine ⟨.inl x,fun K H v h=>wc h,fun ks k=>?_,rfl⟩;rcases k with ⟨_,ns,rfl⟩ | ⟨⟨i,b⟩,_⟩
  ·exact .inl ⟨a,ns++[x],by rw [List.map_append];rfl⟩
  ·obtain ⟨i',j',a⟩:=a;rw [a] at b;simp at b
 ·refine ⟨.inr z,fun K H v h=>ar h,fun ks k=>?_,rfl⟩;rcases k with ⟨⟨i,j,b⟩,_⟩ | ⟨_,ss,rfl⟩
  ·obtain ⟨i',a⟩:=a;rw [a] at b;simp at b
  ·exact .inr ⟨a,ss++[z],by rw [List.map_append];rfl⟩
theorem qC {kvs:List (Key×V)} {k:Key} {v:V} (h:(kvs.map (·.1)).Nodup):((bK kvs k v).map (·.1)).Nodup:=by
 unfold bK
 split
 ·rw [List.map_map];have:(kvs.map ((fun x:Key×V=>x.1) ∘ fun kv=>if kv.1=k then (kv.1,v) else kv))=kvs.map (·.1):=List.map_congr_left fun p _=>by
   show (if p.1=k then (p.1,v) else p).1=p.1
   split <;> rfl
  rw [this];exact h
 ·rename_i a
  rw [List.map_append];refine List.nodup_append.mpr ⟨h,by simp,fun x hx y hy=>?_⟩;obtain rfl:y=k:=by simpa using hy
  rintro rfl;obtain ⟨p,hp,rfl⟩:=List.mem_map.mp hx;exact a (List.any_eq_true.mpr ⟨p,hp,decide_eq_true rfl⟩)
theorem bE {α β:Type} {f:α→β} (hf:∀ a b,f a=f b→a=b):∀ {l:List α},l.Nodup→(l.map f).Nodup
 | [],_=>List.nodup_nil
 | a :: l,h=>by
  have h':=List.nodup_cons.mp h;refine List.nodup_cons.mpr ⟨fun c=>?_,bE hf h'.2⟩;obtain ⟨b,hb,e⟩:=List.mem_map.mp c;obtain rfl:=hf _ _ e;exact h'.1 hb
theorem sr:∀ a b:List Nat,Spec.ltCps a b=decide (a < b)
 | [],[]=>by simp [Spec.ltCps]
 | [],_ :: _=>by simp [Spec.ltCps]
 | _ :: _,[]=>by simp [Spec.ltCps]
 | a :: r,b :: t=>by
  have:=sr r t;simp only [Spec.ltCps,this,List.cons_lt_cons_iff]
  by_cases h1:a < b <;> by_cases h2:a=b <;> simp [h1,h2]
theorem wg {a b:Str} (h:a≠b):a.cps.toList≠b.cps.toList:=fun e=>h (by
 cases a with
 | mk x =>
  cases b with
  | mk y=>congr;exact Array.toList_inj.mp e)
theorem jN:∀ {l:List Str} {p:Str},risingS p l=true→(p :: l).Nodup→(p :: l).Pairwise ltS
 | [],p,_,_=>by simp
 | x :: r,p,h,nd=>by
  have h':(!Spec.ltCps x.cps.toList p.cps.toList && risingS x r)=true:=h;rw [Bool.and_eq_true] at h';have nd':=List.nodup_cons.mp nd;have ih:=jN h'.2 nd'.2;have hlt:¬ x.cps.toList < p.cps.toList:=by
   have:=h'.1;rw [sr] at this;intro c;rw [decide_eq_true c] at this
   cases this
  have px:p≠x:=fun e=>nd'.1 (by rw [e];exact List.mem_cons_self);have hl:ltS p x:=Std.lt_of_le_of_ne (List.not_lt.mp hlt) (wg px);refine List.pairwise_cons.mpr ⟨fun y hy=>?_,ih⟩;rcases List.mem_cons.mp hy with rfl | hy
  ·exact hl
  ·exact List.lt_trans hl ((List.pairwise_cons.mp ih).1 y hy)
theorem qD {l:List Str} (h:sortedS l=true) (nd:l.Nodup):l.Pairwise ltS:=by
 cases l with
 | nil=>exact .nil
 | cons x r=>exact jN h nd
theorem ug {l:List Int} (h:l.Pairwise (·≤·)) (nd:l.Nodup):l.Pairwise (· < ·):=by
 have:=h.and nd;exact this.imp fun {a b} h=>by
  have h1:=h.1;have h2:a≠b:=h.2;lia
theorem wj {a c:Nat} {d:Dt} (h:FK a c d):∀ w r,d=.tup (.str w :: r)→(w= "number" ∨w= "text")→jg d:=by
 intro w r e hw
 cases h with
 | text i=>exact .inr ⟨i,rfl⟩
 | number i j=>exact .inl ⟨i,j,rfl⟩
 | _ =>
  injection e with e
  injection e with e _
  injection e with e
  rw [← e] at hw;rcases hw with hw | hw <;> exact absurd hw (by decide)
theorem kY (T:Tx K mg ad) {f fk:Addr} {fd fdk:FuncData} (n:Nat) (yC:Gn K mg "_law_value" bu ["row","kind"] f fd) (zr:Gn K mg "_law_pairs" bJ ["row","kind"] fk fdk)
  (yM:FnOk P w K mg base CX0 (2*n+3) f fd ["row","kind"] (kW K n)) (zl:FnOk P w K mg base CX0 (2*n+4) fk fdk ["row","kind"] (sn K n)):FnOk P w K mg base CX0 (2*n+4+1) f fd ["row","kind"] (kW K (n+1)):=by
 obtain ⟨_,_,yu⟩:=T.law_digit;have yv:=aS (P:=P) (w:=w) (base:=base) T yu;obtain ⟨_,_,zj⟩:=T.law_number;have zF:=jk (P:=P) (w:=w) (base:=base) T zj;obtain ⟨_,_,zz⟩:=T.law_text;have zR:=m4 (P:=P) (w:=w) (base:=base) T zz;refine yC.F.ok cr (fun vs H Q E h=>?_) (fun cdv A outer s H vs Q E hr h=>?_)
 ·obtain ⟨r,c,a0,ct0,d,x,_,rfl,_⟩:=h
  rfl
 obtain ⟨r,c,a0,ct0,d,x,hle,rfl,hr0,hd,fk,q⟩:=h;refine ⟨_,(@pss_cons _ _ _ _ _ (@ps_if _ _ _ _ _ _ _ _ (pt_cmpR op_eq (@pi1 K _ _ _ _ _ _ _ rfl (pv 1)) pe_str (nomark _)) (@pss_one _ _ _ (@ps_ret _ _ _ _ (pcl zj zF (hr.mono (by lia)) rfl (@pa3 _ _ _ _ _ _ _ (pv 0) (@pi1 K _ _ _ _ _ _ _ rfl (pv 1)) (@pi1 K _ _ _ _ _ _ _ rfl (pv 1)) (by rfl) (by rfl) (by rfl))))) pss_nil) (@pss_cons _ _ _ _ _ (@ps_if _ _ _ _ _ _ _ _ (pt_cmpR op_eq (@pi1 K _ _ _ _ _ _ _ rfl (pv 1)) pe_str (nomark _)) (@pss_one _ _ _ (@ps_ret _ _ _ _ (pcl zz zR (hr.mono (by lia)) rfl (@pa2 _ _ _ _ _ (pv 0) (@pi1 K _ _ _ _ _ _ _ rfl (pv 1)) (by rfl) (by rfl))))) pss_nil) (@pss_cons _ _ _ _ _ (@ps_if _ _ _ _ _ _ _ _ (pt_cmpR op_eq (@pi1 K _ _ _ _ _ _ _ rfl (pv 1)) pe_str (nomark _)) (@pss_one _ _ _ (@ps_ret _ _ _ _ (@cv _ _ _ _ _ _ _ (mH (K:=K) rfl) (@pi1 K _ _ _ _ _ _ _ rfl (pv 1)) (pcl yu yv (hr.mono (by lia)) rfl (@pa2 _ _ _ _ _ (pv 0) (pe_callB (call_lenDN (K:=K) rfl) rfl T.z_len PySem.boot_len (@pa1 _ _ _ (@pi1 K _ _ _ _ _ _ _ rfl (pv 1)) (by rfl))) (by rfl) (by rfl))) (fun _ _=>rfl)))) pss_nil) (@pss_cons _ _ _ _ _ (@ps_if _ _ _ _ _ _ _ _ (pt_cmpR op_eq (@pi1 K _ _ _ _ _ _ _ rfl (pv 1)) pe_str (nomark _)) (@pss_one _ _ _ (@ps_ret _ _ _ _ (pcl zr zl (hr.mono (by lia)) rfl (@pa2 _ _ _ _ _ (pv 0) (pv 1) (by rfl) (by rfl))))) pss_nil) (@pss_cons _ _ _ _ _ (@ps_if _ _ _ _ _ _ _ _ (pt_cmpR op_eq (@pi1 K _ _ _ _ _ _ _ rfl (pv 1)) pe_str (nomark _)) (@pss_one _ _ _ (@ps_ret _ _ _ _ (@aj _ K _ _ _ _ rfl (@pa2 _ _ _ _ _ pe_str (bh (a8 (K:=K) rfl) rfl T.z_tuple boot_tuple (@pa1 _ _ _ (aZ rfl (csR (sc:=ac bu) (NL:=["k"]) (N:=["row","kind","items","k","item"]) (ρ:=[0,1]) (N':=["k","row","kind"]) rfl rfl rfl (by decide +kernel) (by decide +kernel) (by decide +kernel) rfl (by decide +kernel)) (eU rfl T.z_range (@pa1 _ _ _ (pcl yu yv (hr.mono (by lia)) rfl (@pa2 _ _ _ _ _ (pv 0) (@pe_op _ _ _ _ _ _ _ _ bS (@pi1 K _ _ _ _ _ _ _ rfl (pv 1)) pe_int) (by rfl) (by rfl))) (by rfl))) (fun _ _ _ _=>(ah (i:=0) (show List.Nodup (α:=Str) ["k","row","kind"] by decide +kernel) rfl (Or.inl rfl))) (fun _ _ _ _=>(pcl yC yM (hr.mono (by lia)) rfl (@pa2 _ _ _ _ _ (pv 1) (@pi1 K _ _ _ _ _ _ _ rfl (pv 2)) (by rfl) (by rfl))))) (by rfl))) (by rfl) (by rfl))))) pss_nil) (@pss_cons _ _ _ _ _ (@ps_set _ _ 2 _ _ _ _ cr.nd rfl (Or.inr rfl) mB (by rfl) (by first | exact .inl rfl | exact .inr rfl | assumption)) (@pss_cons _ _ _ _ _ (ps_for PassesOwn.never rfl (eU rfl T.z_range (@pa1 _ _ _ (pcl yu yv (hr.mono (by lia)) rfl (@pa2 _ _ _ _ _ (pv 0) (@pe_op _ _ _ _ _ _ _ _ bS (@pi1 K _ _ _ _ _ _ _ rfl (pv 1)) pe_int) (by rfl) (by rfl))) (by rfl))) (ah (i:=3) cr.nd rfl (Or.inl rfl))
    (@pss_cons _ _ _ _ _ (@ps_set _ _ 4 _ _ _ _ cr.nd rfl (Or.inl rfl) (pcl zr zl (hr.mono (by lia)) rfl (@pa2 _ _ _ _ _ (pv 0) (@pi1 K _ _ _ _ _ _ _ rfl (pv 1)) (by rfl) (by rfl))) (by rfl) (by first | exact .inl rfl | exact .inr rfl | assumption)) (@pss_one _ _ _ (tF (u1 hr.units) (pv 2) (o8 (u1 hr.units) (bh (mI (K:=K) rfl rfl) rfl T.z_dict boot_dict (@pa1 _ _ _ (@pi1 K _ _ _ _ _ _ _ rfl (pv 4)) (by rfl))) (@pi1 K _ _ _ _ _ _ _ rfl (pv 1)) (fun _ _=>rfl)) (pv 4) rfl)))) (@pss_one _ _ _ (@ps_ret _ _ _ _ (@aj _ K _ _ _ _ rfl (@pa2 _ _ _ _ _ pe_str (bh (a8 (K:=K) rfl) rfl T.z_tuple boot_tuple (@pa1 _ _ _ (aZ rfl (csR (sc:=ac bu) (NL:=["key"]) (N:=["row","kind","items","k","item"]) (ρ:=[2]) (N':=["key","items"]) rfl rfl rfl (by decide +kernel) (by decide +kernel) (by decide +kernel) rfl (by decide +kernel)) (aL (K:=K) rfl (pe_callB (mN rfl) rfl T.z_sorted boot_sorted (@pa1 _ _ _ (pv 2) (by rfl)))) (fun _ _ _ _=>(ah (i:=0) (show List.Nodup (α:=Str) ["key","items"] by decide +kernel) rfl (Or.inl rfl))) (fun _ _ _ _=>(o8 (u1 hr.units) (pv 1) (pv 0) (fun _ _=>rfl)))) (by rfl))) (by rfl) (by rfl)))))))))))),?_⟩
 cases fk with
 | number i j b1 b2 b3 =>
  refine ⟨_,rfl,_,_,_,hd,rfl,rfl,isS ?_⟩;refine ⟨rfl,_,rfl,aY ?_⟩;refine ⟨_,rfl,_,rfl,_,_,_,hd,rfl,rfl,isI ?_⟩;refine ⟨_,rfl,_,_,_,hd,rfl,rfl,isI ?_⟩;exact ⟨r,c,i,j,rfl,hr0,b1,b2,b3,fun x c' H' b e h1 h2=>q _ _ c' H' b e .int (.number h1 h2)⟩
 | text i b1 b2 =>
  refine ⟨_,rfl,_,_,_,hd,rfl,rfl,isS ?_⟩;refine ⟨rfl,_,rfl,iteN (ak (by decide)) ?_⟩;refine ⟨_,rfl,_,_,_,hd,rfl,rfl,isS ?_⟩;refine ⟨rfl,_,rfl,aY ?_⟩;refine ⟨_,rfl,_,rfl,_,_,_,hd,rfl,rfl,isI ?_⟩;exact ⟨r,c,i,rfl,hr0,b1,b2,fun z c' H' b e h1 h2=>q _ _ c' H' b e .str (.text h1 h2)⟩
 | choice ws hw =>
  obtain ⟨w1,w8,_,_⟩:=bM hw;refine ⟨_,rfl,_,_,_,hd,rfl,rfl,isS ?_⟩;refine ⟨rfl,_,rfl,iteN (ak (by decide)) ?_⟩;refine ⟨_,rfl,_,_,_,hd,rfl,rfl,isS ?_⟩;refine ⟨rfl,_,rfl,iteN (ak (by decide)) ?_⟩;refine ⟨_,rfl,_,_,_,hd,rfl,rfl,isS ?_⟩;refine ⟨rfl,_,rfl,aY ?_⟩;refine ⟨_,rfl,_,_,_,hd,rfl,rfl,fun v1 hv1=>?_⟩;refine ⟨_,rfl,_,rfl,_,_,_,hd,rfl,rfl,fun v2 hv2=>?_⟩;obtain ⟨d0,d1⟩:=bU c (m:=((ws.map Dt.str).length:Int)) (by rw [List.length_map];lia);obtain ⟨e,me,ee⟩:=uc (xs:=ws.map Dt.str) d0 d1;obtain ⟨z,hz,rfl⟩:=List.mem_map.mp me;exact ⟨v2,_,rfl,hv2.d,r,c,_,rfl,hr0,by rw [List.length_map];lia,by rw [List.length_map];lia,_,_,_,hv1.but hr0 But.put,rfl,ee,fun v hv=>q v _ _ _ But.put aa hv (.choice hz)⟩
 | @rcd gs0 h1 h2 h3 h4 =>
  have eg:gs0.map prG=(gs0.map nk).map prD:=by rw [List.map_map];rfl
  rw [eg] at hd q;refine ⟨_,rfl,_,_,_,hd,rfl,rfl,isS ?_⟩;refine ⟨rfl,_,rfl,iteN (ak (by decide)) ?_⟩;refine ⟨_,rfl,_,_,_,hd,rfl,rfl,isS ?_⟩;refine ⟨rfl,_,rfl,iteN (ak (by decide)) ?_⟩;refine ⟨_,rfl,_,_,_,hd,rfl,rfl,isS ?_⟩;refine ⟨rfl,_,rfl,iteN (ak (by decide)) ?_⟩;refine ⟨_,rfl,_,_,_,hd,rfl,rfl,fun v hv=>?_⟩;obtain rfl:=ar hv;refine ⟨rfl,_,rfl,aY ?_⟩;refine ⟨_,rfl,_,rfl,r,c,gs0.map nk,x,rfl,hr0,hd,fun f hf=>?_,by rw [List.length_map];exact h4,fun v gs c' H' b e hv en gv=>q v _ c' H' b e hv (.rcd en gv)⟩;obtain ⟨g,hg,rfl⟩:=List.mem_map.mp hf;have hm:g.2.2.1≤ix (gs0.map (·.2.2.1)):=gW (List.mem_map.mpr ⟨g,hg,rfl⟩);exact ⟨_,_,by lia,h1 g hg⟩
 | @list a' c0 k i g bb1 bb2 =>
  refine ⟨_,rfl,_,_,_,hd,rfl,rfl,isS ?_⟩;refine ⟨rfl,_,rfl,iteN (ak (by decide)) ?_⟩;refine ⟨_,rfl,_,_,_,hd,rfl,rfl,isS ?_⟩;refine ⟨rfl,_,rfl,iteN (ak (by decide)) ?_⟩;refine ⟨_,rfl,_,_,_,hd,rfl,rfl,isS ?_⟩;refine ⟨rfl,_,rfl,iteN (ak (by decide)) ?_⟩;refine ⟨_,rfl,_,_,_,hd,rfl,rfl,isS ?_⟩;refine ⟨rfl,_,rfl,iteN (ak (by decide)) ?_⟩;refine ⟨_,rfl,_,_,_,hd,rfl,rfl,isS ?_⟩;refine ⟨rfl,_,rfl,aY ?_⟩;refine ⟨_,rfl,_,rfl,_,_,_,hd,rfl,rfl,isI ?_⟩;obtain ⟨d0,d1⟩:=bU c (m:=i+1) (by lia);refine ⟨_,_,rfl,rfl,r,c,_,rfl,hr0,by lia,by lia,_,rfl,by lia,by lia,fun l hln=>?_⟩;have b0:But r H (upd H r (.lst [.int (c / (i+1))])):=But.put;have nlr:r≠l:=ae aa hln;refine mG (lo:=0) (n:=(c % (i+1)).toNat) (fun j ys σ H'=>∃ (es:List Dt) (c':Int),But r H H'∧H' r=some (.lst [.int c'])∧H' l=some (.lst ys)∧IsPs K H' es ys∧ys.length≤j∧(∀ e∈es,FV k e)∧∃ v1,σ=[v1,some (.ref r),some x])
   ⟨[],_,b0.trans (But.same (ab hln _)),(by rw [af nlr];exact aa),aa,.nil,Nat.le_refl _,(by intro e he;cases he),none,rfl⟩ ?_ ?_
  ·rintro j ys σ H1 N hj ⟨es,c',b1,e1,e2,hp,hle,gv,v1,rfl⟩ next;have hd1:=hd.but hr0 b1;refine ⟨_,rfl,_,rfl,_,_,_,hd1,rfl,rfl,fun v5 hv5=>?_⟩;refine ⟨r,c',a',c0,k,v5,by lia,rfl,e1,hv5,g,fun v e c2 H2 b2 e3 hv2 g2=>?_⟩;have f2:=b2 _ _ nlr.symm e2;have b5:But l H2 (upd H2 l (.lst (ys++[v]))):=But.put;refine ⟨f2,ag (by lia),next _ _ _ ⟨es++[e],c2,fun x o nx ex=>?_,?_,aa,?_,?_,fun e' he=>?_,_,rfl⟩⟩
   ·have n2:x≠l:=ae (b0 x o nx ex) hln;rw [af n2];exact b2 x o nx (b1 x o nx ex)
   ·rw [af nlr];exact e3
   ·exact ((hp.but e1 b2).but f2 b5).append (.cons (hv2.but f2 b5) .nil)
   ·rw [List.length_append];simp only [List.length_cons,List.length_nil];lia
   ·rcases List.mem_append.mp he with h1 | h1
    ·exact gv e' h1
    ·obtain rfl:=List.mem_singleton.mp h1;exact g2
  ·rintro ys σ H1 ⟨es,c',b1,e1,e2,hp,hle,gv,v1,rfl⟩;refine ⟨l,ys,_,rfl,SqL.of e2,hp,fun v2 H2 g2 hv2=>?_⟩;refine ⟨[.str "list",.tup es],.cons .str (.cons hv2 .nil),sz2,fun v H3 g3 hv=>?_⟩;refine q v _ c' H3 ((b1.trans (But.same g2)).trans (But.same g3)) (g3 _ _ (g2 _ _ e1)) hv (.list gv ?_);rw [hp.length];lia
 | @rows a' c0 z l0 i g hk bb1 bb2 =>
  obtain ⟨gs0,el0,ea0,ec0,gfk,gpw,gnm,gl8⟩:=rV g;have eg:l0=(gs0.map nk).map prD:=by rw [el0,List.map_map];rfl
  obtain ⟨wk,rk,mk,hwk,_⟩:=hk;have nd:((gs0.map nk).map (·.1)).Nodup:=by
   rw [List.map_map];exact gz gpw
  rw [el0] at mk;obtain ⟨g1,hg1,eg1⟩:=List.mem_map.mp mk;have e1':g1.1=z∧g1.2.1=.tup (.str wk :: rk):=by
   injection eg1 with eg1
   injection eg1 with x1 x2
   injection x2 with x2 _
   injection x1 with x1
   exact ⟨x1,x2⟩
  have kK:jg g1.2.1:=wj (gfk g1 hg1) wk rk e1'.2 hwk;have lk:lookS (gs0.map nk) z=some g1.2.1:=fP nd (List.mem_map.mpr ⟨g1,hg1,by rw [← e1'.1]⟩);have gf:∀ f∈gs0.map nk,∃ a ct,a≤n∧FK a ct f.2:=fun f hf=>by
   obtain ⟨g,hg,rfl⟩:=List.mem_map.mp hf;have hm:g.2.2.1≤ix (gs0.map (·.2.2.1)):=gW (List.mem_map.mpr ⟨g,hg,rfl⟩);exact ⟨_,_,by lia,gfk g hg⟩
  have hl8:(gs0.map nk).length≤8:=by rw [List.length_map];exact gl8
  subst eg
  revert kK lk gf hl8 nd
  clear el0 mk hg1 eg1 e1' gfk gpw gnm gl8 ec0
  generalize gs0.map nk=fs at hd q g
  generalize g1.2.1=kk
  intro nd kK lk gf hl8;refine ⟨_,rfl,_,_,_,hd,rfl,rfl,isS ?_⟩;refine ⟨rfl,_,rfl,iteN (ak (by decide)) ?_⟩;refine ⟨_,rfl,_,_,_,hd,rfl,rfl,isS ?_⟩;refine ⟨rfl,_,rfl,iteN (ak (by decide)) ?_⟩;refine ⟨_,rfl,_,_,_,hd,rfl,rfl,isS ?_⟩;refine ⟨rfl,_,rfl,iteN (ak (by decide)) ?_⟩;refine ⟨_,rfl,_,_,_,hd,rfl,rfl,isS ?_⟩;refine ⟨rfl,_,rfl,iteN (ak (by decide)) ?_⟩;refine ⟨_,rfl,_,_,_,hd,rfl,rfl,isS ?_⟩;refine ⟨rfl,_,rfl,iteN (ak (by decide)) ?_⟩;refine fun p hpn=>?_;have nrp:r≠p:=ae hr0 hpn;have g0:=ab hpn (.dK []);have r0:=g0 _ _ hr0;have hd0:=hd.same g0;refine ⟨_,rfl,_,rfl,_,_,_,hd0,rfl,rfl,isI ?_⟩;obtain ⟨d0,d1⟩:=bU c (m:=i+1) (by lia);have Bp:But r H (upd (upd H p (.dK [])) r (.lst [.int (c / (i+1))])):=(But.same g0).trans But.put;refine ⟨_,_,rfl,rfl,r,c,_,rfl,r0,by lia,by lia,_,rfl,by lia,by lia,gN (lo:=0) (n:=(c % (i+1)).toNat) (fun j σ H'=>∃ (kvs:List (Key×V)) (c':Int) (v3 v4:Option V),But r H H'∧H' r=some (.lst [.int c'])∧H' p=some (.dK kvs)∧kvs.length≤j∧KeysOf kk (kvs.map (·.1))∧(kvs.map (·.1)).Nodup ∧
    (∀ k v,aK kvs k=some v→∃ e,IsP K H' e v∧FV (.tup [.str "record",.tup (fs.map prD)]) e∧keyD e z=kD k)∧σ=[some (.ref r),some x,some (.ref p),v3,v4])
   ⟨[],_,none,none,Bp,aa,(by rw [af nrp.symm];exact aa),Nat.le_refl _,KeysOf.nil kK,List.nodup_nil,(by intro k v e;cases e),rfl⟩ ?_ ?_⟩
  ·rintro j σ H1 hj ⟨kvs,c',v3,v4,b1,e1,e2,hle,ko,ndk,vals,rfl⟩;have hd1:=hd.but hr0 b1;refine ⟨_,rfl,_,rfl,_,_,_,hd1,rfl,rfl,fun v5 hv5=>?_⟩;refine ⟨r,c',fs,v5,rfl,e1,hv5,gf,hl8,fun v gs c2 H2 b2 e3 hv2 en gv=>?_⟩;have hd2:=hd1.but e1 b2;have lg:gs.length=fs.length:=by
    have:=congrArg List.length en
    simpa using this
   refine ⟨_,rfl,_,rfl,_,rfl,_,_,_,hv2,rfl,rfl,fun v6 hv6=>?_⟩;refine ⟨v6,gs,rfl,hv6,by rw [en];exact nd,by lia,fun p7 H7 g7 dp=>?_⟩;refine ⟨_,rfl,_,_,_,hd2.same g7,rfl,rfl,isS ?_⟩;obtain ⟨kvs7,ep,k7⟩:=dp;obtain ⟨e9,l9,gv9⟩:=gX en gv lk;obtain ⟨v9,h9,hv9⟩:=(k7 z).2 e9 l9;obtain ⟨k,kv,kadd,ekd⟩:=uf gv9 kK;obtain rfl:=kv _ _ _ hv9;have f7:=g7 _ _ (b2 _ _ nrp.symm e2);refine ⟨p7,_,rfl,.inl ⟨kvs7,Sum.inr z,.inl ep,rfl,h9.symm⟩,p,_,rfl,DPut.k f7 (ag (by lia)),?_⟩;have b8:But p H7 (upd H7 p (.dK (bK kvs k v))):=But.put;refine ⟨bK kvs k v,c2,_,_,fun x o nx ex=>?_,?_,aa,Nat.le_trans (cm _ _ _) (by lia),?_,qC ndk,fun k' v' hk'=>?_,rfl⟩
   ·rw [af (ae ex hpn)];exact g7 _ _ (b2 x o nx (b1 x o nx ex))
   ·rw [af nrp];exact g7 _ _ e3
   ·rcases sq (kvs:=kvs) (k:=k) (v:=v) with h | h
    ·rw [h];exact ko
    ·rw [h];exact kadd _ ko
   ·rw [gr] at hk'
    split at hk'
    ·rename_i ekk
     subst ekk;obtain rfl:=Option.some.inj hk';refine ⟨_,eh f7 b8 (hv2.same g7),.rcd en gv,?_⟩;rw [← ekd];show (bQ (gs.map prD) z).getD .non=e9;rw [au,l9]
     rfl
    ·obtain ⟨e',h1,h2,h4⟩:=vals k' v' hk';exact ⟨e',eh f7 b8 ((h1.but e1 b2).same g7),h2,h4⟩
  ·rintro σ H1 ⟨kvs,c',v3,v4,b1,e1,e2,hle,ko,ndk,vals,rfl⟩;have hz8:kvs.length≤8:=by lia
   have lks:(kvs.map (·.1)).length=kvs.length:=List.length_map _;rcases ko with ⟨_,ns,ek⟩ | ⟨_,ss,ek⟩
   ·rw [ek,List.length_map] at lks;refine ⟨_,rfl,.inl ⟨p,kvs,ns,rfl,e2,ek,by lia,fun a ns' han perm srt=>?_⟩⟩;have ga:=ab han (.lst (ns'.map V.int));refine ⟨a,rfl,⟨_,SqL.of aa⟩,fun l hln=>?_⟩;refine aT (K:=K) (xs:=ns'.map V.int) (fun j ys σ H'=>∃ es:List Dt,Same (upd H1 a (.lst (ns'.map V.int))) H'∧H' l=some (.lst ys)∧IsPs K H' es ys∧ys.length≤j∧(∀ e∈es,FV (.tup [.str "record",.tup (fs.map prD)]) e)∧(es.map fun e=>keyD e z)=(ns'.take j).map Dt.int∧∃ v1,σ=[v1,some (.ref p)])
     ⟨[],ab hln _,aa,.nil,Nat.le_refl _,(by intro e he;cases he),rfl,none,rfl⟩ (fun j ys σ H' _ q=>by
      obtain ⟨_,s1,_⟩:=q;exact SqL.of (s1 _ _ aa)) ?_ ?_
    ·rintro j u ys σ H5 N hu ⟨es,s5,e5,hp5,hle5,gv5,ke5,v1,rfl⟩ next;have hj:j < ns'.length:=by
      have:=(List.getElem?_eq_some_iff.mp hu).1;rw [List.length_map] at this;exact this
     have ln:=perm.length_eq;rw [List.getElem?_map] at hu;obtain ⟨x0,hx0,rfl⟩:=Option.map_eq_some_iff.mp hu;have mem:(Sum.inl x0:Key)∈kvs.map (·.1):=by
      rw [ek];exact List.mem_map_of_mem (perm.mem_iff.mp (List.mem_of_getElem? hx0))
     obtain ⟨v0,hv0⟩:=fQ mem;obtain ⟨e0,he0,gv0,ek0⟩:=vals _ _ hv0;have e2':=s5 _ _ (ga _ _ e2);have b6:But l H5 (upd H5 l (.lst (ys++[v0]))):=But.put;refine ⟨_,rfl,_,rfl,p,v0,rfl,.inl ⟨kvs,Sum.inl x0,.inl e2',rfl,hv0.symm⟩,e5,ag (by lia),next _ _ _ ⟨es++[e0],fun x o ex=>?_,aa,?_,?_,fun e' he=>?_,?_,_,rfl⟩⟩
     ·rw [af (ae ex hln)];exact s5 _ _ ex
     ·exact (hp5.but e5 b6).append (.cons (((he0.same ga).same s5).but e5 b6) .nil)
     ·rw [List.length_append];simp only [List.length_cons,List.length_nil];lia
     ·rcases List.mem_append.mp he with h1 | h1
      ·exact gv5 e' h1
      ·obtain rfl:=List.mem_singleton.mp h1;exact gv0
     ·rw [List.map_append,ke5,← aB Dt.int hx0];show _++[keyD e0 z]=_;rw [ek0]
      rfl
    ·rintro ys σ H5 ⟨es,s5,e5,hp5,hle5,gv5,ke5,v1,rfl⟩;have ln:=perm.length_eq;refine ⟨l,ys,_,rfl,SqL.of e5,hp5,fun v6 H6 g6 hv6=>?_⟩;refine ⟨[.str "rows",.tup es],.cons .str (.cons hv6 .nil),sz2,fun v7 H7 g7 hv7=>?_⟩;refine q v7 _ c' H7 (((b1.trans (But.same ga)).trans (But.same s5)).trans ((But.same g6).trans (But.same g7))) (g7 _ _ (g6 _ _ (s5 _ _ (ga _ _ e1)))) hv7 (.rows gv5 ?_ ?_)
     ·rw [hp5.length];rw [List.length_map] at hle5;lia
     ·rw [ke5,List.length_map,List.take_length];have nd2:ns'.Nodup:=perm.nodup_iff.mpr (by
       have:=ndk;rw [ek] at this;exact List.Pairwise.of_map _ (fun a b h e=>h (e ▸ rfl)) this)
      exact .inl ⟨_,rfl,ug srt nd2⟩
   ·rw [ek,List.length_map] at lks;refine ⟨_,rfl,.inr ⟨p,kvs,ss,rfl,e2,ek,by lia,fun a ss' han perm srt=>?_⟩⟩;have ga:=ab han (.lst (ss'.map V.str));refine ⟨a,rfl,⟨_,SqL.of aa⟩,fun l hln=>?_⟩;refine aT (K:=K) (xs:=ss'.map V.str) (fun j ys σ H'=>∃ es:List Dt,Same (upd H1 a (.lst (ss'.map V.str))) H'∧H' l=some (.lst ys)∧IsPs K H' es ys∧ys.length≤j∧(∀ e∈es,FV (.tup [.str "record",.tup (fs.map prD)]) e)∧(es.map fun e=>keyD e z)=(ss'.take j).map Dt.str∧∃ v1,σ=[v1,some (.ref p)])
     ⟨[],ab hln _,aa,.nil,Nat.le_refl _,(by intro e he;cases he),rfl,none,rfl⟩ (fun j ys σ H' _ q=>by
      obtain ⟨_,s1,_⟩:=q;exact SqL.of (s1 _ _ aa)) ?_ ?_
    ·rintro j u ys σ H5 N hu ⟨es,s5,e5,hp5,hle5,gv5,ke5,v1,rfl⟩ next;have hj:j < ss'.length:=by
      have:=(List.getElem?_eq_some_iff.mp hu).1;rw [List.length_map] at this;exact this
     have ln:=perm.length_eq;rw [List.getElem?_map] at hu;obtain ⟨x0,hx0,rfl⟩:=Option.map_eq_some_iff.mp hu;have mem:(Sum.inr x0:Key)∈kvs.map (·.1):=by
      rw [ek];exact List.mem_map_of_mem (perm.mem_iff.mp (List.mem_of_getElem? hx0))
     obtain ⟨v0,hv0⟩:=fQ mem;obtain ⟨e0,he0,gv0,ek0⟩:=vals _ _ hv0;have e2':=s5 _ _ (ga _ _ e2);have b6:But l H5 (upd H5 l (.lst (ys++[v0]))):=But.put;refine ⟨_,rfl,_,rfl,p,v0,rfl,.inl ⟨kvs,Sum.inr x0,.inl e2',rfl,hv0.symm⟩,e5,ag (by lia),next _ _ _ ⟨es++[e0],fun x o ex=>?_,aa,?_,?_,fun e' he=>?_,?_,_,rfl⟩⟩
     ·rw [af (ae ex hln)];exact s5 _ _ ex
     ·exact (hp5.but e5 b6).append (.cons (((he0.same ga).same s5).but e5 b6) .nil)
     ·rw [List.length_append];simp only [List.length_cons,List.length_nil];lia
     ·rcases List.mem_append.mp he with h1 | h1
      ·exact gv5 e' h1
      ·obtain rfl:=List.mem_singleton.mp h1;exact gv0
     ·rw [List.map_append,ke5,← aB Dt.str hx0];show _++[keyD e0 z]=_;rw [ek0]
      rfl
    ·rintro ys σ H5 ⟨es,s5,e5,hp5,hle5,gv5,ke5,v1,rfl⟩;have ln:=perm.length_eq;refine ⟨l,ys,_,rfl,SqL.of e5,hp5,fun v6 H6 g6 hv6=>?_⟩;refine ⟨[.str "rows",.tup es],.cons .str (.cons hv6 .nil),sz2,fun v7 H7 g7 hv7=>?_⟩;refine q v7 _ c' H7 (((b1.trans (But.same ga)).trans (But.same s5)).trans ((But.same g6).trans (But.same g7))) (g7 _ _ (g6 _ _ (s5 _ _ (ga _ _ e1)))) hv7 (.rows gv5 ?_ ?_)
     ·rw [hp5.length];rw [List.length_map] at hle5;lia
     ·rw [ke5,List.length_map,List.take_length];have nd2:ss'.Nodup:=perm.nodup_iff.mpr (by
       have:=ndk;rw [ek] at this;exact List.Pairwise.of_map _ (fun a b h e=>h (e ▸ rfl)) this)
      exact .inr ⟨_,rfl,qD srt nd2⟩
theorem kZ (T:Tx K mg ad) {f fk:Addr} {fd fdk:FuncData} (V:Gn K mg "_law_value" bu ["row","kind"] f fd) (R:Gn K mg "_law_pairs" bJ ["row","kind"] fk fdk):∀ n,FnOk P w K mg base CX0 (2*n+3) f fd ["row","kind"] (kW K n)
 | 0=>ce fun vs H Q E z=>by obtain ⟨_,_,_,_,_,_,h,_,_,_,pk,_⟩:=z;have:=pk.pos;lia
 | n+1=>kY T n V R (kZ T V R n) (kX T n R V (kZ T V R n))
theorem su {d e:Dt} (h:FV d e):∀ i j:Int,d=.tup [.str "number",.int i,.int j]→∃ x,e=.int x∧i≤x∧x≤j:=by
 cases h with
 | number h1 h2 =>
  intro i j e;simp at e;obtain ⟨rfl,rfl⟩:=e;exact ⟨_,rfl,h1,h2⟩
 | _ =>
  intro i j e;simp at e <;> first | exact absurd e.1 (by decide) | exact absurd e (by decide)
theorem pJ {d e:Dt} (h:FV d e):∀ i:Int,d=.tup [.str "text",.int i]→∃ z,e=.str z∧(z.length:Int)≤i∧okT z:=by
 cases h with
 | text h1 h2 =>
  intro i e;simp at e;obtain rfl:=e;exact ⟨_,rfl,h1,h2⟩
 | _ =>
  intro i e;simp at e <;> first | exact absurd e.1 (by decide) | exact absurd e (by decide)
theorem iR:∀ {ws vs:List Str},ws.map Dt.str=vs.map Dt.str→ws=vs
 | [],[],_=>rfl
 | [],_ :: _,h=>by simp at h
 | _ :: _,[],h=>by simp at h
 | a :: ws,b :: vs,h=>by
  have h':=List.cons.inj (show Dt.str a :: ws.map Dt.str=Dt.str b :: vs.map Dt.str from h);rw [Dt.str.inj h'.1,iR h'.2]
theorem jO {d e:Dt} (h:FV d e):∀ ws:List Str,d=.tup [.str "choice",.tup (ws.map Dt.str)]→∃ z,e=.str z∧z∈ws:=by
 cases h with
 | @choice ws' z hz =>
  intro ws e;have e':ws'.map Dt.str=ws.map Dt.str:=by simpa using e
  obtain rfl:=iR e';exact ⟨_,rfl,hz⟩
 | _ =>
  intro ws e;simp at e <;> first | exact absurd e.1 (by decide) | exact absurd e (by decide)
theorem pK {d e:Dt} (h:FV d e):∀ (k:Dt) (i:Int),d=.tup [.str "list",k,.int i]→∃ vs,e=.tup [.str "list",.tup vs]∧(∀ v∈vs,FV k v)∧(vs.length:Int)≤i:=by
 cases h with
 | list h1 h2 =>
  intro k i e;simp at e;obtain ⟨rfl,rfl⟩:=e;exact ⟨_,rfl,h1,h2⟩
 | _ =>
  intro k i e;simp at e <;> first | exact absurd e.1 (by decide) | exact absurd e (by decide)
theorem pL {d e:Dt} (h:FV d e):∀ (k:Dt) (z:Str) (i:Int),d=.tup [.str "rows",.str z,k,.int i]→∃ vs,e=.tup [.str "rows",.tup vs]∧(∀ v∈vs,FV k v)∧(vs.length:Int)≤i∧Asc (vs.map fun v=>keyD v z):=by
 cases h with
 | rows h1 h2 h3 =>
  intro k z i e;simp at e;obtain ⟨rfl,rfl,rfl⟩:=e;exact ⟨_,rfl,h1,h2,h3⟩
 | _ =>
  intro k z i e;simp at e <;> first | exact absurd e.1 (by decide) | exact absurd e (by decide)
theorem gA:∀ {fs gs:List (Str×Dt)},fs.map prD=gs.map prD→fs=gs
 | [],[],_=>rfl
 | [],g :: gs,h=>by simp at h
 | f :: fs,[],h=>by simp at h
 | (a,b) :: fs,(c,d) :: gs,h=>by
  have h':=List.cons.inj (show prD (a,b) :: fs.map prD=prD (c,d) :: gs.map prD from h);have h1:=h'.1;simp only [prD,Dt.tup.injEq,List.cons.injEq,Dt.str.injEq,and_true] at h1;rw [gA h'.2,h1.1,h1.2]
theorem sv {d e:Dt} (h:FV d e):∀ fs:List (Str×Dt),d=.tup [.str "record",.tup (fs.map prD)]→∃ gs:List (Str×Dt),e=.tup [.str "record",.tup (gs.map prD)]∧gs.map (·.1)=fs.map (·.1)∧∀ (i:Nat) (f g:Str×Dt),fs[i]?=some f→gs[i]?=some g→FV f.2 g.2:=by
 cases h with
 | @rcd fs' gs en gv =>
  intro fs e;have e':fs'.map prD=fs.map prD:=by simpa using e
  obtain rfl:=gA e';exact ⟨gs,rfl,en,gv⟩
 | _ =>
  intro fs e;simp at e <;> first | exact absurd e.1 (by decide) | exact absurd e (by decide)
def ax (d:Dt) (z:Str):Option Dt:=match d with
 | .tup [.str w,.tup l]=>if w= "record" then bQ l z else none
 | _=>none
def stepD (d:Dt) (z:Str):Option Dt:=if z= "each" then ao d else ax d z
def al:Dt→List Str→Option Dt
 | d,[]=>some d
 | d,z :: q=>(stepD d z).bind fun e=>al e q
abbrev sD (q:List Str):Dt:=.tup (q.map Dt.str)
def sfk (K:PySem.W.Frag):Sp:=fun vs H Q _=>∃ (n:Nat) (d:Dt) (z:Str) (x:V),vs=[x,.str z]∧IsP K H d x∧SK n d∧ja K H (ax d z) Q
def sik (K:PySem.W.Frag):Sp:=fun vs H Q _=>∃ (n:Nat) (d:Dt) (x:V),vs=[x]∧IsP K H d x∧SK n d∧ja K H (ao d) Q
theorem oC {a b:Str} (h:a≠b):eqD (.str a) (.str b)=false:=by
 cases hc:eqD (.str a) (.str b) with
 | false=>rfl
 | true=>simp [eqD] at hc;exact absurd hc h
theorem fC (T:Tx K mg ad) {f:Addr} {fd:FuncData} (F:Gn K mg "item_kind" cO ["kind"] f fd):FnOk P w K mg base CX0 1 f fd ["kind"] (sik K):=by
 refine F.F.ok gK (fun vs H Q E h=>?_) (fun cdv A outer s H vs Q E hr h=>?_)
 ·obtain ⟨n,d,x,rfl,_⟩:=h
  rfl
 obtain ⟨n,d,x,rfl,hd,gk,q⟩:=h;refine ⟨_,(@pss_cons _ _ _ _ _ (@ps_if _ _ _ _ _ _ _ _ (pt_cmpR op_eq (@pi1 K _ _ _ _ _ _ _ rfl (pv 0)) pe_str (nomark _)) (@pss_one _ _ _ (@ps_ret _ _ _ _ (@pi1 K _ _ _ _ _ _ _ rfl (pv 0)))) pss_nil) (@pss_cons _ _ _ _ _ (@ps_if _ _ _ _ _ _ _ _ (pt_cmpR op_eq (@pi1 K _ _ _ _ _ _ _ rfl (pv 0)) pe_str (nomark _)) (@pss_one _ _ _ (@ps_ret _ _ _ _ (@pi1 K _ _ _ _ _ _ _ rfl (pv 0)))) pss_nil) (@pss_one _ _ _ (@ps_ret _ _ _ _ pe_non)))),?_⟩
 cases gk with
 | list g _ _ =>
  refine ⟨_,rfl,_,_,_,hd,rfl,rfl,isS ?_⟩;refine ⟨rfl,_,rfl,aY ⟨_,rfl,_,_,_,hd,rfl,rfl,fun v hv=>?_⟩⟩;exact q v hv
 | rows g _ _ _ _ =>
  refine ⟨_,rfl,_,_,_,hd,rfl,rfl,isS ?_⟩;refine ⟨rfl,_,rfl,iteN (ak (by decide)) ⟨_,rfl,_,_,_,hd,rfl,rfl,fun v hv=>?_⟩⟩;obtain rfl:=ar hv;refine ⟨rfl,_,rfl,aY ⟨_,rfl,_,_,_,hd,rfl,rfl,fun v hv=>?_⟩⟩;exact q v hv
 | _ =>
  refine ⟨_,rfl,_,_,_,hd,rfl,rfl,isS ?_⟩;refine ⟨rfl,_,rfl,iteN (ak (by decide)) ⟨_,rfl,_,_,_,hd,rfl,rfl,fun v hv=>?_⟩⟩;obtain rfl:=ar hv;exact ⟨rfl,_,rfl,iteN (ak (by decide)) q⟩
theorem cZ {fs:List (Str×Dt)} {z:Str} (h:∀ f∈fs,f.1≠z):lookS fs z=none:=by
 unfold lookS;rw [List.find?_eq_none.mpr (fun f hf=>by simpa using h f hf)]
 rfl
theorem la {z:Str} {e:Dt}:∀ {fs:List (Str×Dt)} {i:Nat},fs[i]?=some (z,e)→(∀ j f,j < i→fs[j]?=some f→f.1≠z)→lookS fs z=some e
 | [],i,h,_=>by simp at h
 | f :: fs,0,h,_=>by
  obtain rfl:f=(z,e):=by simpa using h
  simp [lookS]
 | f :: fs,i+1,h,n=>by
  have n0:f.1≠z:=n 0 f (Nat.succ_pos _) rfl;have r:=la (fs:=fs) (i:=i) (by simpa using h) (fun j g hj hg=>n (j+1) g (Nat.succ_lt_succ hj) (by simpa using hg));rw [← r];simp [lookS,n0]
theorem lh (a b c:Dt) (l:List Dt) (z:Str):ax (.tup (a :: b :: c :: l)) z=none:=by
 unfold ax
 split
 ·rename_i h
  simp at h
 ·rfl
theorem er (T:Tx K mg ad) {f:Addr} {fd:FuncData} (F:Gn K mg "field_kind" cq ["kind","name"] f fd):FnOk P w K mg base CX0 1 f fd ["kind","name"] (sfk K):=by
 refine F.F.ok bn (fun vs H Q E h=>?_) (fun cdv A outer s H vs Q E hr h=>?_)
 ·obtain ⟨n,d,z,x,rfl,_⟩:=h
  rfl
 obtain ⟨n,d,z,x,rfl,hd,gk,q⟩:=h;refine ⟨_,(@pss_cons _ _ _ _ _ (@ps_if _ _ _ _ _ _ _ _ (pt_cmpR op_ne (@pi1 K _ _ _ _ _ _ _ rfl (pv 0)) pe_str (nomark _)) (@pss_one _ _ _ (@ps_ret _ _ _ _ pe_non)) pss_nil) (@pss_cons _ _ _ _ _ (ps_for PassesOwn.never rfl (pi_tupN (K:=K) rfl (@pi1 K _ _ _ _ _ _ _ rfl (pv 0))) (cS rfl (am (ah (i:=2) bn.nd rfl (Or.inl rfl)) (am (ah (i:=3) bn.nd rfl (Or.inl rfl)) aG)))
    (@pss_one _ _ _ (@ps_if _ _ _ _ _ _ _ _ (pt_cmpR (gx (K:=K) rfl hr.units) (pv 2) (pv 1) (nomark _)) (@pss_one _ _ _ (@ps_ret _ _ _ _ (pv 3))) pss_nil))) (@pss_one _ _ _ (@ps_ret _ _ _ _ pe_non)))),?_⟩
 cases gk with
 | @rcd _ fs g nd nm hl =>
  refine ⟨_,rfl,_,_,_,hd,rfl,rfl,isS ?_⟩;refine ⟨rfl,_,rfl,mR ⟨_,rfl,_,_,_,hd,rfl,rfl,fun v hv=>?_⟩⟩;have q':ja K H (lookS fs z) Q:=by
   rw [← au z fs];exact q
  obtain ⟨a,xs,rfl,ha,pa,ra⟩:=hv.unref;have el:=ra.length;rw [List.length_map] at el;refine ⟨a,rfl,⟨xs,ha⟩,eV (xs:=xs) (fun i σ H'=>H'=H∧(∀ j f,j < i→fs[j]?=some f→f.1≠z)∧∃ v1 v2,σ=[some x,some (.str z),v1,v2]) ⟨rfl,fun j f hj=>absurd hj (Nat.not_lt_zero _),_,_,rfl⟩ (fun i σ H' _ p=>p.1 ▸ ha) ?_ ?_⟩
  ·rintro i y σ H' hy ⟨rfl,pre,v1,v2,rfl⟩;obtain ⟨e,he,hp⟩:=ra.get' hy;rw [List.getElem?_map] at he;obtain ⟨⟨w,e'⟩,hf,rfl⟩:=Option.map_eq_some_iff.mp he;obtain ⟨b,ys,rfl,hb,pb,rb⟩:=hp.unref
   cases rb with
   | cons r1 rb =>
    cases rb with
    | @cons _ _ y2 _ r2 rb =>
     cases rb
     obtain rfl:=ar r1;refine ⟨b,_,rfl,hb,rfl,_,_,rfl,_,_,rfl,rfl,?_⟩;refine ⟨_,rfl,_,rfl,.str w,.str z,.str,.str,Nat.zero_le _,_,rfl,?_⟩
     by_cases hz:w=z
     ·subst hz;rw [aF];refine aO ⟨_,rfl,?_⟩;rw [la hf pre] at q';exact q' _ r2
     ·rw [oC hz];refine bq ⟨rfl,fun j f hj hjf=>?_,_,_,rfl⟩;rcases Nat.lt_succ_iff_lt_or_eq.mp hj with h1 | h1
      ·exact pre j f h1 hjf
      ·subst h1;rw [hf] at hjf;obtain rfl:=Option.some.inj hjf;exact hz
  ·rintro σ H' ⟨rfl,pre,v1,v2,rfl⟩;rw [cZ (fun f hf=>by
    obtain ⟨j,hj,e⟩:=List.mem_iff_getElem.mp hf;exact pre j f (by lia) (by rw [List.getElem?_eq_getElem hj,e]))] at q'
   exact q'
 | _ =>
  refine ⟨_,rfl,_,_,_,hd,rfl,rfl,isS ?_⟩;refine ⟨rfl,_,rfl,pq (ak (by decide)) ?_⟩
  first
   | exact q
   | (rw [lh] at q;exact q)
def dn (w:Str) (q:List Str×Dt):List Str×Dt:=(w :: q.1,q.2)
def wl:Nat→Dt→List (List Str×Dt)
 | 0,_=>[]
 | n+1,d=>([],d) :: match d with
  | .tup [.str w,.tup l]=>if w= "record" then l.flatMap fun f=>match f with
    | .tup [.str z,k]=>(wl n k).map (dn z)
    | _=>[]
   else []
  | .tup [.str w,k,_]=>if w= "list" then (wl n k).map (dn "each") else []
  | .tup [.str w,_,k,_]=>if w= "rows" then (wl n k).map (dn "each") else []
  | _=>[]
def m5 (n:Nat) (fs:List (Str×Dt)):List (List Str×Dt):=fs.flatMap fun f=>(wl n f.2).map (dn f.1)
theorem oD (n:Nat) (fs:List (Str×Dt)):wl (n+1) (.tup [.str "record",.tup (fs.map prD)])=([],.tup [.str "record",.tup (fs.map prD)]) :: m5 n fs:=by
 simp only [wl,if_true]
 congr 1
 rw [List.flatMap_map]
 rfl
theorem lj (n:Nat) (k:Dt) (i:Int):wl (n+1) (.tup [.str "list",k,.int i])=([],.tup [.str "list",k,.int i]) :: (wl n k).map (dn "each"):=by
 simp [wl]
theorem lm (n:Nat) (z:Str) (k:Dt) (i:Int):wl (n+1) (.tup [.str "rows",.str z,k,.int i])=([],.tup [.str "rows",.str z,k,.int i]) :: (wl n k).map (dn "each"):=by
 simp [wl]
theorem lr (n:Nat) (i:Int):wl (n+1) (.tup [.str "text",.int i])=[([],.tup [.str "text",.int i])]:=by simp [wl]
theorem gZ (n:Nat) (l:List Dt):wl (n+1) (.tup [.str "choice",.tup l])=[([],.tup [.str "choice",.tup l])]:=by simp [wl];exact fun c=>absurd c (by decide)
theorem hG (n:Nat) (i j:Int):wl (n+1) (.tup [.str "number",.int i,.int j])=[([],.tup [.str "number",.int i,.int j])]:=by simp [wl];exact fun c=>absurd c (by decide)
def lB (p:List Str) (q:List Str×Dt):Dt:=.tup [sD (p++q.1),q.2]
theorem oE (p:List Str) (z:Str) (l:List (List Str×Dt)):(l.map (dn z)).map (lB p)=l.map (lB (p++[z])):=by
 rw [List.map_map];refine List.map_congr_left fun q _=>?_;simp [lB,dn]
def pM (K:PySem.W.Frag) (n:Nat):Sp:=fun vs H Q _=>∃ (m:Nat) (d:Dt) (p:List Str) (x y:V),n=m+1∧m≤3∧vs=[x,y]∧IsP K H d x∧SK m d∧IsP K H (sD p) y∧p.length+m≤10 ∧
 ∀ (r:Addr) (ys:List V) (H':Hp),Same H H'→H' r=some (.lst ys)→ys.length≤9 ^ m→IsPs K H' ((wl n d).map (lB p)) ys→Q (.ref r) H'
theorem cu {k:Dt} {i:Int}:stepD (.tup [.str "list",k,.int i]) "each" = some k:=by simp [stepD,ao]
theorem bV {z:Str} {k:Dt} {i:Int}:stepD (.tup [.str "rows",.str z,k,.int i]) "each" = some k:=by simp [stepD,ao]
theorem lC (p:List Str) (w:Str):Dt.tup (p.map Dt.str++[.str w])=sD (p++[w]):=by rw [sD,List.map_append];rfl
theorem cK (T:Tx K mg ad) {f:Addr} {fd:FuncData} (n:Nat) (yL:Gn K mg "_law_ways" dQ ["kind","path"] f fd) (yW:FnOk P w K mg base CX0 n f fd ["kind","path"] (pM K n)):FnOk P w K mg base CX0 (n+1) f fd ["kind","path"] (pM K (n+1)):=by
 refine yL.F.ok bw (fun vs H Q E h=>?_) (fun cdv A outer s H vs Q E hr h=>?_)
 ·obtain ⟨m,d,p,x,y,_,_,rfl,_⟩:=h
  rfl
 obtain ⟨m,d,p,x,y,e0,h3,rfl,hd,gk,hy,hl,q⟩:=h;obtain rfl:n=m:=Nat.succ.inj e0;refine ⟨_,(@pss_cons _ _ _ _ _ (@ps_set _ _ 2 _ _ _ _ bw.nd rfl (Or.inl rfl) (@aH _ _ _ _ (@pa1 _ _ _ (@aj _ K _ _ _ _ rfl (@pa2 _ _ _ _ _ (pv 1) (pv 0) (by rfl) (by rfl))) (by rfl))) (by rfl) (by first | exact .inl rfl | exact .inr rfl | assumption)) (@pss_cons _ _ _ _ _ (@ps_if _ _ _ _ _ _ _ _ (pt_cmpR op_eq (@pi1 K _ _ _ _ _ _ _ rfl (pv 0)) pe_str (nomark _)) (@pss_one _ _ _ (ps_for PassesOwn.never rfl (pi_tupN (K:=K) rfl (@pi1 K _ _ _ _ _ _ _ rfl (pv 0))) (cS rfl (am (ah (i:=3) bw.nd rfl (Or.inl rfl)) (am (ah (i:=4) bw.nd rfl (Or.inl rfl)) aG)))
    (@pss_one _ _ _ (@ps_set _ _ 2 _ _ _ _ bw.nd rfl (Or.inl rfl) (@pe_op _ _ _ _ _ _ _ _ (iN (K:=K) rfl) (pv 2) (pcl yL yW (hr.mono (by lia)) rfl (@pa2 _ _ _ _ _ (pv 4) (@pe_op _ _ _ _ _ _ _ _ (bC (K:=K) rfl) (pv 1) (@aj _ K _ _ _ _ rfl (@pa1 _ _ _ (pv 3) (by rfl)))) (by rfl) (by rfl)))) (by rfl) (by first | exact .inl rfl | exact .inr rfl | assumption))))) pss_nil) (@pss_cons _ _ _ _ _ (@ps_if _ _ _ _ _ _ _ _ (pt_cmpR op_eq (@pi1 K _ _ _ _ _ _ _ rfl (pv 0)) pe_str (nomark _)) (@pss_one _ _ _ (@ps_set _ _ 2 _ _ _ _ bw.nd rfl (Or.inl rfl) (@pe_op _ _ _ _ _ _ _ _ (iN (K:=K) rfl) (pv 2) (pcl yL yW (hr.mono (by lia)) rfl (@pa2 _ _ _ _ _ (@pi1 K _ _ _ _ _ _ _ rfl (pv 0)) (@pe_op _ _ _ _ _ _ _ _ (bC (K:=K) rfl) (pv 1) (@aj _ K _ _ _ _ rfl (@pa1 _ _ _ pe_str (by rfl)))) (by rfl) (by rfl)))) (by rfl) (by first | exact .inl rfl | exact .inr rfl | assumption))) pss_nil) (@pss_cons _ _ _ _ _ (@ps_if _ _ _ _ _ _ _ _ (pt_cmpR op_eq (@pi1 K _ _ _ _ _ _ _ rfl (pv 0)) pe_str (nomark _)) (@pss_one _ _ _ (@ps_set _ _ 2 _ _ _ _ bw.nd rfl (Or.inl rfl) (@pe_op _ _ _ _ _ _ _ _ (iN (K:=K) rfl) (pv 2) (pcl yL yW (hr.mono (by lia)) rfl (@pa2 _ _ _ _ _ (@pi1 K _ _ _ _ _ _ _ rfl (pv 0)) (@pe_op _ _ _ _ _ _ _ _ (bC (K:=K) rfl) (pv 1) (@aj _ K _ _ _ _ rfl (@pa1 _ _ _ pe_str (by rfl)))) (by rfl) (by rfl)))) (by rfl) (by first | exact .inl rfl | exact .inr rfl | assumption))) pss_nil) (@pss_one _ _ _ (@ps_ret _ _ _ _ (pv 2))))))),?_⟩
 refine ⟨_,rfl,_,rfl,[sD p,d],.cons hy (.cons hd .nil),sz2,fun v1 H1 g1 hv1=>⟨sz1,fun l hln=>?_⟩⟩;have g2:=ab hln (.lst [v1]);have S2:Same H (upd H1 l (.lst [v1])):=g1.trans g2;have w0:IsPs K (upd H1 l (.lst [v1])) [lB p ([],d)] [v1]:=.cons (by
  show IsP _ _ (.tup [sD (p++[]),d]) _;rw [List.append_nil];exact hv1.same g2) .nil
 have hd2:=hd.same S2;have hy2:=hy.same S2;have p1:1≤9 ^ n:=Nat.one_le_pow _ _ (by decide);have small9:∀ k,k≤3→9 ^ k≤729:=fun k hk=>Nat.pow_le_pow_right (by decide) hk
 cases gk with
 | @rcd m' fs gf nd nm hf8 =>
  refine ⟨_,rfl,_,_,_,hd2,rfl,rfl,isS ?_⟩;refine ⟨rfl,_,rfl,aY ⟨_,rfl,_,_,_,hd2,rfl,rfl,fun v hv=>?_⟩⟩;obtain ⟨a,xs,rfl,ha,pa,ra⟩:=hv.unref;have el:=ra.length;rw [List.length_map] at el;have le9:=small9 m' (by lia);refine ⟨a,rfl,⟨xs,ha⟩,eV (xs:=xs) (fun i σ H'=>∃ l' ys v3 v4,Same (upd H1 l (.lst [v1])) H'∧H' l'=some (.lst ys)∧ys.length≤1+i*9 ^ m'∧IsPs K H' ((([],Dt.tup [.str "record",.tup (fs.map prD)]) :: m5 (m' + 1) (fs.take i)).map (lB p)) ys∧σ=[some x,some y,some (.ref l'),v3,v4])
   ⟨l,[v1],none,none,Same.refl _,aa,by simp,w0,rfl⟩ (fun i σ H' _ r=>by obtain ⟨_,_,_,_,g,_⟩:=r;exact g.tup ha) ?_ ?_⟩
  ·rintro i u σ H3 hu ⟨l',ys,v3,v4,g3,e3,hlen,way,rfl⟩;have hi:i < fs.length:=by
    rw [el];exact (List.getElem?_eq_some_iff.mp hu).1
   obtain ⟨e,he,hp⟩:=ra.get' hu;rw [List.getElem?_map] at he;obtain ⟨⟨w',e'⟩,hf,rfl⟩:=Option.map_eq_some_iff.mp he;obtain ⟨b,zs,rfl,hb,pb,rb⟩:=hp.unref
   cases rb with
   | cons r1 rb =>
    cases rb with
    | @cons _ _ y2 _ r2 rb =>
     cases rb
     obtain rfl:=ar r1;refine ⟨b,_,rfl,g3.tup hb,rfl,_,_,rfl,_,_,rfl,rfl,?_⟩;refine ⟨_,rfl,_,rfl,_,rfl,_,rfl,[.str w'],.cons .str .nil,sz1,fun v5 H5 g5 hv5=>?_⟩;refine ⟨_,_,(hy2.same g3).same g5,hv5,(by rw [List.length_map];exact Nat.le_of_lt (ag (by simp only [List.length_cons,List.length_nil];lia))),fun v6 H6 g6 hv6=>?_⟩;rw [lC] at hv6;refine ⟨m',e',p++[w'],y2,v6,rfl,by lia,rfl,((r2.same g3).same g5).same g6,gf _ (List.mem_of_getElem? hf),hv6,(by rw [List.length_append];simp only [List.length_cons,List.length_nil];lia),fun l7 ys7 H7 g7 e7 len7 way7=>?_⟩;have tot:ys.length+ys7.length≤1+(i+1)*9 ^ m':=by rw [Nat.succ_mul];lia
     have cap:(i+1)*9 ^ m'≤8*729:=Nat.mul_le_mul (by lia) le9;refine ⟨l',l7,ys,ys7,rfl,rfl,SqL.of (g7 _ _ (g6 _ _ (g5 _ _ e3))),SqL.of e7,Nat.le_trans tot (Nat.le_trans (Nat.add_le_add_left cap 1) (by decide)),fun l8 h8=>?_⟩;have g8:=ab h8 (.lst (ys++ys7));refine ⟨l8,ys++ys7,_,_,((g3.trans g5).trans (g6.trans g7)).trans g8,aa,by rw [List.length_append];exact tot,?_,rfl⟩;have e9:((([],Dt.tup [.str "record",.tup (fs.map prD)]) :: m5 (m' + 1) (fs.take (i+1))).map (lB p))=((([],Dt.tup [.str "record",.tup (fs.map prD)]) :: m5 (m' + 1) (fs.take i)).map (lB p))++(wl (m' + 1) e').map (lB (p++[w'])):=by
      rw [List.take_add_one,hf,m5,List.flatMap_append,List.map_cons,List.map_append,List.map_cons,List.cons_append,← oE];simp [m5]
     rw [e9];exact (((way.same g5).same g6).same g7).same g8 |>.append (way7.same g8)
  ·rintro σ H3 ⟨l',ys,v3,v4,g3,e3,hlen,way,rfl⟩;have hd3:=hd2.same g3;refine ⟨_,rfl,_,_,_,hd3,rfl,rfl,isS ?_⟩;refine ⟨rfl,_,rfl,iteN (ak (by decide)) ⟨_,rfl,_,_,_,hd3,rfl,rfl,fun v hv=>?_⟩⟩;obtain rfl:=ar hv;rw [← el,List.take_length] at way;refine ⟨rfl,_,rfl,iteN (ak (by decide)) ⟨_,rfl,q l' ys H3 (S2.trans g3) e3 ?_ (by rw [oD];exact way)⟩⟩;have:xs.length*9 ^ m'≤8*9 ^ m':=Nat.mul_le_mul_right _ (by lia);rw [Nat.pow_succ];have o1:1≤9 ^ m':=Nat.one_le_pow _ _ (by decide);lia
 | @list m' k i g _ _ =>
  refine ⟨_,rfl,_,_,_,hd2,rfl,rfl,isS ?_⟩;refine ⟨rfl,_,rfl,iteN (ak (by decide)) ⟨_,rfl,_,_,_,hd2,rfl,rfl,fun v hv=>?_⟩⟩;obtain rfl:=ar hv;refine ⟨rfl,_,rfl,aY ⟨_,rfl,_,rfl,_,_,_,hd2,rfl,rfl,fun v5 hv5=>?_⟩⟩;refine ⟨_,rfl,[.str "each"],.cons .str .nil,sz1,fun v6 H6 g6 hv6=>?_⟩;refine ⟨_,_,hy2.same g6,hv6,(by rw [List.length_map];exact Nat.le_of_lt (ag (by simp only [List.length_cons,List.length_nil];lia))),fun v7 H7 g7 hv7=>?_⟩;rw [lC] at hv7;refine ⟨m',k,p++[("each" : Str)],v5,v7,rfl,by lia,rfl,(hv5.same g6).same g7,g,hv7,(by rw [List.length_append];simp only [List.length_cons,List.length_nil];lia),fun l8 ys8 H8 g8 e8 len8 way8=>?_⟩;have le9:=small9 m' (by lia);refine ⟨l,l8,[v1],ys8,rfl,rfl,SqL.of (g8 _ _ (g7 _ _ (g6 _ _ aa))),SqL.of e8,Nat.le_of_lt (ag (by simp only [List.length_cons,List.length_nil];lia)),fun l9 h9=>?_⟩;have g9:=ab h9 (.lst ([v1]++ys8));have S9:=((g6.trans g7).trans g8).trans g9;have hd9:=hd2.same S9;refine ⟨_,rfl,_,_,_,hd9,rfl,rfl,isS ?_⟩;refine ⟨rfl,_,rfl,iteN (ak (by decide)) ⟨_,rfl,q l9 _ _ (S2.trans S9) aa ?_ ?_⟩⟩
  ·rw [List.length_append,Nat.pow_succ];have o1:1≤9 ^ m':=Nat.one_le_pow _ _ (by decide);simp only [List.length_cons,List.length_nil];lia
  ·rw [lj,List.map_cons,oE];exact (w0.same S9).append (way8.same g9)
 | @rows m' z' fs kk i g _ _ _ _ =>
  refine ⟨_,rfl,_,_,_,hd2,rfl,rfl,isS ?_⟩;refine ⟨rfl,_,rfl,iteN (ak (by decide)) ⟨_,rfl,_,_,_,hd2,rfl,rfl,fun v hv=>?_⟩⟩;obtain rfl:=ar hv;refine ⟨rfl,_,rfl,iteN (ak (by decide)) ⟨_,rfl,_,_,_,hd2,rfl,rfl,fun v hv=>?_⟩⟩;obtain rfl:=ar hv;refine ⟨rfl,_,rfl,aY ⟨_,rfl,_,rfl,_,_,_,hd2,rfl,rfl,fun v5 hv5=>?_⟩⟩;refine ⟨_,rfl,[.str "each"],.cons .str .nil,sz1,fun v6 H6 g6 hv6=>?_⟩;refine ⟨_,_,hy2.same g6,hv6,(by rw [List.length_map];exact Nat.le_of_lt (ag (by simp only [List.length_cons,List.length_nil];lia))),fun v7 H7 g7 hv7=>?_⟩;rw [lC] at hv7;refine ⟨m',.tup [.str "record",.tup (fs.map prD)],p++[("each" : Str)],v5,v7,rfl,by lia,rfl,(hv5.same g6).same g7,g,hv7,(by rw [List.length_append];simp only [List.length_cons,List.length_nil];lia),fun l8 ys8 H8 g8 e8 len8 way8=>?_⟩;have le9:=small9 m' (by lia);refine ⟨l,l8,[v1],ys8,rfl,rfl,SqL.of (g8 _ _ (g7 _ _ (g6 _ _ aa))),SqL.of e8,Nat.le_of_lt (ag (by simp only [List.length_cons,List.length_nil];lia)),fun l9 h9=>?_⟩;have g9:=ab h9 (.lst ([v1]++ys8));have S9:=((g6.trans g7).trans g8).trans g9;refine ⟨_,rfl,q l9 _ _ (S2.trans S9) aa ?_ ?_⟩
  ·rw [List.length_append,Nat.pow_succ];have o1:1≤9 ^ m':=Nat.one_le_pow _ _ (by decide);simp only [List.length_cons,List.length_nil];lia
  ·rw [lm,List.map_cons,oE];exact (w0.same S9).append (way8.same g9)
 | text =>
  refine ⟨_,rfl,_,_,_,hd2,rfl,rfl,isS ?_⟩;refine ⟨rfl,_,rfl,iteN (ak (by decide)) ⟨_,rfl,_,_,_,hd2,rfl,rfl,fun v hv=>?_⟩⟩;obtain rfl:=ar hv;refine ⟨rfl,_,rfl,iteN (ak (by decide)) ⟨_,rfl,_,_,_,hd2,rfl,rfl,fun v hv=>?_⟩⟩;obtain rfl:=ar hv;exact ⟨rfl,_,rfl,iteN (ak (by decide)) ⟨_,rfl,q l _ _ S2 aa p1 (by rw [lr];exact w0)⟩⟩
 | choice =>
  refine ⟨_,rfl,_,_,_,hd2,rfl,rfl,isS ?_⟩;refine ⟨rfl,_,rfl,iteN (ak (by decide)) ⟨_,rfl,_,_,_,hd2,rfl,rfl,fun v hv=>?_⟩⟩;obtain rfl:=ar hv;refine ⟨rfl,_,rfl,iteN (ak (by decide)) ⟨_,rfl,_,_,_,hd2,rfl,rfl,fun v hv=>?_⟩⟩;obtain rfl:=ar hv;exact ⟨rfl,_,rfl,iteN (ak (by decide)) ⟨_,rfl,q l _ _ S2 aa p1 (by rw [gZ];exact w0)⟩⟩
 | number =>
  refine ⟨_,rfl,_,_,_,hd2,rfl,rfl,isS ?_⟩;refine ⟨rfl,_,rfl,iteN (ak (by decide)) ⟨_,rfl,_,_,_,hd2,rfl,rfl,fun v hv=>?_⟩⟩;obtain rfl:=ar hv;refine ⟨rfl,_,rfl,iteN (ak (by decide)) ⟨_,rfl,_,_,_,hd2,rfl,rfl,fun v hv=>?_⟩⟩;obtain rfl:=ar hv;exact ⟨rfl,_,rfl,iteN (ak (by decide)) ⟨_,rfl,q l _ _ S2 aa p1 (by rw [hG];exact w0)⟩⟩
inductive GV:Dt→Dt→Prop
 | number {i j x:Int}:i≤x→x≤j→GV (.tup [.str "number",.int i,.int j]) (.int x)
 | text {i:Int} {z:Str}:z.length≤60→GV (.tup [.str "text",.int i]) (.str z)
 | choice {ws:List Str} {z:Str}:z∈ws→GV (.tup [.str "choice",.tup (ws.map Dt.str)]) (.str z)
 | list {k:Dt} {i:Int} {vs:List Dt}:(∀ v∈vs,GV k v)→vs.length≤8→GV (.tup [.str "list",k,.int i]) (.tup [.str "list",.tup vs])
 | rows {k:Dt} {z:Str} {i:Int} {vs:List Dt}:(∀ v∈vs,GV k v)→vs.length≤8→(vs.map fun v=>keyD v z).Nodup→GV (.tup [.str "rows",.str z,k,.int i]) (.tup [.str "rows",.tup vs])
 | rcd {fs gs:List (Str×Dt)}:gs.map (·.1)=fs.map (·.1)→(∀ (i:Nat) (f g:Str×Dt),fs[i]?=some f→gs[i]?=some g→GV f.2 g.2)→GV (.tup [.str "record",.tup (fs.map prD)]) (.tup [.str "record",.tup (gs.map prD)])
def m6 (K:PySem.W.Frag) (_:Ads):Sp:=fun vs H Q _=>∃ (gs:List (Str×Dt)) (z:Str) (x:V),vs=[x,.str z]∧IsP K H (.tup [.str "record",.tup (gs.map prD)]) x∧ja K H (lookS gs z) Q
def jl (K:PySem.W.Frag) (_:Ads):Sp:=fun vs H Q _=>∃ (n:Nat) (d:Dt) (x y:V),vs=[x,y]∧IsP K H d x∧SK n d∧((∃ fs z,d=.tup [.str "record",.tup fs]∧y=.str z∧ja K H (ax d z) Q)∨((∀ fs,d≠.tup [.str "record",.tup fs])∧ja K H (ao d) Q))
theorem m7 (T:Tx K mg ad) {f:Addr} {fd:FuncData} (F:Gn K mg "field_of" fX ["record","name"] f fd):FnOk P w K mg base CX0 1 f fd ["record","name"] (m6 K ad):=by
 refine F.F.ok eQ (fun vs H Q E h=>?_) (fun cdv A outer s H vs Q E hr h=>?_)
 ·obtain ⟨gs,z,x,rfl,_⟩:=h
  rfl
 obtain ⟨gs,z,x,rfl,hd,q⟩:=h;refine ⟨_,(@pss_cons _ _ _ _ _ (ps_for PassesOwn.never rfl (pi_tupN (K:=K) rfl (@pi1 K _ _ _ _ _ _ _ rfl (pv 0))) (cS rfl (am (ah (i:=2) eQ.nd rfl (Or.inl rfl)) (am (ah (i:=3) eQ.nd rfl (Or.inl rfl)) aG)))
    (@pss_one _ _ _ (@ps_if _ _ _ _ _ _ _ _ (pt_cmpR op_eq (pv 2) (pv 1) (nomark _)) (@pss_one _ _ _ (@ps_ret _ _ _ _ (pv 3))) pss_nil))) (@pss_one _ _ _ (@ps_ret _ _ _ _ pe_non))),?_⟩
 refine ⟨_,rfl,_,_,_,hd,rfl,rfl,fun v hv=>?_⟩;obtain ⟨a,xs,rfl,ha,pa,ra⟩:=hv.unref;have el:=ra.length;rw [List.length_map] at el;refine ⟨a,rfl,⟨xs,ha⟩,eV (xs:=xs) (fun i σ H'=>H'=H∧(∀ j f,j < i→gs[j]?=some f→f.1≠z)∧∃ v1 v2,σ=[some x,some (.str z),v1,v2]) ⟨rfl,fun j f hj=>absurd hj (Nat.not_lt_zero _),_,_,rfl⟩ (fun i σ H' _ p=>p.1 ▸ ha) ?_ ?_⟩
 ·rintro i y σ H' hy ⟨rfl,pre,v1,v2,rfl⟩;obtain ⟨e,he,hp⟩:=ra.get' hy;rw [List.getElem?_map] at he;obtain ⟨⟨w,e'⟩,hf,rfl⟩:=Option.map_eq_some_iff.mp he;obtain ⟨b,ys,rfl,hb,pb,rb⟩:=hp.unref
  cases rb with
  | cons r1 rb =>
   cases rb with
   | @cons _ _ y2 _ r2 rb =>
    cases rb
    obtain rfl:=ar r1;refine ⟨b,_,rfl,hb,rfl,_,_,rfl,_,_,rfl,rfl,?_⟩;refine ⟨_,rfl,_,rfl,rfl,_,rfl,?_⟩
    by_cases hz:w=z
    ·subst hz;refine aY ⟨_,rfl,?_⟩;rw [la hf pre] at q;exact q _ r2
    ·refine iteN (ak hz) ⟨rfl,fun j f hj hjf=>?_,_,_,rfl⟩;rcases Nat.lt_succ_iff_lt_or_eq.mp hj with h1 | h1
     ·exact pre j f h1 hjf
     ·subst h1;rw [hf] at hjf;obtain rfl:=Option.some.inj hjf;exact hz
 ·rintro σ H' ⟨rfl,pre,v1,v2,rfl⟩;rw [cZ (fun f hf=>by
   obtain ⟨j,hj,e⟩:=List.mem_iff_getElem.mp hf;exact pre j f (by lia) (by rw [List.getElem?_eq_getElem hj,e]))] at q
  exact q
theorem cU (T:Tx K mg ad) {f:Addr} {fd:FuncData} (F:Gn K mg "inner_kind" dJ ["kind","entry"] f fd):FnOk P w K mg base CX0 2 f fd ["kind","entry"] (jl K ad):=by
 obtain ⟨_,_,yB⟩:=T.field_kind;have yN:=er (P:=P) (w:=w) (base:=base) T yB;obtain ⟨_,_,yD⟩:=T.item_kind;have yU:=fC (P:=P) (w:=w) (base:=base) T yD;refine F.F.ok jr (fun vs H Q E h=>?_) (fun cdv A outer s H vs Q E hr h=>?_)
 ·obtain ⟨n,d,x,y,rfl,_⟩:=h
  rfl
 obtain ⟨n,d,x,y,rfl,hd,gk,q⟩:=h;refine ⟨_,(@pss_cons _ _ _ _ _ (@ps_if _ _ _ _ _ _ _ _ (pt_cmpR op_eq (@pi1 K _ _ _ _ _ _ _ rfl (pv 0)) pe_str (nomark _)) (@pss_one _ _ _ (@ps_ret _ _ _ _ (pcl yB yN (hr.mono (by lia)) rfl (@pa2 _ _ _ _ _ (pv 0) (pv 1) (by rfl) (by rfl))))) pss_nil) (@pss_one _ _ _ (@ps_ret _ _ _ _ (pcl yD yU (hr.mono (by lia)) rfl (@pa1 _ _ _ (pv 0) (by rfl)))))),?_⟩
 cases gk with
 | @rcd _ fs g nd nm hl =>
  refine ⟨_,rfl,_,_,_,hd,rfl,rfl,isS ?_⟩;refine ⟨rfl,_,rfl,aY ?_⟩;rcases q with ⟨fs',z,e,rfl,q⟩ | ⟨n,_⟩
  ·exact ⟨_,rfl,_,rfl,_,_,z,x,rfl,hd,.rcd g nd nm hl,q⟩
  ·exact absurd rfl (n _)
 | list g b1 b2 =>
  refine ⟨_,rfl,_,_,_,hd,rfl,rfl,isS ?_⟩;refine ⟨rfl,_,rfl,iteN (ak (by decide)) ?_⟩;rcases q with ⟨fs',z,e,_⟩ | ⟨_,q⟩
  ·cases e
  ·exact ⟨_,rfl,_,_,x,rfl,hd,.list g b1 b2,q⟩
 | rows g b1 b2 b3 b4 =>
  refine ⟨_,rfl,_,_,_,hd,rfl,rfl,isS ?_⟩;refine ⟨rfl,_,rfl,iteN (ak (by decide)) ?_⟩;rcases q with ⟨fs',z,e,_⟩ | ⟨_,q⟩
  ·cases e
  ·exact ⟨_,rfl,_,_,x,rfl,hd,.rows g b1 b2 b3 b4,q⟩
 | text n i b1 b2 =>
  refine ⟨_,rfl,_,_,_,hd,rfl,rfl,isS ?_⟩;refine ⟨rfl,_,rfl,iteN (ak (by decide)) ?_⟩;rcases q with ⟨fs',z,e,_⟩ | ⟨_,q⟩
  ·cases e
  ·exact ⟨_,rfl,_,_,x,rfl,hd,.text n i b1 b2,q⟩
 | choice n ws b1 b2 =>
  refine ⟨_,rfl,_,_,_,hd,rfl,rfl,isS ?_⟩;refine ⟨rfl,_,rfl,iteN (ak (by decide)) ?_⟩;rcases q with ⟨fs',z,e,_⟩ | ⟨_,q⟩
  ·simp at e;exact absurd e.1 (by decide)
  ·exact ⟨_,rfl,_,_,x,rfl,hd,.choice n ws b1 b2,q⟩
 | number n i j b1 b2 b3 =>
  refine ⟨_,rfl,_,_,_,hd,rfl,rfl,isS ?_⟩;refine ⟨rfl,_,rfl,iteN (ak (by decide)) ?_⟩;rcases q with ⟨fs',z,e,_⟩ | ⟨_,q⟩
  ·cases e
  ·exact ⟨_,rfl,_,_,x,rfl,hd,.number n i j b1 b2 b3,q⟩
theorem cx {z:Str} {kk:Dt}:∀ {fs gs:List (Str×Dt)},gs.map (·.1)=fs.map (·.1)→(∀ (i:Nat) (f g:Str×Dt),fs[i]?=some f→gs[i]?=some g→GV f.2 g.2)→lookS fs z=some kk→∃ e,lookS gs z=some e∧GV kk e
 | [],_,_,_,h=>by simp [lookS] at h
 | f :: fs,[],e,_,_=>by simp at e
 | f :: fs,g :: gs,e,gv,h=>by
  have e1:g.1=f.1:=(List.cons.inj (show g.1 :: gs.map (·.1)=f.1 :: fs.map (·.1) from e)).1;have e2:gs.map (·.1)=fs.map (·.1):=(List.cons.inj (show g.1 :: gs.map (·.1)=f.1 :: fs.map (·.1) from e)).2
  by_cases hz:f.1=z
  ·have h':lookS (f :: fs) z=some f.2:=by simp [lookS,hz]
   rw [h'] at h;obtain rfl:=Option.some.inj h;exact ⟨g.2,by simp [lookS,e1,hz],gv 0 f g rfl rfl⟩
  ·have h':lookS (f :: fs) z=lookS fs z:=by simp [lookS,hz]
   rw [h'] at h;obtain ⟨d,h1,h2⟩:=cx e2 (fun i a b ha hb=>gv (i+1) a b (by simpa using ha) (by simpa using hb)) h;refine ⟨d,?_,h2⟩;rw [← h1];simp [lookS,e1,hz]
theorem yj {d e:Dt} (h:GV d e):jg d→((∃ i j:Int,d=.tup [.str "number",.int i,.int j])∧∃ x,e=.int x)∨((∃ i:Int,d=.tup [.str "text",.int i])∧∃ z,e=.str z):=by
 cases h with
 | number _ _=>exact fun _=>.inl ⟨⟨_,_,rfl⟩,_,rfl⟩
 | text _=>exact fun _=>.inr ⟨⟨_,rfl⟩,_,rfl⟩
 | list _ _ =>
  rintro (⟨i,j,e⟩ | ⟨i,e⟩)
  ·simp at e;exact absurd e.1 (by decide)
  ·simp at e
 | choice _=>rintro (⟨i,j,e⟩ | ⟨i,e⟩) <;> simp at e
 | rows _ _ _=>rintro (⟨i,j,e⟩ | ⟨i,e⟩) <;> simp at e
 | rcd _ _=>rintro (⟨i,j,e⟩ | ⟨i,e⟩) <;> simp at e
inductive Ents:Dt→Dt→List Dt→Prop
 | rcd {fs gs:List (Str×Dt)}:Ents (.tup [.str "record",.tup (fs.map prD)]) (.tup [.str "record",.tup (gs.map prD)]) (gs.map prD)
 | list {k:Dt} {i:Int} {vs:List Dt}:Ents (.tup [.str "list",k,.int i]) (.tup [.str "list",.tup vs]) (enD 0 vs)
 | rows {k:Dt} {z:Str} {i:Int} {vs:List Dt}:Ents (.tup [.str "rows",.str z,k,.int i]) (.tup [.str "rows",.tup vs]) (vs.map fun v=>.tup [keyD v z,v])
def entD (d e:Dt):List Dt:=match d,e with
 | .tup [.str w,.tup _],.tup [_,.tup gs]=>if w= "record" then gs else []
 | .tup [.str w,_,_],.tup [_,.tup vs]=>if w= "list" then enD 0 vs else []
 | .tup [.str w,.str z,_,_],.tup [_,.tup vs]=>if w= "rows" then vs.map (fun v=>.tup [keyD v z,v]) else []
 | _,_=>[]
theorem et (fs gs:List (Str×Dt)):entD (.tup [.str "record",.tup (fs.map prD)]) (.tup [.str "record",.tup (gs.map prD)])=gs.map prD:=by simp [entD]
theorem da (k:Dt) (i:Int) (vs:List Dt):entD (.tup [.str "list",k,.int i]) (.tup [.str "list",.tup vs])=enD 0 vs:=by simp [entD]
theorem eY (k:Dt) (z:Str) (i:Int) (vs:List Dt):entD (.tup [.str "rows",.str z,k,.int i]) (.tup [.str "rows",.tup vs])=vs.map (fun v=>.tup [keyD v z,v]):=by simp [entD]
theorem de {d e:Dt} (h:GV d e) (n1:∀ l,d≠.tup [.str "record",.tup l]) (n2:∀ k i,d≠.tup [.str "list",k,i]) (n3:∀ z k i,d≠.tup [.str "rows",z,k,i]):entD d e=[]:=by
 cases h with
 | number=>rfl
 | text=>rfl
 | choice=>rfl
 | list=>exact absurd rfl (n2 _ _)
 | rows=>exact absurd rfl (n3 _ _ _)
 | rcd=>exact absurd rfl (n1 _)
def oF (K:PySem.W.Frag) (_:Ads):Sp:=fun vs H Q _=>∃ (n:Nat) (d e:Dt) (x y:V),vs=[x,y]∧IsP K H d x∧IsP K H e y∧SK n d∧GV d e∧∀ (r:Addr) (ys:List V) (H':Hp),Same H H'→H r=none→H' r=some (.lst ys)→IsPs K H' (entD d e) ys→Q (.ref r) H'
theorem cL {d e:Dt} (h:GV d e):∀ fs:List (Str×Dt),d=.tup [.str "record",.tup (fs.map prD)]→∃ gs:List (Str×Dt),e=.tup [.str "record",.tup (gs.map prD)]∧gs.map (·.1)=fs.map (·.1)∧∀ (i:Nat) (f g:Str×Dt),fs[i]?=some f→gs[i]?=some g→GV f.2 g.2:=by
 cases h with
 | @rcd fs' gs en gv =>
  intro fs e;have e':fs'.map prD=fs.map prD:=by simpa using e
  obtain rfl:=gA e';exact ⟨gs,rfl,en,gv⟩
 | _ =>
  intro fs e;simp at e <;> first | exact absurd e.1 (by decide) | exact absurd e (by decide)
theorem df {d e:Dt} (h:GV d e):∀ (k:Dt) (i:Int),d=.tup [.str "list",k,.int i]→∃ vs,e=.tup [.str "list",.tup vs]∧(∀ v∈vs,GV k v)∧vs.length≤8:=by
 cases h with
 | list g l =>
  intro k i e;simp at e;obtain ⟨rfl,rfl⟩:=e;exact ⟨_,rfl,g,l⟩
 | number _ _ =>
  intro k i e;simp at e;exact absurd e.1 (by decide)
 | _ =>
  intro k i e;simp at e
theorem dh {d e:Dt} (h:GV d e):∀ (k:Dt) (z:Str) (i:Int),d=.tup [.str "rows",.str z,k,.int i]→∃ vs,e=.tup [.str "rows",.tup vs]∧(∀ v∈vs,GV k v)∧vs.length≤8∧(vs.map fun v=>keyD v z).Nodup:=by
 cases h with
 | rows g l nd =>
  intro k z i e;simp at e;obtain ⟨rfl,rfl,rfl⟩:=e;exact ⟨_,rfl,g,l,nd⟩
 | _ =>
  intro k z i e;simp at e
theorem fR (T:Tx K mg ad) {f:Addr} {fd:FuncData} (F:Gn K mg "entries" fu ["kind","value"] f fd):FnOk P w K mg base CX0 2 f fd ["kind","value"] (oF K ad):=by
 obtain ⟨_,_,zy⟩:=T.field_of;have zS:=m7 (P:=P) (w:=w) (base:=base) T zy;refine F.F.ok oS (fun vs H Q E h=>?_) (fun cdv A outer s H vs Q E hr h=>?_)
 ·obtain ⟨n,d,e,x,y,rfl,_⟩:=h
  rfl
 obtain ⟨n,d,e,x,y,rfl,hd,he,gk,gv,q⟩:=h;refine ⟨_,(@pss_cons _ _ _ _ _ (@ps_if _ _ _ _ _ _ _ _ (pt_cmpR op_eq (@pi1 K _ _ _ _ _ _ _ rfl (pv 0)) pe_str (nomark _)) (@pss_one _ _ _ (@ps_ret _ _ _ _ (bh (i8 (K:=K) rfl) rfl T.z_list boot_list (@pa1 _ _ _ (@pi1 K _ _ _ _ _ _ _ rfl (pv 1)) (by rfl))))) pss_nil) (@pss_cons _ _ _ _ _ (@ps_if _ _ _ _ _ _ _ _ (pt_cmpR op_eq (@pi1 K _ _ _ _ _ _ _ rfl (pv 0)) pe_str (nomark _)) (@pss_one _ _ _ (@ps_ret _ _ _ _ (qx rfl rfl T.z_list rfl T.z_enumerate (@pi1 K _ _ _ _ _ _ _ rfl (pv 1))))) pss_nil) (@pss_cons _ _ _ _ _ (@ps_if _ _ _ _ _ _ _ _ (pt_cmpR op_eq (@pi1 K _ _ _ _ _ _ _ rfl (pv 0)) pe_str (nomark _)) (@pss_one _ _ _ (@ps_ret _ _ _ _ (aZ rfl (csR (sc:=ac fu) (NL:=["item"]) (N:=["kind","value"]) (ρ:=[0]) (N':=["item","kind"]) rfl rfl rfl (by decide +kernel) (by decide +kernel) (by decide +kernel) rfl (by decide +kernel)) (pi_tupN (K:=K) rfl (@pi1 K _ _ _ _ _ _ _ rfl (pv 1))) (fun _ _ _ _=>(ah (i:=0) (show List.Nodup (α:=Str) ["item","kind"] by decide +kernel) rfl (Or.inl rfl))) (fun _ _ _ _=>(aj (K:=K) rfl (@pa2 _ _ _ _ _ (pcl zy zS (hr.mono (by lia)) rfl (@pa2 _ _ _ _ _ (pv 0) (@pi1 K _ _ _ _ _ _ _ rfl (pv 1)) (by rfl) (by rfl))) (pv 0) (by rfl) (by rfl))))))) pss_nil) (@pss_one _ _ _ (@ps_ret _ _ _ _ (@aH _ _ _ _ bT)))))),?_⟩
 cases gk with
 | @rcd n' fs g nd nm hl =>
  obtain ⟨gs,rfl,en,gg⟩:=cL gv fs rfl;refine ⟨_,rfl,_,_,_,hd,rfl,rfl,isS ?_⟩;refine ⟨rfl,_,rfl,aY ?_⟩;refine ⟨_,rfl,_,_,_,he,rfl,rfl,fun v hv=>?_⟩;obtain ⟨a,xs,rfl,ha,pa,ra⟩:=hv.unref;refine ⟨a,xs,rfl,.inr ha,fun l hln=>?_⟩;exact q l xs _ (ab hln _) hln aa (by rw [et];exact ra.same (ab hln _))
 | @list n' k i g b1 b2 =>
  obtain ⟨vs,rfl,gg,hl⟩:=df gv k i rfl;refine ⟨_,rfl,_,_,_,hd,rfl,rfl,isS ?_⟩;refine ⟨rfl,_,rfl,iteN (ak (by decide)) ?_⟩;refine ⟨_,rfl,_,_,_,hd,rfl,rfl,isS ?_⟩;refine ⟨rfl,_,rfl,aY ?_⟩;refine ⟨_,rfl,_,_,_,he,rfl,rfl,fun v hv=>?_⟩;obtain ⟨a,xs,rfl,ha,pa,ra⟩:=hv.unref;exact ⟨a,xs,vs,rfl,ha,ra,fun p ys H' sm hpn hp hps=>q p ys H' sm hpn hp (by rw [da];exact hps)⟩
 | @rows n' z fs kk i g lk kK b1 b2 =>
  obtain ⟨vs,rfl,gg,hl,ndk⟩:=dh gv _ z i rfl;refine ⟨_,rfl,_,_,_,hd,rfl,rfl,isS ?_⟩;refine ⟨rfl,_,rfl,iteN (ak (by decide)) ?_⟩;refine ⟨_,rfl,_,_,_,hd,rfl,rfl,isS ?_⟩;refine ⟨rfl,_,rfl,iteN (ak (by decide)) ?_⟩;refine ⟨_,rfl,_,_,_,hd,rfl,rfl,isS ?_⟩;refine ⟨rfl,_,rfl,aY ?_⟩;refine ⟨_,rfl,_,_,_,he,rfl,rfl,fun v hv=>?_⟩;obtain ⟨a,xs,rfl,ha,pa,ra⟩:=hv.unref;have el:=ra.length;refine ⟨a,rfl,⟨xs,ha⟩,fun l hln=>?_⟩;refine bF (K:=K) (xs:=xs) (fun j ys σ H'=>Same H H'∧H' l=some (.lst ys)∧IsPs K H' ((vs.take j).map fun v=>.tup [keyD v z,v]) ys∧∃ v1,σ=[v1,some x]) ⟨ab hln _,aa,.nil,none,rfl⟩ (fun j ys σ H' _ p=>p.1.tup ha) ?_ ?_
  ·rintro j u ys σ H1 N hu ⟨s1,e1,hp,v1,rfl⟩ next;obtain ⟨d0,hv0,hx⟩:=ra.get' hu;have hj:j < vs.length:=(List.getElem?_eq_some_iff.mp hv0).1;obtain ⟨gs,rfl,en,gg0⟩:=cL (gg _ (List.mem_of_getElem? hv0)) fs rfl;obtain ⟨e9,l9,gv9⟩:=cx en gg0 lk;have hx1:=hx.same s1;have lp:ys.length < 9:=by
    rw [← hp.length,List.length_map,List.length_take];lia
   refine ⟨_,rfl,_,rfl,_,_,_,hd.same s1,rfl,rfl,isS ?_⟩;refine ⟨gs,z,u,rfl,hx1,?_⟩;rw [l9];intro v9 hv9;refine ⟨_,rfl,[e9,_],.cons hv9 (.cons hx1 .nil),sz2,fun v4 H4 g4 hv4=>?_⟩;have f4:=g4 _ _ e1;have b5:But l H4 (upd H4 l (.lst (ys++[v4]))):=But.put;refine ⟨f4,ag (by lia),next _ _ _ ⟨fun x o ex=>?_,aa,?_,_,rfl⟩⟩
   ·rw [af (ae ex hln)];exact g4 _ _ (s1 _ _ ex)
   ·rw [← aB (fun v=>Dt.tup [keyD v z,v]) hv0];refine ((hp.same g4).but f4 b5).append (.cons ?_ .nil);have ek:keyD (.tup [.str "record",.tup (gs.map prD)]) z=e9:=by
     show (bQ (gs.map prD) z).getD .non=e9;rw [au,l9]
     rfl
    rw [ek];exact hv4.but f4 b5
  ·rintro ys σ H1 ⟨s1,e1,hp,v1,rfl⟩;rw [← el,List.take_length] at hp;exact q l ys H1 s1 hln e1 (by rw [eY];exact hp)
 | text =>
  refine ⟨_,rfl,_,_,_,hd,rfl,rfl,isS ?_⟩;refine ⟨rfl,_,rfl,iteN (ak (by decide)) ⟨_,rfl,_,_,_,hd,rfl,rfl,fun v hv=>?_⟩⟩;obtain rfl:=ar hv;refine ⟨rfl,_,rfl,iteN (ak (by decide)) ⟨_,rfl,_,_,_,hd,rfl,rfl,fun v hv=>?_⟩⟩;obtain rfl:=ar hv;refine ⟨rfl,_,rfl,iteN (ak (by decide)) ⟨(by show 0≤sizeLine;decide),fun l hln=>q l [] _ (ab hln _) hln aa ?_⟩⟩;rw [de gv (by intro _ c;simp at c <;> exact absurd c.1 (by decide)) (by intro _ _ c;simp at c <;> exact absurd c.1 (by decide)) (by intro _ _ _ c;simp at c)];exact .nil
 | choice =>
  refine ⟨_,rfl,_,_,_,hd,rfl,rfl,isS ?_⟩;refine ⟨rfl,_,rfl,iteN (ak (by decide)) ⟨_,rfl,_,_,_,hd,rfl,rfl,fun v hv=>?_⟩⟩;obtain rfl:=ar hv;refine ⟨rfl,_,rfl,iteN (ak (by decide)) ⟨_,rfl,_,_,_,hd,rfl,rfl,fun v hv=>?_⟩⟩;obtain rfl:=ar hv;refine ⟨rfl,_,rfl,iteN (ak (by decide)) ⟨(by show 0≤sizeLine;decide),fun l hln=>q l [] _ (ab hln _) hln aa ?_⟩⟩;rw [de gv (by intro _ c;simp at c <;> exact absurd c.1 (by decide)) (by intro _ _ c;simp at c <;> exact absurd c.1 (by decide)) (by intro _ _ _ c;simp at c)];exact .nil
 | number =>
  refine ⟨_,rfl,_,_,_,hd,rfl,rfl,isS ?_⟩;refine ⟨rfl,_,rfl,iteN (ak (by decide)) ⟨_,rfl,_,_,_,hd,rfl,rfl,fun v hv=>?_⟩⟩;obtain rfl:=ar hv;refine ⟨rfl,_,rfl,iteN (ak (by decide)) ⟨_,rfl,_,_,_,hd,rfl,rfl,fun v hv=>?_⟩⟩;obtain rfl:=ar hv;refine ⟨rfl,_,rfl,iteN (ak (by decide)) ⟨(by show 0≤sizeLine;decide),fun l hln=>q l [] _ (ab hln _) hln aa ?_⟩⟩;rw [de gv (by intro _ c;simp at c <;> exact absurd c.1 (by decide)) (by intro _ _ c;simp at c <;> exact absurd c.1 (by decide)) (by intro _ _ _ c;simp at c)];exact .nil
theorem sy {d e:Dt} {l:List Dt} (h:Ents d e l):∀ fs gs:List (Str×Dt),d=.tup [.str "record",.tup (fs.map prD)]→e=.tup [.str "record",.tup (gs.map prD)]→l=gs.map prD:=by
 cases h with
 | @rcd fs' gs' =>
  intro fs gs _ e
  simpa using e
 | list=>intro fs gs e;simp at e
 | rows=>intro fs gs e;simp at e
theorem qE {d e:Dt} {l:List Dt} (h:Ents d e l):∀ (k:Dt) (i:Int) (vs:List Dt),d=.tup [.str "list",k,.int i]→e=.tup [.str "list",.tup vs]→l=enD 0 vs:=by
 cases h with
 | rcd=>intro k i vs e;simp at e
 | @list k0 i0 vs0 =>
  intro k i vs _ e;have:vs0=vs:=by simpa using e
  rw [this]
 | rows=>intro k i vs e;simp at e
theorem qF {d e:Dt} {l:List Dt} (h:Ents d e l):∀ (k:Dt) (z:Str) (i:Int) (vs:List Dt),d=.tup [.str "rows",.str z,k,.int i]→e=.tup [.str "rows",.tup vs]→l=vs.map fun v=>.tup [keyD v z,v]:=by
 cases h with
 | rcd=>intro k z i vs e;simp at e
 | list=>intro k z i vs e;simp at e
 | @rows k0 z0 i0 vs0 =>
  intro k z i vs ed e;have e1:vs0=vs:=by simpa using e
  have e2:=ed;simp at e2;rw [e1,e2.1]
theorem xJ (T:Tx K mg ad) {f:Addr} {fd:FuncData} (D:Gn K mg "_law_ways" dQ ["kind","path"] f fd):FnOk P w K mg base CX0 4 f fd ["kind","path"] (pM K 4):=by
 have w0:FnOk P w K mg base CX0 0 f fd ["kind","path"] (pM K 0):=ce fun vs H Q E z=>by obtain ⟨m,_,_,_,_,e,_⟩:=z;cases e
 exact cK T 3 D (cK T 2 D (cK T 1 D (cK T 0 D w0)))
def bH (en p:Dt):Dt:=match p with
 | .tup [.tup w,v]=>.tup [.tup (en :: w),v]
 | _=>p
def itemsD (d e:Dt):List (Dt×Dt):=match d,e with
 | .tup [_,_,_],.tup [_,.tup vs]=>vs.zipIdx.map fun p=>(.int p.2,p.1)
 | .tup [_,.str z,_,_],.tup [_,.tup vs]=>vs.map fun v=>(keyD v z,v)
 | _,_=>[]
def pl:List Str→Dt→Dt→List Dt
 | [],_,e=>[.tup [.tup [],e]]
 | z :: q,d,e=>if z= "each" then (itemsD d e).flatMap fun p=>(pl q ((ao d).getD .non) p.2).map (bH p.1) else (pl q ((ax d z).getD .non) (keyD e z)).map (bH (.str z))
def iD (K:PySem.W.Frag) (n:Nat):Sp:=fun vs H Q _=>∃ (m:Nat) (d e:Dt) (p:List Str) (x y u:V),m≤3∧p.length < n∧vs=[x,y,u]∧IsP K H d x∧IsP K H e y∧IsP K H (sD p) u∧SK m d∧GV d e∧(al d p).isSome=true∧p.length≤10 ∧
 ∀ (r:Addr) (ys:List V) (H':Hp),Same H H'→H r=none→H' r=some (.lst ys)→IsPs K H' (pl p d e) ys→ys.length≤8 ^ m→Q (.ref r) H'
theorem aw {d:Dt} {z:Str} {p:List Str} (h:(al d (z :: p)).isSome=true):∃ k,stepD d z=some k∧(al k p).isSome=true:=by
 have h':((stepD d z).bind fun e=>al e p).isSome=true:=h
 cases e:stepD d z with
 | none=>rw [e] at h';cases h'
 | some k=>rw [e] at h';exact ⟨k,rfl,h'⟩
theorem sA (z:Str) (p:List Str):V.int (((z :: p).map Dt.str).length:Int)≠V.int 0:=by
 intro h;have:=V.int.inj h;rw [List.length_map,List.length_cons] at this;lia
theorem uh {m:Nat} {d e k:Dt} {z:Str} (gk:SK m d) (gv:GV d e) (h:stepD d z=some k):∃ l,Ents d e l:=by
 cases gk with
 | @rcd n' fs g nd nm hl =>
  obtain ⟨gs,rfl,_⟩:=cL gv fs rfl;exact ⟨_,.rcd⟩
 | @list n' k i g b1 b2 =>
  obtain ⟨vs,rfl,_⟩:=df gv k i rfl;exact ⟨_,.list⟩
 | @rows n' z fs kk i g lk kK b1 b2 =>
  obtain ⟨vs,rfl,_⟩:=dh gv _ z i rfl;exact ⟨_,.rows⟩
 | text _ _ _=>exact absurd h (by unfold stepD;split <;> simp [ao,ax] <;> exact fun c=>absurd c (by decide))
 | choice _ _ _ _=>exact absurd h (by unfold stepD;split <;> simp [ao,ax] <;> exact fun c=>absurd c (by decide))
 | number _ _ _ _ _=>exact absurd h (by unfold stepD;split <;> simp [ao,ax] <;> exact fun c=>absurd c (by decide))
theorem iS:∀ (j:Nat) (vs:List Dt),enD j vs=(vs.zipIdx j).map fun p=>Dt.tup [.int p.2,p.1]
 | _,[]=>rfl
 | j,v :: vs=>by
  rw [List.zipIdx_cons,List.map_cons,← iS (j+1) vs]
  rfl
def Sc (a:Dt):Prop:=(∃ i,a=.int i)∨∃ s,a=.str s
theorem Sc.eq {a b:Dt} (ha:Sc a) (hb:Sc b) (h:eqD a b=true):a=b:=by
 rcases ha with ⟨i,rfl⟩ | ⟨s,rfl⟩ <;> rcases hb with ⟨j,rfl⟩ | ⟨t,rfl⟩ <;> simp [eqD] at h
 ·rw [h]
 ·rw [h]
theorem lD {m:Nat} {d e k:Dt} {z:Str} {p:List Str} {l:List Dt} (gk:SK m d) (gv:GV d e) (en:Ents d e l) (st:stepD d z=some k) :
  (∃ (fs gs:List (Str×Dt)) (m':Nat),d=.tup [.str "record",.tup (fs.map prD)]∧e=.tup [.str "record",.tup (gs.map prD)]∧l=gs.map prD∧gs.map (·.1)=fs.map (·.1)∧(fs.map (·.1)).Nodup∧lookS fs z=some k∧(∀ (i:Nat) (f g:Str×Dt),fs[i]?=some f→gs[i]?=some g→GV f.2 g.2)∧z≠ "each" ∧m=m' + 1∧(∀ f∈fs,SK m' f.2)∧fs.length≤8) ∨
  (z= "each" ∧∃ (w:Str) (rest:List Dt) (its:List (Dt×Dt)) (m':Nat),d=.tup (.str w :: rest)∧w≠ "record" ∧ao d=some k∧m=m' + 1∧SK m' k∧itemsD d e=its∧l=its.map (fun p=>.tup [p.1,p.2])∧(∀ p∈its,GV k p.2)∧its.length≤8∧(its.map (·.1)).Nodup∧∀ p∈its,Sc p.1):=by
 cases gk with
 | @rcd n' fs g nd nm hl =>
  obtain ⟨gs,rfl,eg,gg⟩:=cL gv fs rfl;have hz:z≠ "each" :=by
   intro c;subst c;simp [stepD,ao] at st
  refine .inl ⟨fs,gs,n',rfl,rfl,sy en fs gs rfl rfl,eg,nd,?_,gg,hz,rfl,g,hl⟩;unfold stepD at st;rw [if_neg hz] at st;rw [← au];exact st
 | @list n' k' i g b1 b2 =>
  obtain ⟨vs,rfl,gg,hl⟩:=df gv k' i rfl;have hz:z= "each" :=by
   by_cases c:z= "each"
   ·exact c
   ·unfold stepD at st;rw [if_neg c] at st;simp [ax] at st
  subst hz;rw [cu] at st;obtain rfl:=Option.some.inj st;refine .inr ⟨rfl,"list",[k',.int i],vs.zipIdx.map fun p=>(.int p.2,p.1),n',rfl,by decide,by simp [ao],rfl,g,rfl,?_,fun p hp=>?_,by rw [List.length_map,List.length_zipIdx];exact hl,?_,fun p hp=>?_⟩
  ·rw [qE en k' i vs rfl rfl,iS,List.map_map]
   rfl
  ·obtain ⟨⟨v,j⟩,hq,rfl⟩:=List.mem_map.mp hp;have hm:=(List.mem_zipIdx hq).2.2;refine gg v ?_;rw [hm];exact List.getElem_mem _
  ·rw [List.map_map];have e1:(vs.zipIdx.map ((fun x:Dt×Dt=>x.1) ∘ fun p:Dt×Nat=>((.int p.2:Dt),p.1)))=(vs.zipIdx.map Prod.snd).map fun n:Nat=>Dt.int n:=by rw [List.map_map];rfl
   rw [e1,List.zipIdx_map_snd];refine bE (fun a b h=>?_) List.nodup_range';injection h with h
   exact Int.ofNat.inj h
  ·obtain ⟨⟨v,j⟩,hq,rfl⟩:=List.mem_map.mp hp;exact .inl ⟨_,rfl⟩
 | @rows n' z' fs kk i g lk kK b1 b2 =>
  obtain ⟨vs,rfl,gg,hl,ndk⟩:=dh gv _ z' i rfl;have hz:z= "each" :=by
   by_cases c:z= "each"
   ·exact c
   ·unfold stepD at st;rw [if_neg c] at st;simp [ax] at st
  subst hz;rw [bV] at st;obtain rfl:=Option.some.inj st;refine .inr ⟨rfl,"rows",[.str z',.tup [.str "record",.tup (fs.map prD)],.int i],vs.map fun v=>(keyD v z',v),n',rfl,by decide,by simp [ao],rfl,g,rfl,?_,fun p hp=>?_,by rw [List.length_map];exact hl,?_,fun p hp=>?_⟩
  ·rw [qF en _ z' i vs rfl rfl,List.map_map]
   rfl
  ·obtain ⟨v,hv,rfl⟩:=List.mem_map.mp hp;exact gg v hv
  ·rw [List.map_map];exact ndk
  ·obtain ⟨v,hv,rfl⟩:=List.mem_map.mp hp;obtain ⟨gs,rfl,eg,gg0⟩:=cL (gg v hv) fs rfl;obtain ⟨e9,l9,gv9⟩:=cx eg gg0 lk;have ek:keyD (.tup [.str "record",.tup (gs.map prD)]) z'=e9:=by
    show (bQ (gs.map prD) z').getD .non=e9;rw [au,l9]
    rfl
   show Sc (keyD (.tup [.str "record",.tup (gs.map prD)]) z');rw [ek];rcases yj gv9 kK with ⟨_,x,rfl⟩ | ⟨_,x,rfl⟩
   ·exact .inl ⟨_,rfl⟩
   ·exact .inr ⟨_,rfl⟩
 | text _ _ _=>exact absurd st (by unfold stepD;split <;> simp [ao,ax])
 | choice _ _ _ _=>exact absurd st (by unfold stepD;split <;> simp [ao,ax] <;> exact fun c=>absurd c (by decide))
 | number _ _ _ _ _=>exact absurd st (by unfold stepD;split <;> simp [ao,ax] <;> exact fun c=>absurd c (by decide))
theorem gB:∀ (q:List Str) (d e:Dt),∀ x∈pl q d e,∃ w v,x=.tup [.tup w,v]∧w.length=q.length
 | [],d,e,x,h=>by
  obtain rfl:=List.mem_singleton.mp (show x∈[Dt.tup [.tup [],e]] from h);exact ⟨[],e,rfl,rfl⟩
 | z :: q,d,e,x,h=>by
  have h':x∈if z= "each" then (itemsD d e).flatMap fun p=>(pl q ((ao d).getD .non) p.2).map (bH p.1) else (pl q ((ax d z).getD .non) (keyD e z)).map (bH (.str z)):=h
  split at h'
  ·obtain ⟨p,_,hp⟩:=List.mem_flatMap.mp h';obtain ⟨y,hy,rfl⟩:=List.mem_map.mp hp;obtain ⟨w,v,rfl,hl⟩:=gB q _ _ y hy;exact ⟨p.1 :: w,v,rfl,by rw [List.length_cons,List.length_cons,hl]⟩
  ·obtain ⟨y,hy,rfl⟩:=List.mem_map.mp h';obtain ⟨w,v,rfl,hl⟩:=gB q _ _ y hy;exact ⟨.str z :: w,v,rfl,by rw [List.length_cons,List.length_cons,hl]⟩
theorem sB (a:Dt) (l:List Dt):L2.i5 (a :: l) (some 1) none=l:=by
 simp [L2.i5,HT.sIx]
theorem m8 {z:Str} {v:Dt} {F:Dt→List Dt}:∀ {gs:List (Str×Dt)},(gs.map (·.1)).Nodup→lookS gs z=some v→(gs.flatMap fun g=>if g.1=z then F g.2 else [])=F v
 | [],_,h=>by simp [lookS] at h
 | g :: gs,nd,h=>by
  have nd':=List.nodup_cons.mp (show (g.1 :: gs.map (·.1)).Nodup from nd);rw [List.flatMap_cons]
  by_cases hz:g.1=z
  ·have h':lookS (g :: gs) z=some g.2:=by simp [lookS,hz]
   rw [h'] at h;obtain rfl:=Option.some.inj h;rw [if_pos hz];have:(gs.flatMap fun g=>if g.1=z then F g.2 else [])=[]:=by
    refine List.flatMap_eq_nil_iff.mpr fun g' hg'=>?_;rw [if_neg fun c=>nd'.1 (List.mem_map.mpr ⟨g',hg',c.trans hz.symm⟩)]
   rw [this,List.append_nil]
  ·have h':lookS (g :: gs) z=lookS gs z:=by simp [lookS,hz]
   rw [h'] at h;rw [if_neg hz,List.nil_append];exact m8 nd'.2 h
theorem cM {z:Str} {v:Dt}:∀ {fs:List (Str×Dt)} {i:Nat},(fs.map (·.1)).Nodup→fs[i]?=some (z,v)→lookS fs z=some v
 | [],i,_,h=>by simp at h
 | f :: fs,0,nd,h=>by
  obtain rfl:f=(z,v):=by simpa using h
  simp [lookS]
 | f :: fs,i+1,nd,h=>by
  have nd':=List.nodup_cons.mp (show (f.1 :: fs.map (·.1)).Nodup from nd);have h2:fs[i]?=some (z,v):=by simpa using h
  have hz:¬ f.1=z:=fun c=>nd'.1 (List.mem_map.mpr ⟨(z,v),List.mem_of_getElem? h2,c.symm⟩);rw [← cM nd'.2 h2];simp [lookS,hz]
theorem qG {d e:Dt} {l:List Dt} (h:Ents d e l):entD d e=l:=by
 cases h with
 | rcd=>exact et _ _
 | list=>exact da _ _ _
 | rows=>exact eY _ _ _ _
theorem eZ (T:Tx K mg ad) {f:Addr} {fd:FuncData} (n:Nat) (y9:Gn K mg "places" eK ["kind","value","path"] f fd) (zx:FnOk P w K mg base CX0 (n+2) f fd ["kind","value","path"] (iD K n)):FnOk P w K mg base CX0 (n+2+1) f fd ["kind","value","path"] (iD K (n+1)):=by
 obtain ⟨_,_,yH⟩:=T.entries;have y0:=fR (P:=P) (w:=w) (base:=base) T yH;obtain ⟨_,_,yA⟩:=T.inner_kind;have yQ:=cU (P:=P) (w:=w) (base:=base) T yA;obtain ⟨t_EACH,c_EACH⟩:=T.EACH;refine y9.F.ok dm (fun vs H Q E h=>?_) (fun cdv A outer s H vs Q E hr h=>?_)
 ·obtain ⟨m,d,e,p,x,y,u,_,_,rfl,_⟩:=h
  rfl
 obtain ⟨m,d,e,p,x,y,u,h3,hp,rfl,hd,he,hu,gk,gv,ld,hl,q⟩:=h;refine ⟨_,(@pss_cons _ _ _ _ _ (@ps_if _ _ _ _ _ _ _ _ (pt_cmpR op_eq (pe_callB (call_lenDN (K:=K) rfl) rfl T.z_len PySem.boot_len (@pa1 _ _ _ (pv 2) (by rfl))) pe_int (nomark _)) (@pss_one _ _ _ (@ps_ret _ _ _ _ (@aH _ _ _ _ (@pa1 _ _ _ (@aj _ K _ _ _ _ rfl (@pa2 _ _ _ _ _ (@aj _ K _ _ _ _ rfl bT) (pv 1) (by rfl) (by rfl))) (by rfl))))) pss_nil) (@pss_cons _ _ _ _ _ (@ps_set _ _ 3 _ _ _ _ dm.nd rfl (Or.inl rfl) (@aH _ _ _ _ bT) (by rfl) (by first | exact .inl rfl | exact .inr rfl | assumption)) (@pss_cons _ _ _ _ _ (ps_for PassesOwn.never rfl (aL (K:=K) rfl (pcl yH y0 (hr.mono (by lia)) rfl (@pa2 _ _ _ _ _ (pv 0) (pv 1) (by rfl) (by rfl)))) (cS rfl (am (ah (i:=4) dm.nd rfl (Or.inr rfl)) (am (ah (i:=5) dm.nd rfl (Or.inl rfl)) aG)))
    (@pss_one _ _ _ (@ps_if _ _ _ _ _ _ _ _ (pt_cmpR (gx (K:=K) rfl hr.units) (@pi1 K _ _ _ _ _ _ _ rfl (pv 2)) (iF (pt_cmpR op_eq (@pi1 K _ _ _ _ _ _ _ rfl (pv 0)) pe_str (nomark _)) (pv 4) (pe_gstr rfl c_EACH)) (nomark _)) (@pss_cons _ _ _ _ _ (@ps_set _ _ 6 _ _ _ _ dm.nd rfl (Or.inl rfl) (pcl y9 zx (hr.mono (by lia)) rfl (@pa3 _ _ _ _ _ _ _ (pcl yA yQ (hr.mono (by lia)) rfl (@pa2 _ _ _ _ _ (pv 0) (pv 4) (by rfl) (by rfl))) (pv 5) (aR (br (K:=K) rfl) (pv 2) (bp pe_int) bo) (by rfl) (by rfl) (by rfl))) (by rfl) (by first | exact .inl rfl | exact .inr rfl | assumption)) (@pss_one _ _ _ (@eS _ _ _ _ (md PySem.F.plainAttrs_list PySem.F.slot_list_extend PySem.F.type_list_extend qd (pv 3) (@pa1 _ _ _ (aZ rfl (csR (sc:=ac eK) (NL:=["where","deeper"]) (N:=["kind","value","path","found","entry","inner","behind"]) (ρ:=[4]) (N':=["where","deeper","entry"]) rfl rfl rfl (by decide +kernel) (by decide +kernel) (by decide +kernel) rfl (by decide +kernel)) (aL (K:=K) rfl (pv 6)) (fun _ _ _ _=>(bL (K:=K) (n:=2) rfl rfl (am (ah (i:=0) (show List.Nodup (α:=Str) ["where","deeper","entry"] by decide +kernel) rfl (Or.inl rfl)) (am (ah (i:=1) (show List.Nodup (α:=Str) ["where","deeper","entry"] by decide +kernel) rfl (Or.inl rfl)) aG)))) (fun _ _ _ _=>(aj (K:=K) rfl (@pa2 _ _ _ _ _ (@pe_op _ _ _ _ _ _ _ _ (bC (K:=K) rfl) (aj (K:=K) rfl (@pa1 _ _ _ (pv 2) (by rfl))) (pv 0)) (pv 1) (by rfl) (by rfl))))) (by rfl))) (by rfl)))) pss_nil))) (@pss_one _ _ _ (@ps_ret _ _ _ _ (pv 3)))))),?_⟩
 cases p with
 | nil =>
  refine ⟨_,rfl,u,_,rfl,hu.d,rfl,_,rfl,aY ?_⟩;refine ⟨[],.nil,(by show 0≤sizeLine;decide),fun v1 H1 g1 hv1=>?_⟩;refine ⟨_,rfl,[.tup [],e],.cons hv1 (.cons (he.same g1) .nil),sz2,fun v2 H2 g2 hv2=>⟨sz1,fun l hln=>?_⟩⟩;have g3:=ab hln (.lst [v2]);exact q l [v2] _ ((g1.trans g2).trans g3) ((g1.trans g2).free hln) aa (.cons (hv2.same g3) .nil) (Nat.one_le_pow _ _ (by decide))
 | cons z p =>
  obtain ⟨k,st,ld'⟩:=aw ld;refine ⟨_,rfl,u,_,rfl,hu.d,rfl,_,rfl,iteN (sA z p) ?_⟩;refine ⟨(by show 0≤sizeLine;decide),fun f0 hf0=>?_⟩;have g0:=ab hf0 (.lst []);refine ⟨_,rfl,_,rfl,m,d,e,x,y,rfl,hd.same g0,he.same g0,gk,gv,fun r1 ys1 H1 g1 hr1 e1 hp1=>?_⟩;obtain ⟨l1,en1⟩:=uh gk gv st;rw [qG en1] at hp1;have nf:r1≠f0:=(by intro c;rw [c,aa] at hr1;cases hr1);have F1:H1 f0=some (.lst []):=g1 _ _ aa;have S1:Same H H1:=g0.trans g1;rcases lD (p:=p) gk gv en1 st with ⟨fs,gs,m',rfl,rfl,rfl,eg,nd,lk,gg,hz,rfl,gf,hl8⟩ | ⟨rfl,w,rest,its,m',ed,hw,ik,rfl,gk',ei,rfl,gg,hl8,_,_⟩
  ·have ndg:(gs.map (·.1)).Nodup:=by rw [eg];exact nd
   obtain ⟨v0,lv,gv0⟩:=cx eg gg lk;have lgs:gs.length=fs.length:=by have:=congrArg List.length eg;simpa using this
   have hpl:pl (z :: p) (.tup [.str "record",.tup (fs.map prD)]) (.tup [.str "record",.tup (gs.map prD)])=gs.flatMap fun g=>if g.1=z then (pl p k g.2).map (bH (.str z)) else []:=by
    rw [m8 (F:=fun v=>(pl p k v).map (bH (.str z))) ndg lv];show (if z= "each" then _ else _)=_;rw [if_neg hz];have e1:ax (.tup [.str "record",.tup (fs.map prD)]) z=some k:=by
     show bQ (fs.map prD) z=some k;rw [au];exact lk
    have e2:keyD (.tup [.str "record",.tup (gs.map prD)]) z=v0:=by
     show (bQ (gs.map prD) z).getD .non=v0;rw [au,lv]
     rfl
    rw [e1,e2]
    rfl
   refine ⟨r1,rfl,⟨ys1,SqL.of e1⟩,cj (xs:=ys1) (fun i σ H'=>∃ ys v4 v5 v6,But f0 H1 H'∧H' f0=some (.lst ys)∧IsPs K H' ((gs.take i).flatMap fun g=>if g.1=z then (pl p k g.2).map (bH (.str z)) else []) ys∧ys.length≤i*8 ^ m'∧σ=[some x,some y,some u,some (.ref f0),v4,v5,v6])
    ⟨[],none,none,none,But.refl _ _,F1,.nil,by simp,rfl⟩ (fun i σ H' _ pv=>by
     obtain ⟨_,_,_,_,b,_⟩:=pv;exact SqL.of (b _ _ nf e1)) ?_ ?_⟩
   ·rintro i v0 σ H2 hv0 ⟨ys,v4,v5,v6,b2,e2,hp2,len2,rfl⟩;obtain ⟨d0,hd0,hx0⟩:=hp1.get' hv0;rw [List.getElem?_map] at hd0;obtain ⟨⟨en0,in0⟩,hit,rfl⟩:=Option.map_eq_some_iff.mp hd0;have hi8:i < fs.length:=by rw [← lgs];exact (List.getElem?_eq_some_iff.mp hit).1
    have hx2:=hx0.but F1 b2;have hd2:=(hd.same S1).but F1 b2;have hu2:=(hu.same S1).but F1 b2;obtain ⟨b,zs,rfl,hb,pb,rb⟩:=hx2.unref
    cases rb with
    | @cons _ _ y1 _ q1 rb =>
    cases rb with
    | @cons _ _ y2 _ q2 rb =>
    cases rb
    obtain rfl:=ar q1;refine ⟨b,_,rfl,hb,rfl,_,_,rfl,_,_,rfl,rfl,?_⟩;have at0:atI (List.map Dt.str (z :: p)) ((0:Nat):Int)=some (.str z):=bz (by simp);refine ⟨_,rfl,_,_,_,hu2,rfl,at0,isS ?_⟩;refine ⟨_,rfl,_,_,_,hd2,rfl,rfl,isS ?_⟩;refine ⟨rfl,_,rfl,aY ?_⟩;refine ⟨_,rfl,.str z,.str en0,.str,.str,(show (Dt.str z).dep≤60 by simp [Dt.dep]),_,rfl,?_⟩;refine cp (fun c1=>?_) (fun c1=>?_)
    rotate_left
    ·have hez:¬ en0=z:=fun c=>c1 (by rw [c];exact aF _);refine ⟨ys,_,_,_,b2,e2,?_,?_,rfl⟩
     ·rw [List.take_add_one,hit,List.flatMap_append]
      simpa [hez] using hp2
     ·rw [Nat.succ_mul];exact Nat.le_trans len2 (Nat.le_add_right _ _)
    have hez:en0=z:=(by have c2:eqD (.str z) (.str en0)=true:=c1;simp [eqD] at c2;exact c2.symm);subst hez;obtain ⟨⟨wf,k'⟩,hf⟩:∃ f,fs[i]?=some f:=⟨_,List.getElem?_eq_getElem hi8⟩;obtain rfl:wf=en0:=by
     have h1:(gs.map (·.1))[i]?=some en0:=by rw [List.getElem?_map,hit];rfl
     have h2:(fs.map (·.1))[i]?=some wf:=by rw [List.getElem?_map,hf];rfl
     rw [eg,h2] at h1;exact Option.some.inj h1
    have hk:k'=k:=Option.some.inj ((cM nd hf).symm.trans lk);subst hk;have gin:GV k' in0:=gg i _ _ hf hit;have gk':SK m' k':=gf _ (List.mem_of_getElem? hf);refine ⟨_,rfl,_,rfl,_,_,x,_,rfl,hd2,gk,.inl ⟨fs.map prD,wf,rfl,rfl,?_⟩⟩;rw [show ax (.tup [.str "record",.tup (fs.map prD)]) wf=some k' from (by show bQ (fs.map prD) wf=some k';rw [au];exact lk)];intro vk hvk;refine ⟨_,rfl,_,rfl,_,rfl,_,hu2,fun v7 H7 g7 hv7=>?_⟩;rw [show List.map Dt.str (wf :: p)=Dt.str wf :: p.map Dt.str from rfl,sB] at hv7;refine ⟨m',k',in0,p,vk,y2,v7,by lia,(by simp only [List.length_cons] at hp;lia),rfl,hvk.same g7,q2.same g7,hv7,gk',gin,ld',(by simp only [List.length_cons] at hl;lia),fun r8 ys8 H8 g8 hr8 e8 hp8 len8=>?_⟩;have f8:=g8 _ _ (g7 _ _ e2);have hy8:=(q1.same g7).same g8;have p8:8 ^ m'≤512:=Nat.pow_le_pow_right (by decide) (show m'≤3 by lia);refine ⟨_,rfl,.inl ⟨rfl,_,SqL.of f8⟩,_,rfl,r8,rfl,⟨_,SqL.of e8⟩,fun l9 hl9=>?_⟩;refine aT (K:=K) (xs:=ys8) (fun j zs σ H'=>Same H8 H'∧H' l9=some (.lst zs)∧IsPs K H' (((pl p k' in0).take j).map (bH (.str wf))) zs∧zs.length≤j∧∃ v1 v2,σ=[v1,v2,some (.str wf)])
     ⟨ab hl9 _,aa,.nil,Nat.le_refl _,none,none,rfl⟩ (fun j zs σ H' _ pv=>SqL.of (pv.1 _ _ e8)) ?_ ?_
    ·rintro j u9 zs σ H9 N hu9 ⟨s9,e9,hp9,len9,w1,w2,rfl⟩ next;have hj:j < ys8.length:=(List.getElem?_eq_some_iff.mp hu9).1;obtain ⟨d9,hd9,hx9⟩:=hp8.get' hu9;obtain ⟨w9,v9,rfl,lw9⟩:=gB p k' in0 d9 (List.mem_of_getElem? hd9);have hx10:=hx9.same s9;obtain ⟨b9,zs9,rfl,hb9,pb9,rb9⟩:=hx10.unref
     cases rb9 with
     | @cons _ _ t1 _ t1p rb9 =>
     cases rb9 with
     | @cons _ _ t2 _ t2p rb9 =>
     cases rb9
     refine ⟨b9,_,rfl,hb9,rfl,_,_,rfl,_,_,rfl,rfl,?_⟩;refine ⟨_,rfl,[.str wf],.cons (hy8.same s9) .nil,sz1,fun v10 H10 g10 hv10=>?_⟩;refine ⟨_,rfl,_,_,hv10,t1p.same g10,Nat.le_of_lt (ag (by simp only [List.length_cons,List.length_nil] at hl ⊢;lia)),fun v11 H11 g11 hv11=>?_⟩;refine ⟨_,rfl,[.tup ([.str wf]++w9),v9],.cons hv11 (.cons ((t2p.same g10).same g11) .nil),sz2,fun v12 H12 g12 hv12=>?_⟩;have S12:=(g10.trans g11).trans g12;have f12:=S12 _ _ e9;have b13:But l9 H12 (upd H12 l9 (.lst (zs++[v12]))):=But.put;refine ⟨f12,ag (by lia),next _ _ _ ⟨fun c o ec=>?_,aa,?_,?_,_,_,rfl⟩⟩
     ·rw [af (ae ec hl9)];exact S12 _ _ (s9 _ _ ec)
     ·rw [← aB (bH (.str wf)) hd9];exact ((hp9.same S12).but f12 b13).append (.cons (hv12.but f12 b13) .nil)
     ·rw [List.length_append];simp only [List.length_cons,List.length_nil];lia
    ·rintro zs σ H9 ⟨s9,e9,hp9,len9,w1,w2,rfl⟩;have el8:=hp8.length;rw [← el8,List.take_length] at hp9;have f9:=s9 _ _ f8;have nl9:f0≠l9:=ae f8 hl9;have b10:But f0 H9 (upd H9 f0 (.lst (ys++zs))):=But.put;refine ⟨f0,l9,ys,zs,rfl,rfl,f9,e9,?_,?_⟩
     ·have c1:i*8 ^ m'≤8*512:=Nat.mul_le_mul (by lia) p8;exact Nat.le_trans (show ys.length+zs.length≤4608 by lia) (by decide)
     ·refine ⟨ys++zs,_,_,_,fun c o nc ec=>?_,aa,?_,?_,rfl⟩
      ·rw [af nc];exact s9 _ _ (g8 _ _ (g7 _ _ (b2 c o nc ec)))
      ·rw [List.take_add_one,hit,List.flatMap_append];refine (((hp2.same g7).same g8).same s9 |>.but f9 b10).append ?_
       simpa using hp9.but f9 b10
      ·rw [List.length_append,Nat.succ_mul];lia
   ·rintro σ H2 ⟨ys,v4,v5,v6,b2,e2,hp2,len2,rfl⟩;have el:gs.length=ys1.length:=by have:=hp1.length;rwa [List.length_map] at this
    refine ⟨_,rfl,q f0 ys H2 ?_ hf0 e2 ?_ ?_⟩
    ·exact fun c o ec=>b2 c o (ae ec hf0) (S1 _ _ ec)
    ·rw [← el,List.take_length] at hp2;rw [hpl];exact hp2
    ·rw [Nat.pow_succ];have:ys1.length*8 ^ m'≤8*8 ^ m':=Nat.mul_le_mul_right _ (by lia);lia
  ·have hpl:pl ("each" :: p) d e=its.flatMap fun p0=>(pl p k p0.2).map (bH p0.1):=by
    show (if ("each" : Str)= "each" then _ else _)=_;rw [if_pos rfl,ei,ik]
    rfl
   refine ⟨r1,rfl,⟨ys1,SqL.of e1⟩,cj (xs:=ys1) (fun i σ H'=>∃ ys v4 v5 v6,But f0 H1 H'∧H' f0=some (.lst ys)∧IsPs K H' ((its.take i).flatMap fun p0=>(pl p k p0.2).map (bH p0.1)) ys∧ys.length≤i*8 ^ m'∧σ=[some x,some y,some u,some (.ref f0),v4,v5,v6])
    ⟨[],none,none,none,But.refl _ _,F1,.nil,by simp,rfl⟩ (fun i σ H' _ pv=>by
     obtain ⟨_,_,_,_,b,_⟩:=pv;exact SqL.of (b _ _ nf e1)) ?_ ?_⟩
   ·rintro i v0 σ H2 hv0 ⟨ys,v4,v5,v6,b2,e2,hp2,len2,rfl⟩;obtain ⟨d0,hd0,hx0⟩:=hp1.get' hv0;rw [List.getElem?_map] at hd0;obtain ⟨⟨en0,in0⟩,hit,rfl⟩:=Option.map_eq_some_iff.mp hd0;have hx2:=hx0.but F1 b2;have hd2:=(hd.same S1).but F1 b2;have hu2:=(hu.same S1).but F1 b2;obtain ⟨b,zs,rfl,hb,pb,rb⟩:=hx2.unref
    cases rb with
    | @cons _ _ y1 _ q1 rb =>
    cases rb with
    | @cons _ _ y2 _ q2 rb =>
    cases rb
    refine ⟨b,_,rfl,hb,rfl,_,_,rfl,_,_,rfl,rfl,?_⟩;have at0:atI (List.map Dt.str (("each" : Str) :: p)) ((0:Nat):Int)=some (.str "each"):=bz (by simp);refine ⟨_,rfl,_,_,_,hu2,rfl,at0,isS ?_⟩;have hd3:=hd2;rw [ed] at hd3;have at1:atI (Dt.str w :: rest) ((0:Nat):Int)=some (.str w):=bz (by simp);refine ⟨_,rfl,_,_,_,hd3,rfl,at1,isS ?_⟩;refine ⟨rfl,_,rfl,iteN (ak hw) ?_⟩;refine ⟨.str "each",.str "each",.str,.str,by decide,_,rfl,aO ?_⟩;have gin:GV k in0:=gg (en0,in0) (List.mem_of_getElem? hit);have hi8:i < its.length:=(List.getElem?_eq_some_iff.mp hit).1;refine ⟨_,rfl,_,rfl,_,d,x,y1,rfl,hd2,gk,.inr ⟨(fun fs c=>hw (by rw [ed] at c;simp at c;exact c.1)),?_⟩⟩;rw [ik];intro vk hvk;refine ⟨_,rfl,_,rfl,_,rfl,_,hu2,fun v7 H7 g7 hv7=>?_⟩;rw [show List.map Dt.str (("each" : Str) :: p)=Dt.str ("each" : Str) :: p.map Dt.str from rfl,sB] at hv7;refine ⟨m',k,in0,p,vk,y2,v7,by lia,(by simp only [List.length_cons] at hp;lia),rfl,hvk.same g7,q2.same g7,hv7,gk',gin,ld',(by simp only [List.length_cons] at hl;lia),fun r8 ys8 H8 g8 hr8 e8 hp8 len8=>?_⟩;have f8:=g8 _ _ (g7 _ _ e2);have hy8:=(q1.same g7).same g8;have p8:8 ^ m'≤512:=Nat.pow_le_pow_right (by decide) (show m'≤3 by lia);refine ⟨_,rfl,.inl ⟨rfl,_,SqL.of f8⟩,_,rfl,r8,rfl,⟨_,SqL.of e8⟩,fun l9 hl9=>?_⟩;refine aT (K:=K) (xs:=ys8) (fun j zs σ H'=>Same H8 H'∧H' l9=some (.lst zs)∧IsPs K H' (((pl p k in0).take j).map (bH en0)) zs∧zs.length≤j∧∃ v1 v2,σ=[v1,v2,some y1])
     ⟨ab hl9 _,aa,.nil,Nat.le_refl _,none,none,rfl⟩ (fun j zs σ H' _ pv=>SqL.of (pv.1 _ _ e8)) ?_ ?_
    ·rintro j u9 zs σ H9 N hu9 ⟨s9,e9,hp9,len9,w1,w2,rfl⟩ next;have hj:j < ys8.length:=(List.getElem?_eq_some_iff.mp hu9).1;obtain ⟨d9,hd9,hx9⟩:=hp8.get' hu9;obtain ⟨w9,v9,rfl,lw9⟩:=gB p k in0 d9 (List.mem_of_getElem? hd9);have hx10:=hx9.same s9;obtain ⟨b9,zs9,rfl,hb9,pb9,rb9⟩:=hx10.unref
     cases rb9 with
     | @cons _ _ t1 _ t1p rb9 =>
     cases rb9 with
     | @cons _ _ t2 _ t2p rb9 =>
     cases rb9
     refine ⟨b9,_,rfl,hb9,rfl,_,_,rfl,_,_,rfl,rfl,?_⟩;refine ⟨_,rfl,[en0],.cons (hy8.same s9) .nil,sz1,fun v10 H10 g10 hv10=>?_⟩;refine ⟨_,rfl,_,_,hv10,t1p.same g10,Nat.le_of_lt (ag (by simp only [List.length_cons,List.length_nil] at hl ⊢;lia)),fun v11 H11 g11 hv11=>?_⟩;refine ⟨_,rfl,[.tup ([en0]++w9),v9],.cons hv11 (.cons ((t2p.same g10).same g11) .nil),sz2,fun v12 H12 g12 hv12=>?_⟩;have S12:=(g10.trans g11).trans g12;have f12:=S12 _ _ e9;have b13:But l9 H12 (upd H12 l9 (.lst (zs++[v12]))):=But.put;refine ⟨f12,ag (by lia),next _ _ _ ⟨fun c o ec=>?_,aa,?_,?_,_,_,rfl⟩⟩
     ·rw [af (ae ec hl9)];exact S12 _ _ (s9 _ _ ec)
     ·rw [← aB (bH en0) hd9];exact ((hp9.same S12).but f12 b13).append (.cons (hv12.but f12 b13) .nil)
     ·rw [List.length_append];simp only [List.length_cons,List.length_nil];lia
    ·rintro zs σ H9 ⟨s9,e9,hp9,len9,w1,w2,rfl⟩;have el8:=hp8.length;rw [← el8,List.take_length] at hp9;have f9:=s9 _ _ f8;have nl9:f0≠l9:=ae f8 hl9;have b10:But f0 H9 (upd H9 f0 (.lst (ys++zs))):=But.put;refine ⟨f0,l9,ys,zs,rfl,rfl,f9,e9,?_,?_⟩
     ·have c1:i*8 ^ m'≤8*512:=Nat.mul_le_mul (by lia) p8;exact Nat.le_trans (show ys.length+zs.length≤4608 by lia) (by decide)
     ·refine ⟨ys++zs,_,_,_,fun c o nc ec=>?_,aa,?_,?_,rfl⟩
      ·rw [af nc];exact s9 _ _ (g8 _ _ (g7 _ _ (b2 c o nc ec)))
      ·rw [List.take_add_one,hit,List.flatMap_append];refine (((hp2.same g7).same g8).same s9 |>.but f9 b10).append ?_
       simpa using hp9.but f9 b10
      ·rw [List.length_append,Nat.succ_mul];lia
   ·rintro σ H2 ⟨ys,v4,v5,v6,b2,e2,hp2,len2,rfl⟩;have el:its.length=ys1.length:=by have:=hp1.length;rwa [List.length_map] at this
    refine ⟨_,rfl,q f0 ys H2 ?_ hf0 e2 ?_ ?_⟩
    ·exact fun c o ec=>b2 c o (ae ec hf0) (S1 _ _ ec)
    ·rw [← el,List.take_length] at hp2;rw [hpl];exact hp2
    ·rw [Nat.pow_succ];have:ys1.length*8 ^ m'≤8*8 ^ m':=Nat.mul_le_mul_right _ (by lia);lia
theorem sC {z:Str} {v:Dt}:∀ {fs:List (Str×Dt)},lookS fs z=some v→∃ f∈fs,f.2=v
 | [],h=>by simp [lookS] at h
 | f :: fs,h=>by
  by_cases hz:f.1=z
  ·have h':lookS (f :: fs) z=some f.2:=by simp [lookS,hz]
   rw [h'] at h;exact ⟨f,List.mem_cons_self,Option.some.inj h⟩
  ·have h':lookS (f :: fs) z=lookS fs z:=by simp [lookS,hz]
   rw [h'] at h;obtain ⟨g,hg,e⟩:=sC h;exact ⟨g,List.mem_cons_of_mem _ hg,e⟩
theorem dD:∀ {l:List Dt} {B:Nat},(∀ x∈l,x.dep≤B)→depS l≤B
 | [],_,_=>Nat.zero_le _
 | d :: l,B,h=>by
  have h1:=h d List.mem_cons_self;have h2:=dD (l:=l) (B:=B) fun x hx=>h x (List.mem_cons_of_mem _ hx);simp only [depS];lia
theorem m9 (p:List Str):(sD p).dep≤60:=by
 have:depS (p.map Dt.str)≤0:=dD fun x hx=>by
  obtain ⟨z,_,rfl⟩:=List.mem_map.mp hx;exact Nat.le_refl _
 show depS (p.map Dt.str)+1≤60;lia
theorem jP {d e:Dt} (h:GV d e):∀ ws:List Str,d=.tup [.str "choice",.tup (ws.map Dt.str)]→∃ z,e=.str z:=by
 cases h with
 | choice _=>intro ws _;exact ⟨_,rfl⟩
 | text _=>intro ws _;exact ⟨_,rfl⟩
 | _ =>
  intro ws e;simp at e <;> first | exact absurd e.1 (by decide) | exact absurd e (by decide)
theorem pN {d e:Dt} (h:GV d e):∀ i:Int,d=.tup [.str "text",.int i]→∃ z,e=.str z:=by
 cases h with
 | choice _=>intro ws _;exact ⟨_,rfl⟩
 | text _=>intro ws _;exact ⟨_,rfl⟩
 | _ =>
  intro ws e;simp at e <;> first | exact absurd e.1 (by decide) | exact absurd e (by decide)
theorem jQ {d e:Dt} (h:GV d e):∀ i j:Int,d=.tup [.str "number",.int i,.int j]→∃ x,e=.int x:=by
 cases h with
 | number _ _=>intro i j _;exact ⟨_,rfl⟩
 | _ =>
  intro i j e;simp at e <;> first | exact absurd e.1 (by decide) | exact absurd e (by decide)
theorem oG:∀ (m:Nat) {d e:Dt},SK m d→GV d e→e.dep≤3*m:=by
 intro m
 induction m with
 | zero =>
  intro d e gk gv
  cases gk with
  | text n i b1 b2 =>
   obtain ⟨z,rfl⟩:=pN gv i rfl;exact Nat.zero_le _
  | choice n ws b1 b2 =>
   obtain ⟨z,rfl⟩:=jP gv ws rfl;exact Nat.zero_le _
  | number n i j b1 b2 b3 =>
   obtain ⟨z,rfl⟩:=jQ gv i j rfl;exact Nat.zero_le _
 | succ m ih =>
  intro d e gk gv
  cases gk with
  | @rcd n' fs g nd nm hl =>
   obtain ⟨gs,rfl,eg,gg⟩:=cL gv fs rfl;have:depS (gs.map prD)≤3*m+1:=dD fun x hx=>by
    obtain ⟨⟨a,b⟩,hg,rfl⟩:=List.mem_map.mp hx;obtain ⟨i,hi⟩:=List.mem_iff_getElem?.mp hg;have lgs:gs.length=fs.length:=by have:=congrArg List.length eg;simpa using this
    have hi8:i < fs.length:=by rw [← lgs];exact (List.getElem?_eq_some_iff.mp hi).1
    obtain ⟨f,hf⟩:∃ f,fs[i]?=some f:=⟨_,List.getElem?_eq_getElem hi8⟩;have:b.dep≤3*m:=ih (g f (List.mem_of_getElem? hf)) (gg i f (a,b) hf hi);simp only [prD,Dt.dep,depS];lia
   simp only [Dt.dep,depS];lia
  | @list n' k i g b1 b2 =>
   obtain ⟨vs,rfl,gg,hl⟩:=df gv k i rfl;have:depS vs≤3*m:=dD fun x hx=>ih g (gg x hx);simp only [Dt.dep,depS];lia
  | @rows n' z fs kk i g lk kK b1 b2 =>
   obtain ⟨vs,rfl,gg,hl,_⟩:=dh gv _ z i rfl;have:depS vs≤3*m:=dD fun x hx=>ih g (gg x hx);simp only [Dt.dep,depS];lia
  | text n i b1 b2 =>
   obtain ⟨z,rfl⟩:=pN gv i rfl;exact Nat.zero_le _
  | choice n ws b1 b2 =>
   obtain ⟨z,rfl⟩:=jP gv ws rfl;exact Nat.zero_le _
  | number n i j b1 b2 b3 =>
   obtain ⟨z,rfl⟩:=jQ gv i j rfl;exact Nat.zero_le _
theorem fe {m:Nat} {d k:Dt} {z:Str} (gk:SK m d) (st:stepD d z=some k):∃ m',m=m' + 1∧SK m' k:=by
 cases gk with
 | @rcd n' fs g nd nm hl =>
  have hz:z≠ "each" :=by
   intro c;subst c;simp [stepD,ao] at st
  unfold stepD at st;rw [if_neg hz] at st;have st':lookS fs z=some k:=by rw [← au];exact st
  refine ⟨n',rfl,?_⟩;obtain ⟨f,hf,e⟩:=sC st';rw [← e];exact g f hf
 | @list n' k' i g b1 b2 =>
  have hz:z= "each" :=by
   by_cases c:z= "each"
   ·exact c
   ·unfold stepD at st;rw [if_neg c] at st;simp [ax] at st
  subst hz;rw [cu] at st;obtain rfl:=Option.some.inj st;exact ⟨n',rfl,g⟩
 | @rows n' z' fs kk i g lk kK b1 b2 =>
  have hz:z= "each" :=by
   by_cases c:z= "each"
   ·exact c
   ·unfold stepD at st;rw [if_neg c] at st;simp [ax] at st
  subst hz;rw [bV] at st;obtain rfl:=Option.some.inj st;exact ⟨n',rfl,g⟩
 | text _ _ _=>exact absurd st (by unfold stepD;split <;> simp [ao,ax])
 | choice _ _ _ _=>exact absurd st (by unfold stepD;split <;> simp [ao,ax] <;> exact fun c=>absurd c (by decide))
 | number _ _ _ _ _=>exact absurd st (by unfold stepD;split <;> simp [ao,ax] <;> exact fun c=>absurd c (by decide))
theorem di:∀ {q:List Str} {m:Nat} {d:Dt},SK m d→(al d q).isSome=true→q.length≤m
 | [],m,d,_,_=>Nat.zero_le _
 | z :: q,m,d,gk,h=>by
  obtain ⟨k,st,ld⟩:=aw h;obtain ⟨m',rfl,gk'⟩:=fe gk st;have:=di gk' ld;rw [List.length_cons];lia
theorem ui (T:Tx K mg ad) {f:Addr} {fd:FuncData} (D:Gn K mg "places" eK ["kind","value","path"] f fd):FnOk P w K mg base CX0 6 f fd ["kind","value","path"] (iD K 4):=by
 have w0:FnOk P w K mg base CX0 2 f fd ["kind","value","path"] (iD K 0):=ce fun vs H Q E z=>by obtain ⟨m,_,_,_,_,_,_,_,e,_⟩:=z;exact absurd e (Nat.not_lt_zero _)
 exact eZ T 3 D (eZ T 2 D (eZ T 1 D (eZ T 0 D w0)))
def whD (x:Dt):Dt:=match x with
 | .tup [w,_]=>w
 | _=>x
def dE (x:Dt):Dt:=match x with
 | .tup [_,v]=>v
 | _=>x
def uj (K:PySem.W.Frag):Sp:=fun vs H Q _=>∃ (m:Nat) (d e:Dt) (p:List Str) (x y u:V),m≤3∧p.length < 4∧vs=[x,y,u]∧IsP K H d x∧IsP K H e y∧IsP K H (sD p) u∧SK m d∧GV d e∧(al d p).isSome=true ∧
 ∀ (r:Addr) (ys:List V) (H':Hp),Same H H'→H r=none→H' r=some (.lst ys)→IsPs K H' ((pl p d e).map whD) ys→ys.length≤8 ^ m→Q (.ref r) H'
theorem uO {m:Nat} (h:m≤3):8 ^ m≤512:=Nat.pow_le_pow_right (by decide) h
theorem jR (T:Tx K mg ad) {f:Addr} {fd:FuncData} (F:Gn K mg "wheres" iZ ["kind","value","path"] f fd):FnOk P w K mg base CX0 7 f fd ["kind","value","path"] (uj K):=by
 obtain ⟨_,_,y9⟩:=T.places;have zx:=ui (P:=P) (w:=w) (base:=base) T y9;refine F.F.ok qJ (fun vs H Q E h=>?_) (fun cdv A outer s H vs Q E hr h=>?_)
 ·obtain ⟨m,d,e,p,x,y,u,_,_,rfl,_⟩:=h
  rfl
 obtain ⟨m,d,e,p,x,y,u,h3,hp,rfl,hd,he,hu,gk,gv,ld,q⟩:=h;refine ⟨_,(@pss_one _ _ _ (@ps_ret _ _ _ _ (aZ rfl (cs0 (NL:=["where","inner"]) rfl (by decide +kernel) (by decide +kernel)) (aL (K:=K) rfl (pcl y9 zx (hr.mono (by lia)) rfl (@pa3 _ _ _ _ _ _ _ (pv 0) (pv 1) (pv 2) (by rfl) (by rfl) (by rfl)))) (fun _ _ _ _=>(bL (K:=K) (n:=2) rfl rfl (am (ah (i:=0) (show List.Nodup (α:=Str) ["where","inner"] by decide +kernel) rfl (Or.inl rfl)) (am (ah (i:=1) (show List.Nodup (α:=Str) ["where","inner"] by decide +kernel) rfl (Or.inl rfl)) aG)))) (fun _ _ _ _=>(pv 0))))),?_⟩;refine ⟨_,rfl,_,rfl,_,rfl,m,d,e,p,x,y,u,h3,hp,rfl,hd,he,hu,gk,gv,ld,by lia,fun r8 ys8 H8 g8 hr8 e8 hp8 len8=>?_⟩;have p8:=uO h3;refine ⟨r8,rfl,⟨_,SqL.of e8⟩,fun l9 hl9=>?_⟩;refine aT (K:=K) (xs:=ys8) (fun j zs σ H'=>Same H8 H'∧H' l9=some (.lst zs)∧IsPs K H' (((pl p d e).take j).map whD) zs∧zs.length≤j∧∃ v1 v2,σ=[v1,v2])
  ⟨ab hl9 _,aa,.nil,Nat.le_refl _,none,none,rfl⟩ (fun j zs σ H' _ pv=>SqL.of (pv.1 _ _ e8)) ?_ ?_
 ·rintro j u9 zs σ H9 N hu9 ⟨s9,e9,hp9,len9,w1,w2,rfl⟩ next;have hj:j < ys8.length:=(List.getElem?_eq_some_iff.mp hu9).1;obtain ⟨d9,hd9,hx9⟩:=hp8.get' hu9;obtain ⟨w9,v9,rfl,lw9⟩:=gB p d e d9 (List.mem_of_getElem? hd9);obtain ⟨b9,zs9,rfl,hb9,pb9,rb9⟩:=(hx9.same s9).unref
  cases rb9 with
  | @cons _ _ t1 _ t1p rb9 =>
  cases rb9 with
  | @cons _ _ t2 _ t2p rb9 =>
  cases rb9
  refine ⟨b9,_,rfl,hb9,rfl,_,_,rfl,_,_,rfl,rfl,?_⟩;have b13:But l9 H9 (upd H9 l9 (.lst (zs++[t1]))):=But.put;refine ⟨_,rfl,e9,ag (by lia),next _ _ _ ⟨fun c o ec=>?_,aa,?_,?_,_,_,rfl⟩⟩
  ·rw [af (ae ec hl9)];exact s9 _ _ ec
  ·rw [← aB whD hd9];exact (hp9.but e9 b13).append (.cons (t1p.but e9 b13) .nil)
  ·rw [List.length_append];simp only [List.length_cons,List.length_nil];lia
 ·rintro zs σ H9 ⟨s9,e9,hp9,len9,w1,w2,rfl⟩;rw [← hp8.length,List.take_length] at hp9;exact q l9 zs H9 (g8.trans s9) (g8.free hl9) e9 hp9 (by lia)
def inD (d en:Dt):Dt:=match en with
 | .str z=>((ax d z).orElse fun _=>ao d).getD .non
 | _=>(ao d).getD .non
def fA:List Dt→Dt→Dt→Option Dt
 | [],_,e=>some e
 | en :: w,d,e=>((entD d e).find? fun x=>eqD (whD x) en).bind fun x=>fA w (inD d en) (dE x)
theorem fg {z:Str} {v:Dt}:∀ {gs:List (Str×Dt)},lookS gs z=some v→(gs.map prD).find? (fun x=>eqD (whD x) (.str z))=some (.tup [.str z,v])
 | [],h=>by simp [lookS] at h
 | g :: gs,h=>by
  rw [List.map_cons]
  by_cases hz:g.1=z
  ·have h':lookS (g :: gs) z=some g.2:=by simp [lookS,hz]
   rw [h'] at h;obtain rfl:=Option.some.inj h;rw [List.find?_cons_of_pos (by show eqD (.str g.1) (.str z)=true;rw [hz];exact aF _)];show some (Dt.tup [.str g.1,g.2])=_;rw [hz]
  ·have h':lookS (g :: gs) z=lookS gs z:=by simp [lookS,hz]
   rw [h'] at h;rw [List.find?_cons_of_neg (by show ¬ eqD (.str g.1) (.str z)=true;simp [eqD,hz])];exact fg h
theorem iT {p:Dt×Dt}:∀ {its:List (Dt×Dt)},(its.map (·.1)).Nodup→(∀ p∈its,Sc p.1)→p∈its→(its.map fun p=>Dt.tup [p.1,p.2]).find? (fun x=>eqD (whD x) p.1)=some (.tup [p.1,p.2])
 | [],_,_,h=>by cases h
 | q :: its,nd,sc,h=>by
  have nd':=List.nodup_cons.mp (show (q.1 :: its.map (·.1)).Nodup from nd);rw [List.map_cons];rcases List.mem_cons.mp h with rfl | h
  ·exact List.find?_cons_of_pos (by show eqD p.1 p.1=true;exact aF _)
  ·rw [List.find?_cons_of_neg ?_]
   ·exact iT nd'.2 (fun p hp=>sc p (List.mem_cons_of_mem _ hp)) h
   ·intro c;have:=Sc.eq (sc q List.mem_cons_self) (sc p (List.mem_cons_of_mem _ h)) (show eqD q.1 p.1=true from c);exact nd'.1 (this ▸ List.mem_map_of_mem (f:=(·.1)) h)
theorem ng {l:List Dt} {j:Nat} {x:Dt} (f:Dt→Bool) (h:l[j]?=some x):(l.take (j+1)).filter f=(l.take j).filter f++if f x then [x] else []:=by
 rw [List.take_add_one,h,List.filter_append]
 cases hx:f x <;> simp [hx]
inductive Sp3 (m:Nat) (d e:Dt):Prop
 | rcd (fs gs:List (Str×Dt)) (m':Nat):d=.tup [.str "record",.tup (fs.map prD)]→e=.tup [.str "record",.tup (gs.map prD)]→entD d e=gs.map prD→gs.map (·.1)=fs.map (·.1)→(fs.map (·.1)).Nodup →
   (∀ (i:Nat) (f g:Str×Dt),fs[i]?=some f→gs[i]?=some g→GV f.2 g.2)→(∀ f∈fs,f.1≠ "each")→m=m' + 1→(∀ f∈fs,SK m' f.2)→ao d=none→(∀ n,wl (n+1) d=([],d) :: m5 n fs)→Sp3 m d e
 | its (its:List (Dt×Dt)) (k:Dt) (m':Nat):(∀ z,ax d z=none)→ao d=some k→m=m' + 1→SK m' k→itemsD d e=its→entD d e=its.map (fun p=>.tup [p.1,p.2])→(∀ p∈its,GV k p.2)→its.length≤8→(its.map (·.1)).Nodup→(∀ p∈its,Sc p.1) →
   (∀ n,wl (n+1) d=([],d) :: (wl n k).map (dn "each"))→(∀ fs,d≠.tup [.str "record",.tup fs])→Sp3 m d e
 | leaf:entD d e=[]→(∀ z,stepD d z=none)→(∀ n,wl (n+1) d=[([],d)])→Sp3 m d e
theorem sp3 {m:Nat} {d e:Dt} (gk:SK m d) (gv:GV d e):Sp3 m d e:=by
 have gk0:=gk
 cases gk with
 | @rcd n' fs g nd nm hl =>
  obtain ⟨gs,rfl,en,gg⟩:=cL gv fs rfl;exact .rcd fs gs n' rfl rfl (et _ _) en nd gg (fun f hf=>(nm f hf).1) rfl g rfl fun n=>oD n fs
 | @list n' k i g b1 b2 =>
  obtain ⟨vs,rfl,gg,h8⟩:=df gv k i rfl;rcases lD (p:=[]) gk0 gv (Ents.list) cu with ⟨_,_,_,c,_⟩ | ⟨_,w,rest,its,m',ed,hw,ik,em,gk',ei,el,g2,l8,nd,sc⟩
  ·simp at c
  ·refine .its its k m' (fun z=>?_) ik em gk' ei ((da _ _ _).trans el) g2 l8 nd sc (fun n=>lj n k i) (fun fs c=>by simp at c);simp [ax]
 | @rows n' z fs kk i g lk kK b1 b2 =>
  obtain ⟨vs,rfl,gg,h8,_⟩:=dh gv _ z i rfl;rcases lD (p:=[]) gk0 gv (Ents.rows) bV with ⟨_,_,_,c,_⟩ | ⟨_,w,rest,its,m',ed,hw,ik,em,gk',ei,el,g2,l8,nd,sc⟩
  ·simp at c
  ·refine .its its _ m' (fun z=>?_) ik em gk' ei ((eY _ _ _ _).trans el) g2 l8 nd sc (fun n=>lm n z _ i) (fun fs c=>by simp at c);simp [ax]
 | text =>
  refine .leaf ?_ (fun z=>?_) fun n=>lr n _
  ·cases gv;rfl
  ·unfold stepD;split <;> rfl
 | choice =>
  refine .leaf ?_ (fun z=>?_) fun n=>gZ n _
  ·refine de gv ?_ ?_ ?_
   ·intro _ c;simp at c;exact absurd c.1 (by decide)
   ·intro _ _ c;simp at c
   ·intro _ _ _ c;simp at c
  ·unfold stepD;split
   ·rfl
   ·simp [ax];exact fun c=>absurd c (by decide)
 | number =>
  refine .leaf ?_ (fun z=>?_) fun n=>hG n _ _
  ·cases gv;rfl
  ·unfold stepD;split
   ·simp [ao];exact fun c=>absurd c (by decide)
   ·rfl
theorem jS {gs:List (Str×Dt)} {g:Str×Dt} (h:g∈gs):∃ v,lookS gs g.1=some v:=by
 cases e:lookS gs g.1 with
 | some v=>exact ⟨v,rfl⟩
 | none =>
  unfold lookS at e;rw [Option.map_eq_none_iff,List.find?_eq_none] at e;exact absurd (e g h) (by simp)
theorem eA {fs:List (Str×Dt)} {z:Str} {k:Dt} (h:lookS fs z=some k):(z,k)∈fs:=by
 unfold lookS at h;obtain ⟨f,hf,rfl⟩:=Option.map_eq_some_iff.mp h;have h1:=List.find?_some hf;have h2:f.1=z:=by simpa using h1
 subst h2;exact List.mem_of_find?_eq_some hf
theorem gC {fs:List (Str×Dt)} {z:Str} {k:Dt} (h:lookS fs z=some k):inD (.tup [.str "record",.tup (fs.map prD)]) (.str z)=k∧ax (.tup [.str "record",.tup (fs.map prD)]) z=some k:=by
 have e:ax (.tup [.str "record",.tup (fs.map prD)]) z=some k:=by
  show bQ (fs.map prD) z=some k;rw [au];exact h
 refine ⟨?_,e⟩;show ((ax _ z).orElse _).getD .non=k;rw [e];rfl
theorem lE {d k en:Dt} (h:∀ z,ax d z=none) (i:ao d=some k):inD d en=k:=by
 unfold inD
 split
 ·rw [h,i];rfl
 ·rw [i];rfl
theorem nh {m:Nat} {d e en x:Dt} (gk:SK m d) (gv:GV d e) (sc:Sc en) (h:(entD d e).find? (fun x=>eqD (whD x) en)=some x) :
  ∃ m' p,x=.tup [en,p]∧m=m' + 1∧SK m' (inD d en)∧GV (inD d en) p ∧
   ((∃ fs z,d=.tup [.str "record",.tup fs]∧en=.str z∧ax d z=some (inD d en))∨((∀ fs,d≠.tup [.str "record",.tup fs])∧ao d=some (inD d en))):=by
 cases sp3 gk gv with
 | rcd fs gs m' ed ee ent eg nd gg nm em gf _ _ =>
  subst ed ee;rw [ent] at h;have hm:=List.mem_of_find?_eq_some h;have hx:=List.find?_some h;obtain ⟨g,hg,rfl⟩:=List.mem_map.mp hm;have e1:Dt.str g.1=en:=Sc.eq (.inr ⟨_,rfl⟩) sc (show eqD (.str g.1) en=true from hx);subst e1;obtain ⟨v,lv⟩:=jS hg;have nm1:g.1∈fs.map (·.1):=by rw [← eg];exact List.mem_map_of_mem hg
  obtain ⟨f,hf,ef⟩:=List.mem_map.mp nm1;obtain ⟨k,lk⟩:=jS hf;rw [ef] at lk;obtain ⟨v',lv',gv'⟩:=cx eg gg lk;rw [lv] at lv';obtain rfl:=Option.some.inj lv';rw [fg lv] at h;have e2:=Option.some.inj h;obtain ⟨i1,i2⟩:=gC lk;refine ⟨m',v,e2.symm,em,?_,?_,.inl ⟨_,g.1,rfl,rfl,?_⟩⟩
  ·rw [i1];exact gf (g.1,k) (eA lk)
  ·rw [i1];exact gv'
  ·rw [i1];exact i2
 | its its k m' hf hi em gk' ei ent g2 l8 nd scs _ nr =>
  rw [ent] at h;have hm:=List.mem_of_find?_eq_some h;have hx:=List.find?_some h;obtain ⟨p,hp,rfl⟩:=List.mem_map.mp hm;have e1:p.1=en:=Sc.eq (scs p hp) sc (show eqD p.1 en=true from hx);have e2:=lE (en:=en) hf hi;exact ⟨m',p.2,by rw [e1],em,by rw [e2];exact gk',by rw [e2];exact g2 p hp,.inr ⟨nr,by rw [e2];exact hi⟩⟩
 | leaf ent _ _=>rw [ent] at h;cases h
theorem aX {d k:Dt} {z:Str} {q:List Str} (h:stepD d z=some k):al d (z :: q)=al k q:=by
 show (stepD d z).bind _=_;rw [h];rfl
theorem dF:∀ (q:List Str) (m:Nat) (d e:Dt),SK m d→GV d e→(al d q).isSome=true→∀ x∈pl q d e,∃ w v,x=.tup [.tup w,v]∧fA w d e=some v∧(∀ a∈w,Sc a)∧w.length=q.length
 | [],m,d,e,gk,gv,_,x,h=>by
  obtain rfl:=List.mem_singleton.mp (show x∈[Dt.tup [.tup [],e]] from h);exact ⟨[],e,rfl,rfl,(fun a ha=>nomatch ha),rfl⟩
 | z :: q,m,d,e,gk,gv,ld,x,h=>by
  obtain ⟨k,st,ld'⟩:=aw ld;have h':x∈if z= "each" then (itemsD d e).flatMap fun p=>(pl q ((ao d).getD .non) p.2).map (bH p.1) else (pl q ((ax d z).getD .non) (keyD e z)).map (bH (.str z)):=h
  cases sp3 gk gv with
  | rcd fs gs m' ed ee ent eg nd gg nm em gf hi _ =>
   have hz:z≠ "each" :=by
    rintro rfl;unfold stepD at st;rw [if_pos rfl,hi] at st
    cases st
   rw [if_neg hz] at h';have lk:lookS fs z=some k:=by
    unfold stepD at st;rw [if_neg hz,ed] at st;have st':bQ (fs.map prD) z=some k:=st;rw [au] at st';exact st'
   subst ed ee;obtain ⟨v0,lv,gv0⟩:=cx eg gg lk;obtain ⟨i1,i2⟩:=gC lk;have e2:keyD (.tup [.str "record",.tup (gs.map prD)]) z=v0:=by
    show (bQ (gs.map prD) z).getD .non=v0;rw [au,lv];rfl
   rw [i2,e2] at h';obtain ⟨y,hy,rfl⟩:=List.mem_map.mp h';obtain ⟨w,v,rfl,hv,sc,lw⟩:=dF q m' k v0 (gf (z,k) (eA lk)) gv0 ld' y hy;refine ⟨.str z :: w,v,rfl,?_,?_,by simp [lw]⟩
   ·show ((entD _ _).find? _).bind _=_;rw [ent,fg lv];show fA w (inD _ _) v0=some v;rw [i1];exact hv
   ·intro a ha;rcases List.mem_cons.mp ha with rfl | ha
    ·exact .inr ⟨_,rfl⟩
    ·exact sc a ha
  | its its k' m' hf hi em gk' ei ent g2 l8 nd scs _ nr =>
   have hz:z= "each" :=by
    by_cases c:z= "each"
    ·exact c
    ·unfold stepD at st;rw [if_neg c,hf] at st
     cases st
   rw [if_pos hz,ei,hi] at h';have ek:k=k':=by
    unfold stepD at st;rw [if_pos hz,hi] at st;exact (Option.some.inj st).symm
   subst ek;obtain ⟨p,hp0,hp⟩:=List.mem_flatMap.mp h';obtain ⟨y,hy,rfl⟩:=List.mem_map.mp hp;obtain ⟨w',v,rfl,hv,sc,lw⟩:=dF q m' k p.2 gk' (g2 p hp0) ld' y hy;refine ⟨p.1 :: w',v,rfl,?_,?_,by simp [lw]⟩
   ·show ((entD _ _).find? _).bind _=_;rw [ent,iT nd scs hp0];show fA w' (inD _ _) p.2=some v;rw [lE hf hi];exact hv
   ·intro a ha;rcases List.mem_cons.mp ha with rfl | ha
    ·exact scs p hp0
    ·exact sc a ha
  | leaf _ hs _=>rw [hs] at st;cases st
inductive Sk3 (m:Nat) (d:Dt):Prop
 | rcd (fs:List (Str×Dt)) (m':Nat):d=.tup [.str "record",.tup (fs.map prD)]→(fs.map (·.1)).Nodup→(∀ f∈fs,f.1≠ "each")→m=m' + 1→(∀ f∈fs,SK m' f.2)→(∀ n,wl (n+1) d=([],d) :: m5 n fs)→Sk3 m d
 | its (k:Dt) (m':Nat):ao d=some k→m=m' + 1→SK m' k→(∀ n,wl (n+1) d=([],d) :: (wl n k).map (dn "each"))→Sk3 m d
 | leaf:(∀ n,wl (n+1) d=[([],d)])→Sk3 m d
theorem sk3 {m:Nat} {d:Dt} (gk:SK m d):Sk3 m d:=by
 cases gk with
 | @rcd n' fs g nd nm hl=>exact .rcd fs n' rfl nd (fun f hf=>(nm f hf).1) rfl g fun n=>oD n fs
 | @list n' k i g b1 b2=>exact .its k n' (by simp [ao]) rfl g fun n=>lj n k i
 | @rows n' z fs kk i g lk kK b1 b2=>exact .its _ n' (by simp [ao]) rfl g fun n=>lm n z _ i
 | text=>exact .leaf fun n=>lr n _
 | choice=>exact .leaf fun n=>gZ n _
 | number=>exact .leaf fun n=>hG n _ _
theorem lF:∀ (n m:Nat) (d:Dt),SK m d→∀ q∈wl n d,al d q.1=some q.2
 | 0,m,d,_,q,h=>nomatch h
 | n+1,m,d,gk,q,h=>by
  cases sk3 gk with
  | rcd fs m' ed nd nm em gf hw =>
   rw [hw] at h;rcases List.mem_cons.mp h with rfl | h
   ·rfl
   ·obtain ⟨f,hf,hq⟩:=List.mem_flatMap.mp h;obtain ⟨q',hq',rfl⟩:=List.mem_map.mp hq;obtain ⟨i,hi'⟩:=List.getElem?_of_mem hf;have lk:=cM nd (show fs[i]?=some (f.1,f.2) from hi');have st:stepD d f.1=some f.2:=by
     unfold stepD;rw [if_neg (nm f hf),ed];exact (gC lk).2
    show al d (f.1 :: q'.1)=_;rw [aX st];exact lF n m' f.2 (gf f hf) q' hq'
  | its k m' hi em gk' hw =>
   rw [hw] at h;rcases List.mem_cons.mp h with rfl | h
   ·rfl
   ·obtain ⟨q',hq',rfl⟩:=List.mem_map.mp h;have st:stepD d "each" = some k:=by unfold stepD;rw [if_pos rfl];exact hi
    show al d ("each" :: q'.1)=_;rw [aX st];exact lF n m' k gk' q' hq'
  | leaf hw =>
   rw [hw] at h;obtain rfl:=List.mem_singleton.mp h
   rfl
theorem nj:∀ (q:List Str) (m:Nat) (d e:Dt),SK m d→GV d e→(al d q).isSome=true→(pl q d e).Pairwise fun x y=>whD x≠whD y
 | [],m,d,e,gk,gv,ld=>List.pairwise_singleton _ _
 | z :: q,m,d,e,gk,gv,ld=>by
  obtain ⟨k,st,l2⟩:=aw ld;show (if z= "each" then (itemsD d e).flatMap fun p=>(pl q ((ao d).getD .non) p.2).map (bH p.1) else (pl q ((ax d z).getD .non) (keyD e z)).map (bH (.str z))).Pairwise _;have up:∀ (a:Dt) (m':Nat) (k v:Dt),SK m' k→GV k v→(al k q).isSome=true→((pl q k v).map (bH a)).Pairwise fun x y=>whD x≠whD y:=by
   intro a m' k v gk gv ld;refine List.pairwise_map.mpr (List.Pairwise.imp_of_mem (fun {x y} hx hy n=>?_) (nj q m' k v gk gv ld));obtain ⟨w,u,rfl,_⟩:=dF q m' k v gk gv ld x hx;obtain ⟨w',u',rfl,_⟩:=dF q m' k v gk gv ld y hy;intro c;have e1:w=w':=by simpa [whD,bH] using c
   exact n (by rw [e1];rfl)
  cases sp3 gk gv with
  | rcd fs gs m' ed ee ent eg nd gg nm em gf hi _ =>
   have hz:z≠ "each" :=by
    rintro rfl;unfold stepD at st;rw [if_pos rfl,hi] at st
    cases st
   have lk:lookS fs z=some k:=by
    unfold stepD at st;rw [if_neg hz,ed] at st;have st':bQ (fs.map prD) z=some k:=st;rw [au] at st';exact st'
   rw [if_neg hz];subst ed ee;obtain ⟨v0,lv,gv0⟩:=cx eg gg lk;have e2:keyD (.tup [.str "record",.tup (gs.map prD)]) z=v0:=by
    show (bQ (gs.map prD) z).getD .non=v0;rw [au,lv];rfl
   rw [(gC lk).2,e2];exact up _ m' k v0 (gf (z,k) (eA lk)) gv0 l2
  | its its kk m' hf hi em gk' ei ent g2 l8 nd scs _ nr =>
   have hz:z= "each" ∧kk=k:=by
    by_cases c:z= "each"
    ·refine ⟨c,?_⟩;unfold stepD at st;rw [if_pos c,hi] at st;exact Option.some.inj st
    ·unfold stepD at st;rw [if_neg c,hf] at st
     cases st
   obtain ⟨rfl,rfl⟩:=hz;rw [if_pos rfl,ei,hi];refine List.pairwise_flatMap.mpr ⟨fun p hp=>up _ m' kk p.2 gk' (g2 p hp) l2,?_⟩;refine List.Pairwise.imp_of_mem (fun {p p'} hp hp' n x hx y hy c=>?_) (List.pairwise_map.mp nd);obtain ⟨x1,hx1,rfl⟩:=List.mem_map.mp hx;obtain ⟨y1,hy1,rfl⟩:=List.mem_map.mp hy;obtain ⟨w,v,rfl,_⟩:=dF q m' kk p.2 gk' (g2 p hp) l2 x1 hx1;obtain ⟨w',v',rfl,_⟩:=dF q m' kk p'.2 gk' (g2 p' hp') l2 y1 hy1;have e1:p.1=p'.1∧w=w':=by simpa [whD,bH] using c
   exact n e1.1
  | leaf _ hs _=>rw [hs] at st;cases st
def aP:Dt→Key
 | .int i=>.inl i
 | .str z=>.inr z
 | _=>.inl 0
theorem bm {a:Dt} (h:Sc a):kDt (aP a)=a:=by
 rcases h with ⟨i,rfl⟩ | ⟨s,rfl⟩ <;> rfl
theorem fh:∀ {w:List Dt},(∀ a∈w,Sc a)→(w.map aP).map kDt=w
 | [],_=>rfl
 | a :: w,h=>by
  rw [List.map_cons,List.map_cons,bm (h a List.mem_cons_self),fh fun b hb=>h b (List.mem_cons_of_mem _ hb)]
theorem nn {w w':List Dt} (h:∀ a∈w,Sc a) (h':∀ a∈w',Sc a) (e:w.map aP=w'.map aP):w=w':=by
 rw [← fh h,e,fh h']
theorem pO:∀ {kvs:List (List Key×Dt)} {k:List Key} {v:Dt},(kvs.map (·.1)).Nodup→(k,v)∈kvs→atKT kvs k=some v
 | p :: kvs,k,v,nd,h=>by
  have nd':=List.nodup_cons.mp (show (p.1 :: kvs.map (·.1)).Nodup from nd);rcases List.mem_cons.mp h with rfl | h
  ·simp [atKT]
  ·have n:¬ p.1=k:=fun c=>nd'.1 (c ▸ List.mem_map_of_mem (f:=(·.1)) h);have:=pO nd'.2 h;unfold atKT at this ⊢;rw [List.find?_cons_of_neg (by simpa using n)];exact this
theorem wm {kvs:List (List Key×Dt)} {k:List Key} {v:Dt} (h:atKT kvs k=some v):(k,v)∈kvs:=by
 unfold atKT at h;obtain ⟨p,hp,rfl⟩:=Option.map_eq_some_iff.mp h;have:=List.find?_some hp;have e:p.1=k:=by simpa using this
 subst e;exact List.mem_of_find?_eq_some hp
theorem sE:∀ (j:Nat) (vs:List Dt),∀ x∈enD j vs,∃ i b,x=.tup [.int i,b]
 | j,vs,x,h=>by
  rw [iS] at h;obtain ⟨p,_,rfl⟩:=List.mem_map.mp h;exact ⟨_,_,rfl⟩
theorem gD {m:Nat} {d e:Dt} (gk:SK m d) (gv:GV d e):(entD d e).length≤8∧∀ x∈entD d e,∃ a b,x=.tup [a,b]∧Sc a:=by
 cases gk with
 | @rcd n' fs g nd nm hl =>
  obtain ⟨gs,rfl,eg,gg⟩:=cL gv fs rfl;rw [et];refine ⟨?_,fun x hx=>?_⟩
  ·have lgs:gs.length=fs.length:=by have:=congrArg List.length eg;simpa using this
   rw [List.length_map];lia
  ·obtain ⟨g,_,rfl⟩:=List.mem_map.mp hx;exact ⟨_,_,rfl,.inr ⟨_,rfl⟩⟩
 | @list n' k i g b1 b2 =>
  obtain ⟨vs,rfl,gg,h8⟩:=df gv k i rfl;rw [da];refine ⟨?_,fun x hx=>?_⟩
  ·rw [iS,List.length_map,List.length_zipIdx];exact h8
  ·obtain ⟨i,b,rfl⟩:=sE _ _ x hx;exact ⟨_,_,rfl,.inl ⟨_,rfl⟩⟩
 | @rows n' z fs kk i g lk kK b1 b2 =>
  obtain ⟨vs,rfl,gg,h8,nd⟩:=dh gv _ z i rfl
  cases sp3 (SK.rows (z:=z) g lk kK b1 b2) gv with
  | rcd fs' gs' m' ed _ _ _ _ _ _ _ _ _ _=>simp at ed
  | its its k m' hf hi em gk' ei ent g2 l8 nd scs _ nr =>
   rw [ent];refine ⟨by rw [List.length_map];exact l8,fun x hx=>?_⟩;obtain ⟨p,hp,rfl⟩:=List.mem_map.mp hx;exact ⟨_,_,rfl,scs p hp⟩
  | leaf ent _ _=>rw [ent];exact ⟨Nat.zero_le _,fun x hx=>nomatch hx⟩
 | _ =>
  rw [de gv (by intro _ c;simp at c <;> exact absurd c.1 (by decide)) (by intro _ _ c;simp at c <;> exact absurd c.1 (by decide)) (by intro _ _ _ c;simp at c)];exact ⟨Nat.zero_le _,fun x hx=>nomatch hx⟩
theorem Sc.dep {a:Dt} (h:Sc a):a.dep=0:=by rcases h with ⟨i,rfl⟩ | ⟨s,rfl⟩ <;> rfl
def yl (K:PySem.W.Frag):Sp:=fun vs H Q _=>∃ (m:Nat) (d e:Dt) (ws:List Dt) (x y u:V),m≤3∧vs=[x,y,u]∧IsP K H d x∧IsP K H e y∧IsP K H (.tup ws) u∧SK m d∧GV d e∧(∀ a∈ws,Sc a) ∧
 ∀ (H':Hp),Same H H'→ja K H' (fA ws d e) Q
theorem io (T:Tx K mg ad) {f:Addr} {fd:FuncData} (F:Gn K mg "value_at" dM ["kind","value","where"] f fd):FnOk P w K mg base CX0 3 f fd ["kind","value","where"] (yl K):=by
 obtain ⟨_,_,yH⟩:=T.entries;have y0:=fR (P:=P) (w:=w) (base:=base) T yH;obtain ⟨_,_,yA⟩:=T.inner_kind;have yQ:=cU (P:=P) (w:=w) (base:=base) T yA;refine F.F.ok bv (fun vs H Q E h=>?_) (fun cdv A outer s H vs Q E hr h=>?_)
 ·obtain ⟨m,d,e,ws,x,y,u,_,rfl,_⟩:=h
  rfl
 obtain ⟨m,d,e,ws,x,y,u,h3,rfl,hd,he,hu,gk,gv,sc,q⟩:=h;refine ⟨_,(@pss_cons _ _ _ _ _ (@ps_set _ _ 3 _ _ _ _ bv.nd rfl (Or.inl rfl) (pv 0) (by rfl) (by first | exact .inl rfl | exact .inr rfl | assumption)) (@pss_cons _ _ _ _ _ (@ps_set _ _ 4 _ _ _ _ bv.nd rfl (Or.inl rfl) (pv 1) (by rfl) (by first | exact .inl rfl | exact .inr rfl | assumption)) (@pss_cons _ _ _ _ _ (ps_for PassesOwn.never rfl (pi_tupN (K:=K) rfl (pv 2)) (ah (i:=5) bv.nd rfl (Or.inr rfl))
    (@pss_cons _ _ _ _ _ (qy (j:=6) bv.nd rfl (Or.inl rfl) rfl (csR (sc:=ac dM) (NL:=["own","inner"]) (N:=["kind","value","where","here_kind","here","entry","found"]) (ρ:=[5]) (N':=["own","inner","entry"]) rfl rfl rfl (by decide +kernel) (by decide +kernel) (by decide +kernel) rfl (by decide +kernel)) (aL (K:=K) rfl (pcl yH y0 (hr.mono (by lia)) rfl (@pa2 _ _ _ _ _ (pv 3) (pv 4) (by rfl) (by rfl)))) (fun _ _ _ _=>(bL (K:=K) (n:=2) rfl rfl (am (ah (i:=0) (show List.Nodup (α:=Str) ["own","inner","entry"] by decide +kernel) rfl (Or.inl rfl)) (am (ah (i:=1) (show List.Nodup (α:=Str) ["own","inner","entry"] by decide +kernel) rfl (Or.inl rfl)) aG)))) (fun _ _ _ _=>(pt_cmpR (gx (K:=K) rfl hr.units) (pv 0) (pv 2) (nomark _))) (fun _ _ _ _=>(pv 1))) (@pss_cons _ _ _ _ _ (@ps_if _ _ _ _ _ _ _ _ (pt_cmpR op_eq (pe_callB (bj (K:=K) rfl) rfl T.z_len PySem.boot_len (@pa1 _ _ _ (pv 6) (by rfl))) pe_int (nomark _)) (@pss_one _ _ _ (@ps_ret _ _ _ _ pe_non)) pss_nil) (@pss_cons _ _ _ _ _ (@ps_set _ _ 3 _ _ _ _ bv.nd rfl (Or.inl rfl) (pcl yA yQ (hr.mono (by lia)) rfl (@pa2 _ _ _ _ _ (pv 3) (pv 5) (by rfl) (by rfl))) (by rfl) (by first | exact .inl rfl | exact .inr rfl | assumption)) (@pss_one _ _ _ (@ps_set _ _ 4 _ _ _ _ bv.nd rfl (Or.inl rfl) (@cv _ _ _ _ _ _ _ (bf (K:=K) rfl) (pv 6) pe_int (fun _ _=>rfl)) (by rfl) (by first | exact .inl rfl | exact .inr rfl | assumption))))))) (@pss_one _ _ _ (@ps_ret _ _ _ _ (pv 4)))))),?_⟩
 obtain ⟨a,xs,rfl,ha,pa,ra⟩:=hu.unref;have el:=ra.length;refine ⟨_,rfl,_,rfl,_,rfl,a,rfl,⟨xs,ha⟩,eV (xs:=xs) (fun i σ H'=>∃ mk dk ek xk yk v5 v6,Same H H'∧mk≤3∧IsP K H' dk xk∧IsP K H' ek yk∧SK mk dk∧GV dk ek∧fA (ws.drop i) dk ek=fA ws d e∧σ=[some x,some y,some (.ref a),some xk,some yk,v5,v6])
  ⟨m,d,e,x,y,none,none,Same.refl _,h3,hd,he,gk,gv,rfl,rfl⟩ (fun i σ H' _ pv=>by
   obtain ⟨_,_,_,_,_,_,_,s,_⟩:=pv;exact s.tup ha) ?_ ?_⟩
 ·rintro i vi σ H1 hvi ⟨mk,dk,ek,xk,yk,v5,v6,s1,hm,hdk,hek,gk1,gv1,hvk,rfl⟩;obtain ⟨en,hen,hx⟩:=ra.get' hvi;have hx1:=hx.same s1;have hi:i < ws.length:=(List.getElem?_eq_some_iff.mp hen).1;have sce:Sc en:=sc en (List.mem_of_getElem? hen);have edr:ws.drop i=en :: ws.drop (i+1):=by
   rw [List.drop_eq_getElem_cons hi]
   congr 1
   have:=(List.getElem?_eq_some_iff.mp hen).2;exact this
  rw [edr] at hvk;have hvk':((entD dk ek).find? fun x=>eqD (whD x) en).bind (fun x=>fA (ws.drop (i+1)) (inD dk en) (dE x))=fA ws d e:=hvk;obtain ⟨l8,prs⟩:=gD gk1 gv1;refine ⟨_,rfl,_,rfl,_,dk,ek,xk,yk,rfl,hdk,hek,gk1,gv1,fun r2 ys2 H2 g2 hr2 e2 hp2=>?_⟩;have el2:=hp2.length;refine ⟨r2,rfl,⟨_,SqL.of e2⟩,fun l3 hl3=>?_⟩;refine aT (K:=K) (xs:=ys2) (fun j zs σ H'=>Same H2 H'∧H' l3=some (.lst zs)∧IsPs K H' ((((entD dk ek).take j).filter fun x=>eqD (whD x) en).map dE) zs∧zs.length≤j∧∃ v1 v2,σ=[v1,v2,some vi])
   ⟨ab hl3 _,aa,.nil,Nat.le_refl _,none,none,rfl⟩ (fun j zs σ H' _ pv=>SqL.of (pv.1 _ _ e2)) ?_ ?_
  ·rintro j u9 zs σ H9 N hu9 ⟨s9,e9,hp9,len9,w1,w2,rfl⟩ next;have hj:j < ys2.length:=(List.getElem?_eq_some_iff.mp hu9).1;obtain ⟨d9,hd9,hx9⟩:=hp2.get' hu9;obtain ⟨a9,v9,rfl,da9⟩:=prs d9 (List.mem_of_getElem? hd9);obtain ⟨b9,zs9,rfl,hb9,pb9,rb9⟩:=(hx9.same s9).unref
   cases rb9 with
   | @cons _ _ t1 _ t1p rb9 =>
   cases rb9 with
   | @cons _ _ t2 _ t2p rb9 =>
   cases rb9
   refine ⟨b9,_,rfl,hb9,rfl,_,_,rfl,_,_,rfl,rfl,?_⟩;refine ⟨_,rfl,_,rfl,a9,en,t1p.d,((hx1.same g2).same s9).d,by rw [da9.dep];decide,_,rfl,?_⟩;have fn:=ng (fun x=>eqD (whD x) en) hd9;refine cp (fun c1=>?_) (fun c1=>?_)
   ·have c1':eqD (whD (.tup [a9,v9])) en=true:=c1;rw [if_pos c1'] at fn;have b13:But l3 H9 (upd H9 l3 (.lst (zs++[t2]))):=But.put;refine ⟨_,rfl,e9,ag (by lia),next _ _ _ ⟨fun c o ec=>?_,aa,?_,?_,_,_,rfl⟩⟩
    ·rw [af (ae ec hl3)];exact s9 _ _ ec
    ·rw [fn,List.map_append];exact (hp9.but e9 b13).append (.cons (t2p.but e9 b13) .nil)
    ·rw [List.length_append];simp only [List.length_cons,List.length_nil];lia
   ·have c1':¬ eqD (whD (.tup [a9,v9])) en=true:=c1;rw [if_neg c1',List.append_nil] at fn;refine next _ _ _ ⟨s9,e9,?_,by lia,_,_,rfl⟩;rw [fn];exact hp9
  ·rintro zs σ H9 ⟨s9,e9,hp9,len9,w1,w2,rfl⟩;rw [← el2,List.take_length] at hp9;have S9:=g2.trans s9;have lz:zs.length≤8:=by lia
   have hh:((entD dk ek).filter fun x=>eqD (whD x) en).head?=(entD dk ek).find? fun x=>eqD (whD x) en:=List.head?_filter ..
   cases hfl:(entD dk ek).filter fun x=>eqD (whD x) en with
   | nil =>
    rw [hfl] at hh hp9
    cases hp9
    rw [← hh] at hvk';have q9:=q H9 (s1.trans S9);rw [← (show none=fA ws d e from hvk')] at q9;exact ⟨_,rfl,l3,_,rfl,.inl (SqL.of e9),rfl,_,rfl,aY q9⟩
   | cons b0 r0 =>
   rw [hfl] at hh hp9;rw [← hh] at hvk';have fnd:(entD dk ek).find? (fun x=>eqD (whD x) en)=some b0:=hh.symm;obtain ⟨m',p,rfl,em,gk',gv',ink⟩:=nh gk1 gv1 sce fnd;have hvk2:fA (ws.drop (i+1)) (inD dk en) p=fA ws d e:=hvk';rw [List.map_cons] at hp9
   cases hp9 with
   | @cons _ _ z0 zs0 z0p rb0 =>
   refine ⟨_,rfl,l3,_,rfl,.inl (SqL.of e9),rfl,_,rfl,iteN ?_ ?_⟩
   ·intro c;have:=V.int.inj c;rw [List.length_cons] at this;lia
   have at3:atI (z0 :: zs0) ((0:Nat):Int)=some z0:=bz (by simp);have z0p':IsP K H9 p z0:=z0p;rcases ink with ⟨fs,z,ed,ez,fd1⟩ | ⟨nr,fd1⟩
   ·subst ez;obtain rfl:=ar hx1;refine ⟨_,rfl,_,rfl,_,dk,xk,_,rfl,hdk.same S9,gk1,.inl ⟨fs,z,ed,rfl,?_⟩⟩;rw [fd1];intro vk hvk3;exact ⟨_,rfl,l3,_,_,_,rfl,rfl,SqL.of e9,at3,m',inD dk (.str z),p,vk,z0,_,_,s1.trans S9,by lia,hvk3,z0p',gk',gv',hvk2,rfl⟩
   ·refine ⟨_,rfl,_,rfl,_,dk,xk,_,rfl,hdk.same S9,gk1,.inr ⟨nr,?_⟩⟩;rw [fd1];intro vk hvk3;exact ⟨_,rfl,l3,_,_,_,rfl,rfl,SqL.of e9,at3,m',inD dk en,p,vk,z0,_,_,s1.trans S9,by lia,hvk3,z0p',gk',gv',hvk2,rfl⟩
 ·rintro σ H1 ⟨mk,dk,ek,xk,yk,v5,v6,s1,hm,hdk,hek,gk1,gv1,hvk,rfl⟩;rw [← el,List.drop_length] at hvk;have q1:=q H1 s1;rw [← (show some ek=fA ws d e from hvk)] at q1;exact ⟨_,rfl,q1 yk hek⟩
abbrev WP:=List Dt×Dt
abbrev wpD (p:WP):Dt:=.tup [.tup p.1,p.2]
def grp (en:Dt):List WP→List WP
 | []=>[]
 | p :: r=>match p.1 with
  | []=>grp en r
  | a :: w=>if eqD a en=true then (w,p.2) :: grp en r else grp en r
def jm (d:Dt) (told:List Dt):Dt:=match d with
 | .tup (.str w :: _)=>if w= "record" then .tup [.str "record",.tup told] else .tup [.str w,.tup (told.map dE)]
 | _=>.non
def aM:Nat→Dt→Dt→List WP→Dt
 | 0,_,e,_=>e
 | n+1,d,e,ps=>match ps with
  | []=>e
  | p :: r=>match (p :: r).find? (fun q=>q.1.isEmpty) with
   | some q=>q.2
   | none=>jm d ((entD d e).map fun x=>.tup [whD x,aM n (inD d (whD x)) (dE x) (grp (whD x) (p :: r))])
theorem dG (en:Dt):∀ (a b:List WP),grp en (a++b)=grp en a++grp en b
 | [],b=>rfl
 | p :: a,b=>by
  have ih:=dG en a b;obtain ⟨w,o⟩:=p
  cases w with
  | nil=>exact ih
  | cons x w =>
   show (if eqD x en=true then _ else _)=(if eqD x en=true then _ else _)++_
   split
   ·exact congrArg (List.cons (w,o)) ih
   ·exact ih
theorem fj (en a:Dt) (w:List Dt) (o:Dt):grp en [(a :: w,o)]=if eqD a en=true then [(w,o)] else []:=rfl
theorem sF {en:Dt}:∀ {ps:List WP},(∀ p∈ps,∀ a∈p.1,Sc a)→∀ p∈grp en ps,∀ a∈p.1,Sc a
 | [],_,p,h=>by cases h
 | (w0,o0) :: r,sc,p,h=>by
  have ih:=sF (en:=en) (ps:=r) (fun p hp=>sc p (List.mem_cons_of_mem _ hp)) p
  cases w0 with
  | nil=>exact ih h
  | cons x w =>
   have h':p∈if eqD x en=true then (w,o0) :: grp en r else grp en r:=h
   split at h'
   ·rcases List.mem_cons.mp h' with rfl | h'
    ·exact fun a ha=>sc (x :: w,o0) List.mem_cons_self a (List.mem_cons_of_mem _ ha)
    ·exact ih h'
   ·exact ih h'
theorem lG (en:Dt):∀ ps:List WP,(grp en ps).length≤ps.length
 | []=>Nat.le_refl _
 | (w0,o0) :: r=>by
  have ih:=lG en r
  cases w0 with
  | nil=>exact Nat.le_succ_of_le ih
  | cons x w =>
   show (if eqD x en=true then _ else _:List WP).length≤_
   split
   ·rw [List.length_cons,List.length_cons];lia
   ·rw [List.length_cons];lia
theorem Sc.ne {a b:Dt} (ha:Sc a) (hb:Sc b) (h:¬ eqD a b=true):aP a≠aP b:=fun e=>h (by
 have:a=b:=by rw [← bm ha,e,bm hb]
 rw [this];exact aF _)
theorem sG {K:PySem.W.Frag} {H:Hp} {a:Dt} {v:V} (sc:Sc a) (h:IsP K H a v):v=kV (aP a):=tZ (by rw [bm sc];exact h)
theorem eB (k:Key):Sc (kDt k)∧aP (kDt k)=k:=by
 cases k with
 | inl i=>exact ⟨.inl ⟨i,rfl⟩,rfl⟩
 | inr z=>exact ⟨.inr ⟨z,rfl⟩,rfl⟩
theorem sH {m:Nat} {d e x:Dt} (gk:SK m d) (gv:GV d e) (h:x∈entD d e):∃ m' en p,x=.tup [en,p]∧Sc en∧m=m' + 1∧SK m' (inD d en)∧GV (inD d en) p ∧
   ((∃ fs z,d=.tup [.str "record",.tup fs]∧en=.str z∧ax d z=some (inD d en))∨((∀ fs,d≠.tup [.str "record",.tup fs])∧ao d=some (inD d en))):=by
 have ⟨_,ep⟩:=gD gk gv;obtain ⟨a,b,rfl,sc⟩:=ep x h;have hf:(entD d e).find? (fun x=>eqD (whD x) a)=some (.tup [a,b]):=by
  cases sp3 gk gv with
  | rcd fs gs m' ed ee ent eg nd gg nm em gf _ _ =>
   rw [ent] at h ⊢;obtain ⟨g,hg,eg2⟩:=List.mem_map.mp h;obtain ⟨z,v⟩:=g;have e2:Dt.str z=a∧v=b:=by simpa [prD] using eg2
   obtain ⟨rfl,rfl⟩:=e2;refine fg ?_;obtain ⟨i,hi⟩:=List.mem_iff_getElem?.mp hg;exact cM (by rw [eg];exact nd) hi
  | its its k m' hf hi em gk' ei ent g2 l8 nd scs _ nr =>
   rw [ent] at h ⊢;obtain ⟨p,hp,ep2⟩:=List.mem_map.mp h;have e2:p.1=a∧p.2=b:=by simpa using ep2
   obtain ⟨rfl,rfl⟩:=e2;exact iT nd scs hp
  | leaf ent _ _=>rw [ent] at h;cases h
 obtain ⟨m',p,e1,em,g1,g2,alt⟩:=nh gk gv sc hf;exact ⟨m',a,p,e1,sc,em,g1,g2,alt⟩
def np (K:PySem.W.Frag) (n:Nat):Sp:=fun vs H Q _=>∃ (m:Nat) (d e:Dt) (ps:List WP) (x y:V) (s:Addr) (zs:List V),m < n∧vs=[x,y,.ref s]∧IsP K H d x∧IsP K H e y∧SK m d∧GV d e∧SqL K H s zs∧IsPs K H (ps.map wpD) zs∧(∀ p∈ps,∀ a∈p.1,Sc a)∧ps.length≤900 ∧
 ∀ (v:V) (H':Hp),Same H H'→IsP K H' (aM n d e ps) v→Q v H'
def ym (K:PySem.W.Frag) (H H':Hp) (pw:Addr) (ps:List WP) (kvs:List (Key×V)):Prop :=
 H' pw=some (.dK kvs)∧(∀ k,aK kvs k=none→grp (kDt k) ps=[])∧(∀ k v,aK kvs k=some v→∃ l ys,v=.ref l∧H' l=some (.lst ys)∧H l=none∧l≠pw∧IsPs K H' ((grp (kDt k) ps).map wpD) ys)∧∀ k k' v,aK kvs k=some v→aK kvs k'=some v→k=k'
theorem bN (T:Tx K mg ad) {f:Addr} {fd:FuncData} (n:Nat) (yw:Gn K mg "with_values" cg ["kind","value","some"] f fd) (yx:FnOk P w K mg base CX0 (n+2) f fd ["kind","value","some"] (np K n)):FnOk P w K mg base CX0 (n+2+1) f fd ["kind","value","some"] (np K (n+1)):=by
 obtain ⟨_,_,yH⟩:=T.entries;have y0:=fR (P:=P) (w:=w) (base:=base) T yH;obtain ⟨_,_,yA⟩:=T.inner_kind;have yQ:=cU (P:=P) (w:=w) (base:=base) T yA;refine yw.F.ok aN (fun vs H Q E h=>?_) (fun cdv A outer s H vs Q E hr h=>?_)
 ·obtain ⟨m,d,e,ps,x,y,s,zs,_,rfl,_⟩:=h
  rfl
 obtain ⟨m,d,e,ps,x,y,sa,zs,hm,rfl,hd,he,gk,gv,hs,dz,sc,l9,q⟩:=h;refine ⟨_,(@pss_cons _ _ _ _ _ (@ps_if _ _ _ _ _ _ _ _ (pt_cmpR op_eq (pe_callB (bj (K:=K) rfl) rfl T.z_len PySem.boot_len (@pa1 _ _ _ (pv 2) (by rfl))) pe_int (nomark _)) (@pss_one _ _ _ (@ps_ret _ _ _ _ (pv 1))) pss_nil) (@pss_cons _ _ _ _ _ (@ps_set _ _ 3 _ _ _ _ aN.nd rfl (Or.inl rfl) mB (by rfl) (by first | exact .inl rfl | exact .inr rfl | assumption)) (@pss_cons _ _ _ _ _ (ps_for PassesOwn.never rfl (aL (K:=K) rfl (pv 2)) (cS rfl (am (ah (i:=4) aN.nd rfl (Or.inl rfl)) (am (ah (i:=5) aN.nd rfl (Or.inl rfl)) aG)))
    (@pss_cons _ _ _ _ _ (@ps_if _ _ _ _ _ _ _ _ (pt_cmpR op_eq (pe_callB (call_lenDN (K:=K) rfl) rfl T.z_len PySem.boot_len (@pa1 _ _ _ (pv 4) (by rfl))) pe_int (nomark _)) (@pss_one _ _ _ (@ps_ret _ _ _ _ (pv 5))) pss_nil) (@pss_one _ _ _ (@eS _ _ _ _ (md PySem.F.plainAttrs_list PySem.F.slot_list_append PySem.F.type_list_append cX (rM (pv 3) (@pi1 K _ _ _ _ _ _ _ rfl (pv 4)) (@aH _ _ _ _ bT) ⟨rfl,rfl,rfl,rfl⟩) (@pa1 _ _ _ (@aj _ K _ _ _ _ rfl (@pa2 _ _ _ _ _ (aR (br (K:=K) rfl) (pv 4) (bp pe_int) bo) (pv 5) (by rfl) (by rfl))) (by rfl))) (by rfl))))) (@pss_cons _ _ _ _ _ (@ps_set _ _ 6 _ _ _ _ aN.nd rfl (Or.inl rfl) (@aH _ _ _ _ bT) (by rfl) (by first | exact .inl rfl | exact .inr rfl | assumption)) (@pss_cons _ _ _ _ _ (ps_for PassesOwn.never rfl (aL (K:=K) rfl (pcl yH y0 (hr.mono (by lia)) rfl (@pa2 _ _ _ _ _ (pv 0) (pv 1) (by rfl) (by rfl)))) (cS rfl (am (ah (i:=7) aN.nd rfl (Or.inl rfl)) (am (ah (i:=8) aN.nd rfl (Or.inl rfl)) aG)))
    (@pss_one _ _ _ (@eS _ _ _ _ (md PySem.F.plainAttrs_list PySem.F.slot_list_append PySem.F.type_list_append cX (pv 6) (@pa1 _ _ _ (@aj _ K _ _ _ _ rfl (@pa2 _ _ _ _ _ (pv 7) (pcl yw yx (hr.mono (by lia)) rfl (@pa3 _ _ _ _ _ _ _ (pcl yA yQ (hr.mono (by lia)) rfl (@pa2 _ _ _ _ _ (pv 0) (pv 7) (by rfl) (by rfl))) (pv 8) (rA (u1 hr.units) (pv 3) (pv 7) (@aH _ _ _ _ bT) ⟨rfl,rfl,rfl,rfl⟩) (by rfl) (by rfl) (by rfl))) (by rfl) (by rfl))) (by rfl))) (by rfl)))) (@pss_cons _ _ _ _ _ (@ps_if _ _ _ _ _ _ _ _ (pt_cmpR op_eq (@pi1 K _ _ _ _ _ _ _ rfl (pv 0)) pe_str (nomark _)) (@pss_one _ _ _ (@ps_ret _ _ _ _ (@aj _ K _ _ _ _ rfl (@pa2 _ _ _ _ _ pe_str (bh (a8 (K:=K) rfl) rfl T.z_tuple boot_tuple (@pa1 _ _ _ (pv 6) (by rfl))) (by rfl) (by rfl))))) pss_nil) (@pss_one _ _ _ (@ps_ret _ _ _ _ (@aj _ K _ _ _ _ rfl (@pa2 _ _ _ _ _ (@pi1 K _ _ _ _ _ _ _ rfl (pv 0)) (bh (a8 (K:=K) rfl) rfl T.z_tuple boot_tuple (@pa1 _ _ _ (aZ rfl (cs0 (NL:=["entry","inner"]) rfl (by decide +kernel) (by decide +kernel)) (aL (K:=K) rfl (pv 6)) (fun _ _ _ _=>(bL (K:=K) (n:=2) rfl rfl (am (ah (i:=0) (show List.Nodup (α:=Str) ["entry","inner"] by decide +kernel) rfl (Or.inl rfl)) (am (ah (i:=1) (show List.Nodup (α:=Str) ["entry","inner"] by decide +kernel) rfl (Or.inl rfl)) aG)))) (fun _ _ _ _=>(pv 1))) (by rfl))) (by rfl) (by rfl))))))))))),?_⟩
 have lz:zs.length=ps.length:=by rw [← dz.length,List.length_map]
 refine ⟨_,rfl,sa,zs,rfl,.inl hs,rfl,_,rfl,?_⟩;rw [lz]
 cases ps with
 | nil =>
  refine aY ⟨_,rfl,q y H (Same.refl _) ?_⟩;exact he
 | cons p0 ps0 =>
 refine iteN (fun c=>by have:=V.int.inj c;rw [List.length_cons] at this;lia) ?_
 generalize hps:p0 :: ps0=ps at *
 refine fun pw hpw=>?_;have g1:=ab hpw (.dK []);have e1:(upd H pw (.dK [])) pw=some (.dK []):=aa
 generalize upd H pw (.dK [])=H1 at g1 e1 ⊢
 refine ⟨_,rfl,sa,rfl,⟨zs,g1.seq hs⟩,cj (xs:=zs) (fun i σ H'=>∃ (kvs:List (Key×V)) (v4 v5:Option V),Same H H'∧ym K H H' pw (ps.take i) kvs∧kvs.length≤i∧(∀ q∈ps.take i,q.1.isEmpty=false)∧i≤900∧σ=[some x,some y,some (.ref sa),some (.ref pw),v4,v5,none,none,none])
  ⟨[],none,none,g1,⟨e1,fun _ _=>rfl,(fun k v c=>by cases c),(fun k k' v c=>by cases c)⟩,Nat.le_refl _,(fun q hq=>by cases hq),Nat.zero_le _,rfl⟩ (fun i σ H' _ pv=>by
   obtain ⟨_,_,_,s,_⟩:=pv;exact s.seq hs) ?_ ?_⟩
 ·rintro i u σ H2 hu ⟨kvs,v4,v5,s2,⟨ew,gn,gs,gi⟩,lk,ne,i9,rfl⟩;obtain ⟨dp,hdp,hp⟩:=(dz.same s2).get' hu;rw [List.getElem?_map] at hdp;obtain ⟨⟨w0,o⟩,hq,rfl⟩:=Option.map_eq_some_iff.mp hdp;have hmem:=List.mem_of_getElem? hq;have hi:i < ps.length:=(List.getElem?_eq_some_iff.mp hq).1;obtain ⟨b,us,rfl,hb,pb,rb⟩:=hp.unref
  cases rb with
  | @cons _ _ y1 _ r1 rb =>
  cases rb with
  | @cons _ _ y2 _ r2 rb =>
  cases rb
  refine ⟨b,_,rfl,hb,rfl,_,_,rfl,_,_,rfl,rfl,?_⟩;refine ⟨_,rfl,y1,_,rfl,r1.d,rfl,_,rfl,?_⟩
  cases w0 with
  | nil =>
   refine aY ⟨_,rfl,q y2 H2 s2 ?_⟩;have hfind:ps.find? (fun q=>q.1.isEmpty)=some ([],o):=by
    rw [← List.take_append_drop i ps,List.find?_append];have h1:(ps.take i).find? (fun q=>q.1.isEmpty)=none:=List.find?_eq_none.mpr fun q hq=>by rw [ne q hq];decide
    rw [h1,List.drop_eq_getElem_cons hi];have h2:ps[i]=([],o):=by rw [List.getElem?_eq_getElem hi] at hq;exact Option.some.inj hq
    rw [h2]
    rfl
   have:aM (n+1) d e ps=o:=by
    subst hps;show (match (p0 :: ps0).find? (fun q=>q.1.isEmpty) with | some q=>q.2 | none=>_)=o;rw [hfind]
   rw [this];exact r2
  | cons a w' =>
  refine iteN (fun c=>by have:=V.int.inj c;rw [List.length_cons] at this;lia) ?_;have sca:Sc a:=sc _ hmem a List.mem_cons_self;have at0:atI (a :: w') ((0:Nat):Int)=some a:=bz (by simp);refine ⟨_,rfl,pw,rfl,.inl ⟨kvs,.inl ew⟩,_,rfl,_,_,_,r1,rfl,at0,fun v0 hv0=>?_⟩;obtain rfl:=sG sca hv0;refine ⟨(by show 0≤sizeLine;decide),fun pl0 hpl=>?_⟩;have g3:=ab hpl (.lst []);have e3:(upd H2 pl0 (.lst [])) pl0=some (.lst []):=aa
  generalize upd H2 pl0 (.lst [])=H3 at g3 e3 ⊢
  have hplH:H pl0=none:=s2.free hpl;have nlw:pl0≠pw:=(ae ew hpl).symm;have hpwH:H pw=none:=hpw;have tk:ps.take (i+1)=ps.take i++[(a :: w',o)]:=by rw [List.take_add_one,hq];rfl
  have r13:=r1.same g3;have r23:=r2.same g3;refine ⟨kvs,aP a,g3 _ _ ew,rfl,ag (by lia),fun vl hvl=>?_,fun hno=>?_⟩
  ·obtain ⟨l,ys,rfl,hl,hlH,nlp,dy⟩:=gs _ _ hvl;rw [bm sca] at dy;have ly:ys.length≤900:=by rw [← dy.length,List.length_map];exact Nat.le_trans (lG _ _) (Nat.le_trans (List.length_take_le _ _) i9)
   refine ⟨.inl ⟨rfl,_,SqL.of (g3 _ _ hl)⟩,_,rfl,_,rfl,_,r13,fun v6 H6 g6 hv6=>?_⟩;rw [sB] at hv6;refine ⟨_,rfl,[.tup w',o],.cons hv6 (.cons (r23.same g6) .nil),sz2,fun v7 H7 g7 hv7=>?_⟩;have g37:=g6.trans g7;have g27:=g3.trans g37;have hl7:=g27 _ _ hl;refine ⟨l,ys,_,rfl,rfl,hl7,ag (by lia),?_⟩;have B:But l H7 (upd H7 l (.lst (ys++[v7]))):=But.put;refine ⟨kvs,_,_,fun c u ec=>B c u (ae ec hlH) (g27 _ _ (s2 _ _ ec)),⟨B _ _ nlp.symm (g27 _ _ ew),fun k hk=>?_,fun k v hk=>?_,gi⟩,by lia,fun q hq'=>?_,by lia,rfl⟩
   ·rw [tk,dG,gn k hk,fj,if_neg (fun c=>?_)]
    ·rfl
    ·have:aP a=k:=by rw [Sc.eq sca (eB k).1 c,(eB k).2]
     rw [this,hk] at hvl
     cases hvl
   ·obtain ⟨l',ys',rfl,hl',hl'H,nlp',dy'⟩:=gs k v hk
    by_cases ek:aP a=k
    ·subst ek;rw [hvl] at hk;injection hk with hk
     injection hk with hk
     subst hk;rw [hl] at hl';injection hl' with hl'
     injection hl' with hl'
     subst hl';refine ⟨l,ys++[v7],rfl,aa,hlH,nlp,?_⟩;rw [bm sca,tk,dG,fj,if_pos (aF a),List.map_append];exact IsPs.but hl7 B ((dy.same g27).append (.cons hv7 .nil))
    ·have nll:l'≠l:=fun c=>ek (gi _ _ _ hvl (by rw [← c];exact hk));refine ⟨l',ys',rfl,B _ _ nll (g27 _ _ hl'),hl'H,nlp',?_⟩;rw [tk,dG,fj,if_neg (fun c=>ek (by rw [Sc.eq sca (eB k).1 c,(eB k).2])),List.append_nil];exact IsPs.but hl7 B (dy'.same g27)
   ·rw [tk] at hq';rcases List.mem_append.mp hq' with h | h
    ·exact ne q h
    ·rw [List.mem_singleton.mp h];rfl
  ·have Bw:But pw H3 (upd H3 pw (.dK (bK kvs (aP a) (.ref pl0)))):=But.put;have ew3:=g3 _ _ ew;have r14:=eh ew3 Bw r13;have r24:=eh ew3 Bw r23;have e4:(upd H3 pw (.dK (bK kvs (aP a) (.ref pl0)))) pl0=some (.lst []):=Bw _ _ nlw e3;have w4:(upd H3 pw (.dK (bK kvs (aP a) (.ref pl0)))) pw=some (.dK (bK kvs (aP a) (.ref pl0))):=aa
   generalize upd H3 pw (.dK (bK kvs (aP a) (.ref pl0)))=H4 at Bw r14 r24 e4 w4 ⊢
   refine ⟨.inl ⟨rfl,_,SqL.of e4⟩,_,rfl,_,rfl,_,r14,fun v6 H6 g6 hv6=>?_⟩;rw [sB] at hv6;refine ⟨_,rfl,[.tup w',o],.cons hv6 (.cons (r24.same g6) .nil),sz2,fun v7 H7 g7 hv7=>?_⟩;have g47:=g6.trans g7;have hl7:=g47 _ _ e4;refine ⟨pl0,[],_,rfl,rfl,hl7,ag (by show 0≤1000;decide),?_⟩;have B:But pl0 H7 (upd H7 pl0 (.lst ([]++[v7]))):=But.put;have gka:grp a (ps.take i)=[]:=by have:=gn _ hno;rw [bm sca] at this;exact this
   refine ⟨bK kvs (aP a) (.ref pl0),_,_,fun c u ec=>B c u (ae ec hplH) (g47 _ _ (Bw c u (ae ec hpwH) (g3 _ _ (s2 _ _ ec)))),⟨B _ _ nlw.symm (g47 _ _ w4),fun k hk=>?_,fun k v hk=>?_,fun k k' v hk hk'=>?_⟩,by have:=cm kvs (aP a) (.ref pl0);lia,fun q hq'=>?_,by lia,rfl⟩
   ·rw [gr] at hk
    split at hk
    ·cases hk
    ·rename_i ek
     rw [tk,dG,gn k hk,fj,if_neg (fun c=>ek (by rw [Sc.eq sca (eB k).1 c,(eB k).2]))]
     rfl
   ·rw [gr] at hk
    split at hk
    ·rename_i ek
     subst ek;injection hk with hk
     subst hk;refine ⟨pl0,[v7],rfl,aa,hplH,nlw,?_⟩;rw [bm sca,tk,dG,fj,if_pos (aF a),gka];exact .cons (hv7.but hl7 B) .nil
    ·rename_i ek
     obtain ⟨l',ys',rfl,hl',hl'H,nlp',dy'⟩:=gs k v hk;have nll:l'≠pl0:=ae hl' hpl;refine ⟨l',ys',rfl,B _ _ nll (g47 _ _ (Bw _ _ nlp' (g3 _ _ hl'))),hl'H,nlp',?_⟩;rw [tk,dG,fj,if_neg (fun c=>ek (by rw [Sc.eq sca (eB k).1 c,(eB k).2])),List.append_nil];exact IsPs.but hl7 B ((gY ew3 Bw (dy'.same g3)).same g47)
   ·rw [gr] at hk hk';have old:∀ k v,aK kvs k=some v→v≠.ref pl0:=fun k v h c=>by
     obtain ⟨l',ys',rfl,hl',_⟩:=gs k v h;injection c with c
     rw [c,hpl] at hl'
     cases hl'
    split at hk
    ·split at hk'
     ·rename_i a1 a2;rw [a1,a2]
     ·injection hk with hk
      exact absurd hk.symm (old _ _ hk')
    ·split at hk'
     ·injection hk' with hk'
      exact absurd hk'.symm (old _ _ hk)
     ·exact gi _ _ _ hk hk'
   ·rw [tk] at hq';rcases List.mem_append.mp hq' with h | h
    ·exact ne q h
    ·rw [List.mem_singleton.mp h];rfl
 rintro σ H2 ⟨kvs,v4,v5,s2,⟨ew,gn,gs,gi⟩,lk,ne,i9,rfl⟩;rw [lz,List.take_length] at gn gs ne;have ewd:aM (n+1) d e ps=jm d ((entD d e).map fun x=>.tup [whD x,aM n (inD d (whD x)) (dE x) (grp (whD x) ps)]):=by
  subst hps;show (match (p0 :: ps0).find? (fun q=>q.1.isEmpty) with | some q=>q.2 | none=>_)=_;rw [List.find?_eq_none.mpr fun q hq=>by rw [ne q hq];decide]
 rw [ewd] at q;refine ⟨(by show 0≤sizeLine;decide),fun pt hpt=>?_⟩;have g3:=ab hpt (.lst []);have e3:(upd H2 pt (.lst [])) pt=some (.lst []):=aa
 generalize upd H2 pt (.lst [])=H3 at g3 e3 ⊢
 have S3:=s2.trans g3;refine ⟨_,rfl,_,rfl,m,d,e,x,y,rfl,hd.same S3,he.same S3,gk,gv,fun r1 ys1 H4 g4 hr1 e4 dy=>?_⟩;have ⟨l8,_⟩:=gD gk gv;have ly1:ys1.length=(entD d e).length:=dy.length.symm;have nrt:r1≠pt:=fun c=>by rw [c,e3] at hr1;cases hr1
 have S24:=g3.trans g4;refine ⟨r1,rfl,⟨ys1,SqL.of e4⟩,cj (xs:=ys1) (fun j σ H'=>∃ (ys:List V) (v7 v8:Option V),Same H2 H'∧H' r1=some (.lst ys1)∧H' pt=some (.lst ys)∧IsPs K H' (entD d e) ys1∧IsPs K H' (((entD d e).take j).map fun x=>Dt.tup [whD x,aM n (inD d (whD x)) (dE x) (grp (whD x) ps)]) ys∧σ=[some x,some y,some (.ref sa),some (.ref pw),v4,v5,some (.ref pt),v7,v8])
  ⟨[],none,none,S24,e4,g4 _ _ e3,dy,.nil,rfl⟩ (fun j σ H' _ pv=>by
   obtain ⟨_,_,_,_,e,_⟩:=pv;exact SqL.of e) ?_ ?_⟩
 ·rintro j u σ H5 hu ⟨ys,w7,w8,s5,er5,et5,dy5,dt5,rfl⟩;obtain ⟨dx,hdx,hx⟩:=dy5.get' hu;have hj:j < (entD d e).length:=(List.getElem?_eq_some_iff.mp hdx).1;obtain ⟨m',en,p,rfl,scn,em,gk',gv',alt⟩:=sH gk gv (List.mem_of_getElem? hdx);have ly:ys.length < sizeLine:=by
   rw [← dt5.length,List.length_map];exact ag (by have:=List.length_take_le' j (entD d e);lia)
  obtain ⟨b,us,rfl,hb,pb,rb⟩:=hx.unref
  cases rb with
  | @cons _ _ y1 _ q1 rb =>
  cases rb with
  | @cons _ _ y2 _ q2 rb =>
  cases rb
  refine ⟨b,_,rfl,hb,rfl,_,_,rfl,_,_,rfl,rfl,?_⟩;have S5:=s2.trans s5;have fin:∀ (v10:V),IsP K H5 (inD d en) v10→∀ (pl2:Addr) (H6:Hp),Same H5 H6→H6 pl2=some (.lst [])→∃ (o:Option V),DGet H6 pw y1 o∧np K n [v10,y2,(o.getD (.ref pl2))] H6 (fun v7 H7=>∃ l,IsPs K H7 l [y1,v7]∧[y1,v7].length≤sizeLine∧∀ v8 H8,Same H7 H8→IsP K H8 (.tup l) v8→∃ (ys':List V) (c7 c8:Option V),H8 pt=some (.lst ys)∧Same H2 (upd H8 pt (.lst (ys++[v8])))∧(upd H8 pt (.lst (ys++[v8]))) r1=some (.lst ys1)∧(upd H8 pt (.lst (ys++[v8]))) pt=some (.lst (ys++[v8]))∧IsPs K (upd H8 pt (.lst (ys++[v8]))) (entD d e) ys1∧IsPs K (upd H8 pt (.lst (ys++[v8]))) (((entD d e).take (j+1)).map fun x=>Dt.tup [whD x,aM n (inD d (whD x)) (dE x) (grp (whD x) ps)]) (ys++[v8])) E0:=by
   intro v10 hv10 pl2 H6 g6 e6;obtain rfl:=sG scn q1;have ew6:=g6 _ _ (s5 _ _ ew);have key:∃ (l:Addr) (zs':List V),(aK kvs (aP en)).getD (.ref pl2)=.ref l∧SqL K H6 l zs'∧IsPs K H6 ((grp en ps).map wpD) zs':=by
    cases hk:aK kvs (aP en) with
    | none =>
     have:=gn _ hk;rw [bm scn] at this;exact ⟨pl2,[],rfl,SqL.of e6,by rw [this];exact .nil⟩
    | some v =>
     obtain ⟨l,zs',rfl,hl,_,_,dl⟩:=gs _ _ hk;rw [bm scn] at dl;exact ⟨l,zs',rfl,SqL.of (g6 _ _ (s5 _ _ hl)),dl.same (s5.trans g6)⟩
   obtain ⟨l,zs',el,hl,dl⟩:=key;refine ⟨aK kvs (aP en),.inl ⟨kvs,aP en,.inl ew6,rfl,rfl⟩,?_⟩;rw [el];refine ⟨m',inD d en,p,grp en ps,v10,y2,l,zs',by lia,rfl,hv10.same g6,q2.same g6,gk',gv',hl,dl,sF sc,Nat.le_trans (lG _ _) l9,fun v7 H7 g7 hv7=>?_⟩;refine ⟨[en,aM n (inD d en) p (grp en ps)],.cons ((q1.same g6).same g7) (.cons hv7 .nil),sz2,fun v8 H8 g8 hv8=>?_⟩;have g58:=(g6.trans g7).trans g8;have B:But pt H8 (upd H8 pt (.lst (ys++[v8]))):=But.put;have et8:=g58 _ _ et5;refine ⟨[],none,none,et8,fun c o ec=>B c o (ae ec hpt) (g58 _ _ (s5 _ _ ec)),B _ _ nrt (g58 _ _ er5),aa,IsPs.but et8 B (dy5.same g58),?_⟩;rw [← aB (fun x=>Dt.tup [whD x,aM n (inD d (whD x)) (dE x) (grp (whD x) ps)]) hdx];exact IsPs.but et8 B ((dt5.same g58).append (.cons hv8 .nil))
  refine ⟨_,rfl,.inl ⟨rfl,_,SqL.of et5⟩,_,rfl,_,rfl,_,rfl,m,d,x,y1,rfl,hd.same S5,gk,?_⟩;rcases alt with ⟨fs,z,ed,rfl,ef⟩ | ⟨nr,ei⟩
  ·refine .inl ⟨fs,z,ed,ar q1,?_⟩;rw [ef];intro v10 hv10;refine ⟨_,rfl,_,rfl,pw,rfl,.inl ⟨kvs,.inl (s5 _ _ ew)⟩,_,rfl,(by show 0≤sizeLine;decide),fun pl2 hpl2=>?_⟩;obtain ⟨o,h1,h2⟩:=fin v10 hv10 pl2 _ (ab hpl2 _) aa;refine ⟨o,h1,?_⟩;obtain ⟨m2,d2,e2,ps2,x2,y2',s2',zs2,c1,c2,c3,c4,c5,c6,c7,c8,c9,c10,c11⟩:=h2;refine ⟨m2,d2,e2,ps2,x2,y2',s2',zs2,c1,c2,c3,c4,c5,c6,c7,c8,c9,c10,fun v7 H7 g7 hv7=>?_⟩;obtain ⟨l,k1,k2,k3⟩:=c11 v7 H7 g7 hv7;refine ⟨l,k1,k2,fun v8 H8 g8 hv8=>?_⟩;obtain ⟨_,_,_,t1,t2,t3,t4,t5,t6⟩:=k3 v8 H8 g8 hv8;exact ⟨pt,ys,_,rfl,rfl,t1,ly,_,_,_,t2,t3,t4,t5,t6,rfl⟩
  ·refine .inr ⟨nr,?_⟩;rw [ei];intro v10 hv10;refine ⟨_,rfl,_,rfl,pw,rfl,.inl ⟨kvs,.inl (s5 _ _ ew)⟩,_,rfl,(by show 0≤sizeLine;decide),fun pl2 hpl2=>?_⟩;obtain ⟨o,h1,h2⟩:=fin v10 hv10 pl2 _ (ab hpl2 _) aa;refine ⟨o,h1,?_⟩;obtain ⟨m2,d2,e2,ps2,x2,y2',s2',zs2,c1,c2,c3,c4,c5,c6,c7,c8,c9,c10,c11⟩:=h2;refine ⟨m2,d2,e2,ps2,x2,y2',s2',zs2,c1,c2,c3,c4,c5,c6,c7,c8,c9,c10,fun v7 H7 g7 hv7=>?_⟩;obtain ⟨l,k1,k2,k3⟩:=c11 v7 H7 g7 hv7;refine ⟨l,k1,k2,fun v8 H8 g8 hv8=>?_⟩;obtain ⟨_,_,_,t1,t2,t3,t4,t5,t6⟩:=k3 v8 H8 g8 hv8;exact ⟨pt,ys,_,rfl,rfl,t1,ly,_,_,_,t2,t3,t4,t5,t6,rfl⟩
 rintro σ H5 ⟨ys,w7,w8,s5,er5,et5,dy5,dt5,rfl⟩;rw [ly1,List.take_length] at dt5;have S5:=s2.trans s5;obtain ⟨wd,rest,ed⟩:∃ wd rest,d=.tup (.str wd :: rest):=by cases gk <;> exact ⟨_,_,rfl⟩
 generalize htl:((entD d e).map fun x=>Dt.tup [whD x,aM n (inD d (whD x)) (dE x) (grp (whD x) ps)])=told at dt5 q
 have hd5:=hd.same S5;have at1:atI (Dt.str wd :: rest) ((0:Nat):Int)=some (.str wd):=bz (by simp);rw [ed] at hd5;refine ⟨_,rfl,_,_,_,hd5,rfl,at1,isS ?_⟩;refine ⟨rfl,_,rfl,?_⟩
 by_cases hw:wd= "record"
 ·subst hw;have ep:jm d told=.tup [.str "record",.tup told]:=by rw [ed];simp [jm]
  rw [ep] at q;refine aY ⟨_,rfl,pt,ys,_,rfl,SqL.of et5,dt5,fun vt H6 g6 hvt=>?_⟩;exact ⟨[.str "record",.tup told],.cons .str (.cons hvt .nil),sz2,fun vr H7 g7 hvr=>q vr H7 ((S5.trans g6).trans g7) hvr⟩
 ·have ep:jm d told=.tup [.str wd,.tup (told.map dE)]:=by rw [ed];simp [jm,hw]
  rw [ep] at q;refine iteN (ak hw) ?_;refine ⟨_,rfl,_,_,_,hd5,rfl,at1,isS ?_⟩;have lt8:told.length≤8:=by rw [← htl,List.length_map];exact l8
  have form:∀ x∈told,∃ a b,x=Dt.tup [a,b]:=fun x hx=>by
   rw [← htl] at hx;obtain ⟨y,_,rfl⟩:=List.mem_map.mp hx;exact ⟨_,_,rfl⟩
  have lyt:ys.length=told.length:=dt5.length.symm;refine ⟨_,rfl,pt,rfl,⟨ys,SqL.of et5⟩,fun lc hlc=>?_⟩;refine aT (K:=K) (xs:=ys) (fun j zs' σ H'=>Same H5 H'∧H' lc=some (.lst zs')∧IsPs K H' ((told.take j).map dE) zs'∧∃ v1 v2,σ=[v1,v2])
   ⟨ab hlc _,aa,.nil,none,none,rfl⟩ (fun j zs' σ H' _ pv=>SqL.of (pv.1 _ _ et5)) ?_ ?_
  ·rintro j u zs' σ H6 N hu ⟨s6,e6,d6,c1,c2,rfl⟩ next;obtain ⟨dx,hdx,hx⟩:=(dt5.same s6).get' hu;obtain ⟨a,b0,rfl⟩:=form dx (List.mem_of_getElem? hdx);obtain ⟨b,us,rfl,hb,pb,rb⟩:=hx.unref
   cases rb with
   | @cons _ _ y1 _ q1 rb =>
   cases rb with
   | @cons _ _ y2 _ q2 rb =>
   cases rb
   have lz':zs'.length < sizeLine:=by
    rw [← d6.length,List.length_map];exact ag (by have:=List.length_take_le' j told;lia)
   refine ⟨b,_,rfl,hb,rfl,_,_,rfl,_,_,rfl,rfl,_,rfl,e6,lz',next _ _ _ ⟨be hlc s6,aa,?_,_,_,rfl⟩⟩;rw [← aB dE hdx];exact IsPs.but e6 But.put (d6.append (.cons q2 .nil))
  ·rintro zs' σ H6 ⟨s6,e6,d6,c1,c2,rfl⟩;rw [lyt,List.take_length] at d6;refine ⟨lc,zs',_,rfl,SqL.of e6,d6,fun vt H7 g7 hvt=>?_⟩;exact ⟨[.str wd,.tup (told.map dE)],.cons .str (.cons hvt .nil),sz2,fun vr H8 g8 hvr=>q vr H8 (((S5.trans s6).trans g7).trans g8) hvr⟩
theorem uP (T:Tx K mg ad) {f:Addr} {fd:FuncData} (D:Gn K mg "with_values" cg ["kind","value","some"] f fd):FnOk P w K mg base CX0 6 f fd ["kind","value","some"] (np K 4):=by
 have w0:FnOk P w K mg base CX0 2 f fd ["kind","value","some"] (np K 0):=ce fun vs H Q E z=>by obtain ⟨m,_,_,_,_,_,_,_,e,_⟩:=z;exact absurd e (Nat.not_lt_zero _)
 exact bN T 3 D (bN T 2 D (bN T 1 D (bN T 0 D w0)))
theorem sI {l:List Dt} (h:Asc l):l.Nodup:=by
 rcases h with ⟨ns,rfl,pw⟩ | ⟨ss,rfl,pw⟩
 ·exact bE (fun a b e=>Dt.int.inj e) (pw.imp fun {a b} h e=>by subst e;exact absurd h (Int.lt_irrefl _))
 ·exact bE (fun a b e=>Dt.str.inj e) (pw.imp fun {a b} h e=>by subst e;exact absurd h (List.lt_irrefl _))
theorem cy:∀ (m:Nat) {d e:Dt},SK m d→FV d e→GV d e:=by
 intro m
 induction m with
 | zero =>
  intro d e gk fv
  cases gk with
  | text n i b1 b2 =>
   obtain ⟨z,rfl,l1,_⟩:=pJ fv i rfl;exact .text (by lia)
  | choice n ws b1 b2 =>
   obtain ⟨z,rfl,l1⟩:=jO fv ws rfl;exact .choice l1
  | number n i j b1 b2 b3 =>
   obtain ⟨z,rfl,l1,l2⟩:=su fv i j rfl;exact .number l1 l2
 | succ m ih =>
  intro d e gk fv
  cases gk with
  | text n i b1 b2 =>
   obtain ⟨z,rfl,l1,_⟩:=pJ fv i rfl;exact .text (by lia)
  | choice n ws b1 b2 =>
   obtain ⟨z,rfl,l1⟩:=jO fv ws rfl;exact .choice l1
  | number n i j b1 b2 b3 =>
   obtain ⟨z,rfl,l1,l2⟩:=su fv i j rfl;exact .number l1 l2
  | @list n' k i g b1 b2 =>
   obtain ⟨vs,rfl,l1,l2⟩:=pK fv k i rfl;exact .list (fun v hv=>ih g (l1 v hv)) (by lia)
  | @rows n' z fs kk i g lk kK b1 b2 =>
   obtain ⟨vs,rfl,l1,l2,l3⟩:=pL fv _ z i rfl;exact .rows (fun v hv=>ih g (l1 v hv)) (by lia) (sI l3)
  | @rcd n' fs g nd nm hl =>
   obtain ⟨gs,rfl,en,gg⟩:=sv fv fs rfl;exact .rcd en fun i f g' hf hg=>ih (g f (List.mem_of_getElem? hf)) (gg i f g' hf hg)
def aD (d:Dt):Option Str:=match d with
 | .tup [.str w,.str z,_,_]=>if w= "rows" then some z else none
 | _=>none
def setI (e:Dt) (vs:List Dt):Dt:=match e with
 | .tup [a,.tup _]=>.tup [a,.tup vs]
 | _=>e
def wn (z:Str) (v g:Dt):Dt:=match g with
 | .tup [.str n,o]=>if n=z then .tup [.str n,v] else .tup [.str n,o]
 | _=>g
def setF (e:Dt) (z:Str) (v:Dt):Dt:=match e with
 | .tup [a,.tup l]=>.tup [a,.tup (l.map (wn z v))]
 | _=>e
def mapP:List Str→Dt→Dt→(List Dt→Option Dt)→Dt
 | [],_,e,f=>(f []).getD e
 | z :: q,d,e,f=>if z= "each" then setI e ((itemsD d e).map fun p=>mapP q ((ao d).getD .non) p.2 fun w=>f (p.1 :: w))
  else setF e z (mapP q ((ax d z).getD .non) (keyD e z) fun w=>f (.str z :: w))
def plw:List Str→Dt→Dt→List WP
 | [],_,e=>[([],e)]
 | z :: q,d,e=>if z= "each" then (itemsD d e).flatMap fun p=>(plw q ((ao d).getD .non) p.2).map fun x=>(p.1 :: x.1,x.2)
  else (plw q ((ax d z).getD .non) (keyD e z)).map fun x=>(.str z :: x.1,x.2)
theorem cn {α β:Type} {f g:α→List β}:∀ {l:List α},(∀ a∈l,f a=g a)→l.flatMap f=l.flatMap g
 | [],_=>rfl
 | a :: l,h=>by rw [List.flatMap_cons,List.flatMap_cons,h a List.mem_cons_self,cn fun b hb=>h b (List.mem_cons_of_mem _ hb)]
theorem dH:∀ (q:List Str) (d e:Dt),pl q d e=(plw q d e).map wpD
 | [],d,e=>rfl
 | z :: q,d,e=>by
  show (if z= "each" then _ else _)=((if z= "each" then _ else _:List WP)).map wpD
  split
  ·rw [List.map_flatMap];refine cn fun p _=>?_;rw [dH q,List.map_map,List.map_map]
   rfl
  ·rw [dH q,List.map_map,List.map_map]
   rfl
def dj:List Str→Dt→Dt→(List Dt→Option Dt)→Prop
 | [],_,_,_=>True
 | z :: q,d,e,f=>if z= "each" then ∀ p∈itemsD d e,dj q ((ao d).getD .non) p.2 (fun w=>f (p.1 :: w))∧∀ zk,aD d=some zk→keyD (mapP q ((ao d).getD .non) p.2 fun w=>f (p.1 :: w)) zk=p.1
  else dj q ((ax d z).getD .non) (keyD e z) fun w=>f (.str z :: w)
inductive CS (m:Nat) (d e:Dt) (z:Str) (k:Dt):Prop
 | rcd (fs gs:List (Str×Dt)) (m':Nat) (v0:Dt):d=.tup [.str "record",.tup (fs.map prD)]→e=.tup [.str "record",.tup (gs.map prD)]→gs.map (·.1)=fs.map (·.1)→(fs.map (·.1)).Nodup→(∀ (i:Nat) (f g:Str×Dt),fs[i]?=some f→gs[i]?=some g→FV f.2 g.2) →
   z≠ "each" →m=m' + 1→(∀ f∈fs,SK m' f.2)→lookS fs z=some k→lookS gs z=some v0→FV k v0→ax d z=some k→keyD e z=v0→SK m' k→CS m d e z k
 | its (wd:Str) (rest vs:List Dt) (ky:Nat→Dt→Dt) (m':Nat):d=.tup (.str wd :: rest)→wd≠ "record" →e=.tup [.str wd,.tup vs]→z= "each" →ao d=some k→m=m' + 1→SK m' k→(∀ v∈vs,FV k v)→(∀ vs',itemsD d (.tup [.str wd,.tup vs'])=vs'.zipIdx.map fun p=>(ky p.2 p.1,p.1)) →
   (∀ vs',vs'.length=vs.length→(∀ v∈vs',FV k v)→(vs'.zipIdx.map fun p=>ky p.2 p.1)=(vs.zipIdx.map fun p=>ky p.2 p.1)→FV d (.tup [.str wd,.tup vs']))→(vs.zipIdx.map fun p=>ky p.2 p.1).Nodup→(∀ p∈itemsD d e,Sc p.1) →
   entD d e=(itemsD d e).map (fun p=>.tup [p.1,p.2])→(aD d=none→∀ i v v',ky i v=ky i v')→(∀ zk,aD d=some zk→(ky=fun _ v=>keyD v zk)∧∃ fs kk,k=.tup [.str "record",.tup (fs.map prD)]∧lookS fs zk=some kk∧jg kk)→(∀ z,ax d z=none)→CS m d e z k
theorem jT {z:Str} {v:Dt}:∀ gs:List (Str×Dt),(gs.map prD).map (wn z v)=(gs.map fun g=>(g.1,if g.1=z then v else g.2)).map prD
 | []=>rfl
 | g :: gs=>by
  have ih:=jT (z:=z) (v:=v) gs;rw [List.map_cons,List.map_cons,List.map_cons,List.map_cons,ih]
  congr 1
  show (if g.1=z then _ else _)=prD (g.1,if g.1=z then v else g.2)
  split <;> rfl
theorem bO (gs:List (Str×Dt)) (z:Str) (v:Dt):setF (.tup [.str "record",.tup (gs.map prD)]) z v=.tup [.str "record",.tup ((gs.map fun g=>(g.1,if g.1=z then v else g.2)).map prD)]:=by
 show Dt.tup [.str "record",.tup ((gs.map prD).map (wn z v))]=_;rw [jT]
theorem gE {z y:Str} {v:Dt}:∀ gs:List (Str×Dt),lookS (gs.map fun g=>(g.1,if g.1=z then v else g.2)) y=if y=z then (lookS gs z).map fun _=>v else lookS gs y
 | []=>by simp [lookS]
 | g :: gs=>by
  have ih:=gE (z:=z) (y:=y) (v:=v) gs
  by_cases h:g.1=y
  ·have e1:lookS ((g :: gs).map fun g=>(g.1,if g.1=z then v else g.2)) y=some (if g.1=z then v else g.2):=by simp [lookS,h]
   rw [e1]
   by_cases hz:y=z
   ·subst hz;have e2:lookS (g :: gs) y=some g.2:=by simp [lookS,h]
    rw [if_pos h,if_pos rfl,e2]
    rfl
   ·have e2:lookS (g :: gs) y=some g.2:=by simp [lookS,h]
    rw [if_neg (by rw [h];exact hz),if_neg hz,e2]
  ·have e1:lookS ((g :: gs).map fun g=>(g.1,if g.1=z then v else g.2)) y=lookS (gs.map fun g=>(g.1,if g.1=z then v else g.2)) y:=by simp [lookS,h]
   rw [e1,ih]
   by_cases hz:y=z
   ·subst hz;have e2:lookS (g :: gs) y=lookS gs y:=by simp [lookS,h]
    rw [if_pos rfl,if_pos rfl,e2]
   ·have e2:lookS (g :: gs) y=lookS gs y:=by simp [lookS,h]
    rw [if_neg hz,if_neg hz,e2]
theorem eC (gs:List (Str×Dt)) (z:Str):keyD (.tup [.str "record",.tup (gs.map prD)]) z=(lookS gs z).getD .non:=by
 show (bQ (gs.map prD) z).getD .non=_;rw [au]
theorem fm (vs:List Dt):∀ (j:Nat),(vs.zipIdx j).map (·.1)=vs:=by
 induction vs with
 | nil=>intro j;rfl
 | cons v vs ih=>intro j;rw [List.zipIdx_cons,List.map_cons,ih]
theorem fD {m:Nat} {d e k:Dt} {z:Str} (gk:SK m d) (fv:FV d e) (st:stepD d z=some k):CS m d e z k:=by
 have gk0:=gk;have gv:=cy m gk fv
 cases gk with
 | @rcd n' fs g nd nm hl =>
  obtain ⟨gs,rfl,eg,gg⟩:=sv fv fs rfl;have hz:z≠ "each" :=by
   intro c;subst c;simp [stepD,ao] at st
  have lk:lookS fs z=some k:=by
   unfold stepD at st;rw [if_neg hz] at st;rw [← au];exact st
  obtain ⟨v0,lv,fv0⟩:=gX eg gg lk;refine .rcd fs gs n' v0 rfl rfl eg nd gg hz rfl g lk lv fv0 ?_ (by rw [eC,lv];rfl) (by
   obtain ⟨f,hf,e⟩:=sC lk;rw [← e];exact g f hf)
  show bQ (fs.map prD) z=some k;rw [au];exact lk
 | @list n' k' i g b1 b2 =>
  obtain ⟨vs,rfl,l1,l2⟩:=pK fv k' i rfl;have hz:z= "each" :=by
   by_cases c:z= "each"
   ·exact c
   ·unfold stepD at st;rw [if_neg c] at st;simp [ax] at st
  subst hz;rw [cu] at st;obtain rfl:=Option.some.inj st;have its:∀ vs',itemsD (.tup [.str "list",k',.int i]) (.tup [.str "list",.tup vs'])=vs'.zipIdx.map fun p=>(Dt.int p.2,p.1):=fun vs'=>rfl;refine .its "list" [k',.int i] vs (fun j _=>.int j) n' rfl (by decide) rfl rfl rfl rfl g l1 its (fun vs' h1 h2 _=>.list h2 (by lia)) ?_ ?_ ?_ (fun _ i v v'=>rfl) (fun zk c=>by simp [aD] at c) (fun z=>by simp [ax])
  ·have e1:(vs.zipIdx.map fun p:Dt×Nat=>Dt.int p.2)=(vs.zipIdx.map Prod.snd).map fun n:Nat=>Dt.int n:=by rw [List.map_map];rfl
   rw [e1,List.zipIdx_map_snd];refine bE (fun a b h=>?_) List.nodup_range';injection h with h
   exact Int.ofNat.inj h
  ·intro p hp;rw [its] at hp;obtain ⟨⟨v,j⟩,hq,rfl⟩:=List.mem_map.mp hp;exact .inl ⟨_,rfl⟩
  ·rw [its,da,iS,List.map_map]
   rfl
 | @rows n' z' fs kk i g lk kK b1 b2 =>
  obtain ⟨vs,rfl,l1,l2,l3⟩:=pL fv _ z' i rfl;have hz:z= "each" :=by
   by_cases c:z= "each"
   ·exact c
   ·unfold stepD at st;rw [if_neg c] at st;simp [ax] at st
  subst hz;rw [bV] at st;obtain rfl:=Option.some.inj st;have zk:∀ vs':List Dt,(vs'.zipIdx.map fun p=>keyD p.1 z')=vs'.map fun v=>keyD v z':=fun vs'=>by
   have:(vs'.zipIdx.map fun p:Dt×Nat=>keyD p.1 z')=(vs'.zipIdx.map (·.1)).map fun v=>keyD v z':=by rw [List.map_map];rfl
   rw [this,fm]
  have its:∀ vs',itemsD (.tup [.str "rows",.str z',.tup [.str "record",.tup (fs.map prD)],.int i]) (.tup [.str "rows",.tup vs'])=vs'.zipIdx.map fun p=>(keyD p.1 z',p.1):=fun vs'=>by
   show (vs'.map fun v=>(keyD v z',v))=_;have:(vs'.zipIdx.map fun p:Dt×Nat=>(keyD p.1 z',p.1))=(vs'.zipIdx.map (·.1)).map fun v=>(keyD v z',v):=by rw [List.map_map];rfl
   rw [this,fm]
  have sc0:∀ p∈itemsD (.tup [.str "rows",.str z',.tup [.str "record",.tup (fs.map prD)],.int i]) (.tup [.str "rows",.tup vs]),Sc p.1:=by
   cases sp3 gk0 gv with
   | its its' k2 m2 hf hi em gk' ei ent g2 l8 nd scs _ nr=>rw [ei];exact scs
   | rcd _ _ _ c=>cases c
   | leaf _ c _=>have:=c "each";rw [bV] at this;cases this
  refine .its "rows" _ vs (fun _ v=>keyD v z') n' rfl (by decide) rfl rfl rfl rfl g l1 its (fun vs' h1 h2 h3=>.rows h2 (by lia) ?_) ?_ sc0 ?_ (fun c=>by simp [aD] at c) (fun zk c=>?_) (fun z=>by simp [ax])
  ·rw [zk,zk] at h3;rw [h3];exact l3
  ·rw [zk];exact sI l3
  ·rw [its,eY,List.map_map];have:(vs.zipIdx.map ((fun p:Dt×Dt=>Dt.tup [p.1,p.2]) ∘ fun p:Dt×Nat=>(keyD p.1 z',p.1)))=(vs.zipIdx.map (·.1)).map fun v=>Dt.tup [keyD v z',v]:=by rw [List.map_map];rfl
   rw [this,fm]
  ·have:zk=z':=by simp [aD] at c;exact c.symm
   subst this;exact ⟨rfl,fs,kk,rfl,lk,kK⟩
 | text _ _ _=>exact absurd st (by unfold stepD;split <;> simp [ao,ax])
 | choice _ _ _ _=>exact absurd st (by unfold stepD;split <;> simp [ao,ax] <;> exact fun c=>absurd c (by decide))
 | number _ _ _ _ _=>exact absurd st (by unfold stepD;split <;> simp [ao,ax] <;> exact fun c=>absurd c (by decide))
theorem cN {vs:List Dt} {ky:Nat→Dt→Dt} {p:Dt×Dt} (h:p∈vs.zipIdx.map fun p=>(ky p.2 p.1,p.1)):∃ i,vs[i]?=some p.2∧p.1=ky i p.2:=by
 obtain ⟨⟨v,i⟩,hq,rfl⟩:=List.mem_map.mp h;have hm:=List.mk_mem_zipIdx_iff_getElem?.mp hq;exact ⟨i,hm,rfl⟩
theorem uk {vs:List Dt} {ky:Nat→Dt→Dt} {F:Dt×Dt→Dt} (h:∀ (i:Nat) (v:Dt),vs[i]?=some v→ky i (F (ky i v,v))=ky i v) :
  (((vs.zipIdx.map fun p=>(ky p.2 p.1,p.1)).map F).zipIdx.map fun p=>(ky p.2 p.1,p.1))=(vs.zipIdx.map fun p=>(ky p.2 p.1,p.1)).map fun p=>(p.1,F p):=by
 refine List.ext_getElem? fun i=>?_;simp only [List.getElem?_map,List.getElem?_zipIdx]
 cases hv:vs[i]? with
 | none=>simp
 | some v =>
  simp only [Option.map_some,Nat.zero_add];rw [h i v hv]
theorem gF:∀ (q:List Str) (m:Nat) (d e:Dt) (f:List Dt→Option Dt),SK m d→FV d e→(al d q).isSome=true→(∀ x∈plw q d e,f x.1=none∨f x.1=some x.2)→mapP q d e f=e
 | [],m,d,e,f,gk,fv,ld,h=>by
  rcases h ([],e) List.mem_cons_self with h | h
  ·show (f []).getD e=e;rw [show f []=none from h];rfl
  ·show (f []).getD e=e;rw [show f []=some e from h];rfl
 | z :: q,m,d,e,f,gk,fv,ld,h=>by
  obtain ⟨k,st,ld'⟩:=aw ld;show (if z= "each" then _ else _)=e;have h':∀ x∈(if z= "each" then (itemsD d e).flatMap fun p=>(plw q ((ao d).getD .non) p.2).map fun x=>(p.1 :: x.1,x.2) else (plw q ((ax d z).getD .non) (keyD e z)).map fun x=>(Dt.str z :: x.1,x.2):List WP),f x.1=none∨f x.1=some x.2:=h
  cases fD gk fv st with
  | rcd fs gs m' v0 ed ee eg nd gg hz em gf lk lv fv0 fd kd gk' =>
   rw [if_neg hz] at h' ⊢;rw [fd,kd] at h' ⊢;have:mapP q k v0 (fun w=>f (.str z :: w))=v0:=gF q m' k v0 _ gk' fv0 ld' fun x hx=>h' (.str z :: x.1,x.2) (List.mem_map.mpr ⟨x,hx,rfl⟩);show setF e z (mapP q k v0 fun w=>f (.str z :: w))=e;rw [this,ee,bO]
   congr 4
   have:(gs.map fun g=>(g.1,if g.1=z then v0 else g.2))=gs.map fun g=>g:=List.map_congr_left fun g hg=>by
    split
    ·rename_i e1
     obtain ⟨i,hi⟩:=List.mem_iff_getElem?.mp hg;have:=cM (by rw [eg];exact nd) (z:=g.1) (v:=g.2) hi;rw [e1,lv] at this;rw [Option.some.inj this]
    ·rfl
   rw [this,List.map_id']
  | its wd rest vs ky m' ed hw ee hz hi em gk' fvs its fvd ndk scs ent rk1 rk2 nf =>
   rw [if_pos hz] at h' ⊢;rw [hi] at h' ⊢;have:((itemsD d e).map fun p=>mapP q k p.2 fun w=>f (p.1 :: w))=vs:=by
    have e1:((itemsD d e).map fun p=>mapP q k p.2 fun w=>f (p.1 :: w))=(itemsD d e).map fun p=>p.2:=List.map_congr_left fun p hp=>by
     have hm:p.2∈vs:=by
      rw [ee,its] at hp;obtain ⟨i,h1,_⟩:=cN hp;exact List.mem_of_getElem? h1
     exact gF q m' k p.2 _ gk' (fvs _ hm) ld' fun x hx=>h' (p.1 :: x.1,x.2) (List.mem_flatMap.mpr ⟨p,hp,List.mem_map.mpr ⟨x,hx,rfl⟩⟩)
    rw [e1,ee,its,List.map_map];exact fm vs 0
   show setI e ((itemsD d e).map fun p=>mapP q k p.2 fun w=>f (p.1 :: w))=e;rw [this,ee]
   rfl
theorem lH {q:List Str} {m:Nat} {d e k:Dt} {f:List Dt→Option Dt} {wd:Str} {vs:List Dt} {ky:Nat→Dt→Dt} (ee:e=.tup [.str wd,.tup vs]) (its:∀ vs',itemsD d (.tup [.str wd,.tup vs'])=vs'.zipIdx.map fun p=>(ky p.2 p.1,p.1))
  (rk1:aD d=none→∀ i v v',ky i v=ky i v') (rk2:∀ zk,aD d=some zk→(ky=fun _ v=>keyD v zk)) (ok:∀ p∈itemsD d e,∀ zk,aD d=some zk→keyD (mapP q k p.2 fun w=>f (p.1 :: w)) zk=p.1) :
  itemsD d (setI e ((itemsD d e).map fun p=>mapP q k p.2 fun w=>f (p.1 :: w)))=(itemsD d e).map fun p=>(p.1,mapP q k p.2 fun w=>f (p.1 :: w)):=by
 subst ee;show itemsD d (.tup [.str wd,.tup ((itemsD d (.tup [.str wd,.tup vs])).map fun p=>mapP q k p.2 fun w=>f (p.1 :: w))])=_;rw [its] at ok;rw [its,its];refine uk (F:=fun p=>mapP q k p.2 fun w=>f (p.1 :: w)) fun i v hv=>?_;have hmem:(ky i v,v)∈vs.zipIdx.map fun p=>(ky p.2 p.1,p.1):=List.mem_map.mpr ⟨(v,i),List.mk_mem_zipIdx_iff_getElem?.mpr hv,rfl⟩
 cases hr:aD d with
 | none=>exact rk1 hr i _ _
 | some zk =>
  have e1:=rk2 zk hr;have:=ok _ hmem zk hr;have e2:∀ i v,ky i v=keyD v zk:=fun i v=>by rw [e1]
  rw [e2 i (mapP q k (ky i v,v).2 fun w=>f ((ky i v,v).1 :: w))];exact this
theorem lI:∀ (q:List Str) (m:Nat) (d e:Dt) (f:List Dt→Option Dt),SK m d→FV d e→(al d q).isSome=true→dj q d e f→plw q d (mapP q d e f)=(plw q d e).map fun x=>(x.1,(f x.1).getD x.2)
 | [],m,d,e,f,gk,fv,ld,h=>rfl
 | z :: q,m,d,e,f,gk,fv,ld,h=>by
  obtain ⟨k,st,ld'⟩:=aw ld;have h':if z= "each" then ∀ p∈itemsD d e,dj q ((ao d).getD .non) p.2 (fun w=>f (p.1 :: w))∧∀ zk,aD d=some zk→keyD (mapP q ((ao d).getD .non) p.2 fun w=>f (p.1 :: w)) zk=p.1 else dj q ((ax d z).getD .non) (keyD e z) fun w=>f (.str z :: w):=h
  cases fD gk fv st with
  | rcd fs gs m' v0 ed ee eg nd gg hz em gf lk lv fv0 fd kd gk' =>
   rw [if_neg hz,fd,kd] at h';have ih:=lI q m' k v0 (fun w=>f (.str z :: w)) gk' fv0 ld' h';have e1:mapP (z :: q) d e f=setF e z (mapP q k v0 fun w=>f (.str z :: w)):=by
    show (if z= "each" then _ else _)=_;rw [if_neg hz,fd,kd];rfl
   have e2:keyD (setF e z (mapP q k v0 fun w=>f (.str z :: w))) z=mapP q k v0 fun w=>f (.str z :: w):=by
    rw [ee,bO,eC,gE,if_pos rfl,lv];rfl
   rw [e1];show (if z= "each" then _ else _)=((if z= "each" then _ else _:List WP)).map _;rw [if_neg hz,if_neg hz,fd,e2,kd,Option.getD_some,ih,List.map_map,List.map_map]
   rfl
  | its wd rest vs ky m' ed hw ee hz hi em gk' fvs its fvd ndk scs ent rk1 rk2 nf =>
   rw [if_pos hz,hi] at h';have e1:mapP (z :: q) d e f=setI e ((itemsD d e).map fun p=>mapP q k p.2 fun w=>f (p.1 :: w)):=by
    show (if z= "each" then _ else _)=_;rw [if_pos hz,hi];rfl
   have e2:=lH (q:=q) (m:=m) (k:=k) (f:=f) ee its rk1 (fun zk h=>(rk2 zk h).1) fun p hp=>(h' p hp).2;rw [e1];show (if z= "each" then _ else _)=((if z= "each" then _ else _:List WP)).map _;rw [if_pos hz,if_pos hz,hi,e2,Option.getD_some,List.map_flatMap,List.flatMap_map];refine cn fun p hp=>?_;have hm:p.2∈vs:=by
    rw [ee,its] at hp;obtain ⟨i,h1,_⟩:=cN hp;exact List.mem_of_getElem? h1
   rw [lI q m' k p.2 (fun w=>f (p.1 :: w)) gk' (fvs _ hm) ld' (h' p hp).1,List.map_map,List.map_map]
   rfl
theorem hJ:∀ (q:List Str) (m:Nat) (d e:Dt) (f g:List Dt→Option Dt),SK m d→FV d e→(al d q).isSome=true→dj q d e f→mapP q d (mapP q d e f) g=mapP q d e fun w=>(g w).or (f w)
 | [],m,d,e,f,g,gk,fv,ld,h=>by
  show (g []).getD ((f []).getD e)=((g []).or (f [])).getD e
  cases g [] <;> rfl
 | z :: q,m,d,e,f,g,gk,fv,ld,h=>by
  obtain ⟨k,st,ld'⟩:=aw ld;have h':if z= "each" then ∀ p∈itemsD d e,dj q ((ao d).getD .non) p.2 (fun w=>f (p.1 :: w))∧∀ zk,aD d=some zk→keyD (mapP q ((ao d).getD .non) p.2 fun w=>f (p.1 :: w)) zk=p.1 else dj q ((ax d z).getD .non) (keyD e z) fun w=>f (.str z :: w):=h
  cases fD gk fv st with
  | rcd fs gs m' v0 ed ee eg nd gg hz em gf lk lv fv0 fd kd gk' =>
   rw [if_neg hz,fd,kd] at h';have ih:=hJ q m' k v0 (fun w=>f (.str z :: w)) (fun w=>g (.str z :: w)) gk' fv0 ld' h';have e1:∀ e f,mapP (z :: q) d e f=setF e z (mapP q k (keyD e z) fun w=>f (.str z :: w)):=fun e f=>by
    show (if z= "each" then _ else _)=_;rw [if_neg hz,fd];rfl
   rw [e1,e1,e1,kd];have e2:keyD (setF e z (mapP q k v0 fun w=>f (.str z :: w))) z=mapP q k v0 fun w=>f (.str z :: w):=by
    rw [ee,bO,eC,gE,if_pos rfl,lv];rfl
   rw [e2,ih,ee,bO,bO,bO]
   congr 4
   refine congrArg (List.map prD) ?_;rw [List.map_map];refine List.map_congr_left fun g' _=>?_;show (g'.1,if g'.1=z then _ else if g'.1=z then _ else _)=(g'.1,if g'.1=z then _ else _)
   by_cases c:g'.1=z
   ·rw [if_pos c,if_pos c]
   ·rw [if_neg c,if_neg c,if_neg c]
  | its wd rest vs ky m' ed hw ee hz hi em gk' fvs its fvd ndk scs ent rk1 rk2 nf =>
   rw [if_pos hz,hi] at h';have e1:∀ e f,mapP (z :: q) d e f=setI e ((itemsD d e).map fun p=>mapP q k p.2 fun w=>f (p.1 :: w)):=fun e f=>by
    show (if z= "each" then _ else _)=_;rw [if_pos hz,hi];rfl
   have e2:=lH (q:=q) (m:=m) (k:=k) (f:=f) ee its rk1 (fun zk h=>(rk2 zk h).1) fun p hp=>(h' p hp).2;rw [e1,e1,e1,e2,List.map_map];have e3:((itemsD d e).map ((fun p:Dt×Dt=>mapP q k p.2 fun w=>g (p.1 :: w)) ∘ fun p=>(p.1,mapP q k p.2 fun w=>f (p.1 :: w))))=(itemsD d e).map fun p=>mapP q k p.2 fun w=>(g (p.1 :: w)).or (f (p.1 :: w)):=List.map_congr_left fun p hp=>by
    have hm:p.2∈vs:=by
     rw [ee,its] at hp;obtain ⟨i,h1,_⟩:=cN hp;exact List.mem_of_getElem? h1
    exact hJ q m' k p.2 (fun w=>f (p.1 :: w)) (fun w=>g (p.1 :: w)) gk' (fvs _ hm) ld' (h' p hp).1
   rw [e3,ee]
   rfl
theorem lJ:∀ (q:List Str) (m:Nat) (d e k0:Dt) (f:List Dt→Option Dt),SK m d→FV d e→al d q=some k0→dj q d e f→(∀ x∈plw q d e,∀ o,f x.1=some o→FV k0 o)→FV d (mapP q d e f)
 | [],m,d,e,k0,f,gk,fv,ld,_,h=>by
  obtain rfl:d=k0:=Option.some.inj ld;show FV d ((f []).getD e)
  cases hf:f [] with
  | none=>exact fv
  | some o=>exact h ([],e) List.mem_cons_self o hf
 | z :: q,m,d,e,k0,f,gk,fv,ld,ko,h=>by
  obtain ⟨k,st,ld'⟩:=aw (d:=d) (z:=z) (p:=q) (by rw [ld];rfl);have ld2:al k q=some k0:=by rw [← aX st];exact ld
  have h':if z= "each" then ∀ p∈itemsD d e,dj q ((ao d).getD .non) p.2 (fun w=>f (p.1 :: w))∧∀ zk,aD d=some zk→keyD (mapP q ((ao d).getD .non) p.2 fun w=>f (p.1 :: w)) zk=p.1 else dj q ((ax d z).getD .non) (keyD e z) fun w=>f (.str z :: w):=ko
  have hx:∀ x∈(if z= "each" then (itemsD d e).flatMap fun p=>(plw q ((ao d).getD .non) p.2).map fun x=>(p.1 :: x.1,x.2) else (plw q ((ax d z).getD .non) (keyD e z)).map fun x=>(Dt.str z :: x.1,x.2):List WP),∀ o,f x.1=some o→FV k0 o:=h;show FV d (if z= "each" then _ else _)
  cases fD gk fv st with
  | rcd fs gs m' v0 ed ee eg nd gg hz em gf lk lv fv0 fd kd gk' =>
   rw [if_neg hz,fd,kd] at h' hx ⊢;have ih:=lJ q m' k v0 k0 (fun w=>f (.str z :: w)) gk' fv0 ld2 h' fun x hx' o ho=>hx (.str z :: x.1,x.2) (List.mem_map.mpr ⟨x,hx',rfl⟩) o ho;show FV d (setF e z (mapP q k v0 fun w=>f (.str z :: w)));rw [ee,bO,ed];refine .rcd (by rw [List.map_map];exact eg) fun i f' g' hf hg=>?_;rw [List.getElem?_map] at hg;obtain ⟨g0,hg0,rfl⟩:=Option.map_eq_some_iff.mp hg;show FV f'.2 (if g0.1=z then _ else _)
   split
   ·rename_i c
    have hn:f'.1=z:=by
     have h1:(gs.map (·.1))[i]?=some g0.1:=by rw [List.getElem?_map,hg0];rfl
     rw [eg,List.getElem?_map,hf] at h1;exact (Option.some.inj h1).trans c
    have:=cM nd (z:=f'.1) (v:=f'.2) hf;rw [hn,lk] at this;rw [← Option.some.inj this];exact ih
   ·exact gg i f' g0 hf hg0
  | its wd rest vs ky m' ed hw ee hz hi em gk' fvs its fvd ndk scs ent rk1 rk2 nf =>
   rw [if_pos hz,hi] at h' hx ⊢;have e2:=lH (q:=q) (m:=m) (k:=k) (f:=f) ee its rk1 (fun zk h=>(rk2 zk h).1) fun p hp=>(h' p hp).2;have e3:setI e ((itemsD d e).map fun p=>mapP q k p.2 fun w=>f (p.1 :: w))=.tup [.str wd,.tup ((itemsD d e).map fun p=>mapP q k p.2 fun w=>f (p.1 :: w))]:=by rw [ee];rfl
   rw [e3] at e2;show FV d (setI e ((itemsD d e).map fun p=>mapP q k p.2 fun w=>f (p.1 :: w)));rw [e3];refine fvd _ ?_ (fun v hv=>?_) ?_
   ·rw [List.length_map,ee,its,List.length_map,List.length_zipIdx]
   ·obtain ⟨p,hp,rfl⟩:=List.mem_map.mp hv;have hm:p.2∈vs:=by
     rw [ee,its] at hp;obtain ⟨i,h1,_⟩:=cN hp;exact List.mem_of_getElem? h1
    exact lJ q m' k p.2 k0 (fun w=>f (p.1 :: w)) gk' (fvs _ hm) ld2 (h' p hp).1 fun x hx' o ho=>hx (p.1 :: x.1,x.2) (List.mem_flatMap.mpr ⟨p,hp,List.mem_map.mpr ⟨x,hx',rfl⟩⟩) o ho
   ·have e4:=congrArg (List.map (·.1)) e2;rw [its,List.map_map,List.map_map] at e4;have e5:(itemsD d e).map ((fun x:Dt×Dt=>x.1) ∘ fun p=>(p.1,mapP q k p.2 fun w=>f (p.1 :: w)))=vs.zipIdx.map fun p=>ky p.2 p.1:=by
     rw [ee,its,List.map_map];rfl
    rw [e5] at e4;exact e4
def look (ps:List WP) (w:List Dt):Option Dt:=(ps.find? fun q=>aJ q.1 w).map (·.2)
theorem fq (a b:Dt) (l m:List Dt):aJ (a :: l) (b :: m)=(eqD a b && aJ l m):=rfl
theorem ft:∀ {l m:List Dt},(∀ a∈l,Sc a)→(∀ a∈m,Sc a)→aJ l m=true→l=m
 | [],[],_,_,_=>rfl
 | [],_ :: _,_,_,h=>by cases h
 | _ :: _,[],_,_,h=>by cases h
 | a :: l,b :: m,h1,h2,h=>by
  rw [fq,Bool.and_eq_true] at h;rw [Sc.eq (h1 a List.mem_cons_self) (h2 b List.mem_cons_self) h.1,ft (fun x hx=>h1 x (List.mem_cons_of_mem _ hx)) (fun x hx=>h2 x (List.mem_cons_of_mem _ hx)) h.2]
theorem iU (en:Dt) (w:List Dt):∀ ps:List WP,look (grp en ps) w=look ps (en :: w)
 | []=>rfl
 | (w0,o) :: r=>by
  have ih:=iU en w r
  cases w0 with
  | nil =>
   show look (grp en r) w=(((([],o):WP) :: r).find? fun q=>aJ q.1 (en :: w)).map (·.2);rw [List.find?_cons_of_neg (by show ¬ aJ [] (en :: w)=true;intro c;cases c)];exact ih
  | cons a w' =>
   show look (if eqD a en=true then (w',o) :: grp en r else grp en r) w=(((((a :: w'),o):WP) :: r).find? fun q=>aJ q.1 (en :: w)).map (·.2)
   by_cases h:eqD a en=true
   ·rw [if_pos h]
    by_cases h2:aJ w' w=true
    ·have e1:aJ (a :: w') (en :: w)=true:=by rw [fq,h,h2];rfl
     rw [List.find?_cons_of_pos (by exact e1)];show ((((w',o):WP) :: grp en r).find? fun q=>aJ q.1 w).map (·.2)=_;rw [List.find?_cons_of_pos (by exact h2)]
     rfl
    ·have e1:¬ aJ (a :: w') (en :: w)=true:=by rw [fq,h,Bool.true_and];exact h2
     rw [List.find?_cons_of_neg (by exact e1)];show ((((w',o):WP) :: grp en r).find? fun q=>aJ q.1 w).map (·.2)=_;rw [List.find?_cons_of_neg (by exact h2)];exact ih
   ·rw [if_neg h];have e1:¬ aJ (a :: w') (en :: w)=true:=by rw [fq,Bool.and_eq_true];exact fun c=>h c.1
    rw [List.find?_cons_of_neg (by exact e1)];exact ih
theorem gG {en:Dt} {x:WP}:∀ {ps:List WP},x∈grp en ps→∃ a,eqD a en=true∧(a :: x.1,x.2)∈ps
 | [],h=>by cases h
 | (w0,o) :: r,h=>by
  cases w0 with
  | nil =>
   obtain ⟨a,h1,h2⟩:=gG (ps:=r) h;exact ⟨a,h1,List.mem_cons_of_mem _ h2⟩
  | cons a w' =>
   have h':x∈if eqD a en=true then (w',o) :: grp en r else grp en r:=h
   split at h'
   ·rename_i c
    rcases List.mem_cons.mp h' with rfl | h'
    ·exact ⟨a,c,List.mem_cons_self⟩
    ·obtain ⟨a',h1,h2⟩:=gG h';exact ⟨a',h1,List.mem_cons_of_mem _ h2⟩
   ·obtain ⟨a',h1,h2⟩:=gG h';exact ⟨a',h1,List.mem_cons_of_mem _ h2⟩
theorem nq {en:Dt}:∀ {ps:List WP},(∀ x∈ps,∀ a w,x.1=a :: w→¬ eqD a en=true)→grp en ps=[]
 | [],_=>rfl
 | (w0,o) :: r,h=>by
  have ih:=nq (en:=en) (ps:=r) fun x hx=>h x (List.mem_cons_of_mem _ hx)
  cases w0 with
  | nil=>exact ih
  | cons a w' =>
   show (if eqD a en=true then _ else _)=_;rw [if_neg (h (a :: w',o) List.mem_cons_self a w' rfl)];exact ih
theorem jU (n:Nat) (d e:Dt):aM n d e []=e:=by cases n <;> rfl
theorem jV {n:Nat} {d e:Dt} {ps:List WP} (h:ps≠[]):aM (n+1) d e ps=match ps.find? (fun q=>q.1.isEmpty) with
   | some q=>q.2
   | none=>jm d ((entD d e).map fun x=>.tup [whD x,aM n (inD d (whD x)) (dE x) (grp (whD x) ps)]):=by
 cases ps with
 | nil=>exact absurd rfl h
 | cons p r=>rfl
theorem cz:∀ (q:List Str) (m:Nat) (d e:Dt),SK m d→FV d e→(al d q).isSome=true→∀ x∈plw q d e,∀ a∈x.1,Sc a:=by
 intro q m d e gk fv ld x hx;obtain ⟨w,v,e1,_,sc,_⟩:=dF q m d e gk (cy m gk fv) ld (wpD x) (by rw [dH];exact List.mem_map_of_mem hx);have:x.1=w:=by
  injection e1 with e1
  injection e1 with e1 _
  injection e1 with e1
 rw [this];exact sc
theorem qH {l:List (Dt×Dt)} (nd:(l.map (·.1)).Nodup) {p q:Dt×Dt} (hp:p∈l) (hq:q∈l) (e:p.1=q.1):p=q:=by
 induction l with
 | nil=>cases hp
 | cons x l ih =>
  have nd':=List.nodup_cons.mp (show (x.1 :: l.map (·.1)).Nodup from nd);rcases List.mem_cons.mp hp with h1 | h1
  ·rcases List.mem_cons.mp hq with h2 | h2
   ·rw [h1,h2]
   ·exact absurd (List.mem_map.mpr ⟨q,h2,by rw [← e,h1]⟩) nd'.1
  ·rcases List.mem_cons.mp hq with h2 | h2
   ·exact absurd (List.mem_map.mpr ⟨p,h1,by rw [e,h2]⟩) nd'.1
   ·exact ih nd'.2 h1 h2
theorem bW:∀ (q:List Str) (n m:Nat) (d e:Dt) (ps:List WP),m < n→SK m d→FV d e→(al d q).isSome=true→(∀ x∈ps,∃ y∈plw q d e,x.1=y.1)→aM n d e ps=mapP q d e (look ps)
 | q,0,m,d,e,ps,hn,_,_,_,_=>absurd hn (Nat.not_lt_zero _)
 | [],n+1,m,d,e,ps,hn,gk,fv,ld,h=>by
  cases ps with
  | nil=>rfl
  | cons p r =>
   have hp:p.1=[]:=by
    obtain ⟨y,hy,e1⟩:=h p List.mem_cons_self;obtain rfl:y=([],e):=List.mem_singleton.mp hy;exact e1
   rw [jV (by simp)];show _=(look (p :: r) []).getD e;have e1:(p :: r).find? (fun q=>q.1.isEmpty)=some p:=List.find?_cons_of_pos (by rw [hp];rfl);have e2:look (p :: r) []=some p.2:=by
    show ((p :: r).find? fun q=>aJ q.1 []).map (·.2)=_;rw [List.find?_cons_of_pos (by rw [hp];rfl)]
    rfl
   rw [e1,e2]
   rfl
 | z :: q,n+1,m,d,e,ps,hn,gk,fv,ld,h=>by
  obtain ⟨k,st,ld'⟩:=aw ld
  by_cases hps:ps=[]
  ·subst hps;rw [jU];exact (gF (z :: q) m d e _ gk fv ld fun x _=>.inl rfl).symm
  have gv:=cy m gk fv;have h':∀ x∈ps,∃ y∈(if z= "each" then (itemsD d e).flatMap fun p=>(plw q ((ao d).getD .non) p.2).map fun x=>(p.1 :: x.1,x.2) else (plw q ((ax d z).getD .non) (keyD e z)).map fun x=>(Dt.str z :: x.1,x.2):List WP),x.1=y.1:=h;have hne:ps.find? (fun q=>q.1.isEmpty)=none:=List.find?_eq_none.mpr fun x hx=>by
   obtain ⟨y,hy,e1⟩:=h' x hx;rw [e1]
   split at hy
   ·obtain ⟨p,_,hy⟩:=List.mem_flatMap.mp hy;obtain ⟨y',_,rfl⟩:=List.mem_map.mp hy;exact Bool.false_ne_true
   ·obtain ⟨y',_,rfl⟩:=List.mem_map.mp hy;exact Bool.false_ne_true
  rw [jV hps,hne];show jm d _=if z= "each" then _ else _
  cases fD gk fv st with
  | rcd fs gs m' v0 ed ee eg nd gg hz em gf lk lv fv0 fd kd gk' =>
   rw [if_neg hz] at h' ⊢;rw [fd,kd] at h' ⊢;have ndg:(gs.map (·.1)).Nodup:=by rw [eg];exact nd
   have ent:entD d e=gs.map prD:=by rw [ed,ee];exact et fs gs
   have e1:(entD d e).map (fun x=>Dt.tup [whD x,aM n (inD d (whD x)) (dE x) (grp (whD x) ps)])=(gs.map fun g=>(g.1,if g.1=z then mapP q k v0 (fun w=>look ps (.str z :: w)) else g.2)).map prD:=by
    rw [ent,List.map_map,List.map_map];refine List.map_congr_left fun g hg=>?_;show Dt.tup [.str g.1,aM n (inD d (.str g.1)) g.2 (grp (.str g.1) ps)]=Dt.tup [.str g.1,if g.1=z then _ else _]
    by_cases c:g.1=z
    ·rw [if_pos c];obtain ⟨i,hi⟩:=List.mem_iff_getElem?.mp hg;have lg:=cM ndg (z:=g.1) (v:=g.2) hi;rw [c,lv] at lg;obtain rfl:=Option.some.inj lg;have ek:inD d (.str g.1)=k:=by rw [c,ed];exact (gC lk).1
     rw [ek,c];have ih:=bW q n m' k g.2 (grp (.str z) ps) (by lia) gk' fv0 ld' fun x hx=>by
      obtain ⟨a,ha,hm⟩:=gG hx;obtain ⟨y,hy,e2⟩:=h' _ hm;obtain ⟨y',hy',rfl⟩:=List.mem_map.mp hy;exact ⟨y',hy',(List.cons.inj e2).2⟩
     rw [ih,show look (grp (.str z) ps)=fun w=>look ps (.str z :: w) from funext fun w=>iU (.str z) w ps]
    ·rw [if_neg c];rw [nq fun x hx a w e2=>by
      obtain ⟨y,hy,e3⟩:=h' x hx;obtain ⟨y',hy',rfl⟩:=List.mem_map.mp hy;rw [e2] at e3;have:=(List.cons.inj e3).1;rw [this];intro c2;have:=Sc.eq (.inr ⟨z,rfl⟩) (.inr ⟨g.1,rfl⟩) c2;exact c (Dt.str.inj this).symm]
     rw [jU]
   rw [e1];show _=setF e z _;rw [ee,bO,ed]
   rfl
  | its wd rest vs ky m' ed hw ee hz hi em gk' fvs its fvd ndk scs ent rk1 rk2 nf =>
   rw [if_pos hz] at h' ⊢;rw [hi] at h' ⊢;have ndk':((itemsD d e).map (·.1)).Nodup:=by rw [ee,its,List.map_map];exact ndk
   have e1:((entD d e).map fun x=>Dt.tup [whD x,aM n (inD d (whD x)) (dE x) (grp (whD x) ps)]).map dE=(itemsD d e).map fun p=>mapP q k p.2 fun w=>look ps (p.1 :: w):=by
    rw [ent,List.map_map,List.map_map];refine List.map_congr_left fun p hp=>?_;show aM n (inD d p.1) p.2 (grp p.1 ps)=_;have hm:p.2∈vs:=by
     have hp2:=hp;rw [ee,its] at hp2;obtain ⟨i,h1,_⟩:=cN hp2;exact List.mem_of_getElem? h1
    rw [lE nf hi];have ih:=bW q n m' k p.2 (grp p.1 ps) (by lia) gk' (fvs _ hm) ld' fun x hx=>by
     obtain ⟨a,ha,hm2⟩:=gG hx;obtain ⟨y,hy,e2⟩:=h' _ hm2;obtain ⟨p',hp',hy⟩:=List.mem_flatMap.mp hy;obtain ⟨y',hy',rfl⟩:=List.mem_map.mp hy;have ea:a=p'.1:=(List.cons.inj e2).1;have ep:p'.1=p.1:=Sc.eq (scs p' hp') (scs p hp) (by rw [← ea];exact ha);have:p'=p:=by
      exact qH ndk' hp' hp ep
     subst this;exact ⟨y',hy',(List.cons.inj e2).2⟩
    rw [ih,show look (grp p.1 ps)=fun w=>look ps (p.1 :: w) from funext fun w=>iU p.1 w ps]
   have e2:∀ told,jm d told=.tup [.str wd,.tup (told.map dE)]:=fun told=>by rw [ed];simp [jm,hw]
   rw [e2,e1,ee]
   rfl
def bX:Dt→List Str→Option Str
 | _,[]=>none
 | d,[z]=>if z= "each" then aD d else none
 | d,z :: y :: r=>bX ((stepD d z).getD .non) (y :: r)
def bY:Dt→List Str→Bool
 | _,[]=>false
 | _,[_]=>false
 | d,[z,y]=>decide (z= "each") && decide (aD d=some y)
 | d,z :: y :: x :: r=>bY ((stepD d z).getD .non) (y :: x :: r)
theorem iV {d k:Dt} {z zk:Str} {q:List Str} (st:stepD d z=some k) (h:bX k q=some zk):bX d (z :: q)=some zk:=by
 cases q with
 | nil=>cases h
 | cons y r =>
  show bX ((stepD d z).getD .non) (y :: r)=some zk;rw [st];exact h
theorem iW {d k:Dt} {z:Str} {q:List Str} (st:stepD d z=some k) (h:bY k q=true):bY d (z :: q)=true:=by
 cases q with
 | nil=>cases h
 | cons y r =>
  cases r with
  | nil=>cases h
  | cons x r =>
   show bY ((stepD d z).getD .non) (y :: x :: r)=true;rw [st];exact h
theorem sJ {kk:Dt} (h:jg kk) (y:Str):stepD kk y=none:=by
 rcases h with ⟨i,j,rfl⟩ | ⟨i,rfl⟩
 ·unfold stepD;split <;> simp [ao,ax] <;> exact fun c=>absurd c (by decide)
 ·unfold stepD;split <;> simp [ao,ax]
theorem iX:∀ (q:List Str) (m:Nat) (d e:Dt) (f:List Dt→Option Dt),SK m d→FV d e→(al d q).isSome=true→(∀ x∈plw q d e,∀ o,f x.1=some o→∀ zk,bX d q=some zk→keyD o zk=keyD x.2 zk)→(bY d q=true→∀ x∈plw q d e,f x.1=none)→dj q d e f
 | [],m,d,e,f,gk,fv,ld,h1,h2=>True.intro
 | z :: q,m,d,e,f,gk,fv,ld,h1,h2=>by
  obtain ⟨k,st,ld'⟩:=aw ld;have h1':∀ x∈(if z= "each" then (itemsD d e).flatMap fun p=>(plw q ((ao d).getD .non) p.2).map fun x=>(p.1 :: x.1,x.2) else (plw q ((ax d z).getD .non) (keyD e z)).map fun x=>(Dt.str z :: x.1,x.2):List WP),∀ o,f x.1=some o→∀ zk,bX d (z :: q)=some zk→keyD o zk=keyD x.2 zk:=h1;have h2':bY d (z :: q)=true→∀ x∈(if z= "each" then (itemsD d e).flatMap fun p=>(plw q ((ao d).getD .non) p.2).map fun x=>(p.1 :: x.1,x.2) else (plw q ((ax d z).getD .non) (keyD e z)).map fun x=>(Dt.str z :: x.1,x.2):List WP),f x.1=none:=h2;show if z= "each" then _ else _
  cases fD gk fv st with
  | rcd fs gs m' v0 ed ee eg nd gg hz em gf lk lv fv0 fd kd gk' =>
   rw [if_neg hz] at h1' h2' ⊢;rw [fd,kd] at h1' h2' ⊢;exact iX q m' k v0 (fun w=>f (.str z :: w)) gk' fv0 ld' (fun x hx o ho zk hk=>h1' (.str z :: x.1,x.2) (List.mem_map.mpr ⟨x,hx,rfl⟩) o ho zk (iV st hk)) fun hk x hx=>h2' (iW st hk) (.str z :: x.1,x.2) (List.mem_map.mpr ⟨x,hx,rfl⟩)
  | its wd rest vs ky m' ed hw ee hz hi em gk' fvs its fvd ndk scs ent rk1 rk2 nf =>
   rw [if_pos hz] at h1' h2' ⊢;rw [hi] at h1' h2' ⊢;intro p hp;have hp2:=hp;rw [ee,its] at hp2;obtain ⟨i,hvi,hky⟩:=cN hp2;have fvp:=fvs _ (List.mem_of_getElem? hvi);have up:∀ x∈plw q k p.2,((p.1 :: x.1,x.2):WP)∈(itemsD d e).flatMap fun p=>(plw q ((some k).getD .non) p.2).map fun x=>(p.1 :: x.1,x.2):=fun x hx=>List.mem_flatMap.mpr ⟨p,hp,List.mem_map.mpr ⟨x,hx,rfl⟩⟩;have ih:=iX q m' k p.2 (fun w=>f (p.1 :: w)) gk' fvp ld' (fun x hx o ho zk hk=>h1' _ (up x hx) o ho zk (iV st hk)) fun hk x hx=>h2' (iW st hk) _ (up x hx);refine ⟨ih,fun zk hr=>?_⟩;obtain ⟨eky,fs,kk,ek,lkk,kK⟩:=rk2 zk hr;have ep:p.1=keyD p.2 zk:=by rw [hky,eky]
   cases q with
   | nil =>
    show keyD ((f [p.1]).getD p.2) zk=p.1
    cases hf:f [p.1] with
    | none=>exact ep.symm
    | some o =>
     have hk:bX d [z]=some zk:=by
      show (if z= "each" then _ else _)=_;rw [if_pos hz];exact hr
     rw [ep];exact h1' _ (up ([],p.2) List.mem_cons_self) o hf zk hk
   | cons y r =>
    obtain ⟨k2,st2,ld2⟩:=aw ld';have e0:keyD p.2 zk=p.1:=ep.symm
    cases fD gk' fvp st2 with
    | its wd2 rest2 vs2 ky2 m2 ed2 hw2 =>
     rw [ek] at ed2;injection ed2 with ed2
     injection ed2 with ed2
     injection ed2 with ed2
     exact absurd ed2.symm hw2
    | rcd fs2 gs2 m2 v2 ed2 ee2 eg2 nd2 gg2 hz2 em2 gf2 lk2 lv2 fv2 fd2 kd2 gk2 =>
     by_cases c:y=zk
     ·subst c;have efs:fs2=fs:=gA (by rw [ek] at ed2;simpa using ed2.symm);rw [efs,lkk] at lk2;obtain rfl:=Option.some.inj lk2
      cases r with
      | cons x r =>
       obtain ⟨k3,st3,_⟩:=aw ld2;rw [sJ kK x] at st3
       cases st3
      | nil =>
       have hk:bY d [z,y]=true:=by
        show (decide (z= "each") && decide (aD d=some y))=true;rw [decide_eq_true hz,decide_eq_true hr];rfl
       rw [Option.getD_some,gF [y] m' k p.2 (fun w=>f (p.1 :: w)) gk' fvp ld' fun x hx=>.inl (h2' hk _ (up x hx))];exact e0
     ·have e1:mapP (y :: r) k p.2 (fun w=>f (p.1 :: w))=setF p.2 y (mapP r ((ax k y).getD .non) (keyD p.2 y) fun w=>f (p.1 :: .str y :: w)):=by
       show (if y= "each" then _ else _)=_;rw [if_neg hz2]
      rw [Option.getD_some,e1,ee2,bO,eC,gE,if_neg (fun h=>c h.symm),← eC,← ee2];exact e0
structure Puts (d e k0:Dt) (p:List Str) (ps:List WP):Prop where
 sub:(ps.map (·.1)).Sublist ((plw p d e).map (·.1))
 fv:∀ x∈ps,FV k0 x.2
 ky:∀ x∈ps,∀ y∈plw p d e,x.1=y.1→∀ zk,bX d p=some zk→keyD x.2 zk=keyD y.2 zk
 ik:bY d p=true→ps=[]
theorem sK {p:List Str} {m:Nat} {d e:Dt} (gk:SK m d) (fv:FV d e) (ld:(al d p).isSome=true):((plw p d e).map (·.1)).Nodup:=by
 have:=nj p m d e gk (cy m gk fv) ld;rw [dH] at this;refine List.pairwise_map.mpr ((List.pairwise_map.mp this).imp fun {a b} h c=>h ?_);show Dt.tup a.1=Dt.tup b.1;rw [c]
theorem wo {ps:List WP} {x:WP} (nd:(ps.map (·.1)).Nodup) (sc:∀ x∈ps,∀ a∈x.1,Sc a) (h:x∈ps):look ps x.1=some x.2:=by
 induction ps with
 | nil=>cases h
 | cons y ps ih =>
  have nd':=List.nodup_cons.mp (show (y.1 :: ps.map (·.1)).Nodup from nd);show ((y :: ps).find? fun q=>aJ q.1 x.1).map (·.2)=_;rcases List.mem_cons.mp h with h | h
  ·subst h;rw [List.find?_cons_of_pos (by exact cY x.1)]
   rfl
  ·rw [List.find?_cons_of_neg (fun c=>nd'.1 (by
    rw [ft (sc y List.mem_cons_self) (sc x (List.mem_cons_of_mem _ h)) c];exact List.mem_map_of_mem h))]
   exact ih nd'.2 (fun x hx=>sc x (List.mem_cons_of_mem _ hx)) h
theorem lK {ps:List WP} {w:List Dt} {o:Dt} (sc:∀ x∈ps,∀ a∈x.1,Sc a) (sw:∀ a∈w,Sc a) (h:look ps w=some o):(w,o)∈ps:=by
 obtain ⟨x,hx,rfl⟩:=Option.map_eq_some_iff.mp h;have h1:=List.find?_some hx;have e:x.1=w:=ft (sc x (List.mem_of_find?_eq_some hx)) sw h1;rw [← e];exact List.mem_of_find?_eq_some hx
section
variable {d e k0:Dt} {p:List Str} {ps:List WP} {m:Nat}
theorem Puts.sc (h:Puts d e k0 p ps) (gk:SK m d) (fv:FV d e) (ld:al d p=some k0):∀ x∈ps,∀ a∈x.1,Sc a:=fun x hx=>by
 obtain ⟨y,hy,e1⟩:=List.mem_map.mp (h.sub.subset (List.mem_map_of_mem (f:=fun x:WP=>x.1) hx));rw [← e1];exact cz p m d e gk fv (by rw [ld];rfl) y hy
theorem Puts.nd (h:Puts d e k0 p ps) (gk:SK m d) (fv:FV d e) (ld:al d p=some k0):(ps.map (·.1)).Nodup:=h.sub.nodup (sK gk fv (by rw [ld];rfl))
theorem Puts.keyOk (h:Puts d e k0 p ps) (gk:SK m d) (fv:FV d e) (ld:al d p=some k0):dj p d e (look ps):=by
 have ls:(al d p).isSome=true:=by rw [ld];rfl
 refine iX p m d e _ gk fv ls (fun x hx o ho zk hk=>?_) fun hk x hx=>?_
 ·have:=lK (h.sc gk fv ld) (cz p m d e gk fv ls x hx) ho;exact h.ky (x.1,o) this x hx rfl zk hk
 ·rw [h.ik hk];rfl
theorem Puts.eq (h:Puts d e k0 p ps) (gk:SK m d) (fv:FV d e) (ld:al d p=some k0) {n:Nat} (hn:m < n):aM n d e ps=mapP p d e (look ps) :=
 bW p n m d e ps hn gk fv (by rw [ld];rfl) fun x hx=>by
  obtain ⟨y,hy,e1⟩:=List.mem_map.mp (h.sub.subset (List.mem_map_of_mem (f:=fun x:WP=>x.1) hx));exact ⟨y,hy,e1.symm⟩
theorem Puts.isOf (h:Puts d e k0 p ps) (gk:SK m d) (fv:FV d e) (ld:al d p=some k0):FV d (mapP p d e (look ps)) :=
 lJ p m d e k0 _ gk fv ld (h.keyOk gk fv ld) fun x hx o ho=>h.fv (x.1,o) (lK (h.sc gk fv ld) (cz p m d e gk fv (by rw [ld];rfl) x hx) ho)
theorem Puts.pl (h:Puts d e k0 p ps) (gk:SK m d) (fv:FV d e) (ld:al d p=some k0):plw p d (mapP p d e (look ps))=(plw p d e).map fun x=>(x.1,(look ps x.1).getD x.2):=lI p m d e _ gk fv (by rw [ld];rfl) (h.keyOk gk fv ld)
theorem Puts.wh (h:Puts d e k0 p ps) (gk:SK m d) (fv:FV d e) (ld:al d p=some k0):(K14.pl p d (mapP p d e (look ps))).map whD=(K14.pl p d e).map whD:=by
 rw [dH,dH,h.pl gk fv ld,List.map_map,List.map_map,List.map_map]
 rfl
theorem Puts.at (h:Puts d e k0 p ps) (gk:SK m d) (fv:FV d e) (ld:al d p=some k0) {x:WP} (hx:x∈plw p d e):fA x.1 d (mapP p d e (look ps))=some ((look ps x.1).getD x.2):=by
 have ls:(al d p).isSome=true:=by rw [ld];rfl
 have fv':=h.isOf gk fv ld;have hm:((x.1,(look ps x.1).getD x.2):WP)∈plw p d (mapP p d e (look ps)):=by
  rw [h.pl gk fv ld];exact List.mem_map.mpr ⟨x,hx,rfl⟩
 obtain ⟨w,v,e1,e2,_,_⟩:=dF p m d _ gk (cy m gk fv') ls _ (by rw [dH];exact List.mem_map_of_mem hm);injection e1 with e1
 injection e1 with e1 e3
 injection e1 with e1
 injection e3 with e3
 rw [← e1,← e3] at e2;exact e2
theorem Puts.dict (h:Puts d e k0 p ps) (gk:SK m d) (fv:FV d e) (ld:al d p=some k0):((ps.map fun x=>(x.1.map aP,x.2)).map (·.1)).Nodup∧(ps.map fun x=>(x.1.map aP,x.2)).map (fun q=>Dt.tup [.tup (q.1.map kDt),q.2])=ps.map wpD∧∀ w,(∀ a∈w,Sc a)→atKT (ps.map fun x=>(x.1.map aP,x.2)) (w.map aP)=look ps w:=by
 have sc:=h.sc gk fv ld;have nd:=h.nd gk fv ld;have ndk:((ps.map fun x=>(x.1.map aP,x.2)).map (·.1)).Nodup:=by
  rw [List.map_map];refine List.pairwise_map.mpr (List.Pairwise.imp_of_mem (fun {a b} ha hb hne c=>hne (nn (sc a ha) (sc b hb) c)) (List.pairwise_map.mp nd))
 refine ⟨ndk,?_,fun w sw=>?_⟩
 ·rw [List.map_map];refine List.map_congr_left fun x hx=>?_;show Dt.tup [.tup ((x.1.map aP).map kDt),x.2]=_;rw [fh (sc x hx)]
 ·cases h1:look ps w with
  | some o=>exact pO ndk (List.mem_map.mpr ⟨(w,o),lK sc sw h1,rfl⟩)
  | none =>
   cases h2:atKT (ps.map fun x=>(x.1.map aP,x.2)) (w.map aP) with
   | none=>rfl
   | some o =>
    obtain ⟨x,hx,e1⟩:=List.mem_map.mp (wm h2);injection e1 with e1 e2
    have e3:=nn (sc x hx) sw e1;have:=wo nd sc hx;rw [e3,h1] at this
    cases this
end
theorem gH {kd:Dt} {zk:Str} (h:aD kd=some zk):∃ a b,kd=.tup [.str "rows",.str zk,a,b]:=by
 unfold aD at h
 split at h
 ·split at h
  ·rename_i w z a b e1
   obtain rfl:=Option.some.inj h;exact ⟨a,b,by rw [e1]⟩
  ·cases h
 ·cases h
theorem fS:∀ (p:List Str) (d:Dt),bY d p=true→∃ p' kr zk,p=p'++[("each" : Str),zk]∧al d p'=some kr∧aD kr=some zk
 | [],d,h=>by cases h
 | [_],d,h=>by cases h
 | [z,y],d,h=>by
  have h':(decide (z= "each") && decide (aD d=some y))=true:=h;rw [Bool.and_eq_true] at h';obtain rfl:=of_decide_eq_true h'.1;exact ⟨[],d,y,rfl,rfl,of_decide_eq_true h'.2⟩
 | z :: y :: x :: r,d,h=>by
  have h':bY ((stepD d z).getD .non) (y :: x :: r)=true:=h
  cases st:stepD d z with
  | none =>
   rw [st] at h'
   exfalso
   obtain ⟨p',kr,zk,_,e2,e3⟩:=fS (y :: x :: r) _ h'
   cases p' with
   | nil =>
    obtain rfl:=Option.some.inj e2
    cases e3
   | cons a p' =>
    obtain ⟨k,st2,_⟩:=aw (d:=Dt.non) (z:=a) (p:=p') (by show (al ((none:Option Dt).getD .non) (a :: p')).isSome=true;rw [e2];rfl);unfold stepD at st2
    split at st2 <;> cases st2
  | some k =>
   rw [st] at h';obtain ⟨p',kr,zk,e1,e2,e3⟩:=fS (y :: x :: r) k h';exact ⟨z :: p',kr,zk,by rw [List.cons_append,← e1],by rw [aX st];exact e2,e3⟩
theorem sL {p q:List Str} (h:eqD (sD p) (sD q)=true):p=q:=by
 have h':aJ (p.map Dt.str) (q.map Dt.str)=true:=h;have sc:∀ l:List Str,∀ a∈l.map Dt.str,Sc a:=fun l a ha=>by
  obtain ⟨z,_,rfl⟩:=List.mem_map.mp ha;exact .inr ⟨z,rfl⟩
 exact iR (ft (sc p) (sc q) h')
theorem pP {n:Nat} {d:Dt} (g:SK n d):∃ w rest,d=.tup (.str w :: rest):=by
 cases g <;> exact ⟨_,_,rfl⟩
theorem pQ:∀ {q:List Str} {m:Nat} {d e:Dt},SK m d→al d q=some e→∃ m',SK m' e
 | [],m,d,e,gk,h=>by
  obtain rfl:=Option.some.inj (show some d=some e from h);exact ⟨m,gk⟩
 | z :: q,m,d,e,gk,h=>by
  obtain ⟨k,st,h'⟩:=Option.bind_eq_some_iff.mp (show ((stepD d z).bind fun e=>al e q)=some e from h);obtain ⟨m',_,gk'⟩:=fe gk st;exact pQ gk' h'
theorem qI {m:Nat} {kd:Dt} {rest:List Dt} (gk:SK m kd) (h:kd=.tup (.str "rows" :: rest)):∃ zk,aD kd=some zk∧atI (Dt.str "rows" :: rest) ((1:Nat):Int)=some (.str zk)∧∃ fs kk a,kd=.tup [.str "rows",.str zk,.tup [.str "record",.tup (fs.map prD)],a]∧lookS fs zk=some kk:=by
 cases gk with
 | @rows n' z fs kk i g lk kK b1 b2 =>
  injection h with h
  injection h with _ h
  exact ⟨z,by simp [aD],bz (by rw [← h];rfl),fs,kk,_,rfl,lk⟩
 | _=>injection h with h;injection h with h _;injection h with h;exact absurd h (by decide)
theorem eD:∀ (p q:List Str) (d:Dt),al d (p++q)=(al d p).bind fun e=>al e q
 | [],q,d=>rfl
 | z :: p,q,d=>by
  show (stepD d z).bind _=((stepD d z).bind _).bind _
  cases stepD d z with
  | none=>rfl
  | some k=>exact eD p q k
theorem cA:∀ {q:List Str} {m:Nat} {d e:Dt},SK m d→al d q=some e→∃ m',m'≤m∧SK m' e
 | [],m,d,e,gk,h=>by
  obtain rfl:=Option.some.inj (show some d=some e from h);exact ⟨m,Nat.le_refl _,gk⟩
 | z :: q,m,d,e,gk,h=>by
  obtain ⟨k,st,h'⟩:=Option.bind_eq_some_iff.mp (show ((stepD d z).bind fun e=>al e q)=some e from h);obtain ⟨m',em,gk'⟩:=fe gk st;obtain ⟨m2,h1,h2⟩:=cA gk' h';exact ⟨m2,by lia,h2⟩
theorem oH {z:Str} {k i:Dt}:stepD (.tup [.str "rows",.str z,k,i]) "each" = some k:=by simp [stepD,ao]
theorem xK {n:Nat} {d:Dt} (h:SK n d):∀ fs:List (Str×Dt),d=.tup [.str "record",.tup (fs.map prD)]→∀ f∈fs,f.1≠ "" :=by
 cases h with
 | @rcd m fs' g nd nm hl =>
  intro fs e;have e':fs'.map prD=fs.map prD:=by simpa using e
  obtain rfl:=gA e';exact fun f hf=>(nm f hf).2.2
 | _ =>
  intro fs e;simp at e <;> first | exact absurd e.1 (by decide) | exact absurd e (by decide)
theorem pR {k0:Dt} {zk:Str}:∀ {p:List Str} {m:Nat} {d:Dt},SK m d→al d p=some k0→bX d p=some zk→zk≠ "" ∧∃ fs kk,k0=.tup [.str "record",.tup (fs.map prD)]∧lookS fs zk=some kk
 | [],m,d,gk,ld,h=>by cases h
 | [z],m,d,gk,ld,h=>by
  have h':(if z= "each" then aD d else none)=some zk:=h
  split at h'
  ·rename_i hz
   subst hz;obtain ⟨a,b,ed⟩:=gH h';obtain ⟨zk',h1,_,fs,kk,c,ed2,lk⟩:=qI gk ed;rw [h1] at h';obtain rfl:=Option.some.inj h';have e2:k0=.tup [.str "record",.tup (fs.map prD)]:=by
    rw [ed2,aX oH] at ld;exact (Option.some.inj ld).symm
   obtain ⟨m',gk0⟩:=pQ gk ld;exact ⟨xK gk0 fs e2 _ (eA lk),fs,kk,e2,lk⟩
  ·cases h'
 | z :: y :: r,m,d,gk,ld,h=>by
  obtain ⟨k,st,_⟩:=aw (d:=d) (z:=z) (p:=y :: r) (by rw [ld];rfl);obtain ⟨m',_,gk'⟩:=fe gk st;refine pR (p:=y :: r) gk' (by rw [← aX st];exact ld) ?_;have h':bX ((stepD d z).getD .non) (y :: r)=some zk:=h;rw [st] at h';exact h'
theorem sM {l:List WP} (nd:(l.map (·.1)).Nodup) {p q:WP} (hp:p∈l) (hq:q∈l) (e:p.1=q.1):p=q:=by
 induction l with
 | nil=>cases hp
 | cons x l ih =>
  have nd':=List.nodup_cons.mp (show (x.1 :: l.map (·.1)).Nodup from nd);rcases List.mem_cons.mp hp with h1 | h1
  ·rcases List.mem_cons.mp hq with h2 | h2
   ·rw [h1,h2]
   ·exact absurd (List.mem_map.mpr ⟨q,h2,by rw [← e,h1]⟩) nd'.1
  ·rcases List.mem_cons.mp hq with h2 | h2
   ·exact absurd (List.mem_map.mpr ⟨p,h1,by rw [e,h2]⟩) nd'.1
   ·exact ih nd'.2 h1 h2
theorem fT:∀ (q:List Str) (m:Nat) (d e k0:Dt),SK m d→FV d e→al d q=some k0→∀ x∈plw q d e,FV k0 x.2
 | [],m,d,e,k0,gk,fv,ld,x,hx=>by
  obtain rfl:d=k0:=Option.some.inj ld;obtain rfl:x=([],e):=List.mem_singleton.mp hx;exact fv
 | z :: q,m,d,e,k0,gk,fv,ld,x,hx=>by
  obtain ⟨k,st,ld'⟩:=aw (d:=d) (z:=z) (p:=q) (by rw [ld];rfl);have ld2:al k q=some k0:=by rw [← aX st];exact ld
  have hx':x∈(if z= "each" then (itemsD d e).flatMap fun p=>(plw q ((ao d).getD .non) p.2).map fun x=>(p.1 :: x.1,x.2) else (plw q ((ax d z).getD .non) (keyD e z)).map fun x=>(Dt.str z :: x.1,x.2):List WP):=hx
  cases fD gk fv st with
  | rcd fs gs m' v0 ed ee eg nd gg hz em gf lk lv fv0 fd kd gk' =>
   rw [if_neg hz,fd,kd] at hx';obtain ⟨y,hy,rfl⟩:=List.mem_map.mp hx';exact fT q m' k v0 k0 gk' fv0 ld2 y hy
  | its wd rest vs ky m' ed hw ee hz hi em gk' fvs its fvd ndk scs ent rk1 rk2 nf =>
   rw [if_pos hz,hi] at hx';obtain ⟨p,hp,hx'⟩:=List.mem_flatMap.mp hx';obtain ⟨y,hy,rfl⟩:=List.mem_map.mp hx';have hm:p.2∈vs:=by
    have hp2:=hp;rw [ee,its] at hp2;obtain ⟨i,h1,_⟩:=cN hp2;exact List.mem_of_getElem? h1
   exact fT q m' k p.2 k0 gk' (fvs _ hm) ld2 y hy
theorem fU {d k:Dt} {z:Str} (st:stepD d z=some k):(z= "each" ∧(ao d).getD .non=k)∨(z≠ "each" ∧(ax d z).getD .non=k):=by
 unfold stepD at st
 by_cases hz:z= "each"
 ·rw [if_pos hz] at st;exact .inl ⟨hz,by rw [st];rfl⟩
 ·rw [if_neg hz] at st;exact .inr ⟨hz,by rw [st];rfl⟩
theorem eE (q:List Str) (d e k:Dt) {z:Str} (hz:z= "each") (hi:(ao d).getD .non=k):plw (z :: q) d e=(itemsD d e).flatMap fun p=>(plw q k p.2).map fun x=>(p.1 :: x.1,x.2):=by
 show (if z= "each" then _ else _)=_;rw [if_pos hz,hi]
theorem eF (q:List Str) (d e k:Dt) {z:Str} (hz:z≠ "each") (hi:(ax d z).getD .non=k):plw (z :: q) d e=(plw q k (keyD e z)).map fun x=>(.str z :: x.1,x.2):=by
 show (if z= "each" then _ else _)=_;rw [if_neg hz,hi]
theorem jW (q:List Str) (d e k:Dt) (f:List Dt→Option Dt) {z:Str} (hz:z= "each") (hi:(ao d).getD .non=k):mapP (z :: q) d e f=setI e ((itemsD d e).map fun p=>mapP q k p.2 fun w=>f (p.1 :: w)):=by
 show (if z= "each" then _ else _)=_;rw [if_pos hz,hi]
theorem jX (q:List Str) (d e k:Dt) (f:List Dt→Option Dt) {z:Str} (hz:z≠ "each") (hi:(ax d z).getD .non=k):mapP (z :: q) d e f=setF e z (mapP q k (keyD e z) fun w=>f (.str z :: w)):=by
 show (if z= "each" then _ else _)=_;rw [if_neg hz,hi]
theorem gI (q:List Str) {ki:Dt}:∀ (p:List Str) (d e:Dt),al d p=some ki→plw (p++q) d e=(plw p d e).flatMap fun x=>(plw q ki x.2).map fun y=>(x.1++y.1,y.2)
 | [],d,e,h=>by
  obtain rfl:=Option.some.inj (show some d=some ki from h);show plw q d e=[(([],e):WP)].flatMap _;rw [List.flatMap_cons,List.flatMap_nil,List.append_nil];exact (List.map_id' _).symm
 | z :: p,d,e,h=>by
  obtain ⟨k,st,_⟩:=aw (d:=d) (z:=z) (p:=p) (by rw [h];rfl);rw [aX st] at h;rcases fU st with ⟨hz,hi⟩ | ⟨hz,hi⟩
  ·rw [List.cons_append,eE (p++q) d e k hz hi,eE p d e k hz hi,List.flatMap_assoc];refine cn fun pr _=>?_;rw [gI q p k pr.2 h,List.map_flatMap,List.flatMap_map];refine cn fun x _=>?_;rw [List.map_map]
   rfl
  ·rw [List.cons_append,eF (p++q) d e k hz hi,eF p d e k hz hi,gI q p k _ h,List.map_flatMap,List.flatMap_map];refine cn fun x _=>?_;rw [List.map_map]
   rfl
theorem iY (q:List Str) {ki:Dt}:∀ (p:List Str) (d e:Dt) (f g:List Dt→Option Dt),al d p=some ki→(∀ x∈plw p d e,(g x.1).getD x.2=mapP q ki x.2 fun w=>f (x.1++w))→mapP (p++q) d e f=mapP p d e g
 | [],d,e,f,g,h,hx=>by
  obtain rfl:=Option.some.inj (show some d=some ki from h);exact (hx ([],e) List.mem_cons_self).symm
 | z :: p,d,e,f,g,h,hx=>by
  obtain ⟨k,st,_⟩:=aw (d:=d) (z:=z) (p:=p) (by rw [h];rfl);rw [aX st] at h;rcases fU st with ⟨hz,hi⟩ | ⟨hz,hi⟩
  ·rw [eE p d e k hz hi] at hx;rw [List.cons_append,jW (p++q) d e k f hz hi,jW p d e k g hz hi];refine congrArg (setI e) (List.map_congr_left fun pr hp=>?_);exact iY q p k pr.2 _ _ h fun x hm=>hx (pr.1 :: x.1,x.2) (List.mem_flatMap.mpr ⟨pr,hp,List.mem_map.mpr ⟨x,hm,rfl⟩⟩)
  ·rw [eF p d e k hz hi] at hx;rw [List.cons_append,jX (p++q) d e k f hz hi,jX p d e k g hz hi];refine congrArg (setF e z) ?_;exact iY q p k _ _ _ h fun x hm=>hx (.str z :: x.1,x.2) (List.mem_map.mpr ⟨x,hm,rfl⟩)
theorem cf:∀ (p:List Str) (d e:Dt),∀ x∈plw p d e,x.1.length=p.length
 | [],d,e,x,h=>by rw [List.mem_singleton.mp h];rfl
 | z :: p,d,e,x,h=>by
  by_cases hz:z= "each"
  ·rw [eE p d e _ hz rfl] at h;obtain ⟨pr,_,h⟩:=List.mem_flatMap.mp h;obtain ⟨y,hy,rfl⟩:=List.mem_map.mp h;have:=cf p _ _ y hy;show y.1.length+1=p.length+1;lia
  ·rw [eF p d e _ hz rfl] at h;obtain ⟨y,hy,rfl⟩:=List.mem_map.mp h;have:=cf p _ _ y hy;show y.1.length+1=p.length+1;lia
theorem lL {p:List Str} {m:Nat} {d e:Dt} (gk:SK m d) (fv:FV d e) (ls:(al d p).isSome=true) {x:WP} (hx:x∈plw p d e):fA x.1 d e=some x.2:=by
 obtain ⟨w,v,e1,e2,_,_⟩:=dF p m d e gk (cy m gk fv) ls _ (by rw [dH];exact List.mem_map_of_mem hx);injection e1 with e1
 injection e1 with e1 e3
 injection e1 with e1
 injection e3 with e3
 rw [← e1,← e3] at e2;exact e2
theorem nu:∀ (w a b:List Dt),aJ (w++a) (w++b)=aJ a b
 | [],a,b=>rfl
 | x :: w,a,b=>by
  show (eqD x x && aJ (w++a) (w++b))=_;rw [aF,nu w a b]
  rfl
theorem sN (w w' v:List Dt) (o:Dt):look [(w++w',o)] (w++v)=look [(w',o)] v:=by
 unfold look;rw [List.find?_cons,List.find?_cons];show (match aJ (w++w') (w++v) with | true=>_ | false=>_:Option WP).map _=(match aJ w' v with | true=>_ | false=>_:Option WP).map _;rw [nu]
 cases aJ w' v <;> rfl
theorem pS {w v:List Dt} {o:Dt} (h:aJ w v=false):look [(w,o)] v=none:=by
 unfold look;rw [List.find?_cons_of_neg (by show ¬ aJ w v=true;rw [h];exact Bool.false_ne_true)]
 rfl
theorem ul (w:List Dt) (o:Dt):look [(w,o)] w=some o:=by
 unfold look;rw [List.find?_cons_of_pos (by exact cY w)]
 rfl
theorem um {p q:List Str} {m n:Nat} {d e ki k0 o:Dt} (gk:SK m d) (fv:FV d e) (lp:al d p=some ki) (lq:al ki q=some k0) (hn:m < n) {x y:WP} (hx:x∈plw p d e) (hy:y∈plw q ki x.2) :
  aM n d e [(x.1,aM n ki x.2 [(y.1,o)])]=aM n d e [(x.1++y.1,o)]:=by
 have lsp:(al d p).isSome=true:=by rw [lp];rfl
 have lsq:(al ki q).isSome=true:=by rw [lq];rfl
 have lpq:al d (p++q)=some k0:=by rw [eD,lp];exact lq
 obtain ⟨mi,hmi,gki⟩:=cA gk lp;have fvx:=fT p m d e ki gk fv lp;have scx:=cz p m d e gk fv lsp;have one:∀ {l:List WP} {z w v:WP},z∈[w]→v∈l→w.1=v.1→∃ y∈l,z.1=y.1:=fun h h2 e1=>⟨_,h2,by rw [List.mem_singleton.mp h];exact e1⟩;rw [bW q n mi ki x.2 [(y.1,o)] (by lia) gki (fvx x hx) lsq fun z hz=>one hz hy rfl];rw [bW p n m d e [(x.1,mapP q ki x.2 (look [(y.1,o)]))] hn gk fv lsp fun z hz=>one hz hx rfl];have hxy:((x.1++y.1,y.2):WP)∈plw (p++q) d e:=by
  rw [gI q p d e lp];exact List.mem_flatMap.mpr ⟨x,hx,List.mem_map.mpr ⟨y,hy,rfl⟩⟩
 rw [bW (p++q) n m d e [(x.1++y.1,o)] hn gk fv (by rw [lpq];rfl) fun z hz=>one hz hxy rfl];refine (iY q p d e _ _ lp fun x' hx'=>?_).symm;have scy:=cz q mi ki x.2 gki (fvx x hx) lsq y hy
 by_cases c:x'.1=x.1
 ·have ex:x'=x:=sM (sK gk fv lsp) hx' hx c;subst ex;rw [ul];show mapP q ki x'.2 (look [(y.1,o)])=_;exact congrArg (mapP q ki x'.2) (funext fun v=>(sN x'.1 y.1 v o).symm)
 ·have hne:aJ x.1 x'.1=false:=by
   cases hc:aJ x.1 x'.1 with
   | false=>rfl
   | true=>exact absurd (ft (scx x hx) (scx x' hx') hc).symm c
  rw [pS hne];show x'.2=_;refine (gF q mi ki x'.2 (fun w=>look [(x.1++y.1,o)] (x'.1++w)) gki (fvx x' hx') lsq fun y' hy'=>.inl (pS ?_)).symm
  cases hc:aJ (x.1++y.1) (x'.1++y'.1) with
  | false=>rfl
  | true =>
   exfalso
   have scy':=cz q mi ki x'.2 gki (fvx x' hx') lsq y' hy';have e1:=ft (fun a ha=>(List.mem_append.mp ha).elim (scx x hx a) (scy a)) (fun a ha=>(List.mem_append.mp ha).elim (scx x' hx' a) (scy' a)) hc;have l1:=cf p d e x hx;have l2:=cf p d e x' hx';exact c (List.append_inj_left e1 (by lia)).symm
theorem hU (a:WP) (r:List WP) (w:List Dt):look (a :: r) w=if aJ a.1 w=true then some a.2 else look r w:=by
 unfold look
 by_cases c:aJ a.1 w=true
 ·rw [List.find?_cons_of_pos (by exact c),if_pos c]
  rfl
 ·rw [List.find?_cons_of_neg (by exact c),if_neg c]
theorem nv {o:Dt}:∀ {ps:List WP} {w:List Dt} {v:Dt},(∀ x∈ps,x.2=o)→look ps w=some v→v=o
 | [],w,v,_,h=>by cases h
 | a :: r,w,v,ha,h=>by
  rw [hU] at h
  split at h
  ·rw [← Option.some.inj h];exact ha a List.mem_cons_self
  ·exact nv (fun x hx=>ha x (List.mem_cons_of_mem _ hx)) h
theorem uo {p:List Str} {m n:Nat} {d e k0 o:Dt} {ps:List WP} (gk:SK m d) (fv:FV d e) (lp:al d p=some k0) (hn:m < n) (sub:ps.map (·.1)=(plw p d e).map (·.1)) (ho:∀ x∈ps,x.2=o) (fo:FV k0 o) (nk:bX d p=none) (ni:bY d p=false) :
  FV d (aM n d e (ps.take 1))∧aM n d (aM n d e (ps.take 1)) (ps.drop 1)=aM n d e ps:=by
 have ls:(al d p).isSome=true:=by rw [lp];rfl
 have PT:∀ {qs:List WP},qs.Sublist ps→Puts d e k0 p qs:=fun h=>⟨by rw [← sub];exact h.map _,fun x hx=>by rw [ho x (h.subset hx)];exact fo,fun x hx y hy _ zk hk=>(by rw [nk] at hk;cases hk),fun c=>by rw [ni] at c;cases c⟩;have P1:=PT (List.take_sublist 1 ps);have P0:=PT (List.Sublist.refl ps);have e1:=P1.eq gk fv lp hn;have f1:=P1.isOf gk fv lp;rw [e1];refine ⟨f1,?_⟩;rw [P0.eq gk fv lp hn];rw [bW p n m d _ (ps.drop 1) hn gk f1 ls fun x hx=>by
  have h1:x.1∈(plw p d e).map (·.1):=by
   rw [← sub];exact List.mem_map_of_mem (f:=fun x:WP=>x.1) ((List.drop_sublist 1 ps).subset hx)
  obtain ⟨y,hy,e2⟩:=List.mem_map.mp h1;exact ⟨(y.1,(look (ps.take 1) y.1).getD y.2),by
   rw [P1.pl gk fv lp];exact List.mem_map.mpr ⟨y,hy,rfl⟩,e2.symm⟩]
 rw [hJ p m d e _ _ gk fv ls (P1.keyOk gk fv lp)];refine congrArg (mapP p d e) (funext fun w=>?_)
 cases ps with
 | nil=>rfl
 | cons a r =>
  show (look r w).or (look [a] w)=look (a :: r) w;rw [hU a [],hU a r]
  by_cases c:aJ a.1 w=true
  ·rw [if_pos c,if_pos c,ho a List.mem_cons_self]
   cases h:look r w with
   | none=>rfl
   | some v =>
    rw [nv (fun x hx=>ho x (List.mem_cons_of_mem _ hx)) h]
    rfl
  ·rw [if_neg c,if_neg c]
   cases look r w <;> rfl
theorem uq {a c:Nat} {d k:Dt} {z:Str} (fk:FK a c d) (st:stepD d z=some k):∃ a' c',a'≤a∧FK a' c' k∧(z= "each" ∨aI z=true):=by
 cases fk with
 | text i _ _=>exact absurd st (by unfold stepD;split <;> simp [ao,ax])
 | choice ws _=>exact absurd st (by unfold stepD;split <;> simp [ao,ax] <;> exact fun c=>absurd c (by decide))
 | number i j _ _ _=>exact absurd st (by unfold stepD;split <;> simp [ao,ax] <;> exact fun c=>absurd c (by decide))
 | @list a c k' i g _ _ =>
  have hz:z= "each" :=by
   by_cases c:z= "each"
   ·exact c
   ·unfold stepD at st;rw [if_neg c] at st;simp [ax] at st
  subst hz;rw [cu] at st;obtain rfl:=Option.some.inj st;exact ⟨a,c,by lia,g,.inl rfl⟩
 | @rows a c z' l i g _ _ _ =>
  have hz:z= "each" :=by
   by_cases c:z= "each"
   ·exact c
   ·unfold stepD at st;rw [if_neg c] at st;simp [ax] at st
  subst hz;rw [bV] at st;obtain rfl:=Option.some.inj st;exact ⟨a,c,by lia,g,.inl rfl⟩
 | @rcd gs g _ nm _ =>
  have hz:z≠ "each" :=by
   intro c;subst c;simp [stepD,ao] at st
  have eg:gs.map prG=(gs.map nk).map prD:=by rw [List.map_map];rfl
  rw [eg] at st;have lk:lookS (gs.map nk) z=some k:=by
   unfold stepD at st;rw [if_neg hz] at st;rw [← au];exact st
  obtain ⟨g0,hg,e1⟩:=List.mem_map.mp (eA lk);injection e1 with e1 e2
  refine ⟨g0.2.2.1,g0.2.2.2,?_,by rw [← e2];exact g g0 hg,.inr (by rw [← e1];exact nm g0 hg)⟩;have:=gW (List.mem_map_of_mem (f:=fun g:G4=>g.2.2.1) hg);lia
theorem gJ:∀ {p:List Str} {a c:Nat} {d k:Dt},FK a c d→al d p=some k→∃ a' c',a'≤a∧FK a' c' k∧∀ z∈p,z= "each" ∨aI z=true
 | [],a,c,d,k,fk,h=>by
  obtain rfl:=Option.some.inj (show some d=some k from h);exact ⟨a,c,Nat.le_refl _,fk,fun z hz=>by cases hz⟩
 | y :: p,a,c,d,k,fk,h=>by
  obtain ⟨k1,st,_⟩:=aw (d:=d) (z:=y) (p:=p) (by rw [h];rfl);rw [aX st] at h;obtain ⟨a1,c1,h1,fk1,hy⟩:=uq fk st;obtain ⟨a2,c2,h2,fk2,hz⟩:=gJ fk1 h;exact ⟨a2,c2,by lia,fk2,fun z hm=>by
   rcases List.mem_cons.mp hm with rfl | hm
   ·exact hy
   ·exact hz z hm⟩
theorem wq {a c:Nat} {d kr:Dt} {zk:Str} {p:List Str} (fk:FK a c d) (h:al d p=some kr) (hk:aD kr=some zk):zk= "id" :=by
 obtain ⟨a2,c2,_,fk2,_⟩:=gJ fk h;obtain ⟨x,y,e⟩:=gH hk
 cases fk2 with
 | @rows a c z' l i g kl _ _ =>
  obtain ⟨w,r,_,_,ez⟩:=kl;injection e with e
  injection e with _ e
  injection e with e _
  injection e with e
  rw [← e];exact ez
 | _ =>
  injection e with e
  injection e with e _
  injection e with e
  exact absurd e (by decide)
theorem wt {a c m:Nat} {d k0:Dt} {p:List Str} (fk:FK a c d) (gk:SK m d) (ld:al d p=some k0) (hr:∀ l,k0≠.tup (.str "record" :: l)) (hi:∀ p',p≠p'++[("id" : Str)]):bX d p=none∧bY d p=false:=by
 refine ⟨?_,?_⟩
 ·cases h:bX d p with
  | none=>rfl
  | some zk =>
   obtain ⟨_,fs,kk,e,_⟩:=pR gk ld h;exact absurd e (hr _)
 ·cases h:bY d p with
  | false=>rfl
  | true =>
   obtain ⟨p',kr,zk,e1,e2,e3⟩:=fS p d h;have:=wq fk e2 e3;subst this;exact absurd (show p=(p'++[("each" : Str)])++[("id" : Str)] by rw [e1,List.append_assoc];rfl) (hi _)
def oI (K:PySem.W.Frag) (_:Ads):Sp:=fun vs H Q _=>∃ (p:List Str) (x:V),vs=[x]∧IsP K H (sD p) x∧p.length≤8∧(∀ z∈p,z= "each" ∨aI z=true)∧∀ H',Same H H'→Q (.bl true) H'
theorem pT {K:PySem.W.Frag} {H:Hp} {q:List Str} {xs:List V} {i:Nat} {y:V} (h:IsPs K H (q.map Dt.str) xs) (e:xs[i]?=some y):∃ z,q[i]?=some z∧y=.str z:=by
 obtain ⟨d,hd,hp⟩:=h.get' e;rw [List.getElem?_map] at hd;obtain ⟨z,hz,rfl⟩:=Option.map_eq_some_iff.mp hd;exact ⟨z,hz,ar hp⟩
theorem sO {z:Str} (h:z= "each" ∨aI z=true):z.length≤1000:=by
 rcases h with rfl | h
 ·decide
 ·have:=(pC h).2.1;lia
theorem oJ (T:Tx K mg ad) {f:Addr} {fd:FuncData} (F:Gn K mg "is_path" hZ ["path"] f fd):FnOk P w K mg base CX0 2 f fd ["path"] (oI K ad):=by
 obtain ⟨_,_,yI⟩:=T.is_name;have y3:=fK (P:=P) (w:=w) (base:=base) T yI;obtain ⟨t_LONGEST_PATH,c_LONGEST_PATH⟩:=T.LONGEST_PATH;obtain ⟨t_EACH,c_EACH⟩:=T.EACH;refine F.F.ok oU (fun vs H Q E h=>?_) (fun cdv A outer s H vs Q E hr h=>?_)
 ·obtain ⟨p,x,rfl,_⟩:=h
  rfl
 obtain ⟨p,x,rfl,hd,hl,hz,q⟩:=h;refine ⟨_,(@pss_cons _ _ _ _ _ (@ps_if _ _ _ _ _ _ _ _ (PW.pt (@pw_or _ _ _ _ _ _ _ (@pt_not _ _ _ _ (@pt_val _ _ _ (pe_callB (a7 (K:=K) rfl) rfl T.z_isinstance boot_isinstance (@pa2 _ _ _ _ _ (pv 0) (dB rfl T.z_tuple boot_tuple) (by rfl) (by rfl))) (by intro _;rfl))) (@pw_or1 _ _ _ _ (pt_cmpR op_gt (pe_callB (call_lenDN (K:=K) rfl) rfl T.z_len PySem.boot_len (@pa1 _ _ _ (pv 0) (by rfl))) (pe_gint rfl c_LONGEST_PATH) (nomark _))))) (@pss_one _ _ _ (@ps_ret _ _ _ _ pe_bl)) pss_nil) (@pss_one _ _ _ (@ps_ret _ _ _ _ (pe_callB (call_allN (K:=K) rfl rfl) rfl T.z_all boot_all (@pa1 _ _ _ (aZ rfl (cs0 (NL:=["step"]) rfl (by decide +kernel) (by decide +kernel)) (pi_tupN (K:=K) rfl (pv 0)) (fun _ _ _ _=>(ah (i:=0) (show List.Nodup (α:=Str) ["step"] by decide +kernel) rfl (Or.inl rfl))) (fun _ _ _ _=>(wy (pe_cmpR op_eq (pv 0) (pe_gstr rfl c_EACH) (nomark _)) (pe_one (pcl yI y3 (hr.mono (by lia)) rfl (@pa1 _ _ _ (pv 0) (by rfl))))))) (by rfl)))))),?_⟩;obtain ⟨a,xs,rfl,ha,pa,ra⟩:=id hd.unref;have el:=ra.length;rw [List.length_map] at el;refine ⟨_,rfl,_,_,_,rfl,.tup_tuple ha,_,rfl,bq ?_⟩;refine ⟨_,rfl,_,_,rfl,hd.d,?_⟩;refine ⟨_,_,rfl,rfl,_,rfl,?_⟩;rw [decide_eq_false (by rw [List.length_map];lia)];refine bq ?_;refine ⟨_,rfl,a,rfl,⟨xs,ha⟩,fun l hln=>?_⟩;refine bF (K:=K) (xs:=xs) (fun i ys σ H'=>ys=bls ((p.take i).map fun _=>true)∧Same H H'∧H' l=some (.lst ys)∧σ.length=1) ⟨rfl,ab hln _,aa,rfl⟩ (fun i ys σ H' _ r=>r.2.1.tup ha) ?_ ?_
 ·rintro i y ys σ H1 N hy ⟨rfl,g,e1,hσ⟩ next;obtain ⟨z,hzi,rfl⟩:=pT ra hy;have hz1:=hz z (List.mem_of_getElem? hzi);have nx:bls ((p.take i).map fun _=>true)++[V.bl true]=bls ((p.take (i+1)).map fun _=>true):=by
   unfold bls;rw [List.map_map,List.map_map];exact aB (fun _:Str=>V.bl true) hzi
  have hlen:(bls ((p.take i).map fun _=>true)).length < sizeLine:=by
   simp only [bls,List.length_map,List.length_take];exact ag (by lia)
  match σ,hσ with
  | [_],_ =>
   refine ⟨_,rfl,rfl,?_⟩
   by_cases he:z= "each"
   ·subst he;exact ⟨_,rfl,aY ⟨e1,hlen,next _ _ _ ⟨nx,be hln g,aa,rfl⟩⟩⟩
   ·have hn:aI z=true:=hz1.resolve_left he;refine ⟨_,rfl,iteN (ak he) ⟨_,rfl,.str z,_,rfl,.str,decide_eq_true (sO hz1),fun H2 g2=>?_⟩⟩;have hn':bD (.str z)=true:=hn;rw [hn'];exact ⟨g2 _ _ e1,hlen,next _ _ _ ⟨nx,be hln (g.trans g2),aa,rfl⟩⟩
 ·rintro ys σ H1 ⟨rfl,g,e1,_⟩;refine ⟨l,p.map fun _=>true,rfl,rfl,SqL.of ?_,?_⟩
  ·rw [e1,← el,List.take_length]
  ·have ea:(p.map fun _=>true).all id=true:=by rw [List.all_map];exact List.all_eq_true.mpr fun z _=>rfl
   rw [ea];exact q _ g
def jn (K:PySem.W.Frag) (_:Ads):Sp:=fun vs H Q _=>∃ (n:Nat) (d:Dt) (z:Str) (x:V),vs=[x,.str z]∧IsP K H d x∧SK n d∧ja K H (stepD d z) Q
theorem fE (T:Tx K mg ad) {f:Addr} {fd:FuncData} (F:Gn K mg "kind_along" dN ["kind","step"] f fd):FnOk P w K mg base CX0 2 f fd ["kind","step"] (jn K ad):=by
 obtain ⟨_,_,yB⟩:=T.field_kind;have yN:=er (P:=P) (w:=w) (base:=base) T yB;obtain ⟨_,_,yD⟩:=T.item_kind;have yU:=fC (P:=P) (w:=w) (base:=base) T yD;obtain ⟨t_EACH,c_EACH⟩:=T.EACH;refine F.F.ok js (fun vs H Q E h=>?_) (fun cdv A outer s H vs Q E hr h=>?_)
 ·obtain ⟨n,d,z,x,rfl,_⟩:=h
  rfl
 obtain ⟨n,d,z,x,rfl,hd,gk,q⟩:=h;refine ⟨_,(@pss_cons _ _ _ _ _ (@ps_if _ _ _ _ _ _ _ _ (pt_cmpR op_eq (pv 1) (pe_gstr rfl c_EACH) (nomark _)) (@pss_one _ _ _ (@ps_ret _ _ _ _ (pcl yD yU (hr.mono (by lia)) rfl (@pa1 _ _ _ (pv 0) (by rfl))))) pss_nil) (@pss_one _ _ _ (@ps_ret _ _ _ _ (pcl yB yN (hr.mono (by lia)) rfl (@pa2 _ _ _ _ _ (pv 0) (pv 1) (by rfl) (by rfl)))))),?_⟩;refine ⟨_,rfl,rfl,_,rfl,?_⟩
 by_cases hz:z= "each"
 ·subst hz;exact aY ⟨_,rfl,n,d,x,rfl,hd,gk,q⟩
 ·refine iteN (ak hz) ⟨_,rfl,_,rfl,n,d,z,x,rfl,hd,gk,?_⟩;unfold stepD at q;rw [if_neg hz] at q;exact q
def oK (K:PySem.W.Frag) (_:Ads):Sp:=fun vs H Q _=>∃ (a c m:Nat) (d k:Dt) (p:List Str) (x y:V),vs=[x,y]∧IsP K H d x∧FK a c d∧SK m d∧IsP K H (sD p) y∧p.length≤8∧al d p=some k∧∀ v H',Same H H'→IsP K H' k v→Q v H'
theorem wu {K:PySem.W.Frag} {H:Hp} {m:Nat} {c:Dt} {v:V} (g:SK m c) (h:IsP K H c v):v≠.non:=by
 obtain ⟨w0,l,rfl⟩:=pP g;obtain ⟨a,xs,rfl,_⟩:=h.unref;intro e
 cases e
theorem jY {d k:Dt} {p:List Str} (i:Nat) (h:al d p=some k):∃ e,al d (p.take i)=some e:=by
 have h2:=eD (p.take i) (p.drop i) d;rw [List.take_append_drop,h] at h2
 cases h3:al d (p.take i) with
 | none=>rw [h3] at h2;cases h2
 | some e=>exact ⟨e,rfl⟩
theorem fV (T:Tx K mg ad) {f:Addr} {fd:FuncData} (F:Gn K mg "kind_at" h7 ["kind","path"] f fd):FnOk P w K mg base CX0 3 f fd ["kind","path"] (oK K ad):=by
 obtain ⟨_,_,zC⟩:=T.is_path;have zY:=oJ (P:=P) (w:=w) (base:=base) T zC;obtain ⟨_,_,yP⟩:=T.kind_along;have y8:=fE (P:=P) (w:=w) (base:=base) T yP;refine F.F.ok sc_kind_at (fun vs H Q E h=>?_) (fun cdv A outer s H vs Q E hr h=>?_)
 ·obtain ⟨a,c,m,d,k,p,x,y,rfl,_⟩:=h
  rfl
 obtain ⟨a,c,m,d,k,p,x,y,rfl,hd,fk,gk,hy,l8,ld,q⟩:=h;refine ⟨_,(@pss_cons _ _ _ _ _ (@ps_if _ _ _ _ _ _ _ _ (@pt_not _ _ _ _ (@pt_val _ _ _ (pcl zC zY (hr.mono (by lia)) rfl (@pa1 _ _ _ (pv 1) (by rfl))) (by intro _;rfl))) (@pss_one _ _ _ ps_never) pss_nil) (@pss_cons _ _ _ _ _ (@ps_set _ _ 2 _ _ _ _ sc_kind_at.nd rfl (Or.inl rfl) (pv 0) (by rfl) (by first | exact .inl rfl | exact .inr rfl | assumption)) (@pss_cons _ _ _ _ _ (ps_for PassesOwn.never rfl (pi_tupN (K:=K) rfl (pv 1)) (ah (i:=3) sc_kind_at.nd rfl (Or.inl rfl))
    (@pss_cons _ _ _ _ _ (@ps_set _ _ 2 _ _ _ _ sc_kind_at.nd rfl (Or.inl rfl) (pcl yP y8 (hr.mono (by lia)) rfl (@pa2 _ _ _ _ _ (pv 2) (pv 3) (by rfl) (by rfl))) (by rfl) (by first | exact .inl rfl | exact .inr rfl | assumption)) (@pss_one _ _ _ (@ps_if _ _ _ _ _ _ _ _ (pt_cmpR nL (pv 2) pe_non (nomark _)) (@pss_one _ _ _ ps_never) pss_nil)))) (@pss_one _ _ _ (@ps_ret _ _ _ _ (pv 2)))))),?_⟩
 obtain ⟨ay,xs,rfl,ha,pa,ra⟩:=id hy.unref;have el:=ra.length;rw [List.length_map] at el;obtain ⟨_,_,_,_,nz⟩:=gJ fk ld;refine ⟨_,rfl,p,_,rfl,hy,l8,nz,fun H1 g1=>⟨_,rfl,bq ⟨_,rfl,?_⟩⟩⟩;refine ⟨_,rfl,ay,rfl,⟨xs,g1.tup ha⟩,eV (xs:=xs) (fun i σ H'=>Same H H'∧∃ e v y,al d (p.take i)=some e∧IsP K H' e v∧σ=[some x,some (.ref ay),some v,y]) ⟨g1,d,x,_,rfl,hd.same g1,rfl⟩ (fun i σ H' _ p=>p.1.tup ha) ?_ ?_⟩
 ·rintro i u σ H2 hu ⟨g2,e,v,y,he,hv,rfl⟩;obtain ⟨z,hzi,rfl⟩:=pT ra hu;obtain ⟨m',_,gm⟩:=cA gk he;have hs:al d (p.take (i+1))=stepD e z:=by
   rw [List.take_add_one,hzi];show al d (p.take i++[z])=_;rw [eD,he];show (stepD e z).bind _=_
   cases stepD e z <;> rfl
  refine ⟨_,rfl,_,rfl,m',e,z,v,rfl,hv,gm,?_⟩;obtain ⟨c',hc'⟩:=jY (i+1) ld;rw [hc'] at hs;rw [← hs];intro v' hv';obtain ⟨m2,_,gc⟩:=fe gm hs.symm;exact ⟨_,rfl,rfl,_,rfl,iteN (wu gc hv') ⟨g2,c',v',_,hc',hv',rfl⟩⟩
 ·rintro σ H2 ⟨g2,e,v,y,he,hv,rfl⟩;rw [← el,List.take_length,ld] at he;obtain rfl:=Option.some.inj he;exact ⟨_,rfl,q v H2 g2 hv⟩
def ur (K:PySem.W.Frag) (n:Nat):Sp:=fun vs H Q _=>∃ (m:Nat) (d k:Dt) (p:List Str) (x y u:V),n=p.length+1∧vs=[x,y,u]∧IsP K H d x∧SK m d∧IsP K H (sD p) y∧IsP K H k u∧al d p=some k∧∀ v H',Same H H'→IsP K H' d v→Q v H'
theorem xL (z:Str) (p:List Str):atI ((z :: p).map Dt.str) 0=some (.str z):=bz (by simp)
theorem ny (T:Tx K mg ad) {f:Addr} {fd:FuncData} (n:Nat) (yY:Gn K mg "kind_put" bZ ["kind","path","other"] f fd) (zf:FnOk P w K mg base CX0 (n+3) f fd ["kind","path","other"] (ur K n)) :
  FnOk P w K mg base CX0 (n+3+1) f fd ["kind","path","other"] (ur K (n+1)):=by
 obtain ⟨_,_,yP⟩:=T.kind_along;have y8:=fE (P:=P) (w:=w) (base:=base) T yP;refine yY.F.ok ip (fun vs H Q E h=>?_) (fun cdv A outer s H vs Q E hr h=>?_)
 ·obtain ⟨m,d,k,p,x,y,u,_,rfl,_⟩:=h
  rfl
 obtain ⟨m,d,k,p,x,y,u,e0,rfl,hd,gk,hy,ho,he,q⟩:=h;obtain rfl:n=p.length:=Nat.succ.inj e0;refine ⟨_,(@pss_cons _ _ _ _ _ (@ps_if _ _ _ _ _ _ _ _ (pt_cmpR op_eq (pe_callB (call_lenDN (K:=K) rfl) rfl T.z_len PySem.boot_len (@pa1 _ _ _ (pv 1) (by rfl))) pe_int (nomark _)) (@pss_one _ _ _ (@ps_ret _ _ _ _ (pv 2))) pss_nil) (@pss_cons _ _ _ _ _ (@ps_set _ _ 3 _ _ _ _ ip.nd rfl (Or.inr rfl) (pcl yY zf (hr.mono (by lia)) rfl (@pa3 _ _ _ _ _ _ _ (pcl yP y8 (hr.mono (by lia)) rfl (@pa2 _ _ _ _ _ (pv 0) (@pi1 K _ _ _ _ _ _ _ rfl (pv 1)) (by rfl) (by rfl))) (aR (br (K:=K) rfl) (pv 1) (bp pe_int) bo) (pv 2) (by rfl) (by rfl) (by rfl))) (by rfl) (by first | exact .inl rfl | exact .inr rfl | assumption)) (@pss_cons _ _ _ _ _ (@ps_if _ _ _ _ _ _ _ _ (pt_cmpR op_eq (@pi1 K _ _ _ _ _ _ _ rfl (pv 0)) pe_str (nomark _)) (@pss_one _ _ _ (@ps_ret _ _ _ _ (@aj _ K _ _ _ _ rfl (@pa3 _ _ _ _ _ _ _ pe_str (pv 3) (@pi1 K _ _ _ _ _ _ _ rfl (pv 0)) (by rfl) (by rfl) (by rfl))))) pss_nil) (@pss_cons _ _ _ _ _ (@ps_if _ _ _ _ _ _ _ _ (pt_cmpR op_eq (@pi1 K _ _ _ _ _ _ _ rfl (pv 0)) pe_str (nomark _)) (@pss_one _ _ _ (@ps_ret _ _ _ _ (@aj _ K _ _ _ _ rfl (@aC _ _ _ _ _ pe_str (@pa3 _ _ _ _ _ _ _ (@pi1 K _ _ _ _ _ _ _ rfl (pv 0)) (pv 3) (@pi1 K _ _ _ _ _ _ _ rfl (pv 0)) (by rfl) (by rfl) (by rfl)) (by rfl))))) pss_nil) (@pss_one _ _ _ (@ps_ret _ _ _ _ (@aj _ K _ _ _ _ rfl (@pa2 _ _ _ _ _ pe_str (bh (a8 (K:=K) rfl) rfl T.z_tuple boot_tuple (@pa1 _ _ _ (aZ rfl (csR (sc:=ac bZ) (NL:=["name","own"]) (N:=["kind","path","other","inner"]) (ρ:=[1,3]) (N':=["name","own","path","inner"]) rfl rfl rfl (by decide +kernel) (by decide +kernel) (by decide +kernel) rfl (by decide +kernel)) (pi_tupN (K:=K) rfl (@pi1 K _ _ _ _ _ _ _ rfl (pv 0))) (fun _ _ _ _=>(bL (K:=K) (n:=2) rfl rfl (am (ah (i:=0) (show List.Nodup (α:=Str) ["name","own","path","inner"] by decide +kernel) rfl (Or.inl rfl)) (am (ah (i:=1) (show List.Nodup (α:=Str) ["name","own","path","inner"] by decide +kernel) rfl (Or.inl rfl)) aG)))) (fun _ _ _ _=>(aj (K:=K) rfl (@pa2 _ _ _ _ _ (pv 0) (iF (pt_cmpR op_eq (pv 0) (@pi1 K _ _ _ _ _ _ _ rfl (pv 2)) (nomark _)) (pv 3) (pv 1)) (by rfl) (by rfl))))) (by rfl))) (by rfl) (by rfl))))))))),?_⟩;refine ⟨_,rfl,_,_,rfl,hy.d,rfl,_,rfl,?_⟩
 cases p with
 | nil =>
  obtain rfl:=Option.some.inj (show some d=some k from he);exact aY ⟨_,rfl,q u H (Same.refl H) ho⟩
 | cons z p =>
 refine iteN (sA z p) ?_;obtain ⟨c,hs,_⟩:=aw (d:=d) (z:=z) (p:=p) (by rw [he];rfl);rw [aX hs] at he;refine ⟨_,rfl,_,rfl,_,_,_,hy,rfl,xL z p,isS ?_⟩;refine ⟨m,d,z,x,rfl,hd,gk,?_⟩;rw [hs];intro v1 hv1;refine ⟨_,rfl,_,rfl,_,hy,fun v2 H2 g2 hv2=>?_⟩;have hv2:IsP K H2 (sD p) v2:=by
  rw [show L2.i5 ((z :: p).map Dt.str) (some 1) none=p.map Dt.str from sB (.str z) (p.map Dt.str)] at hv2;exact hv2
 obtain ⟨m1,_,gc⟩:=fe gk hs;refine ⟨_,rfl,m1,c,k,p,v1,v2,u,rfl,rfl,hv1.same g2,gc,hv2,ho.same g2,he,fun v3 H3 g3 hv3=>?_⟩;have S3:=g2.trans g3;have hd3:=hd.same S3
 cases gk with
 | text _ _ _=>exact absurd hs (by unfold stepD;split <;> simp [ao,ax])
 | choice _ _ _ _=>exact absurd hs (by unfold stepD;split <;> simp [ao,ax] <;> exact fun c=>absurd c (by decide))
 | number _ _ _ _ _=>exact absurd hs (by unfold stepD;split <;> simp [ao,ax] <;> exact fun c=>absurd c (by decide))
 | @list n' k' i g b1 b2 =>
  have hz:z= "each" :=by
   by_cases c:z= "each"
   ·exact c
   ·unfold stepD at hs;rw [if_neg c] at hs;simp [ax] at hs
  subst hz;rw [cu] at hs;obtain rfl:=Option.some.inj hs;refine ⟨_,rfl,_,_,_,hd3,rfl,rfl,isS ?_⟩;refine ⟨rfl,_,rfl,aY ?_⟩;refine ⟨_,rfl,_,rfl,_,_,_,hd3,rfl,rfl,isI ?_⟩;exact ⟨[.str "list",_,.int _],.cons .str (.cons hv3 (.cons .int .nil)),sz3,fun v4 H4 g4 hv4=>q v4 H4 (S3.trans g4) hv4⟩
 | @rows n' z' fs kk i g lk kK b1 b2 =>
  have hz:z= "each" :=by
   by_cases c:z= "each"
   ·exact c
   ·unfold stepD at hs;rw [if_neg c] at hs;simp [ax] at hs
  subst hz;rw [bV] at hs;obtain rfl:=Option.some.inj hs;refine ⟨_,rfl,_,_,_,hd3,rfl,rfl,isS ?_⟩;refine ⟨rfl,_,rfl,iteN (ak (by decide)) ?_⟩;refine ⟨_,rfl,_,_,_,hd3,rfl,rfl,isS ?_⟩;refine ⟨rfl,_,rfl,aY ?_⟩;refine ⟨_,rfl,_,_,_,hd3,rfl,rfl,isS ?_⟩;refine ⟨_,rfl,_,rfl,_,_,_,hd3,rfl,rfl,isI ?_⟩;exact ⟨[.str "rows",.str _,_,.int _],.cons .str (.cons .str (.cons hv3 (.cons .int .nil))),(by show 4≤sizeLine;decide),fun v4 H4 g4 hv4=>q v4 H4 (S3.trans g4) hv4⟩
 | @rcd n' fs g nd nm hl =>
  have hz:z≠ "each" :=by
   intro c;subst c;simp [stepD,ao] at hs
  have lk:lookS fs z=some c:=by
   unfold stepD at hs;rw [if_neg hz] at hs;rw [← au];exact hs
  refine ⟨_,rfl,_,_,_,hd3,rfl,rfl,isS ?_⟩;refine ⟨rfl,_,rfl,iteN (ak (by decide)) ?_⟩;refine ⟨_,rfl,_,_,_,hd3,rfl,rfl,isS ?_⟩;refine ⟨rfl,_,rfl,iteN (ak (by decide)) ?_⟩;refine ⟨_,rfl,_,_,_,hd3,rfl,rfl,fun v hv=>?_⟩;obtain ⟨a,xs,rfl,ha,pa,ra⟩:=id hv.unref;have el:=ra.length;rw [List.length_map] at el;refine ⟨a,rfl,⟨_,ha⟩,fun l hln=>?_⟩;have hy3:=hy.same S3;refine bF (K:=K) (xs:=xs) (fun i ys σ H'=>Same H3 H'∧H' l=some (.lst ys)∧IsPs K H' ((fs.take i).map prD) ys∧∃ w1 w2,σ=[w1,w2,some y,some v3]) ⟨ab hln _,aa,.nil,_,_,rfl⟩ (fun i ys σ H' _ r=>r.1.tup ha) ?_ ?_
  ·rintro i y1 ys σ H4 N hy1 ⟨g4,e4,hp4,w1,w2,rfl⟩ next;obtain ⟨d1,hdi,hp⟩:=(ra.same g4).get' hy1;rw [List.getElem?_map] at hdi;obtain ⟨⟨t,k1⟩,hfi,rfl⟩:=Option.map_eq_some_iff.mp hdi;obtain ⟨b,us,rfl,hb,pb,rb⟩:=hp.unref
   cases rb with
   | @cons _ _ z1 _ r1 rb =>
   cases rb with
   | @cons _ _ y2 _ r2 rb =>
   cases rb
   obtain rfl:=ar r1;have ly:=hp4.length;rw [List.length_map,List.length_take] at ly;refine ⟨b,_,rfl,hb,rfl,_,_,rfl,_,_,rfl,rfl,?_⟩;have tk:(fs.take (i+1)).map prD=(fs.take i).map prD++[prD (t,k1)]:=by
    rw [List.take_add_one,hfi,List.map_append];rfl
   have fin:∀ v5,IsP K H4 k1 v5→∃ l1,IsPs K H4 l1 [V.str t,v5]∧[V.str t,v5].length≤sizeLine∧∀ v6 H6,Same H4 H6→IsP K H6 (.tup l1) v6→H6 l=some (.lst ys)∧ys.length < sizeLine∧N (ys++[v6]) [some (.str t),some y2,some y,some v3] (upd H6 l (.lst (ys++[v6]))):=fun v5 hv5=>by
    refine ⟨[.str t,_],.cons .str (.cons hv5 .nil),sz2,fun v6 H6 g6 hv6=>⟨g6 _ _ e4,ag (by lia),next _ _ _ ⟨be hln (g4.trans g6),aa,?_,_,_,rfl⟩⟩⟩;rw [tk];exact IsPs.but (g6 _ _ e4) But.put ((hp4.same g6).append (.cons hv6 .nil))
   refine ⟨_,rfl,_,rfl,_,rfl,_,_,_,hy3.same g4,rfl,xL z p,isS ?_⟩;refine ⟨rfl,_,rfl,?_⟩
   by_cases ez:t=z
   ·subst ez;refine aY ⟨_,rfl,?_⟩;have ek:k1=c:=by
     have:=cM nd hfi;rw [lk] at this;exact (Option.some.inj this).symm
    obtain ⟨l1,a1,a2,a3⟩:=fin v3 (by rw [ek];exact hv3.same g4);exact ⟨l1,a1,a2,a3⟩
   ·refine iteN (ak ez) ⟨_,rfl,?_⟩;obtain ⟨l1,a1,a2,a3⟩:=fin y2 r2;exact ⟨l1,a1,a2,a3⟩
  ·rintro ys σ H4 ⟨g4,e4,hp4,w1,w2,rfl⟩;rw [← el,List.take_length] at hp4;refine ⟨l,ys,_,rfl,SqL.of e4,hp4,fun v5 H5 g5 hv5=>?_⟩;exact ⟨[.str "record",_],.cons .str (.cons hv5 .nil),sz2,fun v6 H6 g6 hv6=>q v6 H6 (((S3.trans g4).trans g5).trans g6) hv6⟩
theorem lM (T:Tx K mg ad) {f:Addr} {fd:FuncData} (A:Gn K mg "kind_put" bZ ["kind","path","other"] f fd):∀ n,FnOk P w K mg base CX0 (n+3) f fd ["kind","path","other"] (ur K n)
 | 0=>ce fun vs H Q E z=>by obtain ⟨_,_,_,_,_,_,_,e,_⟩:=z;cases e
 | n+1=>ny T n A (lM T A n)
theorem ut (T:Tx K mg ad) {f:Addr} {fd:FuncData} (A:Gn K mg "kind_put" bZ ["kind","path","other"] f fd):FnOk P w K mg base CX0 12 f fd ["kind","path","other"] (fun vs H Q E=>∃ n,n≤9∧ur K n vs H Q E) :=
 ⟨fun vs H Q E ⟨n,_,h⟩=>(lM (P:=P) (w:=w) (base:=base) T A n).len vs H Q E h,fun B outer s H args us vs Q E hr e0 hb r ⟨n,hn,h⟩=>((lM (P:=P) (w:=w) (base:=base) T A n).mono (by lia:n+3≤12)).run B outer s H args us vs Q E hr e0 hb r h⟩
def lN (K:PySem.W.Frag) (_:Ads):Sp:=fun vs H Q _=>∃ (a c m:Nat) (d k:Dt) (p:List Str) (x y u:V),vs=[x,y,u]∧IsP K H d x∧FK a c d∧a≤5∧c≤40∧SK m d∧IsP K H (sD p) y∧p.length≤8∧IsP K H k u∧al d p=some k∧∀ v H',Same H H'→IsP K H' d v→Q v H'
theorem lO (T:Tx K mg ad) {f:Addr} {fd:FuncData} (F:Gn K mg "kind_with" eL ["kind","path","other"] f fd):FnOk P w K mg base CX0 23 f fd ["kind","path","other"] (lN K ad):=by
 obtain ⟨_,_,yz⟩:=T.kind_at;have yJ:=fV (P:=P) (w:=w) (base:=base) T yz;obtain ⟨_,_,zm⟩:=T.made_kind;have zM:=kP (P:=P) (w:=w) (base:=base) T zm;obtain ⟨_,_,yY⟩:=T.kind_put;have zf:=ut (P:=P) (w:=w) (base:=base) T yY;refine F.F.ok lV (fun vs H Q E h=>?_) (fun cdv A outer s H vs Q E hr h=>?_)
 ·obtain ⟨a,c,m,d,k,p,x,y,u,rfl,_⟩:=h
  rfl
 obtain ⟨a,c,m,d,k,p,x,y,u,rfl,hd,fk,h5,h40,gk,hy,l8,ho,ld,q⟩:=h;refine ⟨_,(@pss_cons _ _ _ _ _ (@eS _ _ _ _ (pcl yz yJ (hr.mono (by lia)) rfl (@pa2 _ _ _ _ _ (pv 0) (pv 1) (by rfl) (by rfl))) (by rfl)) (@pss_one _ _ _ (@ps_ret _ _ _ _ (pcl zm zM (hr.mono (by lia)) rfl (@pa1 _ _ _ (pcl yY zf (hr.mono (by lia)) rfl (@pa3 _ _ _ _ _ _ _ (pv 0) (pv 1) (pv 2) (by rfl) (by rfl) (by rfl))) (by rfl)))))),?_⟩;refine ⟨_,rfl,_,rfl,a,c,m,d,k,p,x,y,rfl,hd,fk,gk,hy,l8,ld,fun v H1 g1 hv=>?_⟩;refine ⟨_,rfl,_,rfl,_,rfl,p.length+1,by lia,m,d,k,p,x,y,u,rfl,rfl,hd.same g1,gk,hy.same g1,ho.same g1,ld,fun v2 H2 g2 hv2=>?_⟩;exact ⟨a,c,d,v2,rfl,hv2,fk,h5,h40,fun H3 g3=>q v2 H3 ((g1.trans g2).trans g3) (hv2.same g3)⟩
theorem lP (p:List Str) (n:Nat):L2.i5 (p.map Dt.str) none (some (n:Int))=(p.take n).map Dt.str:=by
 unfold L2.i5;have e1:HT.sIx (p.map Dt.str).length 0 none=0:=HT.sIx_none _ _;have e2:HT.sIx (p.map Dt.str).length (p.map Dt.str).length (some (n:Int))=min n (p.map Dt.str).length:=HT.sIx_nat _ _ _;rw [e1,e2,List.drop_zero,Nat.sub_zero,List.map_take]
 by_cases h:n≤(p.map Dt.str).length
 ·rw [Nat.min_eq_left h]
 ·rw [Nat.min_eq_right (by lia),List.take_length,List.take_of_length_le (by lia)]
theorem nA (p:List Str) (n:Nat) (h:n≤p.length):L2.i5 (p.map Dt.str) (some (n:Int)) none=(p.drop n).map Dt.str:=by
 unfold L2.i5;have e1:HT.sIx (p.map Dt.str).length 0 (some (n:Int))=min n (p.map Dt.str).length:=HT.sIx_nat _ _ _;have e2:HT.sIx (p.map Dt.str).length (p.map Dt.str).length none=(p.map Dt.str).length:=HT.sIx_none _ _;rw [e1,e2,Nat.min_eq_left (by rw [List.length_map];exact h),List.map_drop,List.take_of_length_le (by rw [List.length_drop];exact Nat.le_refl _)]
def prs (p q:List Str) (d ki e:Dt):List (WP×WP):=(plw p d e).flatMap fun x=>(plw q ki x.2).map fun y=>(x,y)
abbrev nB (t:WP×WP):Dt:=.tup [.tup t.1.1,.tup t.2.1]
theorem pU {p q:List Str} {d ki e:Dt} (lp:al d p=some ki):plw (p++q) d e=(prs p q d ki e).map fun t=>(t.1.1++t.2.1,t.2.2):=by
 rw [gI q p d e lp];unfold prs;rw [List.map_flatMap];refine cn fun x _=>?_;rw [List.map_map]
 rfl
theorem pV {p q:List Str} {d ki e:Dt} {t:WP×WP} (h:t∈prs p q d ki e):t.1∈plw p d e∧t.2∈plw q ki t.1.2:=by
 obtain ⟨x,hx,h⟩:=List.mem_flatMap.mp h;obtain ⟨y,hy,rfl⟩:=List.mem_map.mp h;exact ⟨hx,hy⟩
theorem oM {α β:Type} {f:α→List β} {b:Nat}:∀ {l:List α},(∀ a∈l,(f a).length≤b)→(l.flatMap f).length≤l.length*b
 | [],_=>Nat.zero_le _
 | a :: l,h=>by
  have h1:=h a List.mem_cons_self;have h2:=oM (l:=l) fun x hx=>h x (List.mem_cons_of_mem _ hx);rw [List.flatMap_cons,List.length_append,List.length_cons,Nat.succ_mul];lia
theorem oN:∀ (q:List Str) (m:Nat) (d e:Dt),SK m d→FV d e→(al d q).isSome=true→(plw q d e).length≤8 ^ q.length
 | [],m,d,e,gk,fv,ld=>Nat.le_refl _
 | z :: q,m,d,e,gk,fv,ld=>by
  obtain ⟨k,st,ld'⟩:=aw ld;have gv:=cy m gk fv;have pw:8 ^ (z :: q).length=8*8 ^ q.length:=by rw [List.length_cons,Nat.pow_succ,Nat.mul_comm]
  rw [pw];rcases fU st with ⟨hz,hi⟩ | ⟨hz,hi⟩
  ·rw [eE q d e k hz hi]
   cases fD gk fv st with
   | rcd fs gs m' v0 ed ee eg nd gg hz' em gf lk lv fv0 fd kd gk'=>exact absurd hz hz'
   | its wd rest vs ky m' ed hw ee hz hi em gk' fvs its fvd ndk scs ent rk1 rk2 nf =>
    have l8:(itemsD d e).length≤8:=by
     have:=(gD gk gv).1;rw [ent,List.length_map] at this;exact this
    refine Nat.le_trans (oM (b:=8 ^ q.length) fun p hp=>?_) (Nat.mul_le_mul_right _ l8);have hm:p.2∈vs:=by
     rw [ee,its] at hp;obtain ⟨i,h1,_⟩:=cN hp;exact List.mem_of_getElem? h1
    rw [List.length_map];exact oN q m' k p.2 gk' (fvs _ hm) ld'
  ·rw [eF q d e k hz hi,List.length_map]
   cases fD gk fv st with
   | its wd rest vs ky m' ed hw ee hz'=>exact absurd hz' hz
   | rcd fs gs m' v0 ed ee eg nd gg hz' em gf lk lv fv0 fd kd gk' =>
    rw [kd];have:=oN q m' k v0 gk' fv0 ld';lia
theorem iE {p:List Str} {m:Nat} {d e:Dt} (hm:m≤3) (gk:SK m d) (fv:FV d e) (ls:(al d p).isSome=true):(plw p d e).length≤512 :=
 Nat.le_trans (oN p m d e gk fv ls) (uO (Nat.le_trans (di gk ls) hm))
theorem small9 {n:Nat} (h:n≤300000):n < sizeLine:=Nat.lt_of_le_of_lt h (by decide)
theorem oO (p:List Str) (d e:Dt):(pl p d e).map whD=(plw p d e).map fun x=>Dt.tup x.1:=by
 rw [dH,List.map_map]
 rfl
theorem sP {m:Nat} {d:Dt} (gk:SK m d):d.dep≤3*m+3:=by
 induction gk with
 | text n i _ _=>simp only [Dt.dep,depS];lia
 | choice n ws _ _ =>
  have:=m9 ws;have h2:depS (ws.map Dt.str)≤0:=dD fun x hx=>by
   obtain ⟨z,_,rfl⟩:=List.mem_map.mp hx;exact Nat.le_refl _
  simp only [Dt.dep,depS];lia
 | number n i j _ _ _=>simp only [Dt.dep,depS];lia
 | list g _ _ ih=>simp only [Dt.dep,depS];lia
 | rows g _ _ _ _ ih =>
  simp only [Dt.dep,depS] at ih ⊢;lia
 | @rcd n fs g nd nm hl ih =>
  have h2:depS (fs.map prD)≤3*n+4:=dD fun x hx=>by
   obtain ⟨f,hf,rfl⟩:=List.mem_map.mp hx;have:=ih f hf;simp only [prD,Dt.dep,depS];lia
  simp only [Dt.dep,depS];lia
def jo (K:PySem.W.Frag) (_:Ads):Sp:=fun vs H Q _=>∃ (a c:Nat) (d k0 e:Dt) (p:List Str) (n:Nat) (x y u:V),vs=[x,y,u,.int n]∧IsP K H d x∧IsP K H e y∧IsP K H (sD p) u∧FK a c d∧SK 3 d∧FV d e∧al d p=some k0∧n≤p.length ∧
 ∀ (r:Addr) (ys:List V) (H':Hp) (ki:Dt),Same H H'→H' r=some (.lst ys)→H r=none→al d (p.take n)=some ki→al ki (p.drop n)=some k0→IsPs K H' ((prs (p.take n) (p.drop n) d ki e).map nB) ys→ys.length≤512→Q (.ref r) H'
theorem jp (T:Tx K mg ad) {f:Addr} {fd:FuncData} (F:Gn K mg "_law_parted" dR ["shape","value","path","at"] f fd):FnOk P w K mg base CX0 20 f fd ["shape","value","path","at"] (jo K ad):=by
 obtain ⟨_,_,yz⟩:=T.kind_at;have yJ:=fV (P:=P) (w:=w) (base:=base) T yz;obtain ⟨_,_,yZ⟩:=T.wheres;have ze:=jR (P:=P) (w:=w) (base:=base) T yZ;obtain ⟨_,_,yK⟩:=T.value_at;have yX:=io (P:=P) (w:=w) (base:=base) T yK;refine F.F.ok aW (fun vs H Q E h=>?_) (fun cdv A outer s H vs Q E hr h=>?_)
 ·obtain ⟨a,c,d,k0,e,p,n,x,y,u,rfl,_⟩:=h
  rfl
 obtain ⟨a,c,d,k0,e,p,n,x,y,u,rfl,hd,he,hu,fk,gk,fv,ld,hn,q⟩:=h;refine ⟨_,(@pss_cons _ _ _ _ _ (@ps_set _ _ 4 _ _ _ _ aW.nd rfl (Or.inl rfl) (aR (br (K:=K) rfl) (pv 2) bo (bp (pv 3))) (by rfl) (by first | exact .inl rfl | exact .inr rfl | assumption)) (@pss_cons _ _ _ _ _ (@ps_set _ _ 5 _ _ _ _ aW.nd rfl (Or.inl rfl) (pcl yz yJ (hr.mono (by lia)) rfl (@pa2 _ _ _ _ _ (pv 0) (pv 4) (by rfl) (by rfl))) (by rfl) (by first | exact .inl rfl | exact .inr rfl | assumption)) (@pss_cons _ _ _ _ _ (@ps_if _ _ _ _ _ _ _ _ (pt_cmpR (gy (K:=K) rfl hr.units) (pcl yz yJ (hr.mono (by lia)) rfl (@pa2 _ _ _ _ _ (pv 5) (aR (br (K:=K) rfl) (pv 2) (bp (pv 3)) bo) (by rfl) (by rfl))) (pcl yz yJ (hr.mono (by lia)) rfl (@pa2 _ _ _ _ _ (pv 0) (pv 2) (by rfl) (by rfl))) (nomark _)) (@pss_one _ _ _ (@ps_ret _ _ _ _ pe_non)) pss_nil) (@pss_cons _ _ _ _ _ (@ps_set _ _ 6 _ _ _ _ aW.nd rfl (Or.inl rfl) (@aH _ _ _ _ bT) (by rfl) (by first | exact .inl rfl | exact .inr rfl | assumption)) (@pss_cons _ _ _ _ _ (ps_for PassesOwn.never rfl (aL (K:=K) rfl (pcl yZ ze (hr.mono (by lia)) rfl (@pa3 _ _ _ _ _ _ _ (pv 0) (pv 1) (pv 4) (by rfl) (by rfl) (by rfl)))) (ah (i:=7) aW.nd rfl (Or.inl rfl))
    (@pss_cons _ _ _ _ _ (@ps_set _ _ 8 _ _ _ _ aW.nd rfl (Or.inl rfl) (pcl yK yX (hr.mono (by lia)) rfl (@pa3 _ _ _ _ _ _ _ (pv 0) (pv 1) (pv 7) (by rfl) (by rfl) (by rfl))) (by rfl) (by first | exact .inl rfl | exact .inr rfl | assumption)) (@pss_one _ _ _ (ps_for PassesOwn.never rfl (aL (K:=K) rfl (pcl yZ ze (hr.mono (by lia)) rfl (@pa3 _ _ _ _ _ _ _ (pv 5) (pv 8) (aR (br (K:=K) rfl) (pv 2) (bp (pv 3)) bo) (by rfl) (by rfl) (by rfl)))) (ah (i:=9) aW.nd rfl (Or.inl rfl))
    (@pss_cons _ _ _ _ _ (@ps_if _ _ _ _ _ _ _ _ (pt_cmpR (gy (K:=K) rfl hr.units) (pcl yK yX (hr.mono (by lia)) rfl (@pa3 _ _ _ _ _ _ _ (pv 5) (pv 8) (pv 9) (by rfl) (by rfl) (by rfl))) (pcl yK yX (hr.mono (by lia)) rfl (@pa3 _ _ _ _ _ _ _ (pv 0) (pv 1) (@pe_op _ _ _ _ _ _ _ _ (bC (K:=K) rfl) (pv 7) (pv 9)) (by rfl) (by rfl) (by rfl))) (nomark _)) (@pss_one _ _ _ (@ps_ret _ _ _ _ pe_non)) pss_nil) (@pss_one _ _ _ (@eS _ _ _ _ (md PySem.F.plainAttrs_list PySem.F.slot_list_append PySem.F.type_list_append cX (pv 6) (@pa1 _ _ _ (@aj _ K _ _ _ _ rfl (@pa2 _ _ _ _ _ (pv 7) (pv 9) (by rfl) (by rfl))) (by rfl))) (by rfl)))))))) (@pss_one _ _ _ (@ps_ret _ _ _ _ (pv 6)))))))),?_⟩
 refine ⟨_,rfl,_,rfl,_,rfl,_,hu,fun vf H1 g1 hvf=>?_⟩;rw [lP] at hvf;obtain ⟨ki,lp⟩:=jY n ld;have lq:al ki (p.drop n)=some k0:=by
  have h2:=eD (p.take n) (p.drop n) d;rw [List.take_append_drop,ld,lp] at h2;exact h2.symm
 have ls:(al d p).isSome=true:=by rw [ld];rfl
 have l3:=di gk ls;obtain ⟨ai,ci,hai,fki,_⟩:=gJ fk lp;obtain ⟨mi,hmi,gki⟩:=cA gk lp;obtain ⟨m0,hm0,gk0⟩:=cA gk ld;have lt:(p.take n).length≤3:=Nat.le_trans (List.length_take_le' _ _) l3;have ldr:(p.drop n).length≤3:=by rw [List.length_drop];lia
 have gv:=cy 3 gk fv;have lsp:(al d (p.take n)).isSome=true:=by rw [lp];rfl
 have lsq:(al ki (p.drop n)).isSome=true:=by rw [lq];rfl
 have eat:p.take n++p.drop n=p:=List.take_append_drop _ _;refine ⟨_,rfl,_,rfl,a,c,3,d,ki,p.take n,x,vf,rfl,hd.same g1,fk,gk,hvf,by lia,lp,fun vi H2 g2 hvi=>?_⟩;have S2:=g1.trans g2;refine ⟨_,rfl,_,rfl,_,rfl,_,rfl,_,hu.same S2,fun vd H3 g3 hvd=>?_⟩;rw [nA p n hn] at hvd;refine ⟨ai,ci,mi,ki,k0,p.drop n,vi,vd,rfl,hvi.same g3,fki,gki,hvd,by lia,lq,fun v1 H4 g4 hv1=>?_⟩;have S4:=(S2.trans g3).trans g4;refine ⟨_,rfl,_,rfl,a,c,3,d,k0,p,x,u,rfl,hd.same S4,fk,gk,hu.same S4,by lia,ld,fun v2 H5 g5 hv2=>?_⟩;have S5:=S4.trans g5;have dk:=sP gk0;refine ⟨k0,k0,(hv1.same g5).d,hv2.d,by lia,_,rfl,?_⟩;rw [aF];refine bq ?_;have hvi5:=hvi.same ((g3.trans g4).trans g5);have hvf5:=hvf.same (((g2.trans g3).trans g4).trans g5)
 clear hv1 hv2 hvd hvi hvf g1 g2 g3 g4 g5 S2 S4
 refine ⟨(by show 0≤sizeLine;decide),fun l hln=>?_⟩;have g6:=ab hln (.lst []);have e6:(upd H5 l (.lst [])) l=some (.lst []):=aa
 generalize upd H5 l (.lst [])=H6 at g6 e6 ⊢
 have S6:=S5.trans g6;refine ⟨_,rfl,_,rfl,_,rfl,3,d,e,p.take n,x,y,vf,by decide,by lia,rfl,hd.same S6,he.same S6,hvf5.same g6,gk,gv,lsp,fun r1 zs H7 g7 hr1 e7 dw _=>?_⟩;have e67:=g7 _ _ e6;rw [oO] at dw;have lz:(plw (p.take n) d e).length=zs.length:=by have:=dw.length;rw [List.length_map] at this;exact this
 have l512:=iE (Nat.le_refl 3) gk fv lsp;have nrl:r1≠l:=fun c=>by rw [c] at hr1;rw [e6] at hr1;cases hr1
 have S7:=S6.trans g7;refine ⟨r1,rfl,⟨zs,SqL.of e7⟩,cj (xs:=zs) (fun i σ H'=>∃ ys v7 v8 v9,But l H7 H'∧H' l=some (.lst ys)∧IsPs K H' (((plw (p.take n) d e).take i).flatMap fun t=>(plw (p.drop n) ki t.2).map fun t'=>nB (t,t')) ys∧σ=[some x,some y,some u,some (.int n),some vf,some vi,some (.ref l),v7,v8,v9])
  ⟨[],_,_,_,But.refl _ _,e67,.nil,rfl⟩ (fun i σ H' _ pv=>by
   obtain ⟨_,_,_,_,b,_⟩:=pv;exact SqL.of (b _ _ nrl e7)) ?_ ?_⟩
 ·rintro i u1 σ H8 hu1 ⟨ys,w7,w8,w9,b8,e8,d8,rfl⟩;obtain ⟨du,hdu,hw⟩:=(dw.but e67 b8).get' hu1;rw [List.getElem?_map] at hdu;obtain ⟨t,ht,rfl⟩:=Option.map_eq_some_iff.mp hdu;have hmt:=List.mem_of_getElem? ht;have sct:=cz (p.take n) 3 d e gk fv lsp t hmt;have fvt:=fT (p.take n) 3 d e ki gk fv lp t hmt;have vt:=lL gk fv lsp hmt;have hd8:=(hd.same S7).but e67 b8;have he8:=(he.same S7).but e67 b8;have hu8:=(hu.same S7).but e67 b8;have hvi8:=((hvi5.same g6).same g7).but e67 b8;refine ⟨_,rfl,_,rfl,_,rfl,3,d,e,t.1,x,y,u1,by decide,rfl,hd8,he8,hw,gk,gv,sct,fun H9 g9=>?_⟩;rw [vt];intro vp hvp;have B9:But l H7 H9:=b8.trans (But.same g9);have hu9:=hu8.same g9;refine ⟨_,rfl,_,rfl,_,rfl,_,rfl,_,rfl,_,hu9,fun vd H10 g10 hvd=>?_⟩;rw [nA p n hn] at hvd;have gvt:=cy mi gki fvt;have G10:=g9.trans g10;have e10:=G10 _ _ e8;refine ⟨mi,ki,t.2,p.drop n,vi,vp,vd,by lia,by lia,rfl,hvi8.same G10,hvp.same g10,hvd,gki,gvt,lsq,fun r2 zs2 H11 g11 hr2 e11 dw2 _=>?_⟩;rw [oO] at dw2;have lz2:(plw (p.drop n) ki t.2).length=zs2.length:=by have:=dw2.length;rw [List.length_map] at this;exact this
  have l2:=iE (by lia) gki fvt lsq;have nr2:r2≠l:=fun c=>by rw [c] at hr2;rw [e10] at hr2;cases hr2
  have G11:=G10.trans g11;have el1:=G11 _ _ e8;have hd11:=hd8.same G11;have he11:=he8.same G11;have hw11:=hw.same G11;have hvi11:=hvi8.same G11;have hvp11:=hvp.same (g10.trans g11);have B11:But l H7 H11:=b8.trans (But.same G11);have d11:=d8.same G11
  generalize hA:((plw (p.take n) d e).take i).flatMap (fun t=>(plw (p.drop n) ki t.2).map fun t'=>nB (t,t'))=A0 at d11
  have lA:A0.length≤262144:=by
   rw [← hA];refine Nat.le_trans (oM (b:=512) fun t ht=>?_) ?_
   ·have hmt:=(List.take_sublist i _).subset ht;rw [List.length_map];exact iE (by lia) gki (fT (p.take n) 3 d e ki gk fv lp t hmt) lsq
   ·have:=List.length_take_le' i (plw (p.take n) d e);exact Nat.le_trans (Nat.mul_le_mul_right 512 (Nat.le_trans this l512)) (by decide)
  refine ⟨r2,rfl,⟨zs2,SqL.of e11⟩,cj (xs:=zs2) (fun j σ H'=>∃ ys' v9,But l H11 H'∧H' l=some (.lst ys')∧IsPs K H' (A0++((plw (p.drop n) ki t.2).take j).map fun t'=>nB (t,t')) ys'∧σ=[some x,some y,some u,some (.int n),some vf,some vi,some (.ref l),some u1,some vp,v9])
   ⟨ys,_,But.refl _ _,el1,(by rw [List.take_zero,List.map_nil,List.append_nil];exact d11),rfl⟩ (fun j σ H' _ pv=>by
    obtain ⟨_,_,b,_⟩:=pv;exact SqL.of (b _ _ nr2 e11)) ?_ ?_⟩
  ·rintro j u2 σ H12 hu2 ⟨ys',x9,b12,e12,d12,rfl⟩;obtain ⟨du,hdu,hw2⟩:=(dw2.but el1 b12).get' hu2;rw [List.getElem?_map] at hdu;obtain ⟨t',ht',rfl⟩:=Option.map_eq_some_iff.mp hdu;have hmt':=List.mem_of_getElem? ht';have sct':=cz (p.drop n) mi ki t.2 gki fvt lsq t' hmt';have fvt':=fT (p.drop n) mi ki t.2 k0 gki fvt lq t' hmt';have hmm:((t.1++t'.1,t'.2):WP)∈plw p d e:=by
    have:((t.1++t'.1,t'.2):WP)∈plw (p.take n++p.drop n) d e:=by
     rw [gI (p.drop n) (p.take n) d e lp];exact List.mem_flatMap.mpr ⟨t,hmt,List.mem_map.mpr ⟨t',hmt',rfl⟩⟩
    rw [eat] at this;exact this
   refine ⟨_,rfl,_,rfl,_,rfl,mi,ki,t.2,t'.1,vi,vp,u2,by lia,rfl,hvi11.but el1 b12,hvp11.but el1 b12,hw2,gki,gvt,sct',fun H13 g13=>?_⟩;rw [lL gki fvt lsq hmt'];intro va hva;have b13:=b12.trans (But.same g13);have lt1:=cf _ _ _ t hmt;have lt2:=cf _ _ _ t' hmt';refine ⟨_,rfl,_,rfl,_,rfl,_,rfl,t.1,t'.1,hw11.but el1 b13,hw2.same g13,Nat.le_of_lt (ag (by lia)),fun vc H14 g14 hvc=>?_⟩;have b14:=b13.trans (But.same g14);refine ⟨3,d,e,t.1++t'.1,x,y,vc,by decide,rfl,hd11.but el1 b14,he11.but el1 b14,hvc,gk,gv,(fun a ha=>(List.mem_append.mp ha).elim (sct a) (sct' a)),fun H15 g15=>?_⟩;have hv15:fA (t.1++t'.1) d e=some t'.2:=lL gk fv ls hmm;rw [hv15];intro vb hvb;have dv:=oG m0 gk0 (cy m0 gk0 fvt');refine ⟨t'.2,t'.2,((hva.same g14).same g15).d,hvb.d,by lia,_,rfl,?_⟩;rw [aF];refine bq ?_;have G15:=(g13.trans g14).trans g15;have b15:=b12.trans (But.same G15);have e15:=G15 _ _ e12;refine ⟨_,rfl,.inl ⟨rfl,_,SqL.of e15⟩,_,rfl,_,rfl,[.tup t.1,.tup t'.1],.cons (hw11.but el1 b15) (.cons (hw2.same G15) .nil),sz2,fun v16 H16 g16 hv16=>?_⟩;have e16:=g16 _ _ e15;have ly:ys'.length < sizeLine:=by
    rw [← d12.length,List.length_append,List.length_map];exact small9 (by have:=List.length_take_le' j (plw (p.drop n) ki t.2);lia)
   refine ⟨l,ys',_,rfl,rfl,e16,ly,ys'++[v16],_,(b15.trans (But.same g16)).trans But.put,aa,?_,rfl⟩;rw [← aB (fun t'=>nB (t,t')) ht',← List.append_assoc];exact IsPs.but e16 But.put (((d12.same G15).same g16).append (.cons hv16 .nil))
  ·rintro σ H12 ⟨ys',x9,b12,e12,d12,rfl⟩;rw [← lz2,List.take_length] at d12;refine ⟨ys',_,_,_,B11.trans b12,e12,?_,rfl⟩;rw [List.take_add_one,ht,List.flatMap_append,hA];show IsPs K H12 (A0++[t].flatMap _) ys';rw [List.flatMap_cons,List.flatMap_nil,List.append_nil];exact d12
 ·rintro σ H8 ⟨ys,w7,w8,w9,b8,e8,d8,rfl⟩;rw [← lz,List.take_length] at d8;have ep:((plw (p.take n) d e).flatMap fun t=>(plw (p.drop n) ki t.2).map fun t'=>nB (t,t'))=(prs (p.take n) (p.drop n) d ki e).map nB:=by
   unfold prs;rw [List.map_flatMap];refine cn fun t _=>?_;rw [List.map_map]
   rfl
  rw [ep] at d8;have ll:ys.length≤512:=by
   rw [← d8.length,List.length_map];have:=iE (Nat.le_refl 3) gk fv ls;rw [← eat,pU lp,List.length_map] at this;exact this
  have hl0:H l=none:=S5.free hln;refine ⟨_,rfl,q l ys H8 ki (fun b o eb=>?_) e8 hl0 lp lq d8 ll⟩;exact b8 _ _ (ae eb hl0) (S7 _ _ eb)
def iA (K:PySem.W.Frag) (_:Ads):Sp:=fun vs H Q _=>∃ (d ki k0 e o:Dt) (p q:List Str) (t:WP×WP) (x y u b v:V),vs=[x,y,u,b,v]∧IsP K H d x∧IsP K H e y∧IsP K H ki u∧IsP K H (nB t) b∧IsP K H o v∧SK 3 d∧FV d e∧al d p=some ki∧al ki q=some k0∧FV k0 o∧t∈prs p q d ki e∧(aM 4 d e [(t.1.1++t.2.1,o)]).dep≤60∧∀ H',Same H H'→Q (.bl true) H'
theorem iB (T:Tx K mg ad) {f:Addr} {fd:FuncData} (F:Gn K mg "_law_put_good" cG ["shape","value","inner","pair","other"] f fd):FnOk P w K mg base CX0 20 f fd ["shape","value","inner","pair","other"] (iA K ad):=by
 obtain ⟨_,_,yK⟩:=T.value_at;have yX:=io (P:=P) (w:=w) (base:=base) T yK;obtain ⟨_,_,yw⟩:=T.with_values;have yx:=uP (P:=P) (w:=w) (base:=base) T yw;refine F.F.ok aQ (fun vs H Q E h=>?_) (fun cdv A outer s H vs Q E hr h=>?_)
 ·obtain ⟨d,ki,k0,e,o,p,q,t,x,y,u,b,v,rfl,_⟩:=h
  rfl
 obtain ⟨d,ki,k0,e,o,p,q',t,x,y,u,b,v,rfl,hd,he,hu,hb,hv,gk,fv,lp,lq,fo,hm,dep,q⟩:=h;refine ⟨_,(@pss_cons _ _ _ _ _ (qN (pv 3) (cS rfl (am (ah (i:=5) aQ.nd rfl (Or.inl rfl)) (am (ah (i:=6) aQ.nd rfl (Or.inl rfl)) aG)))) (@pss_cons _ _ _ _ _ (@ps_set _ _ 7 _ _ _ _ aQ.nd rfl (Or.inl rfl) (pcl yK yX (hr.mono (by lia)) rfl (@pa3 _ _ _ _ _ _ _ (pv 0) (pv 1) (pv 5) (by rfl) (by rfl) (by rfl))) (by rfl) (by first | exact .inl rfl | exact .inr rfl | assumption)) (@pss_cons _ _ _ _ _ (@ps_set _ _ 8 _ _ _ _ aQ.nd rfl (Or.inl rfl) (pcl yw yx (hr.mono (by lia)) rfl (@pa3 _ _ _ _ _ _ _ (pv 2) (pv 7) (@aH _ _ _ _ (@pa1 _ _ _ (@aj _ K _ _ _ _ rfl (@pa2 _ _ _ _ _ (pv 6) (pv 4) (by rfl) (by rfl))) (by rfl))) (by rfl) (by rfl) (by rfl))) (by rfl) (by first | exact .inl rfl | exact .inr rfl | assumption)) (@pss_cons _ _ _ _ _ (@ps_set _ _ 9 _ _ _ _ aQ.nd rfl (Or.inl rfl) (pcl yw yx (hr.mono (by lia)) rfl (@pa3 _ _ _ _ _ _ _ (pv 0) (pv 1) (@aH _ _ _ _ (@pa1 _ _ _ (@aj _ K _ _ _ _ rfl (@pa2 _ _ _ _ _ (pv 5) (pv 8) (by rfl) (by rfl))) (by rfl))) (by rfl) (by rfl) (by rfl))) (by rfl) (by first | exact .inl rfl | exact .inr rfl | assumption)) (@pss_one _ _ _ (@ps_ret _ _ _ _ (pe_cmpR (gx (K:=K) rfl hr.units) (pv 9) (pcl yw yx (hr.mono (by lia)) rfl (@pa3 _ _ _ _ _ _ _ (pv 0) (pv 1) (@aH _ _ _ _ (@pa1 _ _ _ (@aj _ K _ _ _ _ rfl (@pa2 _ _ _ _ _ (@pe_op _ _ _ _ _ _ _ _ (bC (K:=K) rfl) (pv 5) (pv 6)) (pv 4) (by rfl) (by rfl))) (by rfl))) (by rfl) (by rfl) (by rfl))) (nomark _)))))))),?_⟩;obtain ⟨hm1,hm2⟩:=pV hm;obtain ⟨t1,t2⟩:=t;have lsp:(al d p).isSome=true:=by rw [lp];rfl
 have lsq:(al ki q').isSome=true:=by rw [lq];rfl
 have gv:=cy 3 gk fv;obtain ⟨mi,hmi,gki⟩:=cA gk lp;have fvt:=fT p 3 d e ki gk fv lp t1 hm1;have gvt:=cy mi gki fvt;have sc1:=cz p 3 d e gk fv lsp t1 hm1;have sc2:=cz q' mi ki t1.2 gki fvt lsq t2 hm2;have len1:=cf _ _ _ t1 hm1;have len2:=cf _ _ _ t2 hm2;have l31:=di gk lsp;have l32:=di gki lsq;have hb':IsP K H (.tup [.tup t1.1,.tup t2.1]) b:=hb;obtain ⟨ba,us,rfl,hba,pb,rb⟩:=hb'.unref
 cases rb with
 | @cons _ _ y1 _ r1 rb =>
 cases rb with
 | @cons _ _ y2 _ r2 rb =>
 cases rb
 refine ⟨_,rfl,ba,_,rfl,hba,rfl,_,_,rfl,_,_,rfl,rfl,?_⟩;refine ⟨_,rfl,_,rfl,_,rfl,3,d,e,t1.1,x,y,y1,by decide,rfl,hd,he,r1,gk,gv,sc1,fun H1 g1=>?_⟩;rw [lL gk fv lsp hm1];intro vp hvp;have one:∀ {w:WP},(∀ a∈w.1,Sc a)→∀ x∈[w],∀ a∈x.1,Sc a:=fun h x hx=>by rw [List.mem_singleton.mp hx];exact h
 refine ⟨_,rfl,_,rfl,_,rfl,_,rfl,[.tup t2.1,o],.cons (r2.same g1) (.cons (hv.same g1) .nil),sz2,fun v2 H2 g2 hv2=>⟨sz1,fun l hln=>?_⟩⟩;have g3:=ab hln (.lst [v2]);have e3:(upd H2 l (.lst [v2])) l=some (.lst [v2]):=aa
 generalize upd H2 l (.lst [v2])=H3 at g3 e3 ⊢
 have S3:=(g1.trans g2).trans g3;refine ⟨mi,ki,t1.2,[(t2.1,o)],u,vp,l,[v2],by lia,rfl,hu.same S3,hvp.same (g2.trans g3),gki,gvt,SqL.of e3,.cons (hv2.same g3) .nil,one sc2,(by show 1≤900;decide),fun v4 H4 g4 hv4=>?_⟩;have S4:=S3.trans g4;refine ⟨_,rfl,_,rfl,_,rfl,_,rfl,[.tup t1.1,aM 4 ki t1.2 [(t2.1,o)]],.cons (r1.same S4) (.cons hv4 .nil),sz2,fun v5 H5 g5 hv5=>⟨sz1,fun l' hln'=>?_⟩⟩;have g6:=ab hln' (.lst [v5]);have e6:(upd H5 l' (.lst [v5])) l'=some (.lst [v5]):=aa
 generalize upd H5 l' (.lst [v5])=H6 at g6 e6 ⊢
 have S6:=(S4.trans g5).trans g6;refine ⟨3,d,e,[(t1.1,aM 4 ki t1.2 [(t2.1,o)])],x,y,l',[v5],by decide,rfl,hd.same S6,he.same S6,gk,gv,SqL.of e6,.cons (hv5.same g6) .nil,one sc1,(by show 1≤900;decide),fun v7 H7 g7 hv7=>?_⟩;rw [um gk fv lp lq (by decide) hm1 hm2] at hv7;have S7:=S6.trans g7;refine ⟨_,rfl,_,rfl,_,rfl,_,rfl,_,rfl,t1.1,t2.1,r1.same S7,r2.same S7,Nat.le_of_lt (ag (by lia)),fun v8 H8 g8 hv8=>?_⟩;have S8:=S7.trans g8;refine ⟨_,rfl,[.tup (t1.1++t2.1),o],.cons hv8 (.cons (hv.same S8) .nil),sz2,fun v9 H9 g9 hv9=>⟨sz1,fun l2 hln2=>?_⟩⟩;have g10:=ab hln2 (.lst [v9]);have e10:(upd H9 l2 (.lst [v9])) l2=some (.lst [v9]):=aa
 generalize upd H9 l2 (.lst [v9])=H10 at g10 e10 ⊢
 have S10:=(S8.trans g9).trans g10;refine ⟨3,d,e,[(t1.1++t2.1,o)],x,y,l2,[v9],by decide,rfl,hd.same S10,he.same S10,gk,gv,SqL.of e10,.cons (hv9.same g10) .nil,one (fun a ha=>(List.mem_append.mp ha).elim (sc1 a) (sc2 a)),(by show 1≤900;decide),fun v11 H11 g11 hv11=>?_⟩;refine ⟨_,_,(hv7.same (((g8.trans g9).trans g10).trans g11)).d,hv11.d,dep,?_⟩;rw [aF];exact q H11 (S10.trans g11)
theorem oP (xs:List V):gQ xs none (some 1)=xs.take 1:=by
 unfold gQ;have e1:HT.sIx xs.length 0 none=0:=HT.sIx_none _ _;have e2:HT.sIx xs.length xs.length (some ((1:Nat):Int))=min 1 xs.length:=HT.sIx_nat _ _ _;rw [e1,show (1:Int)=((1:Nat):Int) from rfl,e2,List.drop_zero,Nat.sub_zero]
 cases xs with
 | nil=>rfl
 | cons x r=>rw [Nat.min_eq_left (by rw [List.length_cons];lia)]
theorem oQ (xs:List V):gQ xs (some 1) none=xs.drop 1:=by
 unfold gQ;have e1:HT.sIx xs.length 0 (some ((1:Nat):Int))=min 1 xs.length:=HT.sIx_nat _ _ _;have e2:HT.sIx xs.length xs.length none=xs.length:=HT.sIx_none _ _;rw [show (1:Int)=((1:Nat):Int) from rfl,e1,e2]
 cases xs with
 | nil=>rfl
 | cons x r =>
  rw [Nat.min_eq_left (by rw [List.length_cons];lia),List.take_of_length_le];rw [List.length_drop];exact Nat.le_refl _
theorem uu (p:List Str):∃ q:List Str,L2.i5 (p.map Dt.str) (some (-1)) none=q.map Dt.str∧∀ p',p=p'++[("id" : Str)]→q=[("id" : Str)]:=by
 rcases List.eq_nil_or_concat p with rfl | ⟨p',z,hp⟩
 ·exact ⟨[],rfl,fun p' h=>by cases p' <;> cases h⟩
 ·rw [List.concat_eq_append] at hp;subst hp;refine ⟨[z],?_,fun p'' h=>by rw [(List.append_inj' h rfl).2]⟩;have e:(p'++[z]).map Dt.str=p'.map Dt.str++[.str z]:=by rw [List.map_append];rfl
  unfold L2.i5;rw [e];have e3:HT.sIx (p'.map Dt.str++[Dt.str z]).length 0 (some (-1))=p'.length:=by
   simp [HT.sIx];lia
  have e4:HT.sIx (p'.map Dt.str++[Dt.str z]).length (p'.map Dt.str++[Dt.str z]).length none=(p'.map Dt.str++[Dt.str z]).length:=HT.sIx_none _ _;rw [e3,e4,List.drop_append_of_le_length (by rw [List.length_map];exact Nat.le_refl _),List.drop_of_length_le (by rw [List.length_map];exact Nat.le_refl _)];rw [List.nil_append,List.take_of_length_le]
  ·rfl
  ·rw [List.length_append,List.length_map];simp
theorem jZ {K:PySem.W.Frag} {H:Hp}:∀ {l:List Dt} {xs:List V} (n:Nat),IsPs K H l xs→IsPs K H (l.take n) (xs.take n)
 | _,_,0,_=>.nil
 | _,_,_+1,.nil=>.nil
 | _,_,n+1,.cons h r=>.cons h (jZ n r)
theorem j0 {K:PySem.W.Frag} {H:Hp}:∀ {l:List Dt} {xs:List V} (n:Nat),IsPs K H l xs→IsPs K H (l.drop n) (xs.drop n)
 | _,_,0,h=>h
 | _,_,_+1,.nil=>.nil
 | _,_,n+1,.cons _ r=>j0 n r
theorem uv (c:Int) (n:Nat):∃ i:Nat,c % ((n:Int)+1)=i∧i≤n:=by
 have h1:=Int.emod_nonneg c (by lia:((n:Int)+1)≠0);have h2:=Int.emod_lt_of_pos c (by lia:(0:Int) < (n:Int)+1);exact ⟨(c % ((n:Int)+1)).toNat,by lia,by lia⟩
theorem sQ (c:Int) {n:Nat} (h:0 < n):∃ i:Nat,c % (n:Int)=i∧i < n:=by
 have h1:=Int.emod_nonneg c (by lia:(n:Int)≠0);have h2:=Int.emod_lt_of_pos c (by lia:(0:Int) < (n:Int));exact ⟨(c % (n:Int)).toNat,by lia,by lia⟩
theorem yn (T:Tx K mg ad) {f:Addr} {fd:FuncData} (F:Gn K mg "law" nD ["script"] f fd):FnOk P w K mg base CX0 depth f fd ["script"] (vM K ad):=by
 obtain ⟨_,_,zh⟩:=T.law_stream;have zE:=ji (P:=P) (w:=w) (base:=base) T zh;obtain ⟨_,_,zo⟩:=T.law_shape;have zL:=kU (P:=P) (w:=w) (base:=base) T zo;obtain ⟨_,_,yC⟩:=T.law_value;obtain ⟨fpr,fdpr,Dpr⟩:=T.law_pairs;have yM:=kZ (P:=P) (w:=w) (base:=base) T yC Dpr 5;obtain ⟨_,_,yL⟩:=T.law_ways;have yW:=xJ (P:=P) (w:=w) (base:=base) T yL;obtain ⟨_,_,yu⟩:=T.law_digit;have yv:=aS (P:=P) (w:=w) (base:=base) T yu;obtain ⟨_,_,zg⟩:=T.law_parted;have zI:=jp (P:=P) (w:=w) (base:=base) T zg;obtain ⟨_,_,zc⟩:=T.law_put_good;have zB:=iB (P:=P) (w:=w) (base:=base) T zc;obtain ⟨_,_,yw⟩:=T.with_values;have yx:=uP (P:=P) (w:=w) (base:=base) T yw;obtain ⟨_,_,yZ⟩:=T.wheres;have ze:=jR (P:=P) (w:=w) (base:=base) T yZ;obtain ⟨_,_,yz⟩:=T.kind_at;have yJ:=fV (P:=P) (w:=w) (base:=base) T yz;obtain ⟨_,_,zn⟩:=T.kind_with
 have zO:=lO (P:=P) (w:=w) (base:=base) T zn;refine F.F.ok ca (fun vs H Q E h=>?_) (fun cdv A outer s H vs Q E hr h=>?_)
 ·obtain ⟨a,ns,rfl,_⟩:=h
  rfl
 obtain ⟨a,ns,rfl,hS,h63,q⟩:=h;refine ⟨_,(@pss_cons _ _ _ _ _ (@ps_set _ _ 1 _ _ _ _ ca.nd rfl (Or.inl rfl) (pcl zh zE (hr.mono (by lia)) rfl (@pa2 _ _ _ _ _ (pv 0) pe_int (by rfl) (by rfl))) (by rfl) (by first | exact .inl rfl | exact .inr rfl | assumption)) (@pss_cons _ _ _ _ _ (@ps_set _ _ 2 _ _ _ _ ca.nd rfl (Or.inl rfl) (pcl zo zL (hr.mono (by lia)) rfl (@pa1 _ _ _ (pv 1) (by rfl))) (by rfl) (by first | exact .inl rfl | exact .inr rfl | assumption)) (@pss_cons _ _ _ _ _ (@ps_set _ _ 3 _ _ _ _ ca.nd rfl (Or.inl rfl) (pcl yC yM (hr.mono (by lia)) rfl (@pa2 _ _ _ _ _ (pv 1) (pv 2) (by rfl) (by rfl))) (by rfl) (by first | exact .inl rfl | exact .inr rfl | assumption)) (@pss_cons _ _ _ _ _ (ps_for PassesOwn.never rfl (aL (K:=K) rfl (pcl yL yW (hr.mono (by lia)) rfl (@pa2 _ _ _ _ _ (pv 2) (@aj _ K _ _ _ _ rfl bT) (by rfl) (by rfl)))) (cS rfl (am (ah (i:=4) ca.nd rfl (Or.inl rfl)) (am (ah (i:=5) ca.nd rfl (Or.inl rfl)) aG)))
    (@pss_cons _ _ _ _ _ (@ps_set _ _ 6 _ _ _ _ ca.nd rfl (Or.inl rfl) (pcl yu yv (hr.mono (by lia)) rfl (@pa2 _ _ _ _ _ (pv 1) (@pe_op _ _ _ _ _ _ _ _ bS (pe_callB (call_lenDN (K:=K) rfl) rfl T.z_len PySem.boot_len (@pa1 _ _ _ (pv 4) (by rfl))) pe_int) (by rfl) (by rfl))) (by rfl) (by first | exact .inl rfl | exact .inr rfl | assumption)) (@pss_cons _ _ _ _ _ (@ps_set _ _ 7 _ _ _ _ ca.nd rfl (Or.inl rfl) (pcl zg zI (hr.mono (by lia)) rfl (@aC _ _ _ _ _ (pv 2) (@pa3 _ _ _ _ _ _ _ (pv 3) (pv 4) (pv 6) (by rfl) (by rfl) (by rfl)) (by rfl))) (by rfl) (by first | exact .inl rfl | exact .inr rfl | assumption)) (@pss_cons _ _ _ _ _ (@ps_if _ _ _ _ _ _ _ _ (pt_cmpR nL (pv 7) pe_non (nomark _)) (@pss_one _ _ _ (@ps_ret _ _ _ _ pe_bl)) pss_nil) (@pss_cons _ _ _ _ _ (ps_setC (j:=8) ca.nd rfl (Or.inl rfl) rfl (cs0 (NL:=["where","more"]) rfl (by decide +kernel) (by decide +kernel)) (aL (K:=K) rfl (pv 7)) (fun _ _ _ _=>(bL (K:=K) (n:=2) rfl rfl (am (ah (i:=0) (show List.Nodup (α:=Str) ["where","more"] by decide +kernel) rfl (Or.inl rfl)) (am (ah (i:=1) (show List.Nodup (α:=Str) ["where","more"] by decide +kernel) rfl (Or.inl rfl)) aG)))) (fun _ _ _ _=>(@pe_op _ _ _ _ _ _ _ _ (bC (K:=K) rfl) (pv 0) (pv 1)))) (@pss_cons _ _ _ _ _ (@ps_if _ _ _ _ _ _ _ _ (pt_cmpR (vD hr.units) (pcl yZ ze (hr.mono (by lia)) rfl (@pa3 _ _ _ _ _ _ _ (pv 2) (pv 3) (pv 4) (by rfl) (by rfl) (by rfl))) (pv 8) (nomark _)) (@pss_one _ _ _ (@ps_ret _ _ _ _ pe_bl)) pss_nil) (@pss_cons _ _ _ _ _ (@ps_if _ _ _ _ _ _ _ _ (pt_cmpR (gy (K:=K) rfl hr.units) (pcl zn zO (hr.mono (by lia)) rfl (@pa3 _ _ _ _ _ _ _ (pv 2) (aR (br (K:=K) rfl) (pv 4) bo (bp (pv 6))) (pcl yz yJ (hr.mono (by lia)) rfl (@pa2 _ _ _ _ _ (pv 2) (aR (br (K:=K) rfl) (pv 4) bo (bp (pv 6))) (by rfl) (by rfl))) (by rfl) (by rfl) (by rfl))) (pv 2) (nomark _)) (@pss_one _ _ _ (@ps_ret _ _ _ _ pe_bl)) pss_nil) (@pss_one _ _ _ (@ps_if _ _ _ _ _ _ _ _ (PW.pt (@nI _ _ _ _ _ _ _ (pt_cmpR op_ne (@pi1 K _ _ _ _ _ _ _ rfl (pv 5)) pe_str (nomark _)) (@nI _ _ _ _ _ _ _ (pt_cmpR op_gt (pe_callB (bj (K:=K) rfl) rfl T.z_len PySem.boot_len (@pa1 _ _ _ (pv 7) (by rfl))) pe_int (nomark _)) (@oW _ _ _ _ (pt_cmpR (gy (K:=K) rfl hr.units) (aR (br (K:=K) rfl) (pv 4) (bp (@pe_un _ _ _ _ _ _ un_neg pe_int)) bo) (@aj _ K _ _ _ _ rfl (@pa1 _ _ _ pe_str (by rfl))) (nomark _)))))) (@pss_cons _ _ _ _ _ (@ps_set _ _ 9 _ _ _ _ ca.nd rfl (Or.inl rfl) (@cv _ _ _ _ _ _ _ (bf (K:=K) rfl) (pv 7) (pcl yu yv (hr.mono (by lia)) rfl (@pa2 _ _ _ _ _ (pv 1) (pe_callB (bj (K:=K) rfl) rfl T.z_len PySem.boot_len (@pa1 _ _ _ (pv 7) (by rfl))) (by rfl) (by rfl))) (fun _ _=>rfl)) (by rfl) (by first | exact .inl rfl | exact .inr rfl | assumption)) (@pss_cons _ _ _ _ _ (@ps_set _ _ 10 _ _ _ _ ca.nd rfl (Or.inr rfl) (pcl yC yM (hr.mono (by lia)) rfl (@pa2 _ _ _ _ _ (pv 1) (pv 5) (by rfl) (by rfl))) (by rfl) (by first | exact .inl rfl | exact .inr rfl | assumption)) (@pss_cons _ _ _ _ _ (@ps_if _ _ _ _ _ _ _ _ (@pt_not _ _ _ _ (@pt_val _ _ _ (pcl zc zB (hr.mono (by lia)) rfl (@aC _ _ _ _ _ (pv 2) (@aC _ _ _ _ _ (pv 3) (@pa3 _ _ _ _ _ _ _ (pcl yz yJ (hr.mono (by lia)) rfl (@pa2 _ _ _ _ _ (pv 2) (aR (br (K:=K) rfl) (pv 4) bo (bp (pv 6))) (by rfl) (by rfl))) (pv 9) (pv 10) (by rfl) (by rfl) (by rfl)) (by rfl)) (by rfl))) (by intro _;rfl))) (@pss_one _ _ _ (@ps_ret _ _ _ _ pe_bl)) pss_nil) (@pss_cons _ _ _ _ _ (ps_setC (j:=11) ca.nd rfl (Or.inl rfl) rfl (csR (sc:=ac nD) (NL:=["where","more"]) (N:=["script","row","shape","value","path","kind","at","pairs","due","pair","other","some","one"]) (ρ:=[10]) (N':=["where","more","other"]) rfl rfl rfl (by decide +kernel) (by decide +kernel) (by decide +kernel) rfl (by decide +kernel)) (aL (K:=K) rfl (pv 7)) (fun _ _ _ _=>(bL (K:=K) (n:=2) rfl rfl (am (ah (i:=0) (show List.Nodup (α:=Str) ["where","more","other"] by decide +kernel) rfl (Or.inl rfl)) (am (ah (i:=1) (show List.Nodup (α:=Str) ["where","more","other"] by decide +kernel) rfl (Or.inl rfl)) aG)))) (fun _ _ _ _=>(aj (K:=K) rfl (@pa2 _ _ _ _ _ (@pe_op _ _ _ _ _ _ _ _ (bC (K:=K) rfl) (pv 0) (pv 1)) (pv 2) (by rfl) (by rfl))))) (@pss_cons _ _ _ _ _ (@ps_set _ _ 12 _ _ _ _ ca.nd rfl (Or.inl rfl) (pcl yw yx (hr.mono (by lia)) rfl (@pa3 _ _ _ _ _ _ _ (pv 2) (pcl yw yx (hr.mono (by lia)) rfl (@pa3 _ _ _ _ _ _ _ (pv 2) (pv 3) (aR (iM (K:=K) rfl) (pv 11) bo (bp pe_int)) (by rfl) (by rfl) (by rfl))) (aR (iM (K:=K) rfl) (pv 11) (bp pe_int) bo) (by rfl) (by rfl) (by rfl))) (by rfl) (by first | exact .inl rfl | exact .inr rfl | assumption)) (@pss_one _ _ _ (@ps_if _ _ _ _ _ _ _ _ (pt_cmpR (gy (K:=K) rfl hr.units) (pv 12) (pcl yw yx (hr.mono (by lia)) rfl (@pa3 _ _ _ _ _ _ _ (pv 2) (pv 3) (pv 11) (by rfl) (by rfl) (by rfl))) (nomark _)) (@pss_one _ _ _ (@ps_ret _ _ _ _ pe_bl)) pss_nil))))))) pss_nil))))))))) (@pss_one _ _ _ (@ps_ret _ _ _ _ pe_bl)))))),?_⟩
 refine ⟨_,rfl,a,ns,_,rfl,hS,by lia,by decide,by decide,fun r c H2 hr2 g2 e2=>?_⟩;refine ⟨_,rfl,r,c,rfl,e2,fun v d c3 H3 b3 e3 hv sh=>?_⟩;obtain ⟨⟨fa,fc,fk,hfa,hfc⟩,gk⟩:=sh;refine ⟨_,rfl,_,rfl,r,c3,fa,fc,d,v,hfa,rfl,e3,hv,fk,fun vv e c4 H4 b4 e4 hvv fv=>?_⟩;have hv4:=hv.but e3 b4;have gv:=cy 3 gk fv;have dpe:=oG 3 gk gv;refine ⟨_,rfl,[],.nil,(by show 0≤sizeLine;decide),fun vp H5 g5 hvp=>?_⟩;refine ⟨3,d,[],v,vp,rfl,by decide,rfl,hv4.same g5,gk,hvp,by decide,fun lw ys H6 g6 e6 len way=>?_⟩;have G46:=g5.trans g6;have hv6:=hv4.same G46;have hvv6:=hvv.same G46;have r6:=G46 _ _ e4;have nlw:lw≠r:=fun c=>by
  rw [c,r6] at e6;have e9:[V.int c4]=ys:=by simpa using e6
  rw [← e9] at way;have l1:=way.length;rw [List.length_map] at l1;obtain ⟨qk,eqk⟩:∃ qk,wl 4 d=[qk]:=List.length_eq_one_iff.mp l1;rw [eqk] at way
  cases way with
  | cons h _=>cases h
 refine ⟨lw,rfl,⟨ys,SqL.of e6⟩,cj (xs:=ys) (fun j σ H'=>∃ c',But r H6 H'∧H' r=some (.lst [.int c'])∧∃ v4 v5 v6 v7 v8 v9 v10 v11 v12,σ=[some (.ref a),some (.ref r),some v,some vv,v4,v5,v6,v7,v8,v9,v10,v11,v12])
  ⟨c4,But.refl _ _,r6,_,_,_,_,_,_,_,_,_,rfl⟩ (fun j σ H' _ p=>by
   obtain ⟨_,b,_⟩:=p;exact SqL.of (b _ _ nlw e6)) ?_ ?_⟩
 rotate_left
 ·rintro σ H7 ⟨c',_,_,w4,w5,w6,w7,w8,w9,w10,w11,w12,rfl⟩;exact q H7
 rintro j u σ H7 hu ⟨c7,b7,r7,w4,w5,w6,w7,w8,w9,w10,w11,w12,rfl⟩;obtain ⟨du,hdu,hw⟩:=(way.but r6 b7).get' hu;rw [List.getElem?_map] at hdu;obtain ⟨qk,hqk,rfl⟩:=Option.map_eq_some_iff.mp hdu;have ld:=lF 4 3 d gk qk (List.mem_of_getElem? hqk);obtain ⟨p,k0⟩:=qk;have ld:al d p=some k0:=ld;have ls:(al d p).isSome=true:=by rw [ld];rfl
 have lp3:=di gk ls;obtain ⟨m0,hm0,gk0⟩:=cA gk ld;obtain ⟨a0,c0,ha0,fk0,_⟩:=gJ fk ld;have hw':IsP K H7 (.tup [sD p,k0]) u:=hw;obtain ⟨b,us,rfl,hb,pb,rb⟩:=hw'.unref
 cases rb with
 | @cons _ _ y1 _ q1 rb =>
 cases rb with
 | @cons _ _ y2 _ q2 rb =>
 cases rb
 refine ⟨b,_,rfl,hb,rfl,_,_,rfl,_,_,rfl,rfl,?_⟩;have hv7:=hv6.but r6 b7;have hvv7:=hvv6.but r6 b7
 clear hw hw' hb pb way g5 g6 G46 hvp hr2 e2 b3 b4 e3 hv hv4 hvv
 obtain ⟨n,en,hn⟩:=uv c7 p.length;refine ⟨_,rfl,_,rfl,y1,_,rfl,q1.d,_,_,rfl,rfl,r,c7,((p.map Dt.str).length:Int)+1,rfl,r7,by lia,(by rw [List.length_map];lia),?_⟩;rw [List.length_map,en];have b8:But r H7 (upd H7 r (.lst [.int (c7 / ((p.length:Int)+1))])):=But.put;have r8:(upd H7 r (.lst [.int (c7 / ((p.length:Int)+1))])) r=some (.lst [.int (c7 / ((p.length:Int)+1))]):=aa
 generalize upd H7 r (.lst [.int (c7 / ((p.length:Int)+1))])=H8 at b8 r8 ⊢
 generalize c7 / ((p.length:Int)+1)=c8 at r8
 have hv8:=hv7.but r7 b8;have hvv8:=hvv7.but r7 b8;have q18:=q1.but r7 b8;have q28:=q2.but r7 b8;have B8:But r H6 H8:=b7.trans b8
 clear b7 b8 hv7 hvv7 q1 q2 r7
 refine ⟨_,rfl,_,rfl,_,rfl,_,rfl,fa,fc,d,k0,e,p,n,v,vv,y1,rfl,hv8,hvv8,q18,fk,gk,fv,ld,hn,fun lp zp H9 ki g9 e9 hlp lpk lqk dp9 len9=>?_⟩;have nlp:lp≠r:=fun c=>by rw [c] at hlp;rw [r8] at hlp;cases hlp
 have lpz:(prs (p.take n) (p.drop n) d ki e).length=zp.length:=by have:=dp9.length;rw [List.length_map] at this;exact this
 have r9:=g9 _ _ r8;have hv9:=hv8.same g9;have hvv9:=hvv8.same g9;have q19:=q18.same g9;have q29:=q28.same g9;have B9:But r H6 H9:=B8.trans (But.same g9);have lt:(p.take n).length≤3:=Nat.le_trans (List.length_take_le' _ _) lp3;have ldr:(p.drop n).length≤3:=by rw [List.length_drop];lia
 have eat:p.take n++p.drop n=p:=List.take_append_drop _ _;have epl:plw p d e=(prs (p.take n) (p.drop n) d ki e).map fun t=>(t.1.1++t.2.1,t.2.2):=by rw [← pU lpk,eat]
 have lens:∀ t∈prs (p.take n) (p.drop n) d ki e,t.1.1.length+t.2.1.length≤sizeLine:=fun t ht=>by
  obtain ⟨h1,h2⟩:=pV ht;have:=cf _ _ _ _ h1;have:=cf _ _ _ _ h2;exact Nat.le_of_lt (ag (by lia))
 clear g9 hlp B8 hv8 hvv8 q18 q28 r8
 refine ⟨_,rfl,rfl,_,rfl,iteN (by intro c;cases c) ?_⟩;refine ⟨_,rfl,lp,rfl,⟨zp,SqL.of e9⟩,fun lc hlc=>?_⟩;refine aT (K:=K) (xs:=zp) (fun i us σ H'=>Same H9 H'∧H' lc=some (.lst us)∧IsPs K H' (((prs (p.take n) (p.drop n) d ki e).take i).map fun t=>Dt.tup (t.1.1++t.2.1)) us∧∃ v1 v2,σ=[v1,v2])
  ⟨ab hlc _,aa,.nil,none,none,rfl⟩ (fun i us σ H' _ pv=>SqL.of (pv.1 _ _ e9)) ?_ ?_
 ·rintro i u us σ H18 N hu ⟨s18,e18,d18,c1,c2,rfl⟩ next;obtain ⟨dx,hdx,hx⟩:=(dp9.same s18).get' hu;rw [List.getElem?_map] at hdx;obtain ⟨⟨ta,tb⟩,hpt,rfl⟩:=Option.map_eq_some_iff.mp hdx;have hx':IsP K H18 (.tup [.tup ta.1,.tup tb.1]) u:=hx;obtain ⟨bx,ux,rfl,hbx,pbx,rbx⟩:=hx'.unref
  cases rbx with
  | @cons _ _ z1 _ t1 rbx =>
  cases rbx with
  | @cons _ _ z2 _ t2 rbx =>
  cases rbx
  have lu:us.length < sizeLine:=by
   rw [← d18.length,List.length_map];exact ag (by have:=List.length_take_le' i (prs (p.take n) (p.drop n) d ki e);lia)
  refine ⟨bx,_,rfl,hbx,rfl,_,_,rfl,_,_,rfl,rfl,_,rfl,_,rfl,ta.1,tb.1,t1,t2,lens _ (List.mem_of_getElem? hpt),fun vc H19 g19 hvc=>⟨g19 _ _ e18,lu,next _ _ _ ⟨be hlc (s18.trans g19),aa,?_,_,_,rfl⟩⟩⟩;rw [← aB (fun t:WP×WP=>Dt.tup (t.1.1++t.2.1)) hpt];exact IsPs.but (g19 _ _ e18) But.put ((d18.same g19).append (.cons hvc .nil))
 rintro uw σ H10 ⟨s10,e10,d10,c1,c2,rfl⟩;rw [← lpz,List.take_length] at d10;have edue:((prs (p.take n) (p.drop n) d ki e).map fun t=>Dt.tup (t.1.1++t.2.1))=(plw p d e).map fun x=>Dt.tup x.1:=by rw [epl,List.map_map];rfl
 rw [edue] at d10;refine ⟨_,rfl,_,rfl,_,rfl,3,d,e,p,v,vv,y1,by decide,by lia,rfl,hv9.same s10,hvv9.same s10,q19.same s10,gk,gv,ls,fun lwh zw H11 g11 hlw e11 dw11 _=>?_⟩;rw [oO] at dw11;have depw:depS ((plw p d e).map fun x=>Dt.tup x.1)≤60:=dD fun x hx=>by
  obtain ⟨y,hy,rfl⟩:=List.mem_map.mp hx;have h1:depS y.1≤0:=dD fun a ha=>by rw [Sc.dep (cz p 3 d e gk fv ls y hy a ha)];exact Nat.le_refl _
  simp only [Dt.dep];lia
 refine ⟨_,rfl,lwh,lc,_,_,_,_,rfl,rfl,SqL.of e11,SqL.of (g11 _ _ e10),dw11.d,(d10.same g11).d,depw,_,rfl,?_⟩;have neq:(if true=true then !aJ ((plw p d e).map fun x=>Dt.tup x.1) ((plw p d e).map fun x=>Dt.tup x.1) else aJ ((plw p d e).map fun x=>Dt.tup x.1) ((plw p d e).map fun x=>Dt.tup x.1))=false:=by rw [cY];rfl
 rw [neq];refine bq ?_;have S11:=s10.trans g11
 clear neq depw edue dw11 e11 hlw d10 e10 hlc s10 g11
 refine ⟨_,rfl,_,rfl,_,rfl,_,rfl,_,q19.same S11,fun vf H12 g12 hvf=>?_⟩;rw [lP] at hvf;have S12:=S11.trans g12;refine ⟨_,rfl,_,rfl,_,rfl,_,rfl,_,q19.same S12,fun vf2 H13 g13 hvf2=>?_⟩;rw [lP] at hvf2;have S13:=S12.trans g13;refine ⟨fa,fc,3,d,ki,p.take n,v,vf2,rfl,hv9.same S13,fk,gk,hvf2,by lia,lpk,fun vk H14 g14 hvk=>?_⟩;have S14:=S13.trans g14;refine ⟨fa,fc,3,d,ki,p.take n,v,vf,vk,rfl,hv9.same S14,fk,hfa,hfc,gk,(hvf.same g13).same g14,by lia,hvk,lpk,fun vw H15 g15 hvw=>?_⟩;have S15:=S14.trans g15;have dk:=sP gk;refine ⟨_,rfl,d,d,hvw.d,(hv9.same S15).d,by lia,_,rfl,?_⟩;rw [aF];refine bq ?_
 clear hvf hvf2 hvk hvw g12 g13 g14 g15 S11 S12 S13 S14
 have r15:=S15 _ _ r9;have B15:But r H6 H15:=B9.trans (But.same S15);have e15:=S15 _ _ e9;have dp15:=dp9.same S15;have hv15:=hv9.same S15;have hvv15:=hvv9.same S15;have q115:=q19.same S15;have q215:=q29.same S15
 clear e9 dp9 hv9 hvv9 q19 q29 r9 B9 S15
 obtain ⟨wd,rest,ewd⟩:=pP gk0;have q215':IsP K H15 (.tup (.str wd :: rest)) y2:=by rw [← ewd];exact q215
 have INV:∀ {H':Hp} {c':Int} {v4 v5 v6 v7 v8 v9 v10 v11 v12:Option V},But r H6 H'→H' r=some (.lst [.int c'])→∃ c',But r H6 H'∧H' r=some (.lst [.int c'])∧∃ u4 u5 u6 u7 u8 u9 u10 u11 u12,([some (.ref a),some (.ref r),some v,some vv,v4,v5,v6,v7,v8,v9,v10,v11,v12]:List (Option V))=[some (.ref a),some (.ref r),some v,some vv,u4,u5,u6,u7,u8,u9,u10,u11,u12]:=fun h1 h2=>⟨_,h1,h2,_,_,_,_,_,_,_,_,_,rfl⟩;have at0:atI (Dt.str wd :: rest) ((0:Nat):Int)=some (.str wd):=bz (by simp);refine ⟨_,rfl,_,_,_,q215',rfl,at0,isS ?_⟩;refine ⟨rfl,_,rfl,?_⟩
 by_cases hrec:wd= "record"
 ·subst hrec;exact mR (bq (INV B15 r15))
 refine pq (ak hrec) ?_;refine ⟨_,rfl,lp,zp,rfl,.inl (SqL.of e15),_,_,rfl,rfl,_,rfl,?_⟩;refine cp (fun cpos=>?_) (fun cpos=>?_)
 rotate_left
 ·exact bq (INV B15 r15)
 have hpos:0 < zp.length:=by
  have:=of_decide_eq_true cpos;lia
 obtain ⟨pe,epe,hpe⟩:=uu p;refine ⟨_,rfl,_,rfl,_,rfl,_,q115,fun vl H16 g16 hvl=>?_⟩;have hvl:IsP K H16 (sD pe) vl:=by
  rw [show Dt.tup (L2.i5 (p.map Dt.str) (some (-1)) none)=sD pe from congrArg Dt.tup epe] at hvl;exact hvl
 refine ⟨[.str "id"],.cons .str .nil,sz1,fun vt H17 g17 hvt=>?_⟩;have S17:=g16.trans g17;refine ⟨sD pe,sD ["id"],(hvl.same g17).d,hvt.d,m9 _,_,rfl,?_⟩;have B17:But r H6 H17:=B15.trans (But.same S17);have r17:=S17 _ _ r15
 by_cases cid:pe=[("id" : Str)]
 ·rw [cid,aF];exact bq (INV B17 r17)
 have nid:eqD (sD pe) (sD ["id"])=false:=by
  cases hc:eqD (sD pe) (sD ["id"]) with
  | false=>rfl
  | true=>exact absurd (sL hc) cid
 rw [nid];refine aO ?_;obtain ⟨nk,ni⟩:=wt fk gk ld (fun l hl=>by
  rw [ewd] at hl;injection hl with hl
  injection hl with hl _
  injection hl with hl
  exact hrec hl) (fun p' h=>cid (hpe p' h))
 have e17:=S17 _ _ e15;have dp17:=dp15.same S17;have hv17:=hv15.same S17;have hvv17:=hvv15.same S17;have q117:=q115.same S17;have q217:=q215.same S17
 clear hvl hvt g16 g17 e15 dp15 hv15 hvv15 q115 q215 q215' r15 B15 S17 nid
 obtain ⟨i,ei,hi⟩:=sQ c8 hpos;obtain ⟨u2,hu2⟩:∃ u2,zp[i]?=some u2:=⟨_,List.getElem?_eq_getElem hi⟩;refine ⟨_,rfl,_,rfl,_,rfl,lp,zp,rfl,.inl (SqL.of e17),r,c8,(zp.length:Int),rfl,r17,by lia,by lia,?_⟩;rw [ei];have b18:But r H17 (upd H17 r (.lst [.int (c8 / (zp.length:Int))])):=But.put;have r18:(upd H17 r (.lst [.int (c8 / (zp.length:Int))])) r=some (.lst [.int (c8 / (zp.length:Int))]):=aa
 generalize upd H17 r (.lst [.int (c8 / (zp.length:Int))])=H18 at b18 r18 ⊢
 generalize c8 / (zp.length:Int)=c18 at r18
 have e18:=b18 _ _ nlp e17;refine ⟨lp,zp,_,u2,rfl,rfl,SqL.of e18,bz hu2,?_⟩;have dp18:=dp17.but r17 b18;obtain ⟨dx,hdx,hx⟩:=dp18.get' hu2;rw [List.getElem?_map] at hdx;obtain ⟨t,ht,rfl⟩:=Option.map_eq_some_iff.mp hdx;have hmt:=List.mem_of_getElem? ht;have hv18:=hv17.but r17 b18;have hvv18:=hvv17.but r17 b18;have q118:=q117.but r17 b18;have q218:=q217.but r17 b18;have B18:=B17.trans b18;refine ⟨_,rfl,_,rfl,r,c18,a0,c0,k0,y2,by lia,rfl,r18,q218,fk0,fun vo o c19 H19 b19 r19 hvo fo=>?_⟩;have B19:=B18.trans b19;have e19:=b19 _ _ nlp e18;have dp19:=dp18.but r18 b19;have hx19:=hx.but r18 b19;have hv19:=hv18.but r18 b19;have hvv19:=hvv18.but r18 b19;have q119:=q118.but r18 b19
 clear b18 b19 e17 e18 dp17 dp18 hx hv17 hv18 hvv17 hvv18 q117 q118 q217 q218 B17 B18 r17 r18
 generalize hps:((prs (p.take n) (p.drop n) d ki e).map fun t=>((t.1.1++t.2.1,o):WP))=ps
 have psub:ps.map (·.1)=(plw p d e).map (·.1):=by
  rw [← hps,epl,List.map_map,List.map_map]
  rfl
 have pso:∀ x∈ps,x.2=o:=fun x hx=>by
  rw [← hps] at hx;obtain ⟨t,_,rfl⟩:=List.mem_map.mp hx
  rfl
 have PT:∀ {qs:List WP},qs.Sublist ps→Puts d e k0 p qs:=fun h=>⟨by rw [← psub];exact h.map _,fun x hx=>by rw [pso x (h.subset hx)];exact fo,fun x hx y hy _ zk hk=>(by rw [nk] at hk;cases hk),fun c=>by rw [ni] at c;cases c⟩;have depq:∀ {qs:List WP},qs.Sublist ps→(aM 4 d e qs).dep≤60:=fun {qs} h=>by
  rw [(PT h).eq gk fv ld (by decide)];have:=oG 3 gk (cy 3 gk ((PT h).isOf gk fv ld));lia
 have hmp:((t.1.1++t.2.1,o):WP)∈ps:=by rw [← hps];exact List.mem_map.mpr ⟨t,hmt,rfl⟩
 refine ⟨_,rfl,_,rfl,_,rfl,_,rfl,_,rfl,_,rfl,_,q119,fun vf H20 g20 hvf=>?_⟩;rw [lP] at hvf;refine ⟨fa,fc,3,d,ki,p.take n,v,vf,rfl,hv19.same g20,fk,gk,hvf,by lia,lpk,fun vk H21 g21 hvk=>?_⟩;have S21:=g20.trans g21;refine ⟨_,rfl,_,rfl,d,ki,k0,e,o,p.take n,p.drop n,t,v,vv,vk,u2,vo,rfl,hv19.same S21,hvv19.same S21,hvk,hx19.same S21,hvo.same S21,gk,fv,lpk,lqk,fo,hmt,depq (List.singleton_sublist.mpr hmp),fun H22 g22=>⟨_,rfl,bq ?_⟩⟩;have S22:=S21.trans g22;have e22:=S22 _ _ e19;have dp22:=dp19.same S22;have hvo22:=hvo.same S22
 clear hvf hvk g20 g21 g22 S21
 refine ⟨_,rfl,lp,rfl,⟨zp,SqL.of e22⟩,fun lc hlc=>?_⟩;refine aT (K:=K) (xs:=zp) (fun i us σ H'=>Same H22 H'∧H' lc=some (.lst us)∧IsPs K H' ((ps.take i).map wpD) us∧∃ v1 v2,σ=[v1,v2,some vo])
  ⟨ab hlc _,aa,.nil,none,none,rfl⟩ (fun i us σ H' _ pv=>SqL.of (pv.1 _ _ e22)) ?_ ?_
 ·rintro i u us σ H23 N hu ⟨s23,e23,d23,c1,c2,rfl⟩ next;obtain ⟨dx,hdx,hx⟩:=(dp22.same s23).get' hu;rw [List.getElem?_map] at hdx;obtain ⟨⟨ta,tb⟩,hpt,rfl⟩:=Option.map_eq_some_iff.mp hdx;have hx':IsP K H23 (.tup [.tup ta.1,.tup tb.1]) u:=hx;obtain ⟨bx,ux,rfl,hbx,pbx,rbx⟩:=hx'.unref
  cases rbx with
  | @cons _ _ z1 _ t1 rbx =>
  cases rbx with
  | @cons _ _ z2 _ t2 rbx =>
  cases rbx
  have hpi:ps[i]?=some (ta.1++tb.1,o):=by rw [← hps,List.getElem?_map,hpt];rfl
  have lps:ps.length=zp.length:=by rw [← hps,List.length_map];exact lpz
  have lu:us.length < sizeLine:=by
   rw [← d23.length,List.length_map];exact ag (by have:=List.length_take_le' i ps;lia)
  refine ⟨bx,_,rfl,hbx,rfl,_,_,rfl,_,_,rfl,rfl,_,rfl,_,rfl,ta.1,tb.1,t1,t2,lens _ (List.mem_of_getElem? hpt),fun vc H24 g24 hvc=>?_⟩;refine ⟨_,rfl,[.tup (ta.1++tb.1),o],.cons hvc (.cons ((hvo22.same s23).same g24) .nil),sz2,fun vd H25 g25 hvd=>?_⟩;have g35:=g24.trans g25;refine ⟨g35 _ _ e23,lu,next _ _ _ ⟨be hlc (s23.trans g35),aa,?_,_,_,rfl⟩⟩;rw [← aB wpD hpi];exact IsPs.but (g35 _ _ e23) But.put ((d23.same g35).append (.cons hvd .nil))
 rintro zs σ H23 ⟨s23,e23,d23,c1,c2,rfl⟩;have lps:ps.length=zp.length:=by rw [← hps,List.length_map];exact lpz
 rw [← lps,List.take_length] at d23;have scp:=(PT (List.Sublist.refl ps)).sc gk fv ld;obtain ⟨fone,etwo⟩:=uo gk fv ld (n:=4) (by decide) psub pso fo nk ni;have gone:=cy 3 gk fone;have S23:=S22.trans s23;refine ⟨_,rfl,_,rfl,_,rfl,_,rfl,_,rfl,lc,zs,rfl,SqL.of e23,fun l1 hl1=>?_⟩;rw [oP];have g24:=ab hl1 (.lst (zs.take 1));have e24:(upd H23 l1 (.lst (zs.take 1))) l1=some (.lst (zs.take 1)):=aa
 generalize upd H23 l1 (.lst (zs.take 1))=H24 at g24 e24 ⊢
 have S24:=S23.trans g24;refine ⟨3,d,e,ps.take 1,v,vv,l1,zs.take 1,by decide,rfl,hv19.same S24,hvv19.same S24,gk,gv,SqL.of e24,(by rw [List.map_take];exact jZ 1 (d23.same g24)),fun x hx=>scp x ((List.take_sublist 1 ps).subset hx),(by have:=List.length_take_le' 1 ps;lia),fun v1 H25 g25 hv1=>?_⟩;refine ⟨_,rfl,_,rfl,lc,zs,rfl,SqL.of (g25 _ _ (g24 _ _ e23)),fun l2 hl2=>?_⟩;rw [oQ];have g26:=ab hl2 (.lst (zs.drop 1));have e26:(upd H25 l2 (.lst (zs.drop 1))) l2=some (.lst (zs.drop 1)):=aa
 generalize upd H25 l2 (.lst (zs.drop 1))=H26 at g26 e26 ⊢
 have S26:=(S24.trans g25).trans g26;refine ⟨3,d,aM 4 d e (ps.take 1),ps.drop 1,v,v1,l2,zs.drop 1,by decide,rfl,hv19.same S26,hv1.same g26,gk,gone,SqL.of e26,(by rw [List.map_drop];exact j0 1 (((d23.same g24).same g25).same g26)),fun x hx=>scp x ((List.drop_sublist 1 ps).subset hx),(by rw [List.length_drop];lia),fun v2 H27 g27 hv2=>?_⟩;rw [etwo] at hv2;have g37:=((g24.trans g25).trans g26).trans g27;have S27:=S23.trans g37;refine ⟨_,rfl,_,rfl,_,rfl,_,rfl,3,d,e,ps,v,vv,lc,zs,by decide,rfl,hv19.same S27,hvv19.same S27,gk,gv,SqL.of (g37 _ _ e23),d23.same g37,scp,by lia,fun v3 H28 g28 hv3=>?_⟩;refine ⟨_,_,(hv2.same g28).d,hv3.d,depq (List.Sublist.refl ps),_,rfl,?_⟩;rw [aF];have S28:=S27.trans g28;exact bq (INV (B19.trans (But.same S28)) (S28 _ _ r19))
end
@[elab_as_elim] theorem uy {α:Type} {p:List α→Prop} {us:List α} (hl:us.length=0) (h:p []):p us:=by
 cases us with
 | nil=>exact h
 | cons a r=>cases hl
@[elab_as_elim] theorem uz {α:Type} {p:List α→Prop} {us:List α} (hl:us.length=1) (h:∀ x0,p [x0]):p us:=by
 cases us with
 | nil=>cases hl
 | cons a r=>exact uy (p:=fun r=>p (a :: r)) (Nat.succ.inj hl) (h a)
@[elab_as_elim] theorem uA {α:Type} {p:List α→Prop} {us:List α} (hl:us.length=2) (h:∀ x0 x1,p [x0,x1]):p us:=by
 cases us with
 | nil=>cases hl
 | cons a r=>exact uz (p:=fun r=>p (a :: r)) (Nat.succ.inj hl) (h a)
@[elab_as_elim] theorem uB {α:Type} {p:List α→Prop} {us:List α} (hl:us.length=3) (h:∀ x0 x1 x2,p [x0,x1,x2]):p us:=by
 cases us with
 | nil=>cases hl
 | cons a r=>exact uA (p:=fun r=>p (a :: r)) (Nat.succ.inj hl) (h a)
@[elab_as_elim] theorem uC {α:Type} {p:List α→Prop} {us:List α} (hl:us.length=4) (h:∀ x0 x1 x2 x3,p [x0,x1,x2,x3]):p us:=by
 cases us with
 | nil=>cases hl
 | cons a r=>exact uB (p:=fun r=>p (a :: r)) (Nat.succ.inj hl) (h a)
@[elab_as_elim] theorem uD {α:Type} {p:List α→Prop} {us:List α} (hl:us.length=5) (h:∀ x0 x1 x2 x3 x4,p [x0,x1,x2,x3,x4]):p us:=by
 cases us with
 | nil=>cases hl
 | cons a r=>exact uC (p:=fun r=>p (a :: r)) (Nat.succ.inj hl) (h a)
@[elab_as_elim] theorem xM {α:Type} {p:List α→Prop} {us:List α} (hl:us.length=6) (h:∀ x0 x1 x2 x3 x4 x5,p [x0,x1,x2,x3,x4,x5]):p us:=by
 cases us with
 | nil=>cases hl
 | cons a r=>exact uD (p:=fun r=>p (a :: r)) (Nat.succ.inj hl) (h a)
theorem gnM {K:PySem.W.Frag} {h:Heap} {mg:Str→Option Value} (X:K.In h) (G:h.Ns mainGlobals mg) {x:Str} {st:Stmt} {ps:List Str} {f:Addr} {od an:Option Addr} {sl:Array (Option Value)} {oc kV dc pm cd ct:Value}
  (a:PySem.W.nsIn K mainGlobals x=some (some (.ref f))) (l:K.lookup f=some ⟨oc,od,.func (PySem.W.fnOf x x (dq st) (cH st) (ac st) .none kV dc pm an cd ct),sl⟩) (c:PySem.W.codeIn K cd x=true) (k:PySem.W.keepIn K (.ref f)=true)
  (b:∀ (kV doc pm:Value) (an:Option Addr) (cdv ct:Value) (us:List Value),us.length=ps.length→bindArgs (PySem.W.fnOf x x (dq st) (cH st) (ac st) .none kV doc pm an cdv ct) ⟨us,[]⟩=pure (ps.zip us)):∃ f fd,Gn K mg x st ps f fd :=
 ⟨f,_,qZ (st:=st) l c k,(qZ (st:=st) l c k).binds b,PySem.W.mg_of X G a⟩
theorem exM {K:PySem.W.Frag} {h:Heap} {mg:Str→Option Value} (X:K.In h) (G:h.Ns mainGlobals mg) {x:Str} {C:Addr} {d:ClassData} (xa:PySem.W.nsIn K mainGlobals x=some (some (.ref C))) (xq:PySem.W.excIn K C bmV "ValueError.__new__" = true) (xg:PySem.W.findIn K (.ref C) "__getattribute__" = some (some (.builtin "BaseException.__getattribute__"))) (xt:PySem.W.findIn K (.ref C) "__getattr__" = some none) (xc:PySem.W.findIn K (.ref C) "__class__" = some (some (.builtin "object.__class__"))) (xb:PySem.W.mroIn K C (.type "BaseException")=some true) (xo:PySem.W.mroIn K C (.type "object")=some true) (xd:PySem.W.clsIn K C=some d) (xk:PySem.W.keepIn K (.ref C)=true):ExC K mg x C:=⟨PySem.W.mg_of X G xa,xq,⟨xg,xt,xc,xb,xo,_,xd⟩,xk⟩
theorem csM {K:PySem.W.Frag} {h:Heap} {mg:Str→Option Value} (X:K.In h) (G:h.Ns mainGlobals mg) {x z:Str} {t:Tok} (g:PySem.W.nsIn K mainGlobals x=some (some (.str z t))):∃ t,mg x=some (.str z t):=⟨_,PySem.W.mg_of X G g⟩
theorem ciM {K:PySem.W.Frag} {h:Heap} {mg:Str→Option Value} (X:K.In h) (G:h.Ns mainGlobals mg) {x:Str} {i:Int} {t:Tok} (g:PySem.W.nsIn K mainGlobals x=some (some (.int i t))):∃ t,mg x=some (.int i t):=⟨_,PySem.W.mg_of X G g⟩
theorem cdM {K:PySem.W.Frag} {h:Heap} {mg:Str→Option Value} (X:K.In h) (G:h.Ns mainGlobals mg) {x:Str} {a:Addr} {l:List (Str×Int)} (g:PySem.W.nsIn K mainGlobals x=some (some (.ref a))) (d:KTD.tabLook (KTD.datLooks fun b=>K.lookup b) (fun b=>K.lookup b) a (i4 l)=true):∃ a,mg x=some (.ref a)∧o6 K a l:=⟨_,PySem.W.mg_of X G g,rp d⟩
theorem txI {K:PySem.W.Frag} {mg:Str→Option Value} {a0 a1 a2:Addr} (T:Tx K mg ⟨a0,a1,a2⟩):∃ ad,Tx K mg ad:=⟨_,T⟩
theorem wv {K:PySem.W.Frag} {f:Addr} {fd:FuncData} (F:Fun K "law" "law" nD f fd):∀ (s:Shared) (u:Value),BindsTo s fd ⟨[u],[]⟩ [("script",u)]:=by
 obtain ⟨oc,od,kV,doc,pm,an,cdv,ct,osl,rfl,lk,hcd⟩:=F.ex;exact fun s u=>.of_eq rfl
end K14
open PySem PySem.W PyProof.Rows
set_option maxRecDepth 100000 in
set_option maxHeartbeats 0 in
theorem PySem.Challenge.cw_oldhands_k14_whole_paths_put_together_holds : PySem.Challenge.rw_oldhands_k14_whole_paths_put_together.Holds := by
 w_on
 refine PySem.W.holds_law K14.said fun said=>?_;refine PySem.W.holds_open (q:=K14.hQ) (loose:=K14.hW) (Xt:=K14.hX) (XP:=fun _ _=>True) (Yf:=K14.hH.obs) (Ya:=K14.hH.val) (YP:=PySem.W.InK K14.hK) (N:=4384) K14.hl K14.hH.of K14.hH.keeps (fun _ _=>trivial) (fun _ _ _ _ _=>trivial) (by rfl) (by rfl) (by rfl) (fun s e=>PySem.W.recFacts_of e) (by rfl) said (by decide +kernel) ⟨rfl,rfl,rfl,rfl,rfl,by decide +kernel⟩ ?hw ?hc
 case hw=>w_witness2
 k_fill
 refine L2.wQ (l:=PySem.Challenge.rw_oldhands_k14_whole_paths_put_together) (K:=K14.hK) (n:=63) (k:=K14.depth) (x:= "script") (CX:=L2.CX0) (sp:=K14.xC) rfl (by decide) rfl ⟨rfl,by decide,by decide⟩ (fun w h Y=>Y) ?F (fun _ _ a ns hl _ hS=>⟨a,ns,rfl,hS,hl,fun _=>rfl⟩) (fun _ _ _ _ z=>z)
 case F =>
  intro w mg fa h KX G hmg;have T:∃ ad,K14.Tx (L2.KOf KX) mg ad:=by
   dsimp only [L2.KOf];refine' K14.txI ⟨K14.gnM KX G ?_ ?_ ?_ ?_ ?_,K14.gnM KX G ?_ ?_ ?_ ?_ ?_,K14.gnM KX G ?_ ?_ ?_ ?_ ?_,K14.gnM KX G ?_ ?_ ?_ ?_ ?_,K14.gnM KX G ?_ ?_ ?_ ?_ ?_,K14.gnM KX G ?_ ?_ ?_ ?_ ?_,K14.gnM KX G ?_ ?_ ?_ ?_ ?_,K14.gnM KX G ?_ ?_ ?_ ?_ ?_,K14.gnM KX G ?_ ?_ ?_ ?_ ?_,K14.gnM KX G ?_ ?_ ?_ ?_ ?_,K14.gnM KX G ?_ ?_ ?_ ?_ ?_,K14.gnM KX G ?_ ?_ ?_ ?_ ?_,K14.gnM KX G ?_ ?_ ?_ ?_ ?_,K14.gnM KX G ?_ ?_ ?_ ?_ ?_,K14.gnM KX G ?_ ?_ ?_ ?_ ?_,K14.gnM KX G ?_ ?_ ?_ ?_ ?_,K14.gnM KX G ?_ ?_ ?_ ?_ ?_,K14.gnM KX G ?_ ?_ ?_ ?_ ?_,K14.gnM KX G ?_ ?_ ?_ ?_ ?_,K14.gnM KX G ?_ ?_ ?_ ?_ ?_,K14.gnM KX G ?_ ?_ ?_ ?_ ?_,K14.gnM KX G ?_ ?_ ?_ ?_ ?_,K14.gnM KX G ?_ ?_ ?_ ?_ ?_,K14.gnM KX G ?_ ?_ ?_ ?_ ?_,K14.gnM KX G ?_ ?_ ?_ ?_ ?_,K14.gnM KX G ?_ ?_ ?_ ?_ ?_,K14.gnM KX G ?_ ?_ ?_ ?_ ?_,K14.gnM KX G ?_ ?_ ?_ ?_ ?_,K14.gnM KX G ?_ ?_ ?_ ?_ ?_,K14.gnM KX G ?_ ?_ ?_ ?_ ?_,K14.gnM KX G ?_ ?_ ?_ ?_ ?_,K14.gnM KX G ?_ ?_ ?_ ?_ ?_,K14.gnM KX G ?_ ?_ ?_ ?_ ?_,K14.gnM KX G ?_ ?_ ?_ ?_ ?_,K14.gnM KX G ?_ ?_ ?_ ?_ ?_,K14.gnM KX G ?_ ?_ ?_ ?_ ?_,K14.gnM KX G ?_ ?_ ?_ ?_ ?_,K14.gnM KX G ?_ ?_ ?_ ?_ ?_,K14.gnM KX G ?_ ?_ ?_ ?_ ?_,K14.gnM KX G ?_ ?_ ?_ ?_ ?_,K14.gnM KX G ?_ ?_ ?_ ?_ ?_,K14.gnM KX G ?_ ?_ ?_ ?_ ?_,K14.gnM KX G ?_ ?_ ?_ ?_ ?_,K14.exM KX G ?_ ?_ ?_ ?_ ?_ ?_ ?_ ?_ ?_,K14.exM KX G ?_ ?_ ?_ ?_ ?_ ?_ ?_ ?_ ?_,K14.exM KX G ?_ ?_ ?_ ?_ ?_ ?_ ?_ ?_ ?_,K14.csM KX G ?_,K14.ciM KX G ?_,K14.csM KX G ?_,K14.ciM KX G ?_,K14.ciM KX G ?_,K14.ciM KX G ?_,K14.ciM KX G ?_,K14.ciM KX G ?_,K14.ciM KX G ?_,K14.cdM KX G ?_ ?_,K14.ciM KX G ?_,PySem.W.mg_none_of KX G ?_,PySem.W.mg_none_of KX G ?_,PySem.W.mg_none_of KX G ?_,PySem.W.mg_none_of KX G ?_,PySem.W.mg_none_of KX G ?_,PySem.W.mg_none_of KX G ?_,PySem.W.mg_none_of KX G ?_,PySem.W.mg_none_of KX G ?_,PySem.W.mg_none_of KX G ?_,PySem.W.mg_none_of KX G ?_,PySem.W.mg_none_of KX G ?_,PySem.W.mg_none_of KX G ?_,PySem.W.mg_none_of KX G ?_,PySem.W.mg_none_of KX G ?_,PySem.W.mg_none_of KX G ?_,PySem.W.mg_none_of KX G ?_⟩
   any_goals (first | k_is | kernel_rfl | exact fun _ _ _ _ _ _ _ e=>K14.uy e rfl | exact fun _ _ _ _ _ _ _ e=>K14.uz e fun _=>rfl | exact fun _ _ _ _ _ _ _ e=>K14.uA e fun _ _=>rfl | exact fun _ _ _ _ _ _ _ e=>K14.uB e fun _ _ _=>rfl | exact fun _ _ _ _ _ _ _ e=>K14.uC e fun _ _ _ _=>rfl | exact fun _ _ _ _ _ _ _ e=>K14.uD e fun _ _ _ _ _=>rfl | exact fun _ _ _ _ _ _ _ e=>K14.xM e fun _ _ _ _ _ _=>rfl)
  obtain ⟨ad,T⟩:=T;obtain ⟨fL,dL,L⟩:=T.law;have e:=hmg.symm.trans L.m
  cases e
  exact ⟨dL,K14.wv L.F,fun base _ _=>K14.yn T L⟩
#print axioms PySem.Challenge.cw_oldhands_k14_whole_paths_put_together_holds
