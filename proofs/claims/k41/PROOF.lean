import PyProof.Rows.All
import Wide.All
import OpenK.AllK
import Wide.FinOn
import Lean
import PyProof.EqAt
import PyProof.EqKinds
import PyProof.TupleCall
import PyProof.NeKinds
import KE.KIntText
import PyProof.StrCalls
import PyProof.ZipIter
import PyProof.Rows.SetFrom
import PyProof.SetRoads
import PyProof.CompUse
import PyProof.Rows.MinMaxN
import PyProof.Rows.SortStr
import PyProof.Rows.SortWalk
import PyProof.Rows.SeqMore2
import KE.KMinKey
import PyProof.Rows.CallKwBuiltin
import PyProof.TupleOfStr
import PyProof.Draws
import PyProof.Rows.TupIter
import KE.KxText
import PyProof.FString5
import PyProof.DictWalks
import PyProof.CollectStr
import PyProof.FactsAll.set_1
import KE.KDictLaws
import PyProof.MeetsStr
import PyProof.TupleKey
import PyProof.SetKind
import PyProof.IsRules
import PyProof.Rows.RuleDivmod
import PyProof.LongRange
import PyProof.ListRange
import PySem.Challenge.RW_oldhands_k41_whole_spares_go_with_keys
set_option Elab.async false
set_option linter.all false
set_option maxHeartbeats 4000000
set_option maxRecDepth 100000
noncomputable section
set_option hygiene false
local macro_rules
 |`((0,$a,$b,$c))=>`(pcl $a $b (hr.mono (by lia)) rfl $c)
abbrev aAa:=@PySem.Heap.get?_push_of_some
abbrev aAb:=@List.length_map
abbrev aAc:=@List.getElem?_map
abbrev aAd:=@Option.map_eq_some_iff
abbrev aAe:=@PySem.Heap.lt_size
abbrev aAf:=@List.mem_cons
abbrev aAg:=@List.getElem?_eq_some_iff
abbrev aAh:=@PySem.Heap.get?_push_size
abbrev aAi:=@List.size_toArray
abbrev aAj:=@List.getElem?_eq_getElem
abbrev aAk:=@Nat.ne_of_lt
abbrev aAl:=@List.not_mem_nil
abbrev aAm:=@Nat.le_refl
abbrev aAn:=@Nat.lt_of_lt_of_le
abbrev aAo:=@Bool.false_eq_true
abbrev aAp:=@List.length_take
abbrev aAq:=@List.mem_cons_self
abbrev aAr:=@List.mem_cons_of_mem
abbrev aAs:=@List.mem_of_getElem?
abbrev aAt:=@List.take_length
abbrev aAu:=@Bool.false_ne_true
abbrev aAv:=@List.map_map
abbrev aAw:=@List.take_add_one
abbrev aAx:=@List.length_cons
abbrev aAy:=@List.map_append
abbrev aAz:=@List.map_cons
abbrev aAA:=@Bool.and_eq_true
abbrev aAB:=@Nat.zero_le
abbrev aAC:=@PySem.Heap.size_push
abbrev aAD:=@List.mem_singleton
abbrev aAE:=@Nat.le_trans
abbrev aAF:=@List.mem_map
abbrev aAG:=@List.mem_append_right
abbrev aAH:=@Nat.ne_of_gt
abbrev aAI:=@List.getD_eq_getElem?_getD
abbrev aAJ:=@Bool.false_and
abbrev aAK:=@Nat.le_of_lt
abbrev aAL:=@Array.getElem?_eq_getElem
abbrev aAM:=@Nat.lt_irrefl
abbrev aAN:=@Nat.lt_succ_of_lt
abbrev aAO:=@List.all_eq_true
abbrev aAP:=@List.length_append
abbrev aAQ:=@Bool.eq_iff_iff
abbrev aAR:=@List.nodup_cons
abbrev aAS:=@List.forIn_cons
abbrev aAT:=@Nat.lt_trans
abbrev aAU:=@PySem.Heap.get?_update_self
abbrev aAV:=@PySem.Heap.get?_update_other
abbrev aAW:=@List.eq_nil_of_length_eq_zero
abbrev aAX:=@List.any_cons
abbrev aAY:=@List.find?_cons
abbrev aAZ:=@Bool.not_true
abbrev aA0:=@Bool.true_and
abbrev aA1:=@Array.length_toList
abbrev aA2:=@Nat.lt_succ_self
abbrev aA3:=@List.mem_append
abbrev aA4:=@List.lookup_cons
abbrev aA5:=@List.mem_filterMap
abbrev aA6:=@List.forIn_nil
abbrev aA7:=@Option.map_map
abbrev aA8:=@List.all_map
abbrev aA9:=@List.append_nil
abbrev aBa:=@Bool.and_false
abbrev aBb:=@List.length_drop
abbrev aBc:=@List.zipIdx_cons
abbrev aBd:=@List.length_nil
abbrev aBe:=@Array.forIn_toList
abbrev aBf:=@List.pairwise_cons
abbrev aBg:=@Array.getElem?_eq_none
abbrev aBh:=@Bool.eq_false_iff
abbrev aBi:=@List.length_replicate
abbrev aBj:=@List.mem_iff_getElem
abbrev aBk:=@Nat.le_add_right
abbrev aBl:=@List.getElem?_zipIdx
abbrev aBm:=@List.getElem?_append_right
abbrev aBn:=@List.map_congr_left
abbrev aBo:=@Nat.not_lt_zero
abbrev aBp:=@Int.emod_lt_of_pos
abbrev aBq:=@List.length_zipIdx
abbrev aBr:=@List.length_eq_zero_iff
abbrev aBs:=@List.getElem?_cons_zero
abbrev aBt:=@Int.toNat_natCast
abbrev aBu:=@List.take_of_length_le
abbrev aBv:=@List.all_cons
abbrev aBw:=@Option.getD_none
abbrev aBx:=@List.getElem_map
abbrev aBy:=@List.getElem?_toArray
abbrev aBz:=@List.length_dropLast
abbrev aBA:=@Option.map_some
abbrev aBB:=@List.zipIdx_nil
abbrev aBC:=@Array.toArray_toList
abbrev aBD:=@List.getElem?_of_mem
abbrev aBE:=@List.any_map
abbrev aBF:=@Int.emod_nonneg
abbrev aBG:=@List.length_take_le'
abbrev aBH:=@List.filterMap_cons
abbrev aBI:=@Nat.le_succ
abbrev aBJ:=@List.find?_eq_none
abbrev aBK:=@Array.getElem?_eq_some_iff
abbrev aBL:=@Bool.or_false
abbrev aBM:=@List.ext_getElem?
abbrev aBN:=@List.getElem?_append_left
abbrev aBO:=@List.drop_eq_getElem_cons
abbrev aBP:=@Nat.not_lt
abbrev aBQ:=@List.pairwise_iff_getElem
abbrev aBR:=@List.mem_of_find?_eq_some
abbrev aBS:=@Option.isSome_iff_exists
abbrev aBT:=@Nat.le_of_not_lt
abbrev aBU:=@Option.getD_some
abbrev aBV:=@Nat.lt_succ_iff_lt_or_eq
abbrev aBW:=@List.getElem?_replicate
abbrev aBX:=@List.pairwise_singleton
abbrev aBY:=@List.of_mem_zip
abbrev aBZ:=@Bool.or_eq_true
abbrev aB0:=@List.getElem?_set_self
abbrev aB1:=@List.mem_range
abbrev aB2:=@List.length_singleton
abbrev aB3:=@Array.getElem?_toList
abbrev aB4:=@List.take_zero
abbrev aB5:=@List.lt_irrefl
abbrev aB6:=@List.getElem?_eq_none
abbrev aB7:=@List.mem_iff_getElem?
abbrev aB8:=@List.dropLast_eq_take
abbrev aB9:=@Nat.zero_add
namespace L2
open PySem PySem.Spec PyProof.Rows
def bW (s:Stmt):Arguments:=match s with
 | .FunctionDef _ a _ _ _ _ _ _ _ _=>a
 | _=>{ posonlyargs:=[],args:=[],vararg:=none,kwonlyargs:=[],kw_defaults:=[],kwarg:=none,defaults:=[] }
def bK (s:Stmt):List Stmt:=match s with
 | .FunctionDef _ _ b _ _ _ _ _ _ _=>b
 | _=>[]
def ac (s:Stmt):Scope:=match s with
 | .FunctionDef _ _ _ _ _ _ sc _ _ _=>sc
 | _=>{ kind:=.function,names:=[],isGenerator:=false,isCoroutine:=false }
end L2
namespace K41
open PySem L2 PyProof.Rows
abbrev pwX:=PySem.Challenge.pw_oldhands_k41_whole_spares_go_with_keys
def top (i:Nat):Stmt:=pwX.main.body.getD i (.Pass ⟨0,0,0,0⟩)
def hT (t:Nat):Value:=.str "/claim/cut.py" t
def hE (P:Params) (x:Str) (t:Nat) (v:Value):DictEntry:={ hash:=PyData.keyHash P x,key:=.str x t,val:=v }
def hF (x y m:Str) (st:Stmt) (t c:Nat):Obj:={ cls:=.type "function",data:=.func (W.fnOf x y (bW st) (bK st) (ac st) .none .none .none (.str m t) none (.ref c) .none) }
def hU (x y:Str) (st:Stmt):Obj:={ cls:=.none,data:=.func { name:=x,qualname:=y,params:=bW st,body:=.stmts (bK st),scope:=ac st,globals:=builtinsNs,closure:=[],defaults:=.none,kwdefaults:=.none } }
def hC (x y:Str) (t u v:Nat) (r:List Value):Obj:={ cls:=.type "code",data:=.fields (Array.mk (.str x t :: .str y u :: hT v :: r)) }
def hS (r:List Value):Obj:={ cls:=.type "tuple",data:=.seq (Array.mk r) }
def hN:Obj:={ cls:=.none,data:=.fields (Array.mk []) }
def Bg:Obj:={ cls:=.type "builtin_function_or_method",data:=.fields (Array.mk [.builtin "type.__prepare__",.type "type"]) }
def iH (s:Stmt):Str:=match s with
 | .FunctionDef x _ _ _ _ _ _ _ _ _=>x
 | _=> ""
def wj (s:Stmt):Int:=match s with
 | .FunctionDef _ _ _ _ _ _ _ _ _ p=>p.line
 | _=>0
def tN (s:Stmt):List Str:=(ac s).names.filterMap λp=>match p.2 with
 | .local=>some p.1
 | _=>none
def zY:List Str->Nat->List Value
 | [],_=>[]
 | x :: r,t=>.str x t :: zY r (Nat.add t 1)
def hqC (s:Stmt) (a u t:Nat) (x y z:Value):Obj:=hC (iH s) (iH s) t (Nat.add t 1) (Nat.add t 2) [.int (wj s) 0,.int (bW s).args.length 0,.int 0 0,.int 0 0,.int 3 0,.ref a,.bool true,.int 181 0,.ref (Nat.add a 1),.none,x,y,z,.int u 0,.int (wj s) 0,hT (Nat.add u 1)]
def hqO (m:Str) (mt:Nat):Nat->Nat->Nat->Nat->Nat->Nat->List Obj
 | 0,_,_,_,_,_=>[]
 | n+1,f,j,i,a,t=>match Nat.testBit f j with
  | true=>hS [] :: hN :: hS (zY (tN (top i)) (Nat.add t 3)) :: hS [] :: hU (iH (top i)) (iH (top i)) (top i) :: hqC (top i) a (Nat.add t (Nat.add 3 (tN (top i)).length)) t (.ref (Nat.add a 2)) (.ref (Nat.add a 3)) (.ref (Nat.add a 4)) :: hF (iH (top i)) (iH (top i)) m (top i) mt (Nat.add a 5) :: hqO m mt n f (Nat.add j 1) (Nat.add i 1) (Nat.add a 7) (Nat.add t (Nat.add 6 (tN (top i)).length))
  | false=>hS [] :: hN :: hU (iH (top i)) (iH (top i)) (top i) :: hqC (top i) a (Nat.add t 3) t .none .none (.ref (Nat.add a 2)) :: hF (iH (top i)) (iH (top i)) m (top i) mt (Nat.add a 3) :: hqO m mt n f (Nat.add j 1) (Nat.add i 1) (Nat.add a 5) (Nat.add t 6)
def hqG (P:Params):Nat->Nat->Nat->Nat->Nat->Nat->List DictEntry
 | 0,_,_,_,_,_=>[]
 | n+1,f,j,i,a,t=>match Nat.testBit f j with
  | true=>hE P (iH (top i)) (Nat.add t (Nat.add 5 (tN (top i)).length)) (.ref (Nat.add a 6)) :: hqG P n f (Nat.add j 1) (Nat.add i 1) (Nat.add a 7) (Nat.add t (Nat.add 6 (tN (top i)).length))
  | false=>hE P (iH (top i)) (Nat.add t 5) (.ref (Nat.add a 4)) :: hqG P n f (Nat.add j 1) (Nat.add i 1) (Nat.add a 5) (Nat.add t 6)
def hqV:Nat->Nat->Nat->Nat->Nat->List Value
 | 0,_,_,_,_=>[]
 | n+1,f,j,i,a=>match Nat.testBit f j with
  | true=>.int (wj (top i)) 0 :: .int 0 0 :: .ref (Nat.add a 5) :: hqV n f (Nat.add j 1) (Nat.add i 1) (Nat.add a 7)
  | false=>.int (wj (top i)) 0 :: .int 0 0 :: .ref (Nat.add a 3) :: hqV n f (Nat.add j 1) (Nat.add i 1) (Nat.add a 5)
def hqX (P:Params) (x:Str) (l a t b mt:Nat):List Obj:=[hS [.ref b],Bg,{ cls:=.type "dict",data:=.dict (Array.mk [hE P "__module__" (Nat.add t 7) (.str "oldhands.errors" mt),hE P "__qualname__" (Nat.add t 9) (.str x (Nat.add t 8)),hE P "__firstlineno__" (Nat.add t 11) (.int (Int.ofNat l) (Nat.add t 10)),hE P "__static_attributes__" (Nat.add t 12) (.ref (Nat.add a 7))]) 4 },hS [],hN,hC x x (Nat.add t 2) (Nat.add t 3) (Nat.add t 4) [.int (Int.ofNat l) 0,.int 0 0,.int 0 0,.int 0 0,.int 0 0,.ref (Nat.add a 3),.bool false,.int 181 0,.ref (Nat.add a 4),.none,.none,.none,.none,.int (Int.ofNat (Nat.add t 5)) 0,.int (Int.ofNat l) 0,hT (Nat.add t 6)],{ cls:=.type "frame",slots:=Array.mk [some (.ref (Nat.add a 5)),some (.ref 3),some (.ref (Nat.add a 2)),none,some (.str "oldhands.errors" mt),none,some (.ref 0)] },hS [],{ cls:=.type "dict",data:=.dict (Array.mk [hE P "__module__" (Nat.add t 7) (.str "oldhands.errors" mt),hE P "__firstlineno__" (Nat.add t 11) (.int (Int.ofNat l) (Nat.add t 10)),hE P "__static_attributes__" (Nat.add t 12) (.ref (Nat.add a 7)),hE P "__doc__" (Nat.add t 13) .none]) 2 },{ cls:=.type "type",data:=.cls { name:=x,bases:=[.ref b],mro:=[.ref (Nat.add a 9),.ref b,.type "ValueError",.type "Exception",.type "BaseException",.type "object"],ns:=Nat.add a 8,qualname:=x },slots:=Array.mk [some (.ref a),none,some (.str x t),some (.str x (Nat.add t 8)),some (.builtin "ValueError.__new__"),some (.bool true)] },{ cls:=.type "super",data:=.fields (Array.mk [.ref (Nat.add a 9),.ref (Nat.add a 9),.ref (Nat.add a 9)]) },{ cls:=.type "builtin_function_or_method",data:=.fields (Array.mk [.builtin "object.__init_subclass__",.ref (Nat.add a 9)]) }]
def gE:Params->List DictEntry:=λP=>[hE P "__doc__" 166 (.none),hE P "__package__" 167 (.none),hE P "__loader__" 168 (.builtin "__main__.__loader__#opaque"),hE P "__spec__" 169 (.none),hE P "__annotations__" 170 (.ref 6),hE P "__builtins__" 171 (.ref 4),hE P "__file__" 173 (.str ("/claim/cut.py") 172),hE P "__cached__" 174 (.none),hE P "HandError" 206 (.ref 24),hE P "BadKind" 222 (.ref 37),hE P "BadPath" 238 (.ref 49),hE P "BadTurn" 254 (.ref 61),hE P "BadPiece" 270 (.ref 73),hE P "LETTERS" 274 (.str ("abcdefghijklmnopqrstuvwxyz") 273),hE P "LONGEST_NAME" 276 (.int 8 275),hE P "EACH" 278 (.str ("each") 277),hE P "MOST_SIGNS" 280 (.int 60 279),hE P "MOST_WORDS" 282 (.int 8 281),hE P "MOST_FIELDS" 284 (.int 8 283),hE P "MOST_ITEMS" 286 (.int 8 285),hE P "MOST_KINDS" 288 (.int 40 287),hE P "DEEPEST" 290 (.int 5 289),hE P "PART_COUNTS" 309 (.ref 76)]++(hqG P 15 7806 0 17 77 310++([hE P "PERCENT" 425 (.int 37 424)]++(hqG P 13 2635 0 34 172 426++([hE P "FIGURES" 525 (.str ("0123456789") 524),hE P "LEAST_FACTOR" 527 (.int 2 526),hE P "GREATEST_FACTOR" 529 (.int 1000 528),hE P "TURN_COUNTS" 563 (.ref 249),hE P "TURN_SORTS" 595 (.ref 250)]++(hqG P 16 44285 0 53 261 596++([hE P "PIECE_FORMS" 769 (.ref 363)]++(hqG P 25 33451991 0 71 374 770++([hE P "LONGEST_PATH" 988 (.int 8 987)]++(hqG P 5 14 0 98 539 989++(hqG P 4 15 0 104 570 1030++(hqG P 6 10 0 109 598 1068++(hqG P 2 3 0 116 632 1111++([hE P "KEPT" 1139 (.str ("kept") 1138),hE P "MADE" 1141 (.str ("made") 1140)]++(hqG P 5 11 0 121 646 1142++(hqG P 6 23 0 127 677 1192)))))))))))))))
def gD (P:Params) (x:Str) (t m k:Nat):Obj:={ cls:=.type "dict",data:=.dict (Array.mk (hE P "__name__" 165 (.str x t) :: (gE P).take m)) k }
def tE:List Value:=[.int 2 0,.int 0 0,.ref 20,.int 4 0,.int 0 0,.ref 33,.int 6 0,.int 0 0,.ref 45,.int 8 0,.int 0 0,.ref 57,.int 10 0,.int 0 0,.ref 69]++(hqV 15 7806 0 17 77++(hqV 13 2635 0 34 172++(hqV 16 44285 0 53 261++(hqV 25 33451991 0 71 374++(hqV 5 14 0 98 539++(hqV 4 15 0 104 570++(hqV 6 10 0 109 598++(hqV 2 3 0 116 632++(hqV 5 11 0 121 646++(hqV 6 23 0 127 677))))))))))
def tD (m:Nat):Obj:={ cls:=.none,data:=.fields (Array.mk (tE.take m)) }
def hqL (P:Params):List Obj:=[W.boot_o_0 P,W.boot_o_1 P,W.boot_o_2 P,{ cls:=.type "dict",data:=.dict (Array.mk (hE P "__name__" 165 (.str ("law_oldhands_k41_whole_spares_go_with_keys") 1190) :: gE P)) 131 },W.boot_o_4 P,W.boot_o_5 P,W.boot_o_6 P,W.boot_o_7 P,W.boot_o_8 P,W.boot_o_9 P,W.boot_o_10 P]++([hS [],{ cls:=.none,data:=.fields (Array.mk tE) },hC "<module>" "<module>" 182 183 184 [.int 1 0,.int 0 0,.int 0 0,.int 0 0,.int 0 0,.ref 11,.bool false,.int 181 0,.ref 12,.none,.none,.none,.none,.int 185 0,.int 1 0,hT 186],{ cls:=.type "frame",slots:=#[some (.ref 13),some (.ref 3),some (.ref 3),none,some (.str ("__main__") 164),none,some (.ref 0)] },hS [.type "ValueError"],{ cls:=.type "builtin_function_or_method",data:=.fields #[.builtin "type.__prepare__",.type "type"] },{ cls:=.type "dict",data:=.dict #[hE P "__module__" 196 (.str ("oldhands.errors") 187),hE P "__qualname__" 198 (.str ("HandError") 197),hE P "__firstlineno__" 200 (.int 2 199),hE P "__static_attributes__" 201 (.ref 22)] 4 },hS [],hN,hC "HandError" "HandError" 191 192 193 [.int 2 0,.int 0 0,.int 0 0,.int 0 0,.int 0 0,.ref 18,.bool false,.int 181 0,.ref 19,.none,.none,.none,.none,.int 194 0,.int 2 0,hT 195],{ cls:=.type "frame",slots:=#[some (.ref 20),some (.ref 3),some (.ref 17),none,some (.str ("oldhands.errors") 187),none,some (.ref 0)] },hS [],{ cls:=.type "dict",data:=.dict #[hE P "__module__" 196 (.str ("oldhands.errors") 187),hE P "__firstlineno__" 200 (.int 2 199),hE P "__static_attributes__" 201 (.ref 22),hE P "__weakref__" 203 (.ref 25),hE P "__doc__" 204 (.none)] 3 },{ cls:=.type "type",data:=.cls { name:= "HandError",bases:=[.type "ValueError"],mro:=[.ref 24,.type "ValueError",.type "Exception",.type "BaseException",.type "object"],ns:=23,qualname:= "HandError",subclasses:=[.ref 37,.ref 49,.ref 61,.ref 73] },slots:=#[some (.ref 15),none,some (.str ("HandError") 189),some (.str ("HandError") 197),some (.builtin "ValueError.__new__"),some (.bool true)] },{ cls:=.type "getset_descriptor",data:=.fields #[.str ("__weakref__") 202,.ref 24,.builtin "ExceptionGroup.__weakref__",.none] },{ cls:=.type "super",data:=.fields #[.ref 24,.ref 24,.ref 24] },{ cls:=.type "builtin_function_or_method",data:=.fields #[.builtin "object.__init_subclass__",.ref 24] }]++(hqX P "BadKind" 4 28 207 24 187++(hqX P "BadPath" 6 40 223 24 187++(hqX P "BadTurn" 8 52 239 24 187++(hqX P "BadPiece" 10 64 255 24 187++([{ cls:=.type "dict",data:=.dict #[hE P "number" 291 (.int 3 292),hE P "text" 293 (.int 2 294),hE P "choice" 295 (.int 2 296),hE P "list" 297 (.int 3 298),hE P "record" 299 (.int 2 300),hE P "rows" 301 (.int 4 302)] 6 }]++(hqO "oldhands.kinds" 271 15 7806 0 17 77 310++(hqO "oldhands.values" 422 13 2635 0 34 172 426++([{ cls:=.type "dict",data:=.dict #[hE P "bounds" 530 (.int 3 531),hE P "scale" 532 (.int 2 533),hE P "shrink" 534 (.int 2 535),hE P "figures" 536 (.int 2 537),hE P "number" 538 (.int 3 539),hE P "words" 540 (.int 3 541),hE P "cut" 542 (.int 2 543),hE P "first" 544 (.int 2 545),hE P "one" 546 (.int 2 547),hE P "out" 548 (.int 1 549),hE P "items" 550 (.int 2 551)] 11 },{ cls:=.type "dict",data:=.dict #[hE P "bounds" 564 (.ref 251),hE P "scale" 566 (.ref 252),hE P "shrink" 568 (.ref 253),hE P "figures" 570 (.ref 254),hE P "number" 572 (.ref 255),hE P "words" 574 (.ref 256),hE P "cut" 576 (.ref 257),hE P "first" 578 (.ref 258),hE P "out" 581 (.ref 259),hE P "items" 583 (.ref 260)] 10 },hS [.str ("number") 565],hS [.str ("number") 567],hS [.str ("number") 569],hS [.str ("number") 571],hS [.str ("text") 573],hS [.str ("choice") 575],hS [.str ("text") 577],hS [.str ("list") 579,.str ("rows") 580],hS [.str ("list") 582],hS [.str ("list") 584]]++(hqO "oldhands.turns" 522 16 44285 0 53 261 596++([{ cls:=.type "dict",data:=.dict #[hE P "put" 718 (.ref 364),hE P "drop" 722 (.ref 365),hE P "name" 725 (.ref 366),hE P "sink" 728 (.ref 367),hE P "lift" 731 (.ref 368),hE P "turn" 734 (.ref 369),hE P "split" 737 (.ref 370),hE P "join" 742 (.ref 371),hE P "part" 747 (.ref 372),hE P "whole" 752 (.ref 373)] 10 },hS [.str ("text") 719,.str ("tuple") 720,.str ("any") 721],hS [.str ("text") 723,.str ("any") 724],hS [.str ("text") 726,.str ("text") 727],hS [.str ("text") 729,.str ("text") 730],hS [.str ("text") 732,.str ("text") 733],hS [.str ("text") 735,.str ("tuple") 736],hS [.str ("text") 738,.str ("text") 739,.str ("text") 740,.str ("text") 741],hS [.str ("text") 743,.str ("text") 744,.str ("text") 745,.str ("text") 746],hS [.str ("text") 748,.str ("number") 749,.str ("text") 750,.str ("text") 751],hS [.str ("text") 753,.str ("text") 754,.str ("number") 755,.str ("text") 756,.str ("number") 757,.str ("number") 758]]++(hqO "oldhands.pieces" 716 25 33451991 0 71 374 770++(hqO "oldhands.shapes" 985 5 14 0 98 539 989++(hqO "oldhands.changes" 1028 4 15 0 104 570 1030++(hqO "oldhands.spots" 1066 6 10 0 109 598 1068++(hqO "oldhands.leading" 1109 2 3 0 116 632 1111++(hqO "oldhands.steps" 1136 5 11 0 121 646 1142++(hqO "law_oldhands_k41_whole_spares_go_with_keys" 1190 6 23 0 127 677 1192))))))))))))))))))
def hqE:Bool->List Obj->List Obj
 | _,[]=>[]
 | true,x :: r=>x :: hqE false r
 | false,_ :: r=>hqE true r
def hqT:Nat->List Obj->W.BT
 | 0,_=>.nil
 | _+1,[]=>.nil
 | k+1,x :: r=>.node x (hqT k (hqE true r)) (hqT k (hqE false r))
def hqA (P:Params) (i:Nat):Obj:=(hqL P).getD i hN
abbrev hA1:Option Value:=some (.ref 6)
abbrev hB1:List Frame:=[W.topFrame ⟨0,0,0,0⟩]
def bt:Env:={ scope:=pwX.main.scope,locals:=mainNs,globals:=mainNs,cells:=[],code:=.ref 13,frame:=some 14 }
abbrev hCo:Code:=.body (W.behindTheImports pwX) bt
def hp0 (P:Params):Heap:=⟨Array.mk (hqA P 0 :: hqA P 1 :: hqA P 2 :: (gD P "__main__" 164 8 9) :: hqA P 4 :: hqA P 5 :: hqA P 6 :: hqA P 7 :: hqA P 8 :: hqA P 9 :: hqA P 10 :: hqA P 11 :: (tD 0) :: hqA P 13 :: hqA P 14 :: []),{}⟩
def tB (P:Params):W.BT:=((hqT 11 ((hqL P).take 15)).set 3 (λ_=>gD P "__main__" 164 8 9)).set 12 (λ_=>tD 0)
def sB (w:World) (os:OsState):W.SharedT:=⟨tB w.params,15,{},Array.mk [],{},187,os⟩
def t0 (P:Params):W.BT:=(((hqT 11 ((hqL P).take 28)).set 3 (λ_=>gD P "oldhands.errors" 187 9 10)).set 12 (λ_=>tD 3)).set 24 (λ_=>{ cls:=.type "type",data:=.cls { name:= "HandError",bases:=[.type "ValueError"],mro:=[.ref 24,.type "ValueError",.type "Exception",.type "BaseException",.type "object"],ns:=23,qualname:= "HandError" },slots:=#[some (.ref 15),none,some (.str ("HandError") 189),some (.str ("HandError") 197),some (.builtin "ValueError.__new__"),some (.bool true)] })
def s0 (w:World) (os:OsState):W.SharedT:=⟨t0 w.params,28,{},Array.mk [],{},207,os⟩
def st0:List Stmt:=((W.behindTheImports pwX).drop 0).take 2
def t1 (P:Params):W.BT:=(((hqT 11 ((hqL P).take 40)).set 3 (λ_=>gD P "oldhands.errors" 187 10 11)).set 12 (λ_=>tD 6)).set 24 (λ_=>{ cls:=.type "type",data:=.cls { name:= "HandError",bases:=[.type "ValueError"],mro:=[.ref 24,.type "ValueError",.type "Exception",.type "BaseException",.type "object"],ns:=23,qualname:= "HandError",subclasses:=[.ref 37] },slots:=#[some (.ref 15),none,some (.str ("HandError") 189),some (.str ("HandError") 197),some (.builtin "ValueError.__new__"),some (.bool true)] })
def s1 (w:World) (os:OsState):W.SharedT:=⟨t1 w.params,40,{},Array.mk [],{},223,os⟩
def st1:List Stmt:=((W.behindTheImports pwX).drop 2).take 1
def t2 (P:Params):W.BT:=(((hqT 11 ((hqL P).take 52)).set 3 (λ_=>gD P "oldhands.errors" 187 11 12)).set 12 (λ_=>tD 9)).set 24 (λ_=>{ cls:=.type "type",data:=.cls { name:= "HandError",bases:=[.type "ValueError"],mro:=[.ref 24,.type "ValueError",.type "Exception",.type "BaseException",.type "object"],ns:=23,qualname:= "HandError",subclasses:=[.ref 37,.ref 49] },slots:=#[some (.ref 15),none,some (.str ("HandError") 189),some (.str ("HandError") 197),some (.builtin "ValueError.__new__"),some (.bool true)] })
def s2 (w:World) (os:OsState):W.SharedT:=⟨t2 w.params,52,{},Array.mk [],{},239,os⟩
def st2:List Stmt:=((W.behindTheImports pwX).drop 3).take 1
def t3 (P:Params):W.BT:=(((hqT 11 ((hqL P).take 64)).set 3 (λ_=>gD P "oldhands.errors" 187 12 13)).set 12 (λ_=>tD 12)).set 24 (λ_=>{ cls:=.type "type",data:=.cls { name:= "HandError",bases:=[.type "ValueError"],mro:=[.ref 24,.type "ValueError",.type "Exception",.type "BaseException",.type "object"],ns:=23,qualname:= "HandError",subclasses:=[.ref 37,.ref 49,.ref 61] },slots:=#[some (.ref 15),none,some (.str ("HandError") 189),some (.str ("HandError") 197),some (.builtin "ValueError.__new__"),some (.bool true)] })
def s3 (w:World) (os:OsState):W.SharedT:=⟨t3 w.params,64,{},Array.mk [],{},255,os⟩
def st3:List Stmt:=((W.behindTheImports pwX).drop 4).take 1
def t4 (P:Params):W.BT:=((hqT 11 ((hqL P).take 76)).set 3 (λ_=>gD P "oldhands.kinds" 271 22 23)).set 12 (λ_=>tD 15)
def s4 (w:World) (os:OsState):W.SharedT:=⟨t4 w.params,76,{},Array.mk [],{},291,os⟩
def st4:List Stmt:=((W.behindTheImports pwX).drop 5).take 11
def t5 (P:Params):W.BT:=((hqT 11 ((hqL P).take 141)).set 3 (λ_=>gD P "oldhands.kinds" 271 33 34)).set 12 (λ_=>tD 45)
def s5 (w:World) (os:OsState):W.SharedT:=⟨t5 w.params,141,{},Array.mk [],{},383,os⟩
def st5:List Stmt:=((W.behindTheImports pwX).drop 16).take 11
def t6 (P:Params):W.BT:=((hqT 11 ((hqL P).take 220)).set 3 (λ_=>gD P "oldhands.values" 422 47 48)).set 12 (λ_=>tD 84)
def s6 (w:World) (os:OsState):W.SharedT:=⟨t6 w.params,220,{},Array.mk [],{},482,os⟩
def st6:List Stmt:=((W.behindTheImports pwX).drop 27).take 15
def t7 (P:Params):W.BT:=((hqT 11 ((hqL P).take 250)).set 3 (λ_=>gD P "oldhands.turns" 522 56 57)).set 12 (λ_=>tD 99)
def s7 (w:World) (os:OsState):W.SharedT:=⟨t7 w.params,250,{},Array.mk [],{},564,os⟩
def st7:List Stmt:=((W.behindTheImports pwX).drop 42).take 10
def t8 (P:Params):W.BT:=((hqT 11 ((hqL P).take 308)).set 3 (λ_=>gD P "oldhands.turns" 522 64 65)).set 12 (λ_=>tD 120)
def s8 (w:World) (os:OsState):W.SharedT:=⟨t8 w.params,308,{},Array.mk [],{},649,os⟩
def st8:List Stmt:=((W.behindTheImports pwX).drop 52).take 8
def t9 (P:Params):W.BT:=((hqT 11 ((hqL P).take 363)).set 3 (λ_=>gD P "oldhands.pieces" 716 73 74)).set 12 (λ_=>tD 147)
def s9 (w:World) (os:OsState):W.SharedT:=⟨t9 w.params,363,{},Array.mk [],{},718,os⟩
def st9:List Stmt:=((W.behindTheImports pwX).drop 60).take 10
def t10 (P:Params):W.BT:=((hqT 11 ((hqL P).take 412)).set 3 (λ_=>gD P "oldhands.pieces" 716 80 81)).set 12 (λ_=>tD 165)
def s10 (w:World) (os:OsState):W.SharedT:=⟨t10 w.params,412,{},Array.mk [],{},815,os⟩
def tO:List Stmt:=((W.behindTheImports pwX).drop 70).take 7
def t11 (P:Params):W.BT:=((hqT 11 ((hqL P).take 497)).set 3 (λ_=>gD P "oldhands.pieces" 716 93 94)).set 12 (λ_=>tD 204)
def s11 (w:World) (os:OsState):W.SharedT:=⟨t11 w.params,497,{},Array.mk [],{},923,os⟩
def zZ:List Stmt:=((W.behindTheImports pwX).drop 77).take 13
def t12 (P:Params):W.BT:=((hqT 11 ((hqL P).take 577)).set 3 (λ_=>gD P "oldhands.changes" 1028 106 107)).set 12 (λ_=>tD 240)
def s12 (w:World) (os:OsState):W.SharedT:=⟨t12 w.params,577,{},Array.mk [],{},1040,os⟩
def z6:List Stmt:=((W.behindTheImports pwX).drop 90).take 15
def t13 (P:Params):W.BT:=((hqT 11 ((hqL P).take 646)).set 3 (λ_=>gD P "oldhands.steps" 1136 119 120)).set 12 (λ_=>tD 273)
def s13 (w:World) (os:OsState):W.SharedT:=⟨t13 w.params,646,{},Array.mk [],{},1142,os⟩
def z8:List Stmt:=((W.behindTheImports pwX).drop 105).take 16
def t14 (P:Params):W.BT:=hqT 11 ((hqL P).take 715)
def s14 (w:World) (os:OsState):W.SharedT:=⟨t14 w.params,715,{},Array.mk [],{},1245,os⟩
def z9:List Stmt:=((W.behindTheImports pwX).drop 121).take 12
def hp1 (P:Params):Heap:=⟨Array.mk (hqL P),{}⟩
theorem Bh:∀ w:World,(λos=>W.topGo treeTable pwX w 11 hA1 12 ⟨W.boot_heap w.params,Array.mk [],W.boot_drawn,W.boot_toks,os⟩ (W.topStub pwX))=λos=>some (⟨hp0 w.params,Array.mk [],{},187,os⟩,⟨denote treeTable hCo,hCo,⟨0,0,0,0⟩,hB1⟩):=λw=>by kernel_rfl
theorem yx:∀ w:World,(λos=>W.segRun treeTable pwX w 11 hA1 1 1 ⟨hp0 w.params,Array.mk [],{},187,os⟩ (W.blockOf (W.behindTheImports pwX) bt hCo ⟨0,0,0,0⟩ hB1))=λos=>some (.next,(sB w os).abs,hCo,⟨0,0,0,0⟩):=λw=>by kernel_rfl
theorem r0:∀ w:World,(λos=>W.segRunT treeTable pwX w 11 hA1 1 196 (sB w os) (W.piecesOf st0 bt hCo ⟨0,0,0,0⟩ hB1))=λos=>some (.next,s0 w os,hCo,⟨2,0,3,8⟩):=λw=>by kernel_rfl
theorem r1:∀ w:World,(λos=>W.segRunT treeTable pwX w 11 hA1 1 214 (s0 w os) (W.piecesOf st1 bt hCo ⟨2,0,3,8⟩ hB1))=λos=>some (.next,s1 w os,hCo,⟨4,0,5,8⟩):=λw=>by kernel_rfl
theorem r2:∀ w:World,(λos=>W.segRunT treeTable pwX w 11 hA1 1 214 (s1 w os) (W.piecesOf st2 bt hCo ⟨4,0,5,8⟩ hB1))=λos=>some (.next,s2 w os,hCo,⟨6,0,7,8⟩):=λw=>by kernel_rfl
theorem r3:∀ w:World,(λos=>W.segRunT treeTable pwX w 11 hA1 1 214 (s2 w os) (W.piecesOf st3 bt hCo ⟨6,0,7,8⟩ hB1))=λos=>some (.next,s3 w os,hCo,⟨8,0,9,8⟩):=λw=>by kernel_rfl
theorem r4:∀ w:World,(λos=>W.segRunT treeTable pwX w 11 hA1 1 304 (s3 w os) (W.piecesOf st4 bt hCo ⟨8,0,9,8⟩ hB1))=λos=>some (.next,s4 w os,hCo,⟨21,0,21,7⟩):=λw=>by kernel_rfl
theorem r5f:∀ w:World,(λos=>W.segRunT treeTable pwX (w.withFollow "special-get-raises" false) 11 hA1 1 388 (s4 (w.withFollow "special-get-raises" false) os) (W.piecesOf st5 bt hCo ⟨21,0,21,7⟩ hB1))=λos=>some (.next,s5 (w.withFollow "special-get-raises" false) os,hCo,⟨71,0,74,58⟩):=λw=>by kernel_rfl
theorem r5t:∀ w:World,(λos=>W.segRunT treeTable pwX (w.withFollow "special-get-raises" true) 11 hA1 1 388 (s4 (w.withFollow "special-get-raises" true) os) (W.piecesOf st5 bt hCo ⟨21,0,21,7⟩ hB1))=λos=>some (.next,s5 (w.withFollow "special-get-raises" true) os,hCo,⟨71,0,74,58⟩):=λw=>by kernel_rfl
theorem r5:∀ w:World,(λos=>W.segRunT treeTable pwX w 11 hA1 1 388 (s4 w os) (W.piecesOf st5 bt hCo ⟨21,0,21,7⟩ hB1))=λos=>some (.next,s5 w os,hCo,⟨71,0,74,58⟩):=W.byRow2 "special-get-raises" (P:=λw=>(λos=>W.segRunT treeTable pwX w 11 hA1 1 388 (s4 w os) (W.piecesOf st5 bt hCo ⟨21,0,21,7⟩ hB1))=λos=>some (.next,s5 w os,hCo,⟨71,0,74,58⟩)) r5f r5t
theorem r6:∀ w:World,(λos=>W.segRunT treeTable pwX w 11 hA1 1 388 (s5 w os) (W.piecesOf st6 bt hCo ⟨71,0,74,58⟩ hB1))=λos=>some (.next,s6 w os,hCo,⟨135,0,137,73⟩):=λw=>by kernel_rfl
theorem r7f:∀ w:World,(λos=>W.segRunT treeTable pwX (w.withFollow "special-get-raises" false) 11 hA1 1 356 (s6 (w.withFollow "special-get-raises" false) os) (W.piecesOf st7 bt hCo ⟨135,0,137,73⟩ hB1))=λos=>some (.next,s7 (w.withFollow "special-get-raises" false) os,hCo,⟨167,0,167,11⟩):=λw=>by kernel_rfl
theorem r7t:∀ w:World,(λos=>W.segRunT treeTable pwX (w.withFollow "special-get-raises" true) 11 hA1 1 356 (s6 (w.withFollow "special-get-raises" true) os) (W.piecesOf st7 bt hCo ⟨135,0,137,73⟩ hB1))=λos=>some (.next,s7 (w.withFollow "special-get-raises" true) os,hCo,⟨167,0,167,11⟩):=λw=>by kernel_rfl
theorem r7:∀ w:World,(λos=>W.segRunT treeTable pwX w 11 hA1 1 356 (s6 w os) (W.piecesOf st7 bt hCo ⟨135,0,137,73⟩ hB1))=λos=>some (.next,s7 w os,hCo,⟨167,0,167,11⟩):=W.byRow2 "special-get-raises" (P:=λw=>(λos=>W.segRunT treeTable pwX w 11 hA1 1 356 (s6 w os) (W.piecesOf st7 bt hCo ⟨135,0,137,73⟩ hB1))=λos=>some (.next,s7 w os,hCo,⟨167,0,167,11⟩)) r7f r7t
theorem r8f:∀ w:World,(λos=>W.segRunT treeTable pwX (w.withFollow "special-get-raises" false) 11 hA1 1 387 (s7 (w.withFollow "special-get-raises" false) os) (W.piecesOf st8 bt hCo ⟨167,0,167,11⟩ hB1))=λos=>some (.next,s8 (w.withFollow "special-get-raises" false) os,hCo,⟨210,0,213,50⟩):=λw=>by kernel_rfl
theorem r8t:∀ w:World,(λos=>W.segRunT treeTable pwX (w.withFollow "special-get-raises" true) 11 hA1 1 387 (s7 (w.withFollow "special-get-raises" true) os) (W.piecesOf st8 bt hCo ⟨167,0,167,11⟩ hB1))=λos=>some (.next,s8 (w.withFollow "special-get-raises" true) os,hCo,⟨210,0,213,50⟩):=λw=>by kernel_rfl
theorem r8:∀ w:World,(λos=>W.segRunT treeTable pwX w 11 hA1 1 387 (s7 w os) (W.piecesOf st8 bt hCo ⟨167,0,167,11⟩ hB1))=λos=>some (.next,s8 w os,hCo,⟨210,0,213,50⟩):=W.byRow2 "special-get-raises" (P:=λw=>(λos=>W.segRunT treeTable pwX w 11 hA1 1 387 (s7 w os) (W.piecesOf st8 bt hCo ⟨167,0,167,11⟩ hB1))=λos=>some (.next,s8 w os,hCo,⟨210,0,213,50⟩)) r8f r8t
theorem r9:∀ w:World,(λos=>W.segRunT treeTable pwX w 11 hA1 1 267 (s8 w os) (W.piecesOf st9 bt hCo ⟨210,0,213,50⟩ hB1))=λos=>some (.next,s9 w os,hCo,⟨307,0,307,8⟩):=λw=>by kernel_rfl
theorem Bi:∀ w:World,(λos=>W.segRunT treeTable pwX (w.withFollow "special-get-raises" false) 11 hA1 1 375 (s9 (w.withFollow "special-get-raises" false) os) (W.piecesOf tO bt hCo ⟨307,0,307,8⟩ hB1))=λos=>some (.next,s10 (w.withFollow "special-get-raises" false) os,hCo,⟨356,0,361,36⟩):=λw=>by kernel_rfl
theorem Bj:∀ w:World,(λos=>W.segRunT treeTable pwX (w.withFollow "special-get-raises" true) 11 hA1 1 375 (s9 (w.withFollow "special-get-raises" true) os) (W.piecesOf tO bt hCo ⟨307,0,307,8⟩ hB1))=λos=>some (.next,s10 (w.withFollow "special-get-raises" true) os,hCo,⟨356,0,361,36⟩):=λw=>by kernel_rfl
theorem r10:∀ w:World,(λos=>W.segRunT treeTable pwX w 11 hA1 1 375 (s9 w os) (W.piecesOf tO bt hCo ⟨307,0,307,8⟩ hB1))=λos=>some (.next,s10 w os,hCo,⟨356,0,361,36⟩):=W.byRow2 "special-get-raises" (P:=λw=>(λos=>W.segRunT treeTable pwX w 11 hA1 1 375 (s9 w os) (W.piecesOf tO bt hCo ⟨307,0,307,8⟩ hB1))=λos=>some (.next,s10 w os,hCo,⟨356,0,361,36⟩)) Bi Bj
theorem r11:∀ w:World,(λos=>W.segRunT treeTable pwX w 11 hA1 1 389 (s10 w os) (W.piecesOf zZ bt hCo ⟨356,0,361,36⟩ hB1))=λos=>some (.next,s11 w os,hCo,⟨450,0,466,24⟩):=λw=>by kernel_rfl
theorem r12:∀ w:World,(λos=>W.segRunT treeTable pwX w 11 hA1 1 399 (s11 w os) (W.piecesOf z6 bt hCo ⟨450,0,466,24⟩ hB1))=λos=>some (.next,s12 w os,hCo,⟨527,0,532,46⟩):=λw=>by kernel_rfl
theorem r13:∀ w:World,(λos=>W.segRunT treeTable pwX w 11 hA1 1 372 (s12 w os) (W.piecesOf z8 bt hCo ⟨527,0,532,46⟩ hB1))=λos=>some (.next,s13 w os,hCo,⟨599,0,599,4⟩):=λw=>by kernel_rfl
theorem r14:∀ w:World,(λos=>W.segRunT treeTable pwX w 11 hA1 1 345 (s13 w os) (W.piecesOf z9 bt hCo ⟨599,0,599,4⟩ hB1))=λos=>some (.next,s14 w os,hCo,⟨655,0,687,15⟩):=λw=>by kernel_rfl
theorem Bk:∀ w:World,(λos=>W.topRun treeTable pwX w 11 hA1 2 (s14 w os).abs ⟨W.doneF .next,hCo,⟨655,0,687,15⟩,hB1⟩)=λos=>some (⟨hp1 w.params,Array.mk [],{},1245,os⟩:Shared):=λw=>by kernel_rfl
theorem Bm:W.behindTheImports pwX=st0++(st1++(st2++(st3++(st4++(st5++(st6++(st7++(st8++(st9++(tO++(zZ++(z6++(z8++(z9++[])))))))))))))):=by kernel_rfl
theorem Bn (w:World) (os:OsState):W.topRun treeTable pwX w 11 hA1 (12+(1+(196+(214+(214+(214+(304+(388+(388+(356+(387+(267+(375+(389+(399+(372+(345+(2)))))))))))))))))) ⟨W.boot_heap w.params,Array.mk [],W.boot_drawn,W.boot_toks,os⟩ (W.topStub pwX)=some ⟨hp1 w.params,Array.mk [],{},1245,os⟩:=by
 refine W.go_top (congrFun (Bh w) os) (W.piece_block (congrFun (yx w) os) ?_);rw [Bm];exact (W.piece_app (W.segRun_of (congrFun (r0 w) os)) (W.piece_app (W.segRun_of (congrFun (r1 w) os)) (W.piece_app (W.segRun_of (congrFun (r2 w) os)) (W.piece_app (W.segRun_of (congrFun (r3 w) os)) (W.piece_app (W.segRun_of (congrFun (r4 w) os)) (W.piece_app (W.segRun_of (congrFun (r5 w) os)) (W.piece_app (W.segRun_of (congrFun (r6 w) os)) (W.piece_app (W.segRun_of (congrFun (r7 w) os)) (W.piece_app (W.segRun_of (congrFun (r8 w) os)) (W.piece_app (W.segRun_of (congrFun (r9 w) os)) (W.piece_app (W.segRun_of (congrFun (r10 w) os)) (W.piece_app (W.segRun_of (congrFun (r11 w) os)) (W.piece_app (W.segRun_of (congrFun (r12 w) os)) (W.piece_app (W.segRun_of (congrFun (r13 w) os)) (W.piece_app (W.segRun_of (congrFun (r14 w) os)) (show W.topRun treeTable pwX w 11 hA1 2 _ (W.restOf [] bt hCo ⟨655,0,687,15⟩ hB1)=_ from congrFun (Bk w) os))))))))))))))))
def hK:Params->W.Frag:=λP =>
 (nat_lit 3,hqA P 3) :: (nat_lit 4,hqA P 4) :: (nat_lit 6,hqA P 6) :: (nat_lit 15,hqA P 15) :: (nat_lit 22,hqA P 22) :: (nat_lit 23,hqA P 23) :: (nat_lit 24,hqA P 24) :: (nat_lit 25,hqA P 25) :: (nat_lit 28,hqA P 28) :: (nat_lit 35,hqA P 35) :: (nat_lit 36,hqA P 36) :: (nat_lit 37,hqA P 37) :: (nat_lit 40,hqA P 40) :: (nat_lit 47,hqA P 47) :: (nat_lit 48,hqA P 48) :: (nat_lit 49,hqA P 49) :: (nat_lit 52,hqA P 52) :: (nat_lit 59,hqA P 59) :: (nat_lit 60,hqA P 60) :: (nat_lit 61,hqA P 61) :: (nat_lit 64,hqA P 64) :: (nat_lit 71,hqA P 71) :: (nat_lit 72,hqA P 72) :: (nat_lit 73,hqA P 73) :: (nat_lit 76,hqA P 76) :: (nat_lit 80,hqA P 80) :: (nat_lit 81,hqA P 81) :: (nat_lit 87,hqA P 87) :: (nat_lit 88,hqA P 88) :: (nat_lit 94,hqA P 94) :: (nat_lit 95,hqA P 95) :: (nat_lit 101,hqA P 101) :: (nat_lit 102,hqA P 102) :: (nat_lit 108,hqA P 108) :: (nat_lit 109,hqA P 109) :: (nat_lit 115,hqA P 115) :: (nat_lit 116,hqA P 116) :: (nat_lit 122,hqA P 122) :: (nat_lit 123,hqA P 123) :: (nat_lit 127,hqA P 127) :: (nat_lit 128,hqA P 128) :: (nat_lit 132,hqA P 132) :: (nat_lit 133,hqA P 133) :: (nat_lit 139,hqA P 139) :: (nat_lit 140,hqA P 140) :: (nat_lit 146,hqA P 146) :: (nat_lit 147,hqA P 147) :: (nat_lit 153,hqA P 153) :: (nat_lit 154,hqA P 154) :: (nat_lit 160,hqA P 160) :: (nat_lit 161,hqA P 161) :: (nat_lit 165,hqA P 165) :: (nat_lit 166,hqA P 166) :: (nat_lit 170,hqA P 170) :: (nat_lit 171,hqA P 171) :: (nat_lit 177,hqA P 177) :: (nat_lit 178,hqA P 178) :: (nat_lit 184,hqA P 184) :: (nat_lit 185,hqA P 185) :: (nat_lit 189,hqA P 189) :: (nat_lit 190,hqA P 190) :: (nat_lit 196,hqA P 196) :: (nat_lit 197,hqA P 197) :: (nat_lit 201,hqA P 201) :: (nat_lit 202,hqA P 202) :: (nat_lit 206,hqA P 206) :: (nat_lit 207,hqA P 207) :: (nat_lit 213,hqA P 213) :: (nat_lit 214,hqA P 214) :: (nat_lit 218,hqA P 218) :: (nat_lit 219,hqA P 219) :: (nat_lit 223,hqA P 223) :: (nat_lit 224,hqA P 224) :: (nat_lit 230,hqA P 230) :: (nat_lit 231,hqA P 231) :: (nat_lit 235,hqA P 235) :: (nat_lit 236,hqA P 236) :: (nat_lit 242,hqA P 242) :: (nat_lit 243,hqA P 243) :: (nat_lit 247,hqA P 247) :: (nat_lit 248,hqA P 248) :: (nat_lit 249,hqA P 249) :: (nat_lit 250,hqA P 250) :: (nat_lit 251,hqA P 251) :: (nat_lit 252,hqA P 252) :: (nat_lit 253,hqA P 253) :: (nat_lit 254,hqA P 254) :: (nat_lit 255,hqA P 255) :: (nat_lit 256,hqA P 256) :: (nat_lit 257,hqA P 257) :: (nat_lit 258,hqA P 258) :: (nat_lit 259,hqA P 259) :: (nat_lit 260,hqA P 260) :: (nat_lit 266,hqA P 266) :: (nat_lit 267,hqA P 267) :: (nat_lit 271,hqA P 271) :: (nat_lit 272,hqA P 272) :: (nat_lit 278,hqA P 278) :: (nat_lit 279,hqA P 279) :: (nat_lit 285,hqA P 285) :: (nat_lit 286,hqA P 286) :: (nat_lit 292,hqA P 292) :: (nat_lit 293,hqA P 293) :: (nat_lit 299,hqA P 299) :: (nat_lit 300,hqA P 300) :: (nat_lit 306,hqA P 306) :: (nat_lit 307,hqA P 307) :: (nat_lit 313,hqA P 313) :: (nat_lit 314,hqA P 314) :: (nat_lit 318,hqA P 318) :: (nat_lit 319,hqA P 319) :: (nat_lit 323,hqA P 323) :: (nat_lit 324,hqA P 324) :: (nat_lit 330,hqA P 330) :: (nat_lit 331,hqA P 331) :: (nat_lit 337,hqA P 337) :: (nat_lit 338,hqA P 338) :: (nat_lit 342,hqA P 342) :: (nat_lit 343,hqA P 343) :: (nat_lit 349,hqA P 349) :: (nat_lit 350,hqA P 350) :: (nat_lit 354,hqA P 354) :: (nat_lit 355,hqA P 355) :: (nat_lit 361,hqA P 361) :: (nat_lit 362,hqA P 362) :: (nat_lit 363,hqA P 363) :: (nat_lit 364,hqA P 364) :: (nat_lit 365,hqA P 365) :: (nat_lit 366,hqA P 366) :: (nat_lit 367,hqA P 367) :: (nat_lit 368,hqA P 368) :: (nat_lit 369,hqA P 369) :: (nat_lit 370,hqA P 370) :: (nat_lit 371,hqA P 371) :: (nat_lit 372,hqA P 372) :: (nat_lit 373,hqA P 373) :: (nat_lit 379,hqA P 379) :: (nat_lit 380,hqA P 380) :: (nat_lit 386,hqA P 386) :: (nat_lit 387,hqA P 387) :: (nat_lit 393,hqA P 393) :: (nat_lit 394,hqA P 394) :: (nat_lit 398,hqA P 398) :: (nat_lit 399,hqA P 399) :: (nat_lit 405,hqA P 405) :: (nat_lit 406,hqA P 406) :: (nat_lit 410,hqA P 410) :: (nat_lit 411,hqA P 411) :: (nat_lit 417,hqA P 417) :: (nat_lit 418,hqA P 418) :: (nat_lit 424,hqA P 424) :: (nat_lit 425,hqA P 425) :: (nat_lit 431,hqA P 431) :: (nat_lit 432,hqA P 432) :: (nat_lit 438,hqA P 438) :: (nat_lit 439,hqA P 439) :: (nat_lit 445,hqA P 445) :: (nat_lit 446,hqA P 446) :: (nat_lit 452,hqA P 452) :: (nat_lit 453,hqA P 453) :: (nat_lit 457,hqA P 457) :: (nat_lit 458,hqA P 458) :: (nat_lit 464,hqA P 464) :: (nat_lit 465,hqA P 465) :: (nat_lit 471,hqA P 471) :: (nat_lit 472,hqA P 472) :: (nat_lit 476,hqA P 476) :: (nat_lit 477,hqA P 477) :: (nat_lit 481,hqA P 481) :: (nat_lit 482,hqA P 482) :: (nat_lit 488,hqA P 488) :: (nat_lit 489,hqA P 489) :: (nat_lit 495,hqA P 495) :: (nat_lit 496,hqA P 496) :: (nat_lit 502,hqA P 502) :: (nat_lit 503,hqA P 503) :: (nat_lit 509,hqA P 509) :: (nat_lit 510,hqA P 510) :: (nat_lit 516,hqA P 516) :: (nat_lit 517,hqA P 517) :: (nat_lit 523,hqA P 523) :: (nat_lit 524,hqA P 524) :: (nat_lit 530,hqA P 530) :: (nat_lit 531,hqA P 531) :: (nat_lit 537,hqA P 537) :: (nat_lit 538,hqA P 538) :: (nat_lit 542,hqA P 542) :: (nat_lit 543,hqA P 543) :: (nat_lit 549,hqA P 549) :: (nat_lit 550,hqA P 550) :: (nat_lit 556,hqA P 556) :: (nat_lit 557,hqA P 557) :: (nat_lit 563,hqA P 563) :: (nat_lit 564,hqA P 564) :: (nat_lit 568,hqA P 568) :: (nat_lit 569,hqA P 569) :: (nat_lit 575,hqA P 575) :: (nat_lit 576,hqA P 576) :: (nat_lit 582,hqA P 582) :: (nat_lit 583,hqA P 583) :: (nat_lit 589,hqA P 589) :: (nat_lit 590,hqA P 590) :: (nat_lit 596,hqA P 596) :: (nat_lit 597,hqA P 597) :: (nat_lit 601,hqA P 601) :: (nat_lit 602,hqA P 602) :: (nat_lit 608,hqA P 608) :: (nat_lit 609,hqA P 609) :: (nat_lit 613,hqA P 613) :: (nat_lit 614,hqA P 614) :: (nat_lit 620,hqA P 620) :: (nat_lit 621,hqA P 621) :: (nat_lit 625,hqA P 625) :: (nat_lit 626,hqA P 626) :: (nat_lit 630,hqA P 630) :: (nat_lit 631,hqA P 631) :: (nat_lit 637,hqA P 637) :: (nat_lit 638,hqA P 638) :: (nat_lit 644,hqA P 644) :: (nat_lit 645,hqA P 645) :: (nat_lit 651,hqA P 651) :: (nat_lit 652,hqA P 652) :: (nat_lit 658,hqA P 658) :: (nat_lit 659,hqA P 659) :: (nat_lit 663,hqA P 663) :: (nat_lit 664,hqA P 664) :: (nat_lit 670,hqA P 670) :: (nat_lit 671,hqA P 671) :: (nat_lit 675,hqA P 675) :: (nat_lit 676,hqA P 676) :: (nat_lit 682,hqA P 682) :: (nat_lit 683,hqA P 683) :: (nat_lit 689,hqA P 689) :: (nat_lit 690,hqA P 690) :: (nat_lit 696,hqA P 696) :: (nat_lit 697,hqA P 697) :: (nat_lit 701,hqA P 701) :: (nat_lit 702,hqA P 702) :: (nat_lit 708,hqA P 708) :: (nat_lit 709,hqA P 709) :: (nat_lit 713,hqA P 713) :: (nat_lit 714,hqA P 714) :: []
def hA:List Addr:=[3,4,6,15,22,23,24,25,28,35,36,37,40,47,48,49,52,59,60,61,64,71,72,73,76,80,81,87,88,94,95,101,102,108,109,115,116,122,123,127,128,132,133,139,140,146,147,153,154,160,161,165,166,170,171,177,178,184,185,189,190,196,197,201,202,206,207,213,214,218,219,223,224,230,231,235,236,242,243,247,248,249,250,251,252,253,254,255,256,257,258,259,260,266,267,271,272,278,279,285,286,292,293,299,300,306,307,313,314,318,319,323,324,330,331,337,338,342,343,349,350,354,355,361,362,363,364,365,366,367,368,369,370,371,372,373,379,380,386,387,393,394,398,399,405,406,410,411,417,418,424,425,431,432,438,439,445,446,452,453,457,458,464,465,471,472,476,477,481,482,488,489,495,496,502,503,509,510,516,517,523,524,530,531,537,538,542,543,549,550,556,557,563,564,568,569,575,576,582,583,589,590,596,597,601,602,608,609,613,614,620,621,625,626,630,631,637,638,644,645,651,652,658,659,663,664,670,671,675,676,682,683,689,690,696,697,701,702,708,709,713,714]
theorem hKA:∀ P,hA=(hK P).map (·.1):=λ_=>by kernel_rfl
abbrev hH:W.Hook:=W.kHook hK hA hKA
abbrev hQ:Program:=W.view pwX [132]
def hW:List Str:= "HandError" :: "BadKind" :: "BadPath" :: "BadTurn" :: "BadPiece" :: "LETTERS" :: "LONGEST_NAME" :: "EACH" :: "MOST_SIGNS" :: "MOST_WORDS" :: "MOST_FIELDS" :: "MOST_ITEMS" :: "MOST_KINDS" :: "DEEPEST" :: "PART_COUNTS" :: "is_name" :: "is_whole" :: "is_whole_within" :: "made_kind" :: "is_formed" :: "has_parts" :: "are_bounds" :: "are_words" :: "are_fields" :: "is_field" :: "are_rows" :: "field_kind" :: "item_kind" :: "kinds_within" :: "kind_many" :: "PERCENT" :: "is_sign" :: "is_of" :: "is_text_of" :: "holds_tuple" :: "holds_items" :: "is_record_of" :: "is_pair_of" :: "are_keyed" :: "least_value" :: "field_of" :: "record_of" :: "with_fields" :: "without_fields" :: "FIGURES" :: "LEAST_FACTOR" :: "GREATEST_FACTOR" :: "TURN_COUNTS" :: "TURN_SORTS" :: "figures_of" :: "number_of" :: "nearest" :: "is_factor" :: "kind_behind" :: "is_turn_of" :: "has_turn_parts" :: "most_figures" :: "are_led_words" :: "words_behind" :: "led_kind" :: "turn_about" :: "led_about" :: "turned" :: "led_value" :: "read_number" :: "PIECE_FORMS" :: "taken_paths" :: "made_paths" :: "record_behind" :: "has_piece_form" :: "is_part" :: "can_take" :: "kind_down" :: "takes_kinds" :: "is_kind" :: "is_separator" :: "part_kinds" :: "made_kinds" :: "can_make" :: "is_free" :: "piece_about" :: "old_values" :: "new_values" :: "value_down" :: "made_values" :: "halves" :: "joined" :: "with_new" :: "without_taken" :: "without_down" :: "with_down" :: "LONGEST_PATH" :: "is_path" :: "kind_along" :: "kind_at" :: "kind_with" :: "kind_put" :: "shape_behind" :: "change_about" :: "spot_kind" :: "moves_key" :: "entries" :: "inner_kind" :: "wheres" :: "spots" :: "places" :: "with_values" :: "led" :: "led_with" :: "KEPT" :: "MADE" :: "values_fit" :: "step" :: "step_paper" :: "kept_values" :: "new_by_where" :: "_law_mixed" :: "_law_stream" :: "_law_digit" :: "_law_items" :: "_law_kept" :: []
abbrev hX (s:Shared):Bool:=W.recOk (W.RowW.records (W.OpenRow.toRowW PySem.Challenge.rw_oldhands_k41_whole_spares_go_with_keys.row)) s
theorem Aa:∀ w:World,((W.boot_heap w.params).isNs mainGlobals && (Array.mk []:Array GenState).size == 0,(W.boot_heap w.params).objs.size,(W.boot_heap w.params).nsMap mainGlobals "__annotations__")=(true,11,hA1):=λw=>by kernel_rfl
theorem rL1:∀ w:World,(λos=>(W.staticsOk (importedModules pwX.main.body) (W.boot_heap w.params) (hp1 w.params) && W.namesBound pwX (hp1 w.params) && W.gensDone ⟨hp1 w.params,Array.mk [],{},1245,os⟩ && W.laidKept (W.boot_heap w.params) (hp1 w.params)))=λ_=>true:=λw=>by kernel_rfl
theorem rL2:∀ w:World,(λos=>W.openSeen hQ hW (importedModules pwX.main.body) hX true ⟨hp1 w.params,Array.mk [],{},1245,os⟩)=λ_=>W.openGood hQ hW:=λw=>by kernel_rfl
theorem rL3:∀ w:World,(λos=>hH.obs ⟨hp1 w.params,Array.mk [],{},1245,os⟩)=λ_=>hH.val w:=λw=>by kernel_rfl
theorem hl:W.LeftO pwX hQ hW hX hH.obs hH.val 5823 :=
 W.LeftO.of_pieces (H₀:=W.boot_heap) (H₁:=hp1) (gs₀:=Array.mk []) (gs₁:=Array.mk []) (d₀:=W.boot_drawn) (d₁:={}) (k₀:=W.boot_toks) (k₁:=1245) (m₀:=11) (ann:=hA1) (M:=12+(1+(196+(214+(214+(214+(304+(388+(388+(356+(387+(267+(375+(389+(399+(372+(345+(2))))))))))))))))))
  (W.boot_open (by kernel_rfl) (by rfl) (λs=>by rfl)) Aa Bn (by rfl) (λw=>funext λos=>W.looks_pair (congrFun (rL1 w) os) (W.looks_pair (congrFun (rL2 w) os) (congrFun (rL3 w) os)))
theorem said:PySem.Challenge.rw_oldhands_k41_whole_spares_go_with_keys.wellSaid=true:=by
 unfold W.OpenLaw.wellSaid W.OpenRow.wellSaid W.OpenRow.partSaid W.looksOpen
 repeat' (with_reducible refine W.look_both ?_ ?_)
 all_goals decide +kernel
end K41
namespace L2
open PySem PySem.Spec PyProof.Rows
abbrev Key:=Sum Int Str
def iu:Key->Value->Bool
 | .inl k,v=>Value.isInt k v
 | .inr x,v=>Value.isStrOf x v
def Bo (w:World):Key->Int
 | .inl k=>hashInt k
 | .inr x=>hashStr w x
theorem aF:∀ {k:Key} {v:Value},iu k v=true->(∃ i t,k=Sum.inl i/\v=Value.int i t)\/(∃ x t,k=Sum.inr x/\v=Value.str x t)
 | .inl i,v,h=>by
  obtain ⟨t,e⟩:=Value.isInt_shape (k:=i) (v:=v) h;exact .inl ⟨i,t,rfl,e⟩
 | .inr x,v,h=>by
  obtain ⟨t,e⟩:=Value.isStrOf_shape (x:=x) (v:=v) h;exact .inr ⟨x,t,rfl,e⟩
theorem rJ (i:Int) (t:Tok):iu (.inl i) (.int i t)=true:=by simp [iu,Value.isInt]
theorem rK (x:Str) (t:Tok):iu (.inr x) (.str x t)=true:=by simp [iu,Value.isStrOf]
theorem yy (a b:Int):decide ((Sum.inl a:Key)=Sum.inl b)=(a == b):=by
 by_cases e:a=b
 ·subst e;simp
 ·have h:¬ (Sum.inl a:Key)=Sum.inl b:=λq=>e (Sum.inl.inj q);rw [decide_eq_false h];exact (beq_eq_false_iff_ne.mpr e).symm
theorem yz (a b:Str):decide ((Sum.inr a:Key)=Sum.inr b)=decide (a=b):=by
 by_cases e:a=b
 ·subst e;simp
 ·have h:¬ (Sum.inr a:Key)=Sum.inr b:=λq=>e (Sum.inr.inj q);rw [decide_eq_false h,decide_eq_false e]
theorem yA (a:Int) (b:Str):decide ((Sum.inl a:Key)=Sum.inr b)=false:=decide_eq_false (λq=>nomatch q)
theorem yB (a:Str) (b:Int):decide ((Sum.inr a:Key)=Sum.inl b)=false:=decide_eq_false (λq=>nomatch q)
def aj (prog:Program) (w:World):PySem.KeyKind prog w Key where
 is:=iu
 hash:=Bo w
 inj:=λv a b ha hb=>by
  rcases aF ha with ⟨i,t,rfl,rfl⟩ | ⟨x,t,rfl,rfl⟩
  ·rcases aF hb with ⟨j,u,rfl,e⟩ | ⟨y,u,rfl,e⟩
   ·injection e with e1 _;rw [e1]
   ·exact nomatch e
  ·rcases aF hb with ⟨j,u,rfl,e⟩ | ⟨y,u,rfl,e⟩
   ·exact nomatch e
   ·injection e with e1 _;rw [e1]
 byValue:=λk v h=>by
  rcases aF h with ⟨i,t,rfl,rfl⟩ | ⟨x,t,rfl,rfl⟩ <;> rfl
 pyHash:=λhv h=>by
  rcases aF hv with ⟨i,t,rfl,rfl⟩ | ⟨x,t,rfl,rfl⟩
  ·exact wpAny_pyHash_int h
  ·exact wpAny_pyHash_str h
 eqBool:=λhu hv h=>by
  rcases aF hu with ⟨i,t,rfl,rfl⟩ | ⟨x,t,rfl,rfl⟩
  ·rcases aF hv with ⟨j,u,rfl,rfl⟩ | ⟨y,u,rfl,rfl⟩
   ·rw [yy] at h;exact wpAny_eqBool_int h
   ·rw [yA] at h;exact SeqAt.EqAt.int_str i t y u _ _ _ _ h
  ·rcases aF hv with ⟨j,u,rfl,rfl⟩ | ⟨y,u,rfl,rfl⟩
   ·rw [yB] at h;exact SeqAt.EqAt.str_int x t j u _ _ _ _ h
   ·rw [yz] at h;exact wpAny_eqBool_str h
 «strs»:=λk x t v h=>by
  rcases aF h with ⟨i,u,rfl,e⟩ | ⟨y,u,rfl,e⟩
  ·exact nomatch e
  ·injection e with e1 _
   subst e1
   cases v <;> rfl
theorem nh (prog:Program) (w:World) (i:Int) (t:Tok):(aj prog w).is (.inl i) (.int i t)=true:=rJ i t
theorem ni (prog:Program) (w:World) (x:Str) (t:Tok):(aj prog w).is (.inr x) (.str x t)=true:=rK x t
inductive V where
 | non | bl (b:Bool) | int (i:Int) | str (x:Str) | byt (b:Array UInt8) | flt (b:UInt64) | ref (a:Addr) | ty (n:String)
 deriving DecidableEq
def RelV:V->Value->Prop
 | .non,u=>u=Value.none
 | .bl b,u=>u=Value.bool b
 | .int i,u=>∃ t,u=Value.int i t
 | .str x,u=>∃ t,u=Value.str x t
 | .byt b,u=>∃ t,u=Value.bytes b t
 | .flt b,u=>∃ t,u=Value.float b t
 | .ref a,u=>u=Value.ref a
 | .ty n,u=>u=Value.type n
abbrev Vals:List V->List Value->Prop:=Paired RelV
theorem Vals.length {xs:List V} {us:List Value} (r:Vals xs us):xs.length=us.length:=Paired.length r
theorem Vals.get:∀ {xs:List V} {us:List Value} {i:Nat} {x:V},Vals xs us->xs[i]?=some x->∃ u,us[i]?=some u/\RelV x u
 | _,_,_,_,.nil,e=>by simp at e
 | _,_,0,_,.cons r _,e=>by simp at e;subst e;exact ⟨_,rfl,r⟩
 | _,_,i+1,x,.cons _ t,e=>by
  obtain ⟨u,h1,h2⟩:=Vals.get (i:=i) (x:=x) t (by simpa using e);exact ⟨u,by simpa using h1,h2⟩
theorem Vals.set {x:V} {u:Value} (r:RelV x u):∀ {xs:List V} {us:List Value} (i:Nat),Vals xs us->Vals (xs.set i x) (us.set i u)
 | _,_,_,.nil=>.nil
 | _,_,0,.cons _ t=>.cons r t
 | _,_,i+1,.cons q t=>.cons q (Vals.set r i t)
theorem Vals.append:∀ {xs ys:List V} {us ws:List Value},Vals xs us->Vals ys ws->Vals (xs++ys) (us++ws)
 | _,_,_,_,.nil,s=>s
 | _,_,_,_,.cons r t,s=>.cons r (Vals.append t s)
theorem Vals.take:∀ {xs:List V} {us:List Value} (n:Nat),Vals xs us->Vals (xs.take n) (us.take n)
 | _,_,0,_=>.nil
 | _,_,_+1,.nil=>.nil
 | _,_,n+1,.cons r t=>.cons r (Vals.take n t)
theorem Vals.drop:∀ {xs:List V} {us:List Value} (n:Nat),Vals xs us->Vals (xs.drop n) (us.drop n)
 | _,_,0,r=>r
 | _,_,_+1,.nil=>.nil
 | _,_,n+1,.cons _ t=>Vals.drop n t
def RelO:Option V->Option Value->Prop
 | some v,some u=>RelV v u
 | none,none=>True
 | _,_=>False
def KV {κ:Type}:List (κ×V)->List (κ×Value)->Prop:=Paired λ(p:κ×V) (q:κ×Value)=>p.1=q.1/\RelV p.2 q.2
def kV:Key->V
 | .inl i=>.int i
 | .inr x=>.str x
inductive HO where
 | lst (xs:List V)
 | tup (xs:List V)
 | dK (kvs:List (Key×V)) | dT (kvs:List (List Key×V))
 | set (S:Int->Bool) (n:Nat)
 | ins (C dx:Addr) (fs:List (Str×V))
 | own (x:Addr)
 | xd (fs:List (Str×V))
 | met (f x:Addr)
 | rng (lo hi:Int)
 | frz (o:Obj) (u:HO)
 | tbl (ps:Array Value)
 | ext (φ:Heap->Prop)
abbrev Hp:=Addr->Option HO
def upd (H:Hp) (a:Addr) (o:HO):Hp:=λb=>if b=a then some o else H b
theorem aa {H:Hp} {a:Addr} {o:HO}:upd H a o a=some o:=by unfold upd;rw [if_pos rfl]
theorem ao {H:Hp} {a b:Addr} {o:HO} (h:b≠a):upd H a o b=H b:=by unfold upd;rw [if_neg h]
theorem wm {H:Hp} {a:Addr} {o u:HO}:upd (upd H a o) a u=upd H a u:=by
 funext b;unfold upd;split <;> rfl
theorem ne_of {H:Hp} {a b:Addr} {o u:HO} (h:H a=some o) (h':H b=some u) (d:o≠u):a≠b:=by
 intro e;subst e;rw [h] at h';exact d (Option.some.inj h')
theorem af {H:Hp} {a b:Addr} {o:HO} (h:H a=some o) (h':H b=none):a≠b:=by
 intro e;subst e;rw [h] at h';cases h'
section
variable (P:Program) (w:World)
def ObjOk (H:Hp) (h:Heap) (a:Addr):HO->Prop
 | .lst xs=>xs.length<=sizeLine/\∃ (its:List Value) (n:Nat),Vals xs its/\h.get? a=some { cls:=.type "list",data:=.seq its.toArray n }
 | .tup xs=>xs.length<=sizeLine/\∃ its:List Value,Vals xs its/\IsTup h a its.toArray
 | .dK kvs=>kvs.length<=sizeLine/\(a == sysModules)=false/\∃ vs,KV kvs vs/\h.DictOf (aj P w) a vs
 | .dT kvs=>kvs.length<=sizeLine/\(a == sysModules)=false/\∃ xs:List (List Key×Addr×Value),
   Paired (λ(p:List Key×V) (q:List Key×Addr×Value)=>p.1=q.1/\H q.2.1=some (.tup (p.1.map kV))/\RelV p.2 q.2.2) kvs xs /\
   ∃ o es ep,h.get? a=some o/\o.ExactDict/\o.data=.dict es ep/\es.toList=xs.map (entryOfKey (tupleKind (aj P w)))/\(xs.map (·.1)).Nodup
 | .set S n=>h.SetOf (intKind P w) a S n
 | .ins C dx fs=>H dx=some (.own a)/\fs.length<=1000/\dx≠a/\h.get? a=some (W.instObj C dx) /\
   ∃ mA,h.Ns1 dx mA/\(∀ f,RelO (fs.lookup f) (mA f))/\PySem.Within mA (fs.map (·.1))
 | .own _=>∃ o,h.get? a=some o
 | .xd fs=>∃ mA,h.Ns1 a mA/\∀ f,RelO (fs.lookup f) (mA f)
 | .rng lo hi=>∃ t u v,h.get? a=some { cls:=.type "range",data:=.fields #[.int lo t,.int hi u,.int 1 v] }
 | .frz o u=>h.get? a=some o/\ObjOk H h a u
 | .tbl ps=>h.get? a=some { cls:=.none,data:=.fields ps }
 | .met f x=>h.get? a=some (W.methodObj (.ref f) (.ref x))
 | .ext φ=>φ h/\(∃ o,h.get? a=some o)/\∀ h1 h2:Heap,φ h1->(∀ o,h1.get? a=some o->h2.get? a=some o)->φ h2
def HOk (H:Hp) (h:Heap):Prop:=∀ a o,H a=some o->ObjOk P w H h a o
end
section
variable {P:Program} {w:World} {H H':Hp} {h h':Heap} {a:Addr} {o:HO}
theorem ObjOk.lt (x:ObjOk P w H h a o):a < h.objs.size:=by
 cases o with
 | lst xs=>obtain ⟨_,_,_,_,e⟩:=x;exact aAe e
 | tup xs=>obtain ⟨_,_,_,p⟩:=x;exact p.lt
 | dK kvs=>obtain ⟨_,_,_,_,o,_,_,e,_⟩:=x;exact aAe e
 | dT kvs=>obtain ⟨_,_,_,_,o,_,_,e,_⟩:=x;exact aAe e
 | set S n=>obtain ⟨o,_,_,_,e,_⟩:=x;exact aAe e
 | ins C dx fs=>obtain ⟨_,_,_,e,_⟩:=x;exact aAe e
 | own y=>obtain ⟨_,e⟩:=x;exact aAe e
 | xd fs=>obtain ⟨_,⟨_,_,_,e,_⟩,_⟩:=x;exact aAe e
 | rng lo hi=>obtain ⟨_,_,_,e⟩:=x;exact aAe e
 | frz ob u=>obtain ⟨e,_⟩:=x;exact aAe e
 | tbl ps=>exact aAe (show h.get? a=some _ from x)
 | met f y=>exact aAe (show h.get? a=some _ from x)
 | ext φ=>obtain ⟨_,⟨_,e⟩,_⟩:=x;exact aAe e
theorem Paired.mapP {α β:Type} {F G:α->β->Prop}:∀ {l₁:List α} {l₂:List β},Paired F l₁ l₂->(∀ a b,F a b->G a b)->Paired G l₁ l₂
 | _,_,.nil,_=>.nil
 | _,_,.cons r t,f=>.cons (f _ _ r) (Paired.mapP t f)
theorem ObjOk.stay (x:ObjOk P w H h a o) (k:∀ b u,(b=a\/H b=some (.own a))->h.get? b=some u->h'.get? b=some u)
  (ho:∀ b,H b=some (.own a)->H' b=some (.own a)) (ht:∀ b xs,H b=some (.tup xs)->H' b=some (.tup xs)):ObjOk P w H' h' a o:=by
 induction o with
 | lst xs=>obtain ⟨z,its,n,r,e⟩:=x;exact ⟨z,its,n,r,k _ _ (.inl rfl) e⟩
 | tup xs=>obtain ⟨z,its,r,ob,e,c⟩:=x;exact ⟨z,its,r,ob,k _ _ (.inl rfl) e,c⟩
 | dK kvs=>obtain ⟨z,y,vs,r,ob,es,ep,e,c⟩:=x;exact ⟨z,y,vs,r,ob,es,ep,k _ _ (.inl rfl) e,c⟩
 | dT kvs =>
  obtain ⟨z,y,xs,r,ob,es,ep,e,c⟩:=x;exact ⟨z,y,xs,Paired.mapP r λp q z=>⟨z.1,ht _ _ z.2.1,z.2.2⟩,ob,es,ep,k _ _ (.inl rfl) e,c⟩
 | set S n=>obtain ⟨ob,es,ep,t,e,c⟩:=x;exact ⟨ob,es,ep,t,k _ _ (.inl rfl) e,c⟩
 | ins C dx fs =>
  obtain ⟨d,z,ne,e,mA,⟨od,es,ep,e2,c⟩,r⟩:=x;exact ⟨ho _ d,z,ne,k _ _ (.inl rfl) e,mA,⟨od,es,ep,k _ _ (.inr d) e2,c⟩,r⟩
 | own y=>obtain ⟨ob,e⟩:=x;exact ⟨ob,k _ _ (.inl rfl) e⟩
 | xd fs=>obtain ⟨mA,⟨od,es,ep,e,c⟩,r⟩:=x;exact ⟨mA,⟨od,es,ep,k _ _ (.inl rfl) e,c⟩,r⟩
 | rng lo hi=>obtain ⟨t,u,v,e⟩:=x;exact ⟨t,u,v,k _ _ (.inl rfl) e⟩
 | frz ob u ih=>obtain ⟨e,q⟩:=x;exact ⟨k _ _ (.inl rfl) e,ih q⟩
 | tbl ps =>
  have e:h.get? a=some { cls:=.none,data:=.fields ps }:=x;show h'.get? a=some { cls:=.none,data:=.fields ps };exact k a _ (.inl rfl) e
 | met f y =>
  have e:h.get? a=some (W.methodObj (.ref f) (.ref y)):=x;show h'.get? a=some (W.methodObj (.ref f) (.ref y));exact k a _ (.inl rfl) e
 | ext φ=>obtain ⟨p,⟨o,e⟩,st⟩:=x;exact ⟨st _ _ p λo q=>k _ _ (.inl rfl) q,⟨o,k _ _ (.inl rfl) e⟩,st⟩
theorem HOk.lt (x:HOk P w H h) (e:H a=some o):a < h.objs.size:=(x a o e).lt
theorem HOk.fresh (x:HOk P w H h) (e:h.objs.size<=a):H a=none:=by
 cases q:H a with
 | none=>rfl
 | some u=>exact absurd (aAn (x.lt q) e) (aAM _)
theorem HOk.kept (x:HOk P w H h) (k:∀ b u,h.get? b=some u->h'.get? b=some u):HOk P w H h':=λa o e =>
 (x a o e).stay (λb u _ q=>k b u q) (λ_ q=>q) λ_ _ q=>q
theorem HOk.laid (x:HOk P w H h) (k:∀ b u,h.get? b=some u->h'.get? b=some u) (hp:h.objs.size<=a) (new:ObjOk P w (upd H a o) h' a o):HOk P w (upd H a o) h':=λb u e=>by
 have hn:=x.fresh hp
 by_cases hb:b=a
 ·subst hb;rw [aa] at e;cases e;exact new
 ·rw [ao hb] at e;exact (x b u e).stay (λc v _ q=>k c v q) (λc q=>by rw [ao (af q hn)];exact q) λc xs q=>by rw [ao (af q hn)];exact q
end
def Rd (H:Hp) (a:Addr) (u:HO):Prop:=H a=some u\/∃ o,H a=some (.frz o u)
theorem Rd.ok {P:Program} {w:World} {H:Hp} {h:Heap} {a:Addr} {u:HO} (r:Rd H a u) (x:HOk P w H h):ObjOk P w H h a u:=by
 rcases r with r | ⟨o,r⟩
 ·exact x a u r
 ·obtain ⟨_,q⟩:=x a _ r;exact q
def Mut:Option HO->Prop
 | some (.lst _)=>True
 | some (.dK _)=>True
 | some (.dT _)=>True
 | some (.set _ _)=>True
 | some (.ins _ _ _)=>True
 | some (.ext _)=>True
 | _=>False
section
variable {P:Program} {w:World} {H:Hp} {h h':Heap} {x e:Addr} {o':HO}
theorem HOk.write (ok:HOk P w H h) (mu:Mut (H x)) (he:e=x\/H e=some (.own x)) (k:∀ b u,b≠e->h.get? b=some u->h'.get? b=some u) (heo:∃ u,h'.get? e=some u)
  (new:ObjOk P w (upd H x o') h' x o'):HOk P w (upd H x o') h':=λb u q=>by
 have nown:∀ c y,H c=some (.own y)->c≠x:=λc y r z=>by subst z;rw [r] at mu;exact mu
 have ntup:∀ c xs,H c=some (.tup xs)->c≠x:=λc xs r z=>by subst z;rw [r] at mu;exact mu
 by_cases hb:b=x
 ·subst hb;rw [aa] at q;cases q;exact new
 ·rw [ao hb] at q
  by_cases hbe:b=e
  ·have q':H b=some (.own x):=by
    rcases he with z | z
    ·exact absurd (hbe.trans z) hb
    ·rw [hbe];exact z
   rw [q] at q';cases q';obtain ⟨v,hv⟩:=heo;exact ⟨v,by rw [hbe];exact hv⟩
  ·refine (ok b u q).stay (λc v hc r=>k c v ?_ r) (λc r=>by rw [ao (nown c b r)];exact r) λc xs r=>by rw [ao (ntup c xs r)];exact r
   rcases hc with rfl | hc
   ·exact hbe
   ·rintro rfl;rcases he with z | z
    ·exact nown c b hc z
    ·rw [hc] at z;cases z;exact hb rfl
end
structure Un (fs ex:List Addr) (H H':Hp) (h h':Heap):Prop where
 keep:∀ b o,h.get? b=some o->H b=none->b∉fs->b∉ex->h'.get? b=some o
 slot:∀ b o,h.get? b=some o->H b=none->b∈fs->b∉ex->∃ sl,h'.get? b=some { o with slots:=sl }
 free:∀ b o,h.get? b=some o->H b=none->b∉ex->H' b=none
 there:∀ b o,h.get? b=some o->b∉ex->∃ o',h'.get? b=some o'
 tups:∀ b xs,H b=some (.tup xs)->H' b=some (.tup xs)
 frzs:∀ b o u,H b=some (.frz o u)->H' b=some (.frz o u)
 tbls:∀ b ps,H b=some (.tbl ps)->∃ more,H' b=some (.tbl (ps++more))
section
variable {fs fs' ex ex':List Addr} {H H1 H2:Hp} {h h1 h2 h':Heap} {a x e:Addr} {o:HO}
theorem Un.any (u:Un fs ex H H1 h h1) {b:Addr} {ob:Obj} (q:h.get? b=some ob) (n:H b=none) (hx:b∉ex):∃ sl,h1.get? b=some { ob with slots:=sl }:=by
 by_cases hb:b∈fs
 ·exact u.slot b ob q n hb hx
 ·exact ⟨ob.slots,u.keep b ob q n hb hx⟩
theorem Un.trans (a:Un fs ex H H1 h h1) (b:Un fs ex H1 H2 h1 h2):Un fs ex H H2 h h2 where
 keep:=λc ob q n hc hx=>b.keep c ob (a.keep c ob q n hc hx) (a.free c ob q n hx) hc hx
 slot:=λc ob q n hc hx=>by
  obtain ⟨sl,e1⟩:=a.slot c ob q n hc hx;obtain ⟨sl',e2⟩:=b.slot c _ e1 (a.free c ob q n hx) hc hx;exact ⟨sl',e2⟩
 free:=λc ob q n hx=>by
  obtain ⟨o',e1⟩:=a.there c ob q hx;exact b.free c o' e1 (a.free c ob q n hx) hx
 there:=λc ob q hx=>by
  obtain ⟨o',e1⟩:=a.there c ob q hx;exact b.there c o' e1 hx
 tups:=λc xs q=>b.tups c xs (a.tups c xs q)
 frzs:=λc ob xs q=>b.frzs c ob xs (a.frzs c ob xs q)
 tbls:=λc ps q=>by
  obtain ⟨m1,e1⟩:=a.tbls c ps q;obtain ⟨m2,e2⟩:=b.tbls c _ e1;exact ⟨m1++m2,by rw [e2,Array.append_assoc]⟩
theorem Un.kept (k:∀ b u,h.get? b=some u->h'.get? b=some u):Un fs ex H H h h' :=
 ⟨λb ob q _ _ _=>k b ob q,λb ob q _ _ _=>⟨ob.slots,k b ob q⟩,λ_ _ _ n _=>n,λb ob q _=>⟨ob,k b ob q⟩,λ_ _ q=>q,λ_ _ _ q=>q,λ_ ps q=>⟨#[],by rw [q];simp⟩⟩
theorem Un.refl:Un fs ex H H h h:=Un.kept λ_ _ q=>q
theorem Un.laid (k:∀ b u,h.get? b=some u->h'.get? b=some u) (hp:h.objs.size<=a) (hn:H a=none):Un fs ex H (upd H a o) h h' where
 keep:=λb u q _ _ _=>k b u q
 slot:=λb u q _ _ _=>⟨u.slots,k b u q⟩
 free:=λb u q n _=>by rw [ao (aAk (aAn (aAe q) hp))];exact n
 there:=λb u q _=>⟨u,k b u q⟩
 tups:=λb xs q=>by rw [ao (af q hn)];exact q
 frzs:=λb u xs q=>by rw [ao (af q hn)];exact q
 tbls:=λb ps q=>⟨#[],by rw [ao (af q hn),q];simp⟩
theorem Un.write (mu:Mut (H x)) (he:e=x\/H e=some (.own x)) (k:∀ b u,b≠e->h.get? b=some u->h'.get? b=some u) (heo:∃ u,h'.get? e=some u):Un fs ex H (upd H x o) h h':=by
 have hx:∀ b,H b=none->b≠x:=λb n z=>by subst z;rw [n] at mu;exact mu
 have hb:∀ b,H b=none->b≠e:=λb n z=>by
  subst z;rcases he with r | r
  ·exact hx b n r
  ·rw [n] at r;cases r
 have hm:∀ b u,H b=some u->¬ Mut (some u)->b≠x:=λb u q nm z=>by subst z;rw [q] at mu;exact nm mu
 refine ⟨λb u q n _ _=>k b u (hb b n) q,λb u q n _ _=>⟨u.slots,k b u (hb b n) q⟩,λb u q n _=>by rw [ao (hx b n)];exact n,λb u q _=>?_,
  λb xs q=>by rw [ao (hm b _ q λz=>z)];exact q,λb u xs q=>by rw [ao (hm b _ q λz=>z)];exact q,λb ps q=>⟨#[],by rw [ao (hm b _ q λz=>z),q];simp⟩⟩
 by_cases hbe:b=e
 ·subst hbe;exact heo
 ·exact ⟨u,k b u hbe q⟩
end
def trk (h:Heap) (H:Hp):List Addr:=(List.range h.objs.size).filter λa=>(H a).isSome
def lv (h:Heap) (H:Hp):Heap:=W.hideAll h (trk h H)
theorem rM (h:Heap) (H:Hp):(lv h H).objs.size=h.objs.size:=W.hideAll_size _ _
theorem tP {h:Heap} {H:Hp} {b:Addr} {o:Obj} (e:h.get? b=some o) (n:H b=none):(lv h H).get? b=some o :=
 W.hideAll_get _ e λhm=>by
  have q:(H b).isSome=true:=(List.mem_filter.mp hm).2;rw [n] at q;simp at q
theorem wn {h:Heap} {H:Hp} {b:Addr} {o:Obj} (e:(lv h H).get? b=some o):h.get? b=some o/\H b=none:=by
 have e':h.get? b=some o:=W.of_hideAll (trk h H) e;refine ⟨e',?_⟩
 cases q:H b with
 | none=>rfl
 | some x =>
  have hm:b∈trk h H:=List.mem_filter.mpr ⟨aB1.mpr (aAe e'),by simp [q]⟩;have z:(lv h H).get? b=none:=W.hideAll_none (trk h H) hm;rw [z] at e;cases e
def wo (g h:Heap) (L:Addr):List (Addr×Obj):=(List.range h.objs.size).filterMap λa=>if a=L\/(g.get? a).isSome=true then none else (h.get? a).map λo=>(a,o)
def rest (g h:Heap) (L d:Addr):List (Addr×Obj):=(wo g h L).filter λp=>decide (p.1≠d)
structure Mod (K:W.Frag) (mg:Str->Option Value) (base:Heap):Prop where
 kin:K.In base
 glob:base.Ns mainGlobals mg
 blt:∃ mb,base.Ns builtinsNs mb/\∀ x:Str,x≠ "__name__" ->mb x=bootBuiltins x
 nolimit:base.NoLimit
structure Cx where
 prog:Program
 w:World
 K:W.Frag
 mg:Str->Option Value
 base:Heap
 A:Around
 N:List Str
 s₀:Shared
 H₀:Hp
 env:Env
 outer:List Env
 stack:List Env
 ex:List Addr
 fn:Str->Bool
 calm:Bool
 pn:List (Addr×Obj)
 xe:Value->Shared->Prop
def frs (l:List Env):List Addr:=l.filterMap (·.frame)
abbrev Cx.fs (X:Cx):List Addr:=frs X.outer
def Vis (sc:Scope) (x:Str):Prop:=sc.names.lookup x=some .local\/sc.names.lookup x=some .cell\/sc.names.lookup x=some .free
def Loc (sc:Scope) (x:Str):Prop:=sc.names.lookup x=some .local\/sc.names.lookup x=some .cell
def Bq (env:Env) (h:Heap) (m:Str->Option Value) (x:Str) (u:Value):Prop :=
 (env.kindOf x=some .local/\m x=some u)\/((env.kindOf x=some .cell\/env.kindOf x=some .free)/\∃ c,env.cells.lookup x=some c/\h.IsCell c (some u))
structure Cx.Ok (X:Cx):Prop where
 mod:Mod X.K X.mg X.base
 kind:X.env.scope.kind=.function
 glob:X.env.globals=mainGlobals
 blt:X.env.builtins=builtinsNs
 above:X.s₀.heap.objs.size<=X.env.locals
 inj:∀ x y c,X.env.cells.lookup x=some c->X.env.cells.lookup y=some c->x=y
 has:∀ x,(X.env.kindOf x=some .cell\/X.env.kindOf x=some .free)->∃ c,X.env.cells.lookup x=some c
 cab:∀ x c,X.fn x=true->X.env.cells.lookup x=some c->X.s₀.heap.objs.size<=c
 hd:X.calm=true->X.A.handled=none
 frames:X.A.frames=some X.stack
 stk:X.stack=X.outer\/(X.stack=X.env :: X.outer/\X.env.frame=some X.env.locals)
 exf:∀ b∈X.ex,b≠X.env.locals/\∀ x c,X.env.cells.lookup x=some c->c≠b
 bs:∀ b o,X.base.get? b=some o->X.s₀.heap.get? b=some o/\X.H₀ b=none
 bsz:X.base.objs.size<=X.s₀.heap.objs.size
 noex:∀ b o,X.base.get? b=some o->b∉X.ex
 exfs:∀ b∈X.ex,b∉X.fs
 funs:X.s₀.heap.FunFrames X.base X.outer
 frf:∀ b∈X.fs,X.H₀ b=none
structure Inv (X:Cx) (pins:List (Addr×Obj)) (σ:List (Option V)) (H:Hp) (s:Shared):Prop where
 ok:X.Ok
 os:s.os=X.s₀.os
 bare:AllBare s.gens
 base:Un X.fs X.ex X.H₀ H X.s₀.heap s.heap
 loc:∃ m,s.heap.Ns X.env.locals m/\∀ (i:Nat) (x:Str) (v:V),X.N[i]?=some x->σ[i]?=some (some v)->Vis X.env.scope x->∃ u,RelV v u/\Bq X.env s.heap m x u
 cell:∀ x c,X.env.cells.lookup x=some c->∃ v,s.heap.IsCell c v
 free:H X.env.locals=none
 freeC:∀ x c,X.env.cells.lookup x=some c->H c=none
 pin:∀ p∈X.pn++pins,s.heap.get? p.1=some p.2/\H p.1=none/\p.1≠X.env.locals/\p.1∉X.fs/\∀ v,p.2.data≠.cell v
 hok:HOk X.prog X.w H s.heap
 len:σ.length=X.N.length
section
variable {X:Cx} {pins:List (Addr×Obj)} {σ:List (Option V)} {H H':Hp} {s:Shared} {h':Heap}
theorem Cx.Ok.nofr (ok:X.Ok) {b:Addr} {o:Obj} (e:X.base.get? b=some o):b∉X.fs:=λhb=>by
 have:=(ok.funs.mem hb).1;rw [e] at this;cases this
theorem Inv.bs (I:Inv X pins σ H s):∀ b o,X.base.get? b=some o->s.heap.get? b=some o/\H b=none:=λb o e =>
 ⟨I.base.keep b o (I.ok.bs b o e).1 (I.ok.bs b o e).2 (I.ok.nofr e) (I.ok.noex b o e),I.base.free b o (I.ok.bs b o e).1 (I.ok.bs b o e).2 (I.ok.noex b o e)⟩
theorem Inv.bk (I:Inv X pins σ H s):∀ b o,X.base.get? b=some o->s.heap.get? b=some o:=λb o e=>(I.bs b o e).1
theorem Inv.mod (I:Inv X pins σ H s):Mod X.K X.mg X.base:=I.ok.mod
theorem Inv.kIn (I:Inv X pins σ H s):X.K.In s.heap:=I.ok.mod.kin.keeps I.bk
theorem Inv.lt (I:Inv X pins σ H s):X.env.locals < s.heap.objs.size:=let ⟨_,hn,_⟩:=I.loc;hn.lt
theorem Inv.sz (I:Inv X pins σ H s):X.s₀.heap.objs.size<=s.heap.objs.size:=aAE I.ok.above (aAK I.lt)
theorem Inv.nofs (I:Inv X pins σ H s) {a:Addr} (h:s.heap.objs.size<=a):a∉X.fs:=λhb=>by
 obtain ⟨_,o,ho,_⟩:=I.ok.funs.mem hb;exact absurd (aAn (aAe ho) (aAE I.sz h)) (aAM _)
theorem Inv.cne (I:Inv X pins σ H s):∀ x c,X.env.cells.lookup x=some c->c≠X.env.locals:=λx c e z=>by
 obtain ⟨v,o,ho,hd⟩:=I.cell x c e;obtain ⟨m,⟨o',es,ep,ho',hd',_⟩,_⟩:=I.loc;rw [z,ho'] at ho;cases ho;rw [hd'] at hd;cases hd
theorem Inv.funs (I:Inv X pins σ H s):s.heap.FunFrames X.base X.outer:=by
 have all:∀ (l:List Env),(∀ b∈frs l,b∈X.fs)->X.s₀.heap.FunFrames X.base l->s.heap.FunFrames X.base l:=by
  intro l
  induction l with
  | nil=>intro _ _;trivial
  | cons env r ih =>
   intro hs hl;obtain ⟨hk,⟨L,o,hf,hn,ho,hd⟩,hr⟩:=hl;have hL:L∈X.fs:=hs L (by unfold frs;rw [aBH,hf];exact aAq);obtain ⟨sl,e⟩:=I.base.slot L o ho (I.ok.frf L hL) hL λz=>I.ok.exfs L z hL;exact ⟨hk,⟨L,_,hf,hn,e,hd⟩,ih (λb hb=>hs b (by unfold frs;rw [aBH,hf];exact aAr _ hb)) hr⟩
 exact all X.outer (λ_ hb=>hb) I.ok.funs
theorem Inv.stack (I:Inv X pins σ H s):s.heap.FunFrames X.base X.stack:=by
 rcases I.ok.stk with e | ⟨e,hf⟩
 ·rw [e];exact I.funs
 ·rw [e];obtain ⟨m,hn,_⟩:=I.loc;refine .cons (by rw [I.ok.kind];decide) hf hn ?_ I.funs;exact Heap.get?_none_of_le (aAE I.ok.bsz I.ok.above)
theorem Inv.stkSub (I:Inv X pins σ H s):∀ b∈frs X.stack,b∈X.env.locals :: X.fs:=λb hb=>by
 rcases I.ok.stk with e | ⟨e,hf⟩
 ·rw [e] at hb;exact aAr _ hb
 ·rw [e] at hb;unfold frs at hb;rw [aBH,hf] at hb;exact hb
theorem Inv.stkFree (I:Inv X pins σ H s):∀ b∈frs X.stack,H b=none:=λb hb=>by
 rcases aAf.mp (I.stkSub b hb) with e | hb
 ·rw [e];exact I.free
 ·obtain ⟨_,o,ho,_⟩:=I.ok.funs.mem hb;exact I.base.free b o ho (I.ok.frf b hb) λz=>I.ok.exfs b z hb
theorem Inv.step {g':Array GenState} {t':Nat} {d':Drawn} {ch:List Addr} (I:Inv X pins σ H s)
  (hch:∀ b∈ch,(b∈X.ex\/X.s₀.heap.objs.size<=b)/\b≠X.env.locals/\(∀ x c,X.env.cells.lookup x=some c->c≠b)/\∀ p∈X.pn++pins,p.1≠b)
  (keep:∀ b o,b≠X.env.locals->b∉X.fs->b∉ch->s.heap.get? b=some o->H b=none->h'.get? b=some o)
  (slot:∀ b o,b≠X.env.locals->b∈X.fs->b∉ch->s.heap.get? b=some o->H b=none->∃ sl,h'.get? b=some { o with slots:=sl }) (free:∀ b o,b∉ch->s.heap.get? b=some o->H b=none->H' b=none)
  (there:∀ b o,b∉ch->s.heap.get? b=some o->∃ o',h'.get? b=some o')
  (tups:∀ b xs,H b=some (.tup xs)->H' b=some (.tup xs)) (frzs:∀ b o u,H b=some (.frz o u)->H' b=some (.frz o u)) (tbls:∀ b ps,H b=some (.tbl ps)->∃ more,H' b=some (.tbl (ps++more)))
  (ns:∀ m,s.heap.Ns X.env.locals m->h'.Ns X.env.locals m) (hok:HOk X.prog X.w H' h') (hg:AllBare g') :
  Inv X pins σ H' { s with heap:=h',gens:=g',drawn:=d',toks:=t' }:=by
 have neL:∀ b o,X.s₀.heap.get? b=some o->b≠X.env.locals:=λb o e=>aAk (aAn (aAe e) I.ok.above);have neC:∀ b o,X.s₀.heap.get? b=some o->b∉X.ex->b∉ch:=λb o e hx hb=>by
  rcases (hch b hb).1 with z | z
  ·exact hx z
  ·exact absurd (aAn (aAe e) z) (aAM _)
 have cellK:∀ x c,X.env.cells.lookup x=some c->∀ v,s.heap.IsCell c v->h'.IsCell c v:=λx c e v ⟨o,ho,hd⟩=>by
  have nch:c∉ch:=λz=>(hch c z).2.2.1 x c e rfl
  by_cases hc:c∈X.fs
  ·obtain ⟨sl,q⟩:=slot c o (I.cne x c e) hc nch ho (I.freeC x c e);exact ⟨_,q,hd⟩
  ·exact ⟨o,keep c o (I.cne x c e) hc nch ho (I.freeC x c e),hd⟩
 refine ⟨I.ok,I.os,hg,⟨λb o e n hb hx=>?_,λb o e n hb hx=>?_,λb o e n hx=>?_,λb o e hx=>?_,λb xs e=>tups b xs (I.base.tups b xs e),λb o xs e=>frzs b o xs (I.base.frzs b o xs e),λb ps e=>?_⟩,?_,λx c e=>?_,?_,λx c e=>?_,λp hp=>?_,hok,I.len⟩
 ·exact keep b o (neL b o e) hb (neC b o e hx) (I.base.keep b o e n hb hx) (I.base.free b o e n hx)
 ·obtain ⟨sl,e1⟩:=I.base.slot b o e n hb hx;obtain ⟨sl',e2⟩:=slot b _ (neL b o e) hb (neC b o e hx) e1 (I.base.free b o e n hx);exact ⟨sl',e2⟩
 ·obtain ⟨o',e1⟩:=I.base.there b o e hx;exact free b o' (neC b o e hx) e1 (I.base.free b o e n hx)
 ·obtain ⟨o',e1⟩:=I.base.there b o e hx;exact there b o' (neC b o e hx) e1
 ·obtain ⟨m1,e1⟩:=I.base.tbls b ps e;obtain ⟨m2,e2⟩:=tbls b _ e1;exact ⟨m1++m2,by rw [e2,Array.append_assoc]⟩
 ·obtain ⟨m,hn,hl⟩:=I.loc;refine ⟨m,ns m hn,λi x v e1 e2 e3=>?_⟩;obtain ⟨u,r,l⟩:=hl i x v e1 e2 e3;refine ⟨u,r,?_⟩;rcases l with l | ⟨k,c,e,z⟩
  ·exact .inl l
  ·exact .inr ⟨k,c,e,cellK x c e _ z⟩
 ·obtain ⟨v,z⟩:=I.cell x c e;exact ⟨v,cellK x c e v z⟩
 ·obtain ⟨m,⟨o,_,_,ho,_⟩,_⟩:=I.loc;exact free _ o (λz=>(hch _ z).2.1 rfl) ho I.free
 ·obtain ⟨v,o,ho,hd⟩:=I.cell x c e;exact free c o (λz=>(hch c z).2.2.1 x c e rfl) ho (I.freeC x c e)
 ·obtain ⟨e,n,ne,nf,d⟩:=I.pin p hp;have nch:p.1∉ch:=λz=>(hch p.1 z).2.2.2 p hp rfl;exact ⟨keep p.1 p.2 ne nf nch e n,free p.1 p.2 nch e n,ne,nf,d⟩
theorem Inv.un {t':Nat} (I:Inv X pins σ H s) (u:Un X.fs [] H H' s.heap h') (hok:HOk X.prog X.w H' h'):Inv X pins σ H' { s with heap:=h',toks:=t' }:=by
 obtain ⟨m,⟨o,es,ep,ho,r⟩,_⟩:=id I.loc;obtain ⟨sl,hL⟩:=u.any ho I.free (by simp);exact I.step (g':=s.gens) (d':=s.drawn) (ch:=[]) (λ_ z=>nomatch z) (λb o _ hb _ e n=>u.keep b o e n hb (by simp)) (λb o _ hb _ e n=>u.slot b o e n hb (by simp)) (λb o _ e n=>u.free b o e n (by simp)) (λb o _ e=>u.there b o e (by simp)) u.tups u.frzs u.tbls (λm' hm=>by
  obtain ⟨o',es',ep',ho',r'⟩:=hm;rw [ho] at ho';cases ho';exact ⟨_,es',ep',hL,r'⟩) hok I.bare
theorem Inv.call {g':Array GenState} {t':Nat} {d':Drawn} {ch:List Addr} (I:Inv X pins σ H s) (u:Un (frs X.stack) ch H H' s.heap h') (hok:HOk X.prog X.w H' h') (hg:AllBare g')
  (hch:∀ b∈ch,(b∈X.ex\/X.s₀.heap.objs.size<=b)/\b≠X.env.locals/\(∀ x c,X.env.cells.lookup x=some c->c≠b)/\∀ p∈X.pn++pins,p.1≠b) :
  Inv X pins σ H' { s with heap:=h',gens:=g',drawn:=d',toks:=t' }:=by
 obtain ⟨m,⟨o,es,ep,ho,r⟩,_⟩:=id I.loc;obtain ⟨sl,hL⟩:=u.any ho I.free λz=>(hch _ z).2.1 rfl;exact I.step (ch:=ch) hch (λb o hL hb hc e n=>u.keep b o e n (λz=>(aAf.mp (I.stkSub b z)).elim hL hb) hc) (λb o _ _ hc e n=>u.any e n hc) (λb o hc e n=>u.free b o e n hc) (λb o hc e=>u.there b o e hc) u.tups u.frzs u.tbls (λm' hm=>by
  obtain ⟨o',es',ep',ho',r'⟩:=hm;rw [ho] at ho';cases ho';exact ⟨_,es',ep',hL,r'⟩) hok hg
theorem Inv.turned {t':Nat} {it:Addr} (I:Inv X pins σ H s) (k:∀ b o,b≠it->s.heap.get? b=some o->h'.get? b=some o) (hn:H it=none) (hL:it≠X.env.locals)
  (h1:it∈X.ex\/X.s₀.heap.objs.size<=it) (h2:∀ x c,X.env.cells.lookup x=some c->c≠it) (h3:∀ p∈X.pn++pins,p.1≠it):Inv X pins σ H { s with heap:=h',toks:=t' }:=by
 have nit:∀ b u,H b=some u->b≠it:=λb u e z=>by rw [z,hn] at e;cases e
 refine I.step (g':=s.gens) (d':=s.drawn) (ch:=[it]) (λb hb=>?_) (λb o _ _ hc e _=>k b o (λz=>hc (by simp [z])) e) (λb o _ _ hc e _=>⟨o.slots,k b o (λz=>hc (by simp [z])) e⟩) (λ_ _ _ _ n=>n)
  (λb o hc e=>⟨o,k b o (λz=>hc (by simp [z])) e⟩) (λ_ _ e=>e) (λ_ _ _ e=>e) (λb ps e=>⟨#[],by rw [e];simp⟩) (λm hm=>?_) (λb u e=>?_) I.bare
 ·have e:b=it:=by simpa using hb
  subst e;exact ⟨h1,hL,h2,h3⟩
 ·obtain ⟨o,es,ep,ho,r⟩:=hm;exact ⟨o,es,ep,k _ o (Ne.symm hL) ho,r⟩
 ·refine (I.hok b u e).stay (λc v hc q=>k c v ?_ q) (λ_ q=>q) λ_ _ q=>q;rcases hc with z | z
  ·rw [z];exact nit b u e
  ·exact nit c _ z
theorem Inv.tok (I:Inv X pins σ H s) (t:Nat):Inv X pins σ H { s with toks:=t }:=I.un (h':=s.heap) (t':=t) Un.refl I.hok
theorem Inv.kept {t':Nat} (I:Inv X pins σ H s) (k:∀ b u,s.heap.get? b=some u->h'.get? b=some u):Inv X pins σ H { s with heap:=h',toks:=t' }:=I.un (Un.kept k) (I.hok.kept k)
theorem Inv.laid {a:Addr} {o:HO} {t':Nat} (I:Inv X pins σ H s) (k:∀ b u,s.heap.get? b=some u->h'.get? b=some u) (hp:s.heap.objs.size<=a) (new:ObjOk X.prog X.w (upd H a o) h' a o) :
  Inv X pins σ (upd H a o) { s with heap:=h',toks:=t' }:=I.un (Un.laid k hp (I.hok.fresh hp)) (I.hok.laid k hp new)
theorem Inv.write {x e:Addr} {o:HO} {t':Nat} (I:Inv X pins σ H s) (mu:Mut (H x)) (he:e=x\/H e=some (.own x)) (k:∀ b u,b≠e->s.heap.get? b=some u->h'.get? b=some u) (heo:∃ u,h'.get? e=some u)
  (new:ObjOk X.prog X.w (upd H x o) h' x o):Inv X pins σ (upd H x o) { s with heap:=h',toks:=t' }:=I.un (Un.write mu he k heo) (I.hok.write mu he k heo new)
theorem Inv.pins_of {pins':List (Addr×Obj)} (I:Inv X pins σ H s) (h:∀ p∈pins',s.heap.get? p.1=some p.2/\H p.1=none/\p.1≠X.env.locals/\p.1∉X.fs/\∀ v,p.2.data≠.cell v):Inv X pins' σ H s :=
 ⟨I.ok,I.os,I.bare,I.base,I.loc,I.cell,I.free,I.freeC,λp hp=>(aA3.mp hp).elim (λz=>I.pin p (List.mem_append_left _ z)) (h p),I.hok,I.len⟩
theorem nj {N:List Str} (hN:N.Nodup) {i j:Nat} {x:Str} (a:N[i]?=some x) (b:N[j]?=some x):i=j:=by
 obtain ⟨h1,e1⟩:=aAg.mp a;obtain ⟨h2,e2⟩:=aAg.mp b;exact (List.getElem_inj hN).mp (e1.trans e2.symm)
theorem kw {M:Model} {A:Around} {E:Value->Shared->Prop} {i:Nat} {x:Str} {v:V} {u:Value} {Q:Unit->Shared->Prop} (I:Inv X pins σ H s) (hN:X.N.Nodup) (hi:X.N[i]?=some x) (hx:Loc X.env.scope x) (r:RelV v u)
  (h:∀ s',Inv X pins (σ.set i (some v)) H s'->(∃ a,Heap.SameBut a s.heap s'.heap/\(a=X.env.locals\/X.env.cells.lookup x=some a))->Q () s') (hf:X.fn x=true\/X.env.scope.names.lookup x=some .local:=by first | exact .inl rfl | exact .inr rfl | assumption):wpAny M A (storeName X.env x u) Q E s:=by
 obtain ⟨m,hn,hl⟩:=id I.loc;have hcls:(X.env.scope.kind == .class || (X.env.scope.kind == .module && X.env.locals != X.env.globals))=false:=by rw [I.ok.kind];rfl
 have hiσ:i < σ.length:=by rw [I.len];exact (aAg.mp hi).1
 have cne:=I.cne;have tracked:∀ {a:Addr} {h':Heap},(∃ o,s.heap.get? a=some o/\H a=none)->Heap.SameBut a s.heap h'->HOk X.prog X.w H h':=λ{a h'} ha hs b ob e=>by
  obtain ⟨_,_,hfree⟩:=ha;refine (I.hok b ob e).stay (λc w' hc q=>(hs.2 c ?_).trans q) (λ_ q=>q) λ_ _ q=>q;rintro rfl;rcases hc with rfl | hc
  ·rw [hfree] at e;cases e
  ·rw [hfree] at hc;cases hc
 rcases hx with hk | hk
 ·refine wpAny_storeName_local hk hn (λh' hn' hs=>?_) hcls;obtain ⟨oL,_,_,hoL,_⟩:=id hn;refine h _ ⟨I.ok,I.os,I.bare,⟨λb o e n hb hx=>?_,λb o e n hb hx=>?_,I.base.free,λb o e hx=>?_,I.base.tups,I.base.frzs,I.base.tbls⟩,⟨_,hn',λj y v' e1 e2 e3=>?_⟩,λy c e=>?_,I.free,I.freeC,λp hp=>?_,tracked ⟨oL,hoL,I.free⟩ hs,by simpa using I.len⟩ ⟨_,hs,.inl rfl⟩
  ·exact (hs.2 b (aAk (aAn (aAe e) I.ok.above))).trans (I.base.keep b o e n hb hx)
  ·obtain ⟨sl,e1⟩:=I.base.slot b o e n hb hx;exact ⟨sl,(hs.2 b (aAk (aAn (aAe e) I.ok.above))).trans e1⟩
  ·obtain ⟨o',e1⟩:=I.base.there b o e hx;exact ⟨o',(hs.2 b (aAk (aAn (aAe e) I.ok.above))).trans e1⟩
  ·by_cases hj:j=i
   ·subst hj;rw [hi] at e1;cases e1;rw [aB0 hiσ] at e2
    cases e2
    exact ⟨u,r,.inl ⟨hk,by simp⟩⟩
   ·rw [List.getElem?_set_ne (Ne.symm hj)] at e2;obtain ⟨u',r',q⟩:=hl j y v' e1 e2 e3;refine ⟨u',r',?_⟩;rcases q with ⟨k,e⟩ | ⟨k,c,e,z⟩
    ·refine .inl ⟨k,?_⟩;have:y≠x:=λe=>hj (nj hN e1 (e ▸ hi));simp [this,e]
    ·exact .inr ⟨k,c,e,z.sameBut hs (cne y c e)⟩
  ·obtain ⟨w',z⟩:=I.cell y c e;exact ⟨w',z.sameBut hs (cne y c e)⟩
  ·obtain ⟨e,n,ne,nf,d⟩:=I.pin p hp;exact ⟨(hs.2 p.1 ne).trans e,n,ne,nf,d⟩
 ·have hfn:X.fn x=true:=by
   rcases hf with z | z
   ·exact z
   ·rw [z] at hk;cases hk
  obtain ⟨c,hc⟩:=I.ok.has x (.inl hk);obtain ⟨w',z⟩:=I.cell x c hc;refine wpAny_storeName_cell I.ok.kind hk hc z (λh' hc' hs=>?_);obtain ⟨oc,hoc,hocd⟩:=id z;refine h { s with heap:=h' } ⟨I.ok,I.os,I.bare,⟨λb o e n hb hx=>?_,λb o e n hb hx=>?_,I.base.free,λb o e hx=>?_,I.base.tups,I.base.frzs,I.base.tbls⟩,⟨m,hn.sameBut hs (Ne.symm (cne x c hc)),λj y v' e1 e2 e3=>?_⟩,λy c' e=>?_,I.free,I.freeC,λp hp=>?_,tracked ⟨oc,hoc,I.freeC x c hc⟩ hs,by simpa using I.len⟩ ⟨c,hs,.inr hc⟩
  ·exact (hs.2 b (aAk (aAn (aAe e) (I.ok.cab x c hfn hc)))).trans (I.base.keep b o e n hb hx)
  ·obtain ⟨sl,e1⟩:=I.base.slot b o e n hb hx;exact ⟨sl,(hs.2 b (aAk (aAn (aAe e) (I.ok.cab x c hfn hc)))).trans e1⟩
  ·obtain ⟨o',e1⟩:=I.base.there b o e hx;exact ⟨o',(hs.2 b (aAk (aAn (aAe e) (I.ok.cab x c hfn hc)))).trans e1⟩
  ·by_cases hj:j=i
   ·subst hj;rw [hi] at e1;cases e1;rw [aB0 hiσ] at e2
    cases e2
    exact ⟨u,r,.inr ⟨.inl hk,c,hc,hc'⟩⟩
   ·rw [List.getElem?_set_ne (Ne.symm hj)] at e2;obtain ⟨u',r',q⟩:=hl j y v' e1 e2 e3;refine ⟨u',r',?_⟩;rcases q with q | ⟨k,c',e,z'⟩
    ·exact .inl q
    ·refine .inr ⟨k,c',e,z'.sameBut hs ?_⟩;rintro rfl;exact hj (nj hN e1 (I.ok.inj _ _ _ e hc ▸ hi))
  ·by_cases hcc:c'=c
   ·subst hcc;exact ⟨_,hc'⟩
   ·obtain ⟨w2,z2⟩:=I.cell y c' e;exact ⟨w2,z2.sameBut hs hcc⟩
  ·obtain ⟨e,n,ne,nf,d⟩:=I.pin p hp;refine ⟨(hs.2 p.1 ?_).trans e,n,ne,nf,d⟩;intro q;rw [q,hoc] at e;have q':oc=p.2:=Option.some.inj e;exact d w' (by rw [<- q'];exact hocd)
theorem nq {M:Model} {A:Around} {E:Value->Shared->Prop} {i:Nat} {x:Str} {v:V} {u:Value} {Q:Unit->Shared->Prop} (I:Inv X pins σ H s) (hN:X.N.Nodup) (hi:X.N[i]?=some x) (hx:Loc X.env.scope x) (r:RelV v u)
  (h:∀ s',Inv X pins (σ.set i (some v)) H s'->Q () s') (hf:X.fn x=true\/X.env.scope.names.lookup x=some .local:=by first | exact .inl rfl | exact .inr rfl | assumption):wpAny M A (storeName X.env x u) Q E s :=
 kw I hN hi hx r (λs' I' _=>h s' I') hf
theorem Inv.call' {s':Shared} {ch:List Addr} (I:Inv X pins σ H s) (ho:s'.os=s.os) (u:Un (frs X.stack) ch H H' s.heap s'.heap) (hok:HOk X.prog X.w H' s'.heap) (hg:AllBare s'.gens)
  (hch:∀ b∈ch,(b∈X.ex\/X.s₀.heap.objs.size<=b)/\b≠X.env.locals/\(∀ x c,X.env.cells.lookup x=some c->c≠b)/\∀ p∈X.pn++pins,p.1≠b):Inv X pins σ H' s':=by
 obtain ⟨h',g',d',t',o'⟩:=s';have e:o'=s.os:=ho;subst e;exact I.call (g':=g') (t':=t') (d':=d') u hok hg hch
end
abbrev XK:=Value->Option Addr->Hp->Prop
abbrev St:=List (Option V)
abbrev VK:=V->Hp->Prop
abbrev TE:=St->Hp->VK->Prop
abbrev TT:=St->Hp->(Bool->Hp->Prop)->Prop
abbrev TA:=St->Hp->(List V->Hp->Prop)->Prop
structure Ends where
 nx:St->Hp->Prop
 rt:VK
 bk:St->Hp->Prop:=λ_ _=>False
 ct:St->Hp->Prop:=λ_ _=>False
abbrev TS:=Ends->St->Hp->Prop
def EP (X:Cx) (pins:List (Addr×Obj)) (σ:St) (Q:VK) (u:Value) (s':Shared):Prop:=∃ v H',Inv X pins σ H' s'/\RelV v u/\Q v H'
def TP (X:Cx) (pins:List (Addr×Obj)) (σ:St) (Q:Bool->Hp->Prop) (b:Bool) (s':Shared):Prop:=∃ H',Inv X pins σ H' s'/\Q b H'
def AP (X:Cx) (pins:List (Addr×Obj)) (σ:St) (Q:List V->Hp->Prop) (us:List Value) (s':Shared):Prop:=∃ vs H',Inv X pins σ H' s'/\Vals vs us/\Q vs H'
def SP (X:Cx) (pins:List (Addr×Obj)) (D:Ends) (f:Flow) (s':Shared):Prop :=
 match f with
 | .next=>∃ σ' H',Inv X pins σ' H' s'/\D.nx σ' H'
 | .brk=>∃ σ' H',Inv X pins σ' H' s'/\D.bk σ' H'
 | .cont=>∃ σ' H',Inv X pins σ' H' s'/\D.ct σ' H'
 | .ret u=>∃ v σ' H',Inv X pins σ' H' s'/\RelV v u/\D.rt v H'
def PE (X:Cx) (e:Expr) (t:TE):Prop :=
 ∀ (pins:List (Addr×Obj)) (s:Shared) (σ:St) (H:Hp) (Q:VK),Inv X pins σ H s->t σ H Q->wpAny (model X.prog X.w) X.A (eval e X.env) (EP X pins σ Q) X.xe s
def PT (X:Cx) (e:Expr) (t:TT):Prop :=
 ∀ (pins:List (Addr×Obj)) (s:Shared) (σ:St) (H:Hp) (Q:Bool->Hp->Prop),Inv X pins σ H s->t σ H Q->wpAny (model X.prog X.w) X.A (isTrue e X.env (eval e X.env)) (TP X pins σ Q) X.xe s
def PW (X:Cx) (e:Expr) (t:TT):Prop :=
 ∀ (whole:Sem Value) (pins:List (Addr×Obj)) (s:Shared) (σ:St) (H:Hp) (Q:Bool->Hp->Prop),Inv X pins σ H s->t σ H Q->wpAny (model X.prog X.w) X.A (isTrue e X.env whole) (TP X pins σ Q) X.xe s
theorem PW.pt {X:Cx} {e:Expr} {t:TT} (h:PW X e t):PT X e t:=h _
def PA (X:Cx) (es:List Expr) (t:TA):Prop :=
 ∀ (pos:Pos) (pins:List (Addr×Obj)) (s:Shared) (σ:St) (H:Hp) (Q:List V->Hp->Prop),Inv X pins σ H s->t σ H Q->wpAny (model X.prog X.w) X.A (spliced (backTo pos (starEach es X.env))) (AP X pins σ Q) X.xe s
def PS (X:Cx) (st:Stmt) (t:TS):Prop :=
 ∀ (pins:List (Addr×Obj)) (s:Shared) (σ:St) (H:Hp) (D:Ends),Inv X pins σ H s->t D σ H->wpAny (model X.prog X.w) X.A (exec st X.env) (SP X pins D) X.xe s
def PSs (X:Cx) (st:List Stmt) (t:TS):Prop :=
 ∀ (pins:List (Addr×Obj)) (s:Shared) (σ:St) (H:Hp) (D:Ends),Inv X pins σ H s->t D σ H->wpAny (model X.prog X.w) X.A (execs st X.env) (SP X pins D) X.xe s
theorem thn {α:Type} {t:Sem α} {Q Q':α->Shared->Prop} {M:Model} {A:Around} {E:Value->Shared->Prop} {s:Shared} (h:wpAny M A t Q E s) (hQ:∀ a s,Q a s->Q' a s):wpAny M A t Q' E s:=wpAny_mono h hQ λ_ _ x=>x
section
variable {X:Cx}
inductive IVar (i:Nat) (σ:St) (H:Hp) (Q:VK):Prop
 | mk (v:V):(σ[i]?=some (some v))->(Q v H)->IVar i σ H Q
def rN (i:Nat):TE:=λσ H Q=>IVar i σ H Q
def tC (v:V):TE:=λ_ H Q=>Q v H
theorem yC {i:Nat} {x:Str} {pos:Pos} (hN:X.N[i]?=some x) (hv:Vis X.env.scope x) (hd:(x == ("__debug__" : Str))=false:=by decide) (hcd:(x == ("__classdict__" : Str))=false:=by decide):PE X (.Name x pos) (rN i):=by
 intro pins s σ H Q I h;obtain ⟨v,e,h⟩:=h;obtain ⟨m,hn,hl⟩:=I.loc;obtain ⟨u,r,l⟩:=hl i x v hN e hv;have fin:EP X pins σ Q u s:=⟨v,H,I,r,h⟩;rcases l with ⟨hk,hm⟩ | ⟨hk,c,hc,hcell⟩
 ·exact wpAny_Name (wpAny_loadName_local I.ok.kind hk hn hm fin) hd
 ·rcases hk with hk | hk
  ·exact wpAny_Name (wpAny_loadName_cell I.ok.kind hk hc hcell fin) hd
  ·exact wpAny_Name (wpAny_loadName_free I.ok.kind hk hc hcell fin hcd) hd
theorem pe_int {i j pos}:PE X (.Constant (.int i) j pos) (tC (.int i)):=λ_ _ _ H _ I h=>wpAny_Constant_int ⟨.int i,H,I.tok _,⟨_,rfl⟩,h⟩
theorem pe_bl {b j pos}:PE X (.Constant (.bool b) j pos) (tC (.bl b)):=λ_ _ _ H _ I h=>Constant_bool ⟨.bl b,H,I,rfl,h⟩
theorem pe_non {j pos}:PE X (.Constant .none j pos) (tC .non):=λ_ _ _ H _ I h=>Constant_none ⟨.non,H,I,rfl,h⟩
theorem pe_str {x j pos}:PE X (.Constant (.str x) j pos) (tC (.str x)):=λ_ _ _ H _ I h=>Calls.Constant_str ⟨.str x,H,I.tok _,⟨_,rfl⟩,h⟩
def Gl (X:Cx) (x:Str):Prop:=X.env.kindOf x=some .globalImplicit
theorem fX {E:Value->Shared->Prop} {pins:List (Addr×Obj)} {s:Shared} {σ:St} {H:Hp} {x:Str} {u:Value} {pos:Pos} {Q:Value->Shared->Prop} (I:Inv X pins σ H s) (hg:Gl X x) (hm:X.mg x=some u) (h:Q u s)
  (hd:(x == ("__debug__" : Str))=false:=by decide):wpAny (model X.prog X.w) X.A (eval (.Name x pos) X.env) Q E s :=
 Calls.Name_function_global I.ok.kind hg (Calls.loadGlobal_global (by rw [I.ok.glob];exact I.mod.glob.keeps I.bk) hm h) hd
theorem cH {E:Value->Shared->Prop} {pins:List (Addr×Obj)} {s:Shared} {σ:St} {H:Hp} {x:Str} {u:Value} {pos:Pos} {Q:Value->Shared->Prop} (I:Inv X pins σ H s) (hg:Gl X x) (hm:X.mg x=none) (hv:bootBuiltins x=some u) (h:Q u s)
  (hn:x≠ "__name__" :=by decide) (hd:(x == ("__debug__" : Str))=false:=by decide):wpAny (model X.prog X.w) X.A (eval (.Name x pos) X.env) Q E s:=by
 obtain ⟨mb,h1,h2⟩:=I.mod.blt;exact Calls.Name_function_global I.ok.kind hg (Calls.loadGlobal_builtin (by rw [I.ok.glob];exact I.mod.glob.keeps I.bk) hm (by rw [I.ok.blt];exact h1.keeps I.bk) ((h2 x hn).trans hv) h) hd
theorem qH {x:Str} {v:V} {u:Value} {pos:Pos} (hg:Gl X x) (hm:X.mg x=some u) (r:RelV v u) (hd:(x == ("__debug__" : Str))=false:=by decide):PE X (.Name x pos) (tC v) :=
 λ_ _ _ H _ I h=>fX I hg hm ⟨v,H,I,r,h⟩ hd
theorem wq {x:Str} {v:V} {u:Value} {pos:Pos} (hg:Gl X x) (hm:X.mg x=none) (hv:bootBuiltins x=some u) (r:RelV v u) (hn:x≠ "__name__" :=by decide) (hd:(x == ("__debug__" : Str))=false:=by decide):PE X (.Name x pos) (tC v) :=
 λ_ _ _ H _ I h=>cH I hg hm hv ⟨v,H,I,r,h⟩ hn hd
variable {a b:Expr} {ta tb:TE} {pos:Pos}
def PC (X:Cx) (op:CmpOp) (a b:Expr) (t:TE):Prop :=
 ∀ (pins:List (Addr×Obj)) (s:Shared) (σ:St) (H:Hp) (Q:VK),Inv X pins σ H s->t σ H Q ->
  wpAny (model X.prog X.w) X.A (eval a X.env) (λv s₁=>wpAny (model X.prog X.w) X.A (eval b X.env) (λu s₂=>wpAny (model X.prog X.w) X.A (compareOp op v u) (EP X pins σ Q) X.xe s₂) X.xe s₁) X.xe s
theorem tQ (b:Expr) {op:CmpOp} (h:op≠.In) (h2:op≠.NotIn):behindInMarks op b=false:=by
 have e1:(op == CmpOp.In)=false:=by cases op <;> first | rfl | exact absurd rfl h
 have e2:(op == CmpOp.NotIn)=false:=by cases op <;> first | rfl | exact absurd rfl h2
 cases b <;> simp [behindInMarks,e1,e2]
def tB (t:TE):TT:=λσ H Q=>t σ H λx H1=>∃ c,x=.bl c/\Q c H1
theorem tR {op:CmpOp} {t:TE} (h:PC X op a b t) (h1:behindInMarks op b=false:=by first | exact tQ _ (by decide) (by decide) | rfl):PT X (.Compare a [op] [b] pos) (tB t):=by
 intro pins s σ H Q I hw;refine wpAny_isTrue_Compare1 (thn (h pins s σ H _ I hw) λv s1 h1=>thn h1 λu s2 h2=>thn h2 λc s3 ⟨x,H1,I1,r1,q1⟩=>?_) h1;obtain ⟨d,rfl,q⟩:=q1
 cases r1
 exact wpAny_truthy_bool ⟨H1,I1,q⟩
theorem pt_val {e:Expr} {t:TE} (h:PE X e t) (he:∀ whole,isTrue e X.env whole=(do let v <- whole;standAt e.pos;holding [v] (truthy v)):=by intro _;rfl):PT X e (tB t):=by
 intro pins s σ H Q I hw;refine isTrue_plain (thn (h pins s σ H _ I hw) λv s1 ⟨x,H1,I1,r1,q1⟩=>?_) (he _);obtain ⟨d,rfl,q⟩:=q1
 cases r1
 exact wpAny_truthy_bool ⟨H1,I1,q⟩
variable {tA tB':TT} {rest:List Expr}
def Br (t u:TT):TT:=λσ H Q=>t σ H λc H1=>if c=true then u σ H1 Q else Q false H1
def tOr (t u:TT):TT:=λσ H Q=>t σ H λc H1=>if c=true then Q true H1 else u σ H1 Q
def Bs (t:TT):TT:=λσ H Q=>t σ H λc H1=>Q (!c) H1
theorem qI (ha:PT X a tA):PW X (.BoolOp .And [a] pos) tA:=by
 intro wh pins s σ H Q I h;refine isTrue_and (thn (ha pins s σ H Q I h) λc s1 e=>?_)
 cases c with
 | true=>exact isTrue_and_nil e
 | false=>exact e
theorem pw_or1 (ha:PT X a tA):PW X (.BoolOp .Or [a] pos) tA:=by
 intro wh pins s σ H Q I h;refine isTrue_or (thn (ha pins s σ H Q I h) λc s1 e=>?_)
 cases c with
 | false=>exact isTrue_or_nil e
 | true=>exact e
theorem tT (ha:PT X a tA) (hb:PW X (.BoolOp .And (b :: rest) pos) tB'):PW X (.BoolOp .And (a :: b :: rest) pos) (Br tA tB'):=by
 intro wh pins s σ H Q I h;refine isTrue_and (thn (ha pins s σ H _ I h) λc s1 ⟨H1,I1,q1⟩=>?_)
 cases c with
 | true=>exact hb wh pins s1 σ H1 Q I1 q1
 | false=>exact ⟨H1,I1,q1⟩
theorem pw_or (ha:PT X a tA) (hb:PW X (.BoolOp .Or (b :: rest) pos) tB'):PW X (.BoolOp .Or (a :: b :: rest) pos) (tOr tA tB'):=by
 intro wh pins s σ H Q I h;refine isTrue_or (thn (ha pins s σ H _ I h) λc s1 ⟨H1,I1,q1⟩=>?_)
 cases c with
 | true=>exact ⟨H1,I1,q1⟩
 | false=>exact hb wh pins s1 σ H1 Q I1 q1
theorem pt_not (ha:PT X a tA):PT X (.UnaryOp .Not a pos) (Bs tA):=by
 intro pins s σ H Q I h;exact isTrue_not (ha pins s σ H (λc H1=>Q (!c) H1) I h)
def Ab (ta tb:TE):TE:=λσ H Q=>ta σ H λx H1=>∃ c,x=.bl c/\if c=true then tb σ H1 Q else Q (.bl false) H1
def Bt (ta tb:TE):TE:=λσ H Q=>ta σ H λx H1=>∃ c,x=.bl c/\if c=true then Q (.bl true) H1 else tb σ H1 Q
def Ac (ta:TE):TE:=λσ H Q=>ta σ H λx H1=>∃ c,x=.bl c/\Q (.bl (!c)) H1
theorem pe_one {op} {t:TE} (h:PE X a t):PE X (.BoolOp op [a] pos) t:=λpins s σ H Q I hw=>BoolOp_one (h pins s σ H Q I hw)
theorem pe_and (ha:PE X a ta) (hb:PE X (.BoolOp .And (b :: rest) pos) tb):PE X (.BoolOp .And (a :: b :: rest) pos) (Ab ta tb):=by
 intro pins s σ H Q I h;refine BoolOp_and (thn (ha pins s σ H _ I h) λv s1 ⟨x,H1,I1,r1,q1⟩=>?_);obtain ⟨c,rfl,q1⟩:=q1
 cases r1
 refine wpAny_truthy_bool ?_
 cases c with
 | true=>exact hb pins s1 σ H1 Q I1 q1
 | false=>exact ⟨.bl false,H1,I1,rfl,q1⟩
theorem yg (ha:PE X a ta) (hb:PE X (.BoolOp .Or (b :: rest) pos) tb):PE X (.BoolOp .Or (a :: b :: rest) pos) (Bt ta tb):=by
 intro pins s σ H Q I h;refine BoolOp_or (thn (ha pins s σ H _ I h) λv s1 ⟨x,H1,I1,r1,q1⟩=>?_);obtain ⟨c,rfl,q1⟩:=q1
 cases r1
 refine wpAny_truthy_bool ?_
 cases c with
 | false=>exact hb pins s1 σ H1 Q I1 q1
 | true=>exact ⟨.bl true,H1,I1,rfl,q1⟩
theorem yD (ha:PE X a ta):PE X (.UnaryOp .Not a pos) (Ac ta):=by
 intro pins s σ H Q I h;refine UnaryOp_ (thn (ha pins s σ H _ I h) λv s1 ⟨x,H1,I1,r1,q1⟩=>?_);obtain ⟨c,rfl,q1⟩:=q1
 cases r1
 exact not_of (wpAny_truthy_bool ⟨.bl (!c),H1,I1,rfl,q1⟩)
def tIf (t:TT) (ta tb:TE):TE:=λσ H Q=>t σ H λc H1=>if c=true then ta σ H1 Q else tb σ H1 Q
theorem cS {c:Expr} (hc:PT X c tA) (ha:PE X a ta) (hb:PE X b tb):PE X (.IfExp c a b pos) (tIf tA ta tb):=by
 intro pins s σ H Q I h;refine wpAny_IfExp (thn (hc pins s σ H _ I h) λd s1 ⟨H1,I1,q1⟩=>?_)
 cases d with
 | true=>exact ha pins s1 σ H1 Q I1 q1
 | false=>exact hb pins s1 σ H1 Q I1 q1
end
def SqL (K:W.Frag) (H:Hp) (a:Addr) (xs:List V):Prop :=
 Rd H a (.lst xs) \/
  ∃ (o:Obj) (its:Array Value) (n:Nat),K.lookup a=some o/\o.cls=.type "list" /\o.dict=none/\o.data=.seq its n/\its.size<=sizeLine/\Vals xs its.toList
def SqT (K:W.Frag) (H:Hp) (a:Addr) (xs:List V):Prop :=
 Rd H a (.tup xs) \/
  ∃ (o:Obj) (its:Array Value) (n:Nat),K.lookup a=some o/\o.cls=.type "tuple" /\o.data=.seq its n/\its.size<=sizeLine/\Vals xs its.toList
def Bu:Value->Option V
 | .none=>some .non
 | .bool b=>some (.bl b)
 | .int i _=>some (.int i)
 | .str x _=>some (.str x)
 | .bytes b _=>some (.byt b)
 | .float b _=>some (.flt b)
 | .ref a=>some (.ref a)
 | .type n=>some (.ty n)
 | _=>none
theorem RelV.abs {x:V} {u:Value} (r:RelV x u):Bu u=some x:=by
 cases x with
 | non=>cases r;rfl
 | bl _=>cases r;rfl
 | int _=>obtain ⟨t,rfl⟩:=r;rfl
 | str _=>obtain ⟨t,rfl⟩:=r;rfl
 | byt _=>obtain ⟨t,rfl⟩:=r;rfl
 | flt _=>obtain ⟨t,rfl⟩:=r;rfl
 | ref _=>cases r;rfl
 | ty _=>cases r;rfl
theorem RelV.inj {x y:V} {u:Value} (r:RelV x u) (q:RelV y u):x=y:=Option.some.inj (r.abs.symm.trans q.abs)
theorem Vals.inj:∀ {xs ys:List V} {us:List Value},Vals xs us->Vals ys us->xs=ys
 | _,_,_,.nil,.nil=>rfl
 | _,_,_,.cons r t,.cons r' t'=>by rw [r.inj r',Vals.inj t t']
section
variable {X:Cx} {pins:List (Addr×Obj)} {σ:St} {H:Hp} {s:Shared} {a:Addr} {xs ys:List V}
theorem SqL.of {K:W.Frag} (h:H a=some (.lst xs)):SqL K H a xs:=.inl (.inl h)
theorem Inv.list (I:Inv X pins σ H s) (h:SqL X.K H a xs):∃ its:List Value,Vals xs its/\PlainL s.heap a its.toArray/\xs.length<=sizeLine:=by
 rcases h with h | ⟨o,its,n,hk,hc,hd,hs,hz,r⟩
 ·obtain ⟨z,its,n,r,e⟩:=h.ok I.hok;exact ⟨its,r,⟨_,n,e,rfl,rfl,rfl⟩,z⟩
 ·refine ⟨its.toList,r,⟨o,n,I.kIn a o hk,hc,hd,by simpa using hs⟩,?_⟩;have e:=r.length;simp only [aA1] at e;lia
theorem Inv.tuple (I:Inv X pins σ H s) (h:SqT X.K H a xs):∃ its:List Value,Vals xs its/\IsTup s.heap a its.toArray/\xs.length<=sizeLine:=by
 rcases h with h | ⟨o,its,n,hk,hc,hs,hz,r⟩
 ·obtain ⟨z,its,r,p⟩:=h.ok I.hok;exact ⟨its,r,p,z⟩
 ·refine ⟨its.toList,r,⟨o,I.kIn a o hk,hc,n,by simpa using hs⟩,?_⟩;have e:=r.length;simp only [aA1] at e;lia
theorem Inv.list_inj (I:Inv X pins σ H s) (h:SqL X.K H a xs) (h':SqL X.K H a ys):xs=ys:=by
 obtain ⟨its,r,⟨o,n,e,_,_,d⟩,_⟩:=I.list h;obtain ⟨its',r',⟨o',n',e',_,_,d'⟩,_⟩:=I.list h';rw [e] at e';cases e';rw [d] at d';injection d' with d1 _
 have:its=its':=by simpa using congrArg Array.toList d1
 subst this;exact r.inj r'
theorem Inv.tuple_inj (I:Inv X pins σ H s) (h:SqT X.K H a xs) (h':SqT X.K H a ys):xs=ys:=by
 obtain ⟨its,r,⟨o,e,_,n,d⟩,_⟩:=I.tuple h;obtain ⟨its',r',⟨o',e',_,n',d'⟩,_⟩:=I.tuple h';rw [e] at e';cases e';rw [d] at d';injection d' with d1 _
 have:its=its':=by simpa using congrArg Array.toList d1
 subst this;exact r.inj r'
end
abbrev Cx.wish (X:Cx) (E:Value->Shared->Prop):Cx:={ X with xe:=E }
abbrev Cx.nox (X:Cx):Cx:=X.wish λ_ _=>False
theorem Cx.Ok.wish {X:Cx} (ok:X.Ok) (E:Value->Shared->Prop):(X.wish E).Ok :=
 ⟨ok.mod,ok.kind,ok.glob,ok.blt,ok.above,ok.inj,ok.has,ok.cab,ok.hd,ok.frames,ok.stk,ok.exf,ok.bs,ok.bsz,ok.noex,ok.exfs,ok.funs,ok.frf⟩
theorem Cx.Ok.unwish {X:Cx} {E:Value->Shared->Prop} (ok:(X.wish E).Ok):X.Ok :=
 ⟨ok.mod,ok.kind,ok.glob,ok.blt,ok.above,ok.inj,ok.has,ok.cab,ok.hd,ok.frames,ok.stk,ok.exf,ok.bs,ok.bsz,ok.noex,ok.exfs,ok.funs,ok.frf⟩
section
variable {X:Cx} {pins:List (Addr×Obj)} {σ:St} {H:Hp} {s:Shared} {E:Value->Shared->Prop}
theorem Inv.wish (I:Inv X pins σ H s) (E:Value->Shared->Prop):Inv (X.wish E) pins σ H s:=⟨I.ok.wish E,I.os,I.bare,I.base,I.loc,I.cell,I.free,I.freeC,I.pin,I.hok,I.len⟩
theorem Inv.unwish (I:Inv (X.wish E) pins σ H s):Inv X pins σ H s:=⟨I.ok.unwish,I.os,I.bare,I.base,I.loc,I.cell,I.free,I.freeC,I.pin,I.hok,I.len⟩
theorem SP.unwish {D:Ends} {f:Flow} {s':Shared} (h:SP (X.wish E) pins D f s'):SP X pins D f s':=by
 cases f with
 | next=>obtain ⟨σ',H',I,q⟩:=h;exact ⟨σ',H',I.unwish,q⟩
 | brk=>obtain ⟨σ',H',I,q⟩:=h;exact ⟨σ',H',I.unwish,q⟩
 | cont=>obtain ⟨σ',H',I,q⟩:=h;exact ⟨σ',H',I.unwish,q⟩
 | ret u=>obtain ⟨v,σ',H',I,r,q⟩:=h;exact ⟨v,σ',H',I.unwish,r,q⟩
theorem PSs.nox {st:List Stmt} {t:TS} (h:PSs X.nox st t):PSs X st t:=λpins s σ H D I hw =>
 wpAny_mono (h pins s σ H D (I.wish _) hw) (λ_ _ q=>q.unwish) λ_ _ z=>False.elim z
end
section
variable {X:Cx} {st:Stmt} {rest:List Stmt} {t u:TS} {e:Expr} {te:TE} {pos:Pos}
def kz:TS:=λD σ H=>D.nx σ H
def rO (t u:TS):TS:=λD σ H=>t { D with nx:=u D } σ H
theorem pss_nil:PSs X [] kz:=λ_ _ σ H _ I h=>wpAny_execs_nil ⟨σ,H,I,h⟩
theorem pss_cons (h1:PS X st t) (h2:PSs X rest u):PSs X (st :: rest) (rO t u):=by
 intro pins s σ H D I h;refine wpAny_execs_cons (thn (h1 pins s σ H { D with nx:=u D } I h) λf s1 q=>?_)
 cases f with
 | next =>
  obtain ⟨σ',H',I',q⟩:=q;exact h2 pins s1 σ' H' D I' q
 | ret v=>exact q
 | brk=>exact q
 | cont=>exact q
theorem pss_one (h1:PS X st t):PSs X [st] t:=by
 intro pins s σ H D I h;refine wpAny_execs_cons (thn (h1 pins s σ H D I h) λf s1 q=>?_)
 cases f with
 | next=>exact wpAny_execs_nil q
 | ret v=>exact q
 | brk=>exact q
 | cont=>exact q
theorem Inv.quiet {pins:List (Addr×Obj)} {σ:St} {H:Hp} {s:Shared} (I:Inv X pins σ H s):interactive X.env=false:=by simp [interactive,I.ok.kind]
def Ad (te:TE):TS:=λD σ H=>te σ H λ_ H1=>D.nx σ H1
theorem ps_expr (he:PE X e te) (hs:swapsWith e none pos.line X.env=pure false:=by rfl):PS X (.Expr e pos) (Ad te):=by
 intro pins s σ H D I h;exact wpAny_Expr_any (thn (he pins s σ H _ I h) λv s1 ⟨x,H1,I1,r1,q1⟩=>⟨σ,H1,I1,q1⟩) I.quiet hs
def Bv (te:TE):TS:=λD σ H=>te σ H D.rt
theorem ps_ret (he:PE X e te):PS X (.Return (some e) pos) (Bv te):=by
 intro pins s σ H D I h;exact wpAny_Return_some (thn (he pins s σ H _ I h) λv s1 ⟨x,H1,I1,r1,q1⟩=>⟨x,σ,H1,I1,r1,q1⟩)
def rP (c:TT) (t u:TS):TS:=λD σ H=>c σ H λb H1=>if b=true then t D σ H1 else u D σ H1
theorem ps_if {c:Expr} {a b:List Stmt} {tc:TT} (hc:PT X c tc) (ha:PSs X a t) (hb:PSs X b u):PS X (.If c a b pos) (rP tc t u):=by
 intro pins s σ H D I h;refine wpAny_If (thn (hc pins s σ H _ I h) λd s1 ⟨H1,I1,q1⟩=>?_)
 cases d with
 | true=>exact ha pins s1 σ H1 D I1 q1
 | false=>exact hb pins s1 σ H1 D I1 q1
def tU:TS:=λ_ _ _=>False
theorem ps_never:PS X st tU:=λ_ _ _ _ _ _ h=>h.elim
theorem bF {sts:List Stmt}:PSs X sts tU:=λ_ _ _ _ _ _ h=>h.elim
end
abbrev TG:=V->St->Hp->(St->Hp->Prop)->Prop
abbrev TGs:=List V->St->Hp->(St->Hp->Prop)->Prop
def PG (X:Cx) (target:Expr) (t:TG):Prop :=
 ∀ (pins:List (Addr×Obj)) (s:Shared) (σ:St) (H:Hp) (v:V) (u:Value) (Q:St->Hp->Prop),Inv X pins σ H s->RelV v u->t v σ H Q ->
  wpAny (model X.prog X.w) X.A (assign target X.env u) (λ_ s'=>∃ σ' H',Inv X pins σ' H' s'/\Q σ' H') X.xe s
def PGs (X:Cx) (ts:List Expr) (t:TGs):Prop :=
 ∀ (pins:List (Addr×Obj)) (s:Shared) (σ:St) (H:Hp) (vs:List V) (us:List Value) (Q:St->Hp->Prop),Inv X pins σ H s->Vals vs us->t vs σ H Q ->
  wpAny (model X.prog X.w) X.A (assignInOrder ((assignEach ts X.env).map (·.2)) us) (λ_ s'=>∃ σ' H',Inv X pins σ' H' s'/\Q σ' H') X.xe s
abbrev yE:=V->V->V->Hp->(Hp->Prop)->Prop
def Ae (X:Cx) (t:yE):Prop :=
 ∀ (pins:List (Addr×Obj)) (s:Shared) (σ:St) (H:Hp) (o i v:V) (ov iv u:Value) (Q:Hp->Prop),Inv X pins σ H s->RelV o ov->RelV i iv->RelV v u->t o i v H Q ->
  wpAny (model X.prog X.w) X.A (setItem ov iv u) (λ_ s'=>∃ H',Inv X pins σ H' s'/\Q H') X.xe s
section
variable {X:Cx} {pos:Pos}
def i0 (i:Nat):TG:=λv σ H Q=>Q (σ.set i (some v)) H
theorem ag {i:Nat} {x:Str} (hN:X.N.Nodup) (hi:X.N[i]?=some x) (hx:Loc X.env.scope x) (hf:X.fn x=true\/X.env.scope.names.lookup x=some .local:=by first | exact .inl rfl | exact .inr rfl | assumption):PG X (.Name x pos) (i0 i):=by
 intro pins s σ H v u Q I r h;exact wpAny_assign_Name (nq I hN hi hx r (λs' I'=>⟨_,H,I',h⟩) hf)
def Bx:TGs:=λvs σ H Q=>vs=[]/\Q σ H
def Af (t:TG) (u:TGs):TGs:=λvs σ H Q=>∃ v r,vs=v :: r/\t v σ H λσ' H'=>u r σ' H' Q
theorem aI:PGs X [] Bx:=by
 intro pins s σ H vs us Q I r h;obtain ⟨e,h⟩:=h;subst e
 cases r
 exact assignInOrder_nil ⟨σ,H,I,h⟩
theorem am {e:Expr} {es:List Expr} {t:TG} {u:TGs} (h1:PG X e t) (h2:PGs X es u)
  (hs:(assignEach (e :: es) X.env).map (·.2)=assign e X.env :: (assignEach es X.env).map (·.2):=by rfl):PGs X (e :: es) (Af t u):=by
 intro pins s σ H vs us Q I r h;obtain ⟨v,vr,e1,h⟩:=h;subst e1
 cases r with
 | cons r rr =>
  rw [hs];refine assignInOrder_cons (thn (h1 pins s σ H _ _ _ I r h) λ_ s1 ⟨σ1,H1,I1,q1⟩=>?_);exact h2 pins s1 σ1 H1 _ _ Q I1 rr q1
def Ag (K:W.Frag) (n:Nat) (t:TGs):TG:=λv σ H Q=>∃ a xs,v=.ref a/\SqT K H a xs/\xs.length=n/\t xs σ H Q
theorem cI {es:List Expr} {k:Nat} {t:TGs} {n:Nat} (hc:X.calm=true) (h:PGs X es t)
  (hn:(assignEach es X.env).length=n:=by rfl) (hst:(assignEach es X.env).findIdx? (·.1)=none:=by rfl):PG X (.Tuple es k pos) (Ag X.K n t):=by
 intro pins s σ H v u Q I r hw;obtain ⟨a,xs,e1,hq,hl,hw⟩:=hw;subst e1
 cases r
 obtain ⟨its,rv,ht,hz⟩:=I.tuple hq;refine assign_Tuple_tuple (I.ok.hd hc) ht (by simp [hn,<- hl,rv.length]) hst λh' hx=>?_;have I1:Inv X pins σ H { s with heap:=h' }:=I.kept (t':=s.toks) λb o e=>hx b o (aAk (aAe e)) e;exact h pins _ σ H xs _ Q I1 (by simpa using rv) hw
def gSub (to ti:TE) (t:yE):TG:=λv σ H Q=>to σ H λo H1=>ti σ H1 λi H2=>t o i v H2 λH3=>Q σ H3
theorem yF {o i:Expr} {to ti:TE} {t:yE} (ho:PE X o to) (hi:PE X i ti) (hs:Ae X t)
  (ha:∀ v,assign (.Subscript o i pos) X.env v=(do
   let ov <- holding [v] (eval o X.env)
   let iv <- holding [v,ov] (eval i X.env)
   standAt pos
   holding [v,ov,iv] (setItem ov iv v)
   release [v,ov,iv] []):=by intro _;rfl):PG X (.Subscript o i pos) (gSub to ti t):=by
 intro pins s σ H v u Q I r h;rw [ha];refine wpAny_bind (wpAny_holding (thn (ho pins s σ H _ I h) λov s1 ⟨x,H1,I1,r1,q1⟩=>?_));refine wpAny_bind (wpAny_holding (thn (hi pins s1 σ H1 _ I1 q1) λiv s2 ⟨y,H2,I2,r2,q2⟩=>?_));refine wpAny_bind (wpAny_standAt (wpAny_bind (wpAny_holding (thn (hs pins s2 σ H2 x y v ov iv u _ I2 r1 r2 r q2) λ_ s3 ⟨H3,I3,q3⟩=>?_))));exact wpAny_release ⟨σ,H3,I3,q3⟩
def tV (te:TE) (g:TG):TS:=λD σ H=>te σ H λx H1=>g x σ H1 D.nx
theorem yG {tg e:Expr} {te:TE} {g:TG} (he:PE X e te) (hg:PG X tg g) (hs:swapsWithSole [tg] e pos.line X.env=pure false:=by rfl) (hw:swappedStores [tg] e X.env=pure none:=by rfl)
  (h1:(assignEach [tg] X.env).map (·.2)=[assign tg X.env]:=by rfl):PS X (.Assign [tg] e pos) (tV te g):=by
 intro pins s σ H D I h;refine wpAny_Assign_stores (thn (he pins s σ H _ I h) λv s1 ⟨x,H1,I1,r1,q1⟩=>?_) hs hw;rw [h1];exact thn (hg pins s1 σ H1 x v _ I1 r1 q1) λ_ s2 q=>q
theorem ps_set {i:Nat} {x:Str} {e:Expr} {te:TE} {pos':Pos} (hN:X.N.Nodup) (hi:X.N[i]?=some x) (hx:Loc X.env.scope x) (he:PE X e te) (hs:swapsWith e (some (.Name x pos')) pos.line X.env=pure false:=by rfl) (hf:X.fn x=true\/X.env.scope.names.lookup x=some .local:=by first | exact .inl rfl | exact .inr rfl | assumption) :
  PS X (.Assign [.Name x pos'] e pos) (tV te (i0 i)):=by
 intro pins s σ H D I h;refine wpAny_Assign_Name (thn (he pins s σ H _ I h) λv s1 ⟨y,H1,I1,r1,q1⟩=>?_) hs;exact nq I1 hN hi hx r1 (λs2 I2=>⟨_,H1,I2,q1⟩) hf
end
section
variable {X:Cx} {pos:Pos}
end
structure It where
 go:Nat->Hp->Prop
 yld:Nat->Hp->V->Hp->Prop
 stop:Nat->Hp->Prop
def dQ (X:Cx) (pins:List (Addr×Obj)) (H:Hp) (b:Addr):Prop :=
 H b=none/\b≠X.env.locals/\b∉X.fs/\(b∈X.ex\/X.s₀.heap.objs.size<=b)/\(∀ x c,X.env.cells.lookup x=some c->c≠b)/\∀ p∈X.pn++pins,p.1≠b
theorem Inv.fpOk {X:Cx} {pins:List (Addr×Obj)} {σ:St} {H H':Hp} {s:Shared} {b:Addr} (I:Inv X pins σ H s) (hb:s.heap.objs.size<=b) (hn:H' b=none):dQ X pins H' b:=by
 refine ⟨hn,aAH (aAn I.lt hb),I.nofs hb,.inr (aAE I.sz hb),λx c e z=>?_,λp hp z=>?_⟩
 ·obtain ⟨v,q⟩:=I.cell x c e;exact absurd (aAn q.lt (by rw [z];exact hb)) (aAM _)
 ·exact absurd (aAn (aAe (I.pin p hp).1) (by rw [z];exact hb)) (aAM _)
structure Turn (P:Program) (w:World) (K:W.Frag) (tg:Expr) (J:It) (fp:List Addr) (it:Addr) (tn:Nat->Heap->Prop):Prop where
 mem:it∈fp
 obj:∀ i h,tn i h->∀ b∈fp,∃ o,h.get? b=some o/\∀ v,o.data≠.cell v
 keep:∀ i h h',tn i h->(∀ b∈fp,∀ o,h.get? b=some o->h'.get? b=some o)->tn i h'
 item:∀ (X:Cx),X.prog=P->X.w=w->X.K=K->X.calm=true->∀ (i:Nat) (pins:List (Addr×Obj)) (s:Shared) (σ:St) (H:Hp) (E:Value->Shared->Prop),Inv X pins σ H s->(∀ b∈fp,dQ X pins H b)->tn i s.heap->J.go i H ->
  wpAny (model P w) X.A (pyNext (.ref it)) (λr s1=>∃ u,r=some u /\
   wpAny (model P w) X.A (letOwnedTupleGo tg (.ref it) u) (λ_ s2=>∃ x H',Inv X pins σ H' s2/\RelV x u/\J.yld i H x H'/\tn (i+1) s2.heap/\∀ b∈fp,H' b=none) E s1) E s
 done:∀ (X:Cx),X.prog=P->X.w=w->X.K=K->X.calm=true->∀ (i:Nat) (pins:List (Addr×Obj)) (s:Shared) (σ:St) (H:Hp) (E:Value->Shared->Prop),Inv X pins σ H s->(∀ b∈fp,dQ X pins H b)->tn i s.heap->J.stop i H ->
  wpAny (model P w) X.A (pyNext (.ref it)) (λr s1=>r=none/\Inv X pins σ H s1) E s
 self:∀ (A:Around) (i:Nat) (s:Shared) (Q:Value->Shared->Prop) (E:Value->Shared->Prop),tn i s.heap->Q (.ref it) s->wpAny (model P w) A (pyIter (.ref it)) Q E s
abbrev TI:=St->Hp->(It->Hp->Prop)->Prop
def PIE (X:Cx) (pins:List (Addr×Obj)) (σ:St) (tg:Expr) (R:It->Hp->Prop) (itv:Value) (s2:Shared):Prop :=
 ∃ (it:Addr) (fp:List Addr) (tn:Nat->Heap->Prop) (J:It) (H':Hp),itv=.ref it/\Inv X pins σ H' s2/\Turn X.prog X.w X.K tg J fp it tn/\tn 0 s2.heap/\(∀ b∈fp,dQ X pins H' b)/\R J H'
def PI (X:Cx) (tg iter:Expr) (wi:TI):Prop :=
 ∀ (pins:List (Addr×Obj)) (s:Shared) (σ:St) (H:Hp) (R:It->Hp->Prop),Inv X pins σ H s->wi σ H R ->
  wpAny (model X.prog X.w) X.A (eval iter X.env) (λv s1=>wpAny (model X.prog X.w) X.A (pyIter v) (PIE X pins σ tg R) X.xe s1) X.xe s
theorem nr {M:Model} {A:Around} {E:Value->Shared->Prop} {s:Shared} {tg:Expr} {it:Addr} {u:Value} {o:Obj} {n:String} {vs:Array Value} {Q:Unit->Shared->Prop} (ho:s.heap.get? it=some o) (hc:o.cls=.type n) (hd:o.data=.fields vs)
    (hn:["enumerate","zip","dict_itemiterator","dict_reverseitemiterator","odict_iterator","itertools.zip_longest","itertools.pairwise"].contains n=false) (hQ:Q () s):wpAny M A (letOwnedTupleGo tg (.ref it) u) Q E s:=by
  unfold letOwnedTupleGo
  cases tg <;> first
    | exact wpAny_pure hQ
    | (cases u <;> first
        | exact wpAny_pure hQ
        | (refine wpAny_bind (wpAny_load ho ?_)
           rw [hc,hd];show wpAny M A (if (["enumerate","zip","dict_itemiterator","dict_reverseitemiterator","odict_iterator","itertools.zip_longest","itertools.pairwise"].contains n && vs[0]? == some (rawInt _))=true then _ else _) Q E s;rw [if_neg (by intro h;rw [hn,aAJ] at h;cases h)];exact wpAny_pure hQ))
def Itl (K:W.Frag) (a:Addr):It :=
 ⟨λi H=>∃ xs x,SqL K H a xs/\xs[i]?=some x,λi H x H'=>H'=H/\∀ xs,SqL K H a xs->xs[i]?=some x,λi H=>∃ xs,SqL K H a xs/\xs.length<=i⟩
def Itt (K:W.Frag) (a:Addr):It :=
 ⟨λi H=>∃ xs x,SqT K H a xs/\xs[i]?=some x,λi H x H'=>H'=H/\∀ xs,SqT K H a xs->xs[i]?=some x,λi H=>∃ xs,SqT K H a xs/\xs.length<=i⟩
def Itr (lo:Int) (n:Nat):It:=⟨λi _=>i < n,λi H x H'=>H'=H/\x=.int (lo+i),λi _=>n<=i⟩
theorem rQ {P:Program} {w:World} {K:W.Frag} {tg:Expr} (a it:Addr):Turn P w K tg (Itl K a) [it] it (λi h=>h.IsListIter it a i) where
 mem:=by simp
 obj:=λi h st b hb=>by
  have e:b=it:=by simpa using hb
  subst e;obtain ⟨o,e,c,d⟩:=st;exact ⟨o,e,λv z=>by rw [d] at z;cases z⟩
 keep:=λi h h' st k=>st.at λo e=>k it (by simp) o e
 item:=by
  intro X hP hw hK hc i pins s σ H E I hf st hg;subst hP hw hK;obtain ⟨xs,x,hq,hx⟩:=hg;obtain ⟨its,rv,p,hz⟩:=I.list hq;obtain ⟨u,hu,ru⟩:=rv.get hx;obtain ⟨f0,f1,f2,f3,f4,f5⟩:=hf it (by simp);refine wpAny_pyNext_list_item st p.isList (x:=u) (by simpa using hu) λh' st' sb=>?_;have I1:Inv X pins σ H { s with heap:=h' }:=I.turned (t':=s.toks) (λb o hb e=>(sb.2 b hb).trans e) f0 f1 f3 f4 f5;obtain ⟨o,e,c,d⟩:=id st';exact ⟨u,rfl,nr (s:={ s with heap:=h' }) e c d (by decide) ⟨x,H,I1,ru,⟨rfl,λys hy=>by rw [I.list_inj hy hq];exact hx⟩,st',λb hb=>(hf b hb).1⟩⟩
 done:=by
  intro X hP hw hK hc i pins s σ H E I hf st hg;subst hP hw hK;obtain ⟨xs,hq,hx⟩:=hg;obtain ⟨its,rv,p,hz⟩:=I.list hq;obtain ⟨f0,f1,f2,f3,f4,f5⟩:=hf it (by simp);have hl:=rv.length;exact wpAny_pyNext_list_end (I.ok.hd hc) st p.isList (by simp;lia) λh' eb=>⟨rfl,I.turned (t':=s.toks) (λb o hb e=>eb b o hb e) f0 f1 f3 f4 f5⟩
 self:=λ_ _ _ _ _ st h=>wpAny_pyIter_listiter st h
theorem pz {P:Program} {w:World} {K:W.Frag} {tg:Expr} (a it:Addr):Turn P w K tg (Itt K a) [it] it (λi h=>h.IsTupleIter it a i) where
 mem:=by simp
 obj:=λi h st b hb=>by
  have e:b=it:=by simpa using hb
  subst e;obtain ⟨o,e,c,d⟩:=st;exact ⟨o,e,λv z=>by rw [d] at z;cases z⟩
 keep:=λi h h' st k=>st.at λo e=>k it (by simp) o e
 item:=by
  intro X hP hw hK hc i pins s σ H E I hf st hg;subst hP hw hK;obtain ⟨xs,x,hq,hx⟩:=hg;obtain ⟨its,rv,p,hz⟩:=I.tuple hq;obtain ⟨u,hu,ru⟩:=rv.get hx;obtain ⟨f0,f1,f2,f3,f4,f5⟩:=hf it (by simp);refine wpAny_pyNext_tuple_item st (show s.heap.IsTuple a its.toArray from p) (x:=u) (by simpa using hu) λh' st' sb=>?_;have I1:Inv X pins σ H { s with heap:=h' }:=I.turned (t':=s.toks) (λb o hb e=>(sb.2 b hb).trans e) f0 f1 f3 f4 f5;obtain ⟨o,e,c,d⟩:=id st';exact ⟨u,rfl,nr (s:={ s with heap:=h' }) e c d (by decide) ⟨x,H,I1,ru,⟨rfl,λys hy=>by rw [I.tuple_inj hy hq];exact hx⟩,st',λb hb=>(hf b hb).1⟩⟩
 done:=by
  intro X hP hw hK hc i pins s σ H E I hf st hg;subst hP hw hK;obtain ⟨xs,hq,hx⟩:=hg;obtain ⟨its,rv,p,hz⟩:=I.tuple hq;obtain ⟨f0,f1,f2,f3,f4,f5⟩:=hf it (by simp);have hl:=rv.length;exact wpAny_pyNext_tuple_end (I.ok.hd hc) st (show s.heap.IsTuple a its.toArray from p) (by simp;lia) λh' eb=>⟨rfl,I.turned (t':=s.toks) (λb o hb e=>eb b o hb e) f0 f1 f3 f4 f5⟩
 self:=λ_ _ _ _ _ st h=>wpAny_pyIter_tupleiter st h
theorem pA {P:Program} {w:World} {K:W.Frag} {tg:Expr} (it:Addr) (lo:Int) (n:Nat):Turn P w K tg (Itr lo n) [it] it (λi h=>IsRangeIter h it (lo+(i:Nat)*1) ((n:Int) - (i:Nat)) 1) where
 mem:=by simp
 obj:=λi h st b hb=>by
  have e:b=it:=by simpa using hb
  subst e;exact ⟨_,st,λv z=>by
   have z':Data.fields _=Data.cell v:=z
   cases z'⟩
 keep:=λi h h' st k=>k it (by simp) _ st
 item:=by
  intro X hP hw hK hc i pins s σ H E I hf st hg;subst hP hw hK;obtain ⟨f0,f1,f2,f3,f4,f5⟩:=hf it (by simp);have W:=Walks.range (prog:=X.prog) (w:=X.w) (I.ok.hd hc) it lo 1 n;refine W.item i s _ _ hg st λv h' tk hv st' kk=>?_;obtain ⟨t,rfl⟩:=hv;have I1:Inv X pins σ H { s with heap:=h',toks:=tk }:=I.turned (λb o hb e=>kk b o (by simpa using hb) e) f0 f1 f3 f4 f5;refine ⟨_,rfl,nr (s:={ s with heap:=h',toks:=tk }) (n:= "range_iterator") st' rfl rfl (by decide) ⟨.int (lo+i),H,I1,⟨t,?_⟩,⟨rfl,rfl⟩,st',λb hb=>(hf b hb).1⟩⟩;rw [Int.mul_one]
 done:=by
  intro X hP hw hK hc i pins s σ H E I hf st hg;subst hP hw hK;obtain ⟨f0,f1,f2,f3,f4,f5⟩:=hf it (by simp);exact wpAny_pyNext_range_end (I.ok.hd hc) st (by have:n<=i:=hg;lia) λh' eb=>⟨rfl,I.turned (t':=s.toks) (λb o hb e=>eb b o hb e) f0 f1 f3 f4 f5⟩
 self:=λ_ _ _ _ _ st h=>wpAny_pyIter_rangeiter st h
section
variable {X:Cx} {tg:Expr}
def yh (K:W.Frag) (tl:TE):TI:=λσ H R=>tl σ H λx H1=>∃ a,x=.ref a/\(∃ xs,SqL K H1 a xs)/\R (Itl K a) H1
def Ah (K:W.Frag) (tl:TE):TI:=λσ H R=>tl σ H λx H1=>∃ a,x=.ref a/\(∃ xs,SqT K H1 a xs)/\R (Itt K a) H1
theorem wt {l:Expr} {tl:TE} (hl:PE X l tl):PI X tg l (yh X.K tl):=by
 intro pins s σ H R I h;refine thn (hl pins s σ H _ I h) λv s1 ⟨x,H1,I1,r1,q1⟩=>?_;obtain ⟨a,e,⟨xs,hq⟩,q⟩:=q1;subst e
 cases r1
 obtain ⟨its,rv,p,hz⟩:=I1.list hq;refine wpAny_pyIter_list p.isList ?_;refine ⟨s1.heap.objs.size,[s1.heap.objs.size],_,_,H1,rfl,I1.kept (t':=s1.toks) λb o e=>aAa _ e,rQ a _,⟨_,aAh _ rfl,rfl,rfl⟩,λb hb=>?_,q⟩;have e:b=s1.heap.objs.size:=by simpa using hb
 subst e;exact I1.fpOk (aAm _) (I1.hok.fresh (aAm _))
theorem yH {l:Expr} {tl:TE} (hl:PE X l tl):PI X tg l (Ah X.K tl):=by
 intro pins s σ H R I h;refine thn (hl pins s σ H _ I h) λv s1 ⟨x,H1,I1,r1,q1⟩=>?_;obtain ⟨a,e,⟨xs,hq⟩,q⟩:=q1;subst e
 cases r1
 obtain ⟨its,rv,p,hz⟩:=I1.tuple hq;refine wpAny_pyIter_tuple (show s1.heap.IsTuple a its.toArray from p) ?_;refine ⟨s1.heap.objs.size,[s1.heap.objs.size],_,_,H1,rfl,I1.kept (t':=s1.toks) λb o e=>aAa _ e,pz a _,⟨_,aAh _ rfl,rfl,rfl⟩,λb hb=>?_,q⟩;have e:b=s1.heap.objs.size:=by simpa using hb
 subst e;exact I1.fpOk (aAm _) (I1.hok.fresh (aAm _))
theorem tW {pins:List (Addr×Obj)} {σ:St} {H:Hp} {s:Shared} {R:It->Hp->Prop} {E:Value->Shared->Prop} {lo hi:Int} {t u v:Tok} {tk:Nat} (I:Inv X pins σ H s) (h1:-(2 ^ 62)<=lo) (h2:lo < 2 ^ 62) (h3:-(2 ^ 62)<=hi) (h4:hi < 2 ^ 62)
  (q:R (Itr lo (hi - lo).toNat) H):wpAny (model X.prog X.w) X.A (pyIter (.ref s.heap.objs.size)) (PIE X pins σ tg R) E { s with heap:=s.heap.push { cls:=.type "range",data:=.fields #[.int lo t,.int hi u,.int 1 v] },toks:=tk }:=by
 refine wpAny_pyIter_range (IsRange.new ..) (small_one h1 h2 h3 h4) ?_;have I1:Inv X pins σ H { s with heap:=s.heap.push { cls:=.type "range",data:=.fields #[.int lo t,.int hi u,.int 1 v] },toks:=tk }:=I.kept λb o e=>aAa _ e;refine ⟨(s.heap.push { cls:=.type "range",data:=.fields #[.int lo t,.int hi u,.int 1 v] }).objs.size,[(s.heap.push { cls:=.type "range",data:=.fields #[.int lo t,.int hi u,.int 1 v] }).objs.size],_,_,H,rfl,
  I1.kept (t':=tk) λb o e=>aAa _ e,pA _ lo (hi - lo).toNat,?_,λb hb=>?_,q⟩
 ·have e1:lo+((0:Nat):Int)*1=lo:=by simp
  have e2:(((hi - lo).toNat:Nat):Int) - ((0:Nat):Int)=Builtin.Range.rangeSize lo hi 1:=by rw [rangeSize_one];split <;> lia
  show IsRangeIter _ _ (lo+((0:Nat):Int)*1) ((((hi - lo).toNat:Nat):Int) - ((0:Nat):Int)) 1;rw [e1,e2];exact aAh _ rfl
 ·have e:b=(s.heap.push { cls:=.type "range",data:=.fields #[.int lo t,.int hi u,.int 1 v] }).objs.size:=by simpa using hb
  subst e;exact I1.fpOk (aAm _) (I1.hok.fresh (aAm _))
def Ai (ta:TA):TI:=λσ H R=>ta σ H λvs H1=>∃ j:Int,vs=[.int j]/\-(2 ^ 62)<=j/\j < 2 ^ 62/\R (Itr 0 j.toNat) H1
theorem eZ {a:Expr} {ta:TA} {p pos:Pos} (hg:Gl X "range") (hm:X.mg "range" = none) (ha:PA X [a] ta) (hs:starEach [a] X.env=[(false,eval a X.env)]:=by rfl):PI X tg (.Call (.Name "range" p) [a] [] pos) (Ai ta):=by
 intro pins s σ H R I h;refine Call_ (cH I hg hm boot_range (PyProof.Rows.callWith_type1 (thn (ha pos pins s σ H _ I h) λus s1 ⟨vs,H1,I1,r1,q1⟩=>?_) hs rfl));obtain ⟨j,e,q1,q2,q⟩:=q1;subst e
 cases r1 with
 | cons r rr =>
  cases rr
  obtain ⟨t,rfl⟩:=r;exact call_range_1 (tW I1 (by lia) (by lia) q1 q2 (by simpa using q))
def tFor (wi:TI) (g:TG) (tb:TS):TS:=λD σ H=>wi σ H λJ H1=>∃ W:Nat->Nat->St->Hp->Prop,(∃ m,W 0 m σ H1)/\∀ i m σ H,W i m σ H ->
 (J.stop i H/\D.nx σ H)\/(J.go i H/\∃ N:St->Hp->Prop,(∀ σ' H',N σ' H'->∃ m',m' < m/\W (i+1) m' σ' H')/\∀ x H',J.yld i H x H'->g x σ H' λσ2 H2=>tb { D with nx:=N,ct:=N,bk:=D.nx } σ2 H2)
def lA (fp:List Addr) (h:Heap):List (Addr×Obj):=fp.filterMap λb=>(h.get? b).map λo=>(b,o)
theorem bG {fp:List Addr} {h:Heap} {b:Addr} {o:Obj} (hb:b∈fp) (e:h.get? b=some o):(b,o)∈lA fp h:=aA5.mpr ⟨b,hb,by rw [e];rfl⟩
theorem rS {fp:List Addr} {h:Heap} {p:Addr×Obj} (hp:p∈lA fp h):p.1∈fp/\h.get? p.1=some p.2:=by
 obtain ⟨b,hb,e⟩:=aA5.mp hp
 cases q:h.get? b with
 | none=>rw [q] at e;cases e
 | some o =>
  rw [q] at e;have e':(b,o)=p:=Option.some.inj e;subst e';exact ⟨hb,q⟩
theorem Inv.pinned {pins:List (Addr×Obj)} {σ:St} {H:Hp} {s:Shared} {fp:List Addr} (I:Inv X pins σ H s) (hf:∀ b∈fp,dQ X pins H b) (ho:∀ b∈fp,∃ o,s.heap.get? b=some o/\∀ v,o.data≠.cell v):Inv X (pins++lA fp s.heap) σ H s :=
 I.pins_of λp hp=>(aA3.mp hp).elim (λz=>I.pin p (aAG _ z)) λz=>by
  obtain ⟨hb,e⟩:=rS z;obtain ⟨f0,f1,f2,_⟩:=hf p.1 hb;obtain ⟨o,e',d⟩:=ho p.1 hb;rw [e] at e';cases e';exact ⟨e,f0,f1,f2,d⟩
theorem Inv.unpinned {pins pl:List (Addr×Obj)} {σ:St} {H:Hp} {s:Shared} (I:Inv X (pins++pl) σ H s):Inv X pins σ H s:=I.pins_of λp hp=>I.pin p (aAG _ (List.mem_append_left _ hp))
theorem ps_for {iter:Expr} {body:List Stmt} {wi:TI} {g:TG} {tb:TS} {pos:Pos} (hp:PassesOwn (model X.prog X.w) X.A X.env X.xe) (hc:X.calm=true) (hi:PI X tg iter wi) (hg:PG X tg g) (hb:PSs X body tb)
  (hs:∀ x,foldedSetIterable iter X.env x=pure x:=by intro _;rfl):PS X (.For tg iter body [] pos) (tFor wi g tb):=by
 intro pins s σ H D I h;refine wpAny_For (thn (hi pins s σ H _ I h) λv s1 h1=>thn h1 λitv s2 h2=>?_) hs;obtain ⟨it,fp,tn,J,H2,e,I2,T,st2,f2,W,⟨m0,w0⟩,turn⟩:=h2;subst e;have stat:∀ {H':Hp},(∀ b∈fp,H' b=none)->∀ b∈fp,dQ X pins H' b:=λhn b hb=>⟨hn b hb,(f2 b hb).2⟩;refine codeAny_forLoop_any (λn s'=>∃ i σ' H',Inv X pins σ' H' s'/\tn i s'.heap/\(∀ b∈fp,H' b=none)/\W i n σ' H') ?_ m0 ⟨0,σ,H2,I2,st2,λb hb=>(f2 b hb).1,w0⟩;rintro n s3 ⟨i,σ3,H3,I3,st3,fr3,w3⟩;rcases turn i n σ3 H3 w3 with ⟨stop,qn⟩ | ⟨go,N,hN,step⟩
 ·refine wpAny_passesOwn hp (thn (T.done X rfl rfl rfl hc i pins s3 σ3 H3 X.xe I3 (stat fr3) st3 stop) λr s4 ⟨hr,I4⟩=>?_);subst hr;exact wpAny_execs_nil ⟨σ3,H3,I4,qn⟩
 ·refine wpAny_passesOwn hp (thn (T.item X rfl rfl rfl hc i pins s3 σ3 H3 X.xe I3 (stat fr3) st3 go) λr s4 ⟨u,hr,h4⟩=>?_);subst hr;refine wpAny_passesOwn hp (thn h4 λ_ s5 ⟨x,H5,I5,r5,y5,st5,fr5⟩=>?_);have I5':=I5.pinned (stat fr5) (T.obj _ _ st5);refine wpAny_passesOwn hp (thn (hg _ s5 σ3 H5 x u _ I5' r5 (step x H5 y5)) λ_ s6 ⟨σ6,H6,I6,q6⟩=>?_);refine wpAny_passesOwn hp (thn (hb _ s6 σ6 H6 _ I6 q6) λf s7 q7=>?_);have again:∀ {σ7:St} {H7:Hp},Inv X (pins++lA fp s5.heap) σ7 H7 s7->N σ7 H7->∃ m,m < n/\∃ i σ' H',Inv X pins σ' H' s7/\tn i s7.heap/\(∀ b∈fp,H' b=none)/\W i m σ' H':=λ{σ7 H7} I7 n7=>by
   obtain ⟨m',hm,w7⟩:=hN σ7 H7 n7;refine ⟨m',hm,i+1,σ7,H7,I7.unpinned,T.keep _ _ _ st5 λb hb o e=>(I7.pin (b,o) (aAG _ (aAG _ (bG hb e)))).1,λb hb=>?_,w7⟩;obtain ⟨o,e,d⟩:=T.obj _ _ st5 b hb;exact (I7.pin (b,o) (aAG _ (aAG _ (bG hb e)))).2.1
  cases f with
  | next=>obtain ⟨σ7,H7,I7,n7⟩:=q7;exact again I7 n7
  | cont=>obtain ⟨σ7,H7,I7,n7⟩:=q7;exact again I7 n7
  | brk=>obtain ⟨σ7,H7,I7,q7⟩:=q7;exact ⟨σ7,H7,I7.unpinned,q7⟩
  | ret v=>obtain ⟨x7,σ7,H7,I7,r7,q7⟩:=q7;exact ⟨x7,σ7,H7,I7.unpinned,r7,q7⟩
end
theorem be {K:W.Frag} {a:Addr} {xs:List V} {g:TG} {tb:TS} {D:Ends} {σ:St} {H:Hp} (Pv:Nat->St->Hp->Prop) (h0:Pv 0 σ H) (hl:∀ i σ H,i<=xs.length->Pv i σ H->SqL K H a xs)
  (hs:∀ i x σ H,xs[i]?=some x->Pv i σ H->g x σ H λσ2 H2=>tb { D with nx:=Pv (i+1),ct:=Pv (i+1),bk:=D.nx } σ2 H2) (hd:∀ σ H,Pv xs.length σ H->D.nx σ H) :
  ∃ W:Nat->Nat->St->Hp->Prop,(∃ m,W 0 m σ H)/\∀ i m σ H,W i m σ H ->
   ((Itl K a).stop i H/\D.nx σ H)\/((Itl K a).go i H/\∃ N:St->Hp->Prop,(∀ σ' H',N σ' H'->∃ m',m' < m/\W (i+1) m' σ' H')/\∀ x H',(Itl K a).yld i H x H'->g x σ H' λσ2 H2=>tb { D with nx:=N,ct:=N,bk:=D.nx } σ2 H2):=by
 refine ⟨λi m σ H=>m=xs.length - i/\i<=xs.length/\Pv i σ H,⟨xs.length,by simp,aAB _,h0⟩,?_⟩;rintro i m σ H ⟨rfl,hi,p⟩;have q:=hl i σ H hi p
 by_cases hlt:i < xs.length
 ·refine .inr ⟨⟨xs,xs[i],q,by simp [hlt]⟩,Pv (i+1),λσ' H' p'=>⟨xs.length - (i+1),by lia,rfl,hlt,p'⟩,λx H' y=>?_⟩;obtain ⟨e,y⟩:=y;subst e;exact hs i x σ _ (y xs q) p
 ·have e:i=xs.length:=by lia
  subst e;exact .inl ⟨⟨xs,q,aAm _⟩,hd σ H p⟩
theorem fY {K:W.Frag} {a:Addr} {xs:List V} {g:TG} {tb:TS} {D:Ends} {σ:St} {H:Hp} (Pv:Nat->St->Hp->Prop) (h0:Pv 0 σ H) (hl:∀ i σ H,i<=xs.length->Pv i σ H->SqT K H a xs)
  (hs:∀ i x σ H,xs[i]?=some x->Pv i σ H->g x σ H λσ2 H2=>tb { D with nx:=Pv (i+1),ct:=Pv (i+1),bk:=D.nx } σ2 H2) (hd:∀ σ H,Pv xs.length σ H->D.nx σ H) :
  ∃ W:Nat->Nat->St->Hp->Prop,(∃ m,W 0 m σ H)/\∀ i m σ H,W i m σ H ->
   ((Itt K a).stop i H/\D.nx σ H)\/((Itt K a).go i H/\∃ N:St->Hp->Prop,(∀ σ' H',N σ' H'->∃ m',m' < m/\W (i+1) m' σ' H')/\∀ x H',(Itt K a).yld i H x H'->g x σ H' λσ2 H2=>tb { D with nx:=N,ct:=N,bk:=D.nx } σ2 H2):=by
 refine ⟨λi m σ H=>m=xs.length - i/\i<=xs.length/\Pv i σ H,⟨xs.length,by simp,aAB _,h0⟩,?_⟩;rintro i m σ H ⟨rfl,hi,p⟩;have q:=hl i σ H hi p
 by_cases hlt:i < xs.length
 ·refine .inr ⟨⟨xs,xs[i],q,by simp [hlt]⟩,Pv (i+1),λσ' H' p'=>⟨xs.length - (i+1),by lia,rfl,hlt,p'⟩,λx H' y=>?_⟩;obtain ⟨e,y⟩:=y;subst e;exact hs i x σ _ (y xs q) p
 ·have e:i=xs.length:=by lia
  subst e;exact .inl ⟨⟨xs,q,aAm _⟩,hd σ H p⟩
theorem e7 {lo:Int} {n:Nat} {g:TG} {tb:TS} {D:Ends} {σ:St} {H:Hp} (Pv:Nat->St->Hp->Prop) (h0:Pv 0 σ H)
  (hs:∀ i σ H,i < n->Pv i σ H->g (.int (lo+i)) σ H λσ2 H2=>tb { D with nx:=Pv (i+1),ct:=Pv (i+1),bk:=D.nx } σ2 H2) (hd:∀ σ H,Pv n σ H->D.nx σ H) :
  ∃ W:Nat->Nat->St->Hp->Prop,(∃ m,W 0 m σ H)/\∀ i m σ H,W i m σ H ->
   ((Itr lo n).stop i H/\D.nx σ H)\/((Itr lo n).go i H/\∃ N:St->Hp->Prop,(∀ σ' H',N σ' H'->∃ m',m' < m/\W (i+1) m' σ' H')/\∀ x H',(Itr lo n).yld i H x H'->g x σ H' λσ2 H2=>tb { D with nx:=N,ct:=N,bk:=D.nx } σ2 H2):=by
 refine ⟨λi m σ H=>m=n - i/\i<=n/\Pv i σ H,⟨n,by simp,aAB _,h0⟩,?_⟩;rintro i m σ H ⟨rfl,hi,p⟩
 by_cases hlt:i < n
 ·refine .inr ⟨hlt,Pv (i+1),λσ' H' p'=>⟨n - (i+1),by lia,rfl,hlt,p'⟩,λx H' y=>?_⟩;obtain ⟨e,y⟩:=y;subst e y;exact hs i σ _ hlt p
 ·have e:i=n:=by lia
  subst e;exact .inl ⟨aAm _,hd σ H p⟩
abbrev R2:=V->V->Hp->VK->Prop
def OpR (X:Cx) (f:Value->Value->Sem Value) (r:R2):Prop :=
 ∀ (pins:List (Addr×Obj)) (s:Shared) (σ:St) (H:Hp) (x y:V) (v u:Value) (Q:VK),Inv X pins σ H s->RelV x v->RelV y u->r x y H Q ->
  wpAny (model X.prog X.w) X.A (f v u) (EP X pins σ Q) X.xe s
def UnR (X:Cx) (f:Value->Sem Value) (r:V->Hp->VK->Prop):Prop :=
 ∀ (pins:List (Addr×Obj)) (s:Shared) (σ:St) (H:Hp) (x:V) (v:Value) (Q:VK),Inv X pins σ H s->RelV x v->r x H Q ->
  wpAny (model X.prog X.w) X.A (f v) (EP X pins σ Q) X.xe s
def aP (X:Cx) (f:Value) (r:List V->Hp->VK->Prop):Prop :=
 ∀ (pins:List (Addr×Obj)) (s:Shared) (σ:St) (H:Hp) (xs:List V) (us:List Value) (Q:VK),Inv X pins σ H s->Vals xs us->r xs H Q ->
  wpAny (model X.prog X.w) X.A (call f us) (EP X pins σ Q) X.xe s
def tOp (r:R2) (ta tb:TE):TE:=λσ H Q=>ta σ H λx H1=>tb σ H1 λy H2=>r x y H2 Q
def tUn (r:V->Hp->VK->Prop) (ta:TE):TE:=λσ H Q=>ta σ H λx H1=>r x H1 Q
inductive IRI (C:Int->Int->Prop) (g:Int->Int->V) (x y:V) (H:Hp) (Q:VK):Prop
 | mk (i j:Int):(x=.int i)->(y=.int j)->(C i j)->(Q (g i j) H)->IRI C g x y H Q
def rI (C:Int->Int->Prop) (g:Int->Int->V):R2:=λx y H Q=>IRI C g x y H Q
inductive IRI0 (g:Int->Int->V) (x y:V) (H:Hp) (Q:VK):Prop
 | mk (i j:Int):(x=.int i)->(y=.int j)->(Q (g i j) H)->IRI0 g x y H Q
def rI0 (g:Int->Int->V):R2:=λx y H Q=>IRI0 g x y H Q
def rU (g:Int->V):V->Hp->VK->Prop:=λx H Q=>∃ i,x=.int i/\Q (g i) H
section
variable {X:Cx} {a b c:Expr} {ta tb tc:TE} {pos:Pos}
theorem yJ (ha:PE X a ta) (hb:PE X b tb) {pins:List (Addr×Obj)} {s:Shared} {σ:St} {H:Hp} {R:V->V->Hp->Prop} (I:Inv X pins σ H s)
  (h:ta σ H λx H1=>tb σ H1 λy H2=>R x y H2) {Q:Value->Shared->Prop} {f:Value->Value->Sem Value}
  (hf:∀ v u s2 x y H2,Inv X pins σ H2 s2->RelV x v->RelV y u->R x y H2->wpAny (model X.prog X.w) X.A (f v u) Q X.xe s2) :
  wpAny (model X.prog X.w) X.A (eval a X.env) (λv s₁=>wpAny (model X.prog X.w) X.A (eval b X.env) (λu s₂=>wpAny (model X.prog X.w) X.A (f v u) Q X.xe s₂) X.xe s₁) X.xe s:=by
 refine thn (ha pins s σ H _ I h) λv s1 ⟨x,H1,I1,r1,q1⟩=>?_;refine thn (hb pins s1 σ H1 _ I1 q1) λu s2 ⟨y,H2,I2,r2,q2⟩=>?_;exact hf v u s2 x y H2 I2 r1 r2 q2
theorem pe_op {op:Operator} {r:R2} (ho:OpR X (binaryOp op) r) (ha:PE X a ta) (hb:PE X b tb):PE X (.BinOp a op b pos) (tOp r ta tb):=by
 intro pins s σ H Q I h;exact wpAny_BinOp (yJ ha hb I h λv u s2 x y H2 I2 rx ry q=>ho pins s2 σ H2 x y v u Q I2 rx ry q)
theorem pe_un {op:UnaryOp} {r:V->Hp->VK->Prop} (ho:UnR X (unaryOp op) r) (ha:PE X a ta):PE X (.UnaryOp op a pos) (tUn r ta):=by
 intro pins s σ H Q I h;exact UnaryOp_ (thn (ha pins s σ H _ I h) λv s1 ⟨x,H1,I1,r1,q1⟩=>ho pins s1 σ H1 x v Q I1 r1 q1)
theorem opI {f:Value->Value->Sem Value} {C:Int->Int->Prop} {g:Int->Int->Int}
  (rule:∀ (i j:Int) (t u:Tok) (s:Shared) (Q:Value->Shared->Prop) (E:Value->Shared->Prop),C i j->Q (.int (g i j) s.toks) { s with toks:=s.toks+1 }->wpAny (model X.prog X.w) X.A (f (.int i t) (.int j u)) Q E s) :
  OpR X f (rI C λi j=>.int (g i j)):=by
 intro pins s σ H x y v u Q I rx ry h;obtain ⟨i,j,rfl,rfl,hc,q⟩:=h;obtain ⟨t,rfl⟩:=rx;obtain ⟨t',rfl⟩:=ry;exact rule i j t t' s _ _ hc ⟨.int (g i j),H,I.tok _,⟨_,rfl⟩,q⟩
theorem Aj {f:Value->Value->Sem Value} {g:Int->Int->Int}
  (rule:∀ (i j:Int) (t u:Tok) (s:Shared) (Q:Value->Shared->Prop) (E:Value->Shared->Prop),Q (.int (g i j) s.toks) { s with toks:=s.toks+1 }->wpAny (model X.prog X.w) X.A (f (.int i t) (.int j u)) Q E s) :
  OpR X f (rI0 λi j=>.int (g i j)):=by
 intro pins s σ H x y v u Q I rx ry h;obtain ⟨i,j,rfl,rfl,q⟩:=h;obtain ⟨t,rfl⟩:=rx;obtain ⟨t',rfl⟩:=ry;exact rule i j t t' s _ _ ⟨.int (g i j),H,I.tok _,⟨_,rfl⟩,q⟩
theorem wx {f:Value->Value->Sem Value} {g:Int->Int->Bool}
  (rule:∀ (i j:Int) (t u:Tok) (s:Shared) (Q:Value->Shared->Prop) (E:Value->Shared->Prop),Q (.bool (g i j)) s->wpAny (model X.prog X.w) X.A (f (.int i t) (.int j u)) Q E s) :
  OpR X f (rI0 λi j=>.bl (g i j)):=by
 intro pins s σ H x y v u Q I rx ry h;obtain ⟨i,j,rfl,rfl,q⟩:=h;obtain ⟨t,rfl⟩:=rx;obtain ⟨t',rfl⟩:=ry;exact rule i j t t' s _ _ ⟨.bl (g i j),H,I,rfl,q⟩
def By (i j:Int):Prop:=0<=j/\j<=1000000/\i.natAbs < 2 ^ 64
def CMul (i j:Int):Prop:=(-(2 ^ 64) < i/\i < 2 ^ 64)\/(-(2 ^ 64) < j/\j < 2 ^ 64)
theorem CMul.ok {i j:Int} (h:CMul i j):IntMulOk i j:=by
 rcases h with ⟨h1,h2⟩ | ⟨h1,h2⟩
 ·exact .of_left (intBits_le_64 h1 h2)
 ·exact .of_right (intBits_le_64 h1 h2)
theorem fK:OpR X (binaryOp .Add) (rI0 λi j=>.int (i+j)):=Aj λ_ _ _ _ _ _ _ q=>add_int q
theorem op_sub:OpR X (binaryOp .Sub) (rI0 λi j=>.int (i - j)):=Aj λ_ _ _ _ _ _ _ q=>sub_int q
theorem gS:OpR X (binaryOp .Mult) (rI CMul λi j=>.int (i*j)):=opI λ_ _ _ _ _ _ _ hc q=>mul_int q hc.ok
theorem gU:OpR X (binaryOp .Mod) (rI (λ_ j=>0 < j) λi j=>.int (i % j)):=opI λi j _ _ _ _ _ hc q=>by
 have h1:(0:Int) < j:=hc;exact mod_int' (by lia) (by rw [Int.fmod_eq_emod_of_nonneg i (by lia)];exact q)
theorem op_pow:OpR X (binaryOp .Pow) (rI By λi j=>.int (i ^ j.toNat)):=opI λ_ _ _ _ _ _ _ hc q=>pow_int_small hc.1 hc.2.1 hc.2.2 q
theorem unI {f:Value->Sem Value} {g:Int->Int}
  (rule:∀ (i:Int) (t:Tok) (s:Shared) (Q:Value->Shared->Prop) (E:Value->Shared->Prop),Q (.int (g i) s.toks) { s with toks:=s.toks+1 }->wpAny (model X.prog X.w) X.A (f (.int i t)) Q E s) :
  UnR X f (rU λi=>.int (g i)):=by
 intro pins s σ H x v Q I rx h;obtain ⟨i,rfl,q⟩:=h;obtain ⟨t,rfl⟩:=rx;exact rule i t s _ _ ⟨.int (g i),H,I.tok _,⟨_,rfl⟩,q⟩
theorem un_neg:UnR X (unaryOp .USub) (rU λi=>.int (-i)):=unI λ_ _ _ _ _ q=>neg_int q
end
def yK:V->V->Bool
 | .non,.non=>true | .non,.int _=>true | .int _,.non=>true | .non,.bl _=>true | .bl _,.non=>true | .non,.str _=>true | .str _,.non=>true
 | .int _,.int _=>true | .bl _,.bl _=>true | .str _,.str _=>true | .byt _,.byt _=>true
 | .int _,.str _=>true | .str _,.int _=>true | .bl _,.str _=>true | .str _,.bl _=>true
 | _,_=>false
def rEq:R2:=λx y H Q=>yK x y=true/\Q (.bl (decide (x=y))) H
def rNe:R2:=λx y H Q=>yK x y=true/\Q (.bl (!decide (x=y))) H
theorem qJ {i j:Int}:decide (V.int i=V.int j)=(i == j):=by
 rw [aAQ];simp
theorem tX {i j:Bool}:decide (V.bl i=V.bl j)=(i == j):=by
 rw [aAQ];simp
theorem qK {i j:Str}:decide (V.str i=V.str j)=(i == j):=by
 rw [aAQ];simp
theorem qL {i j:Array UInt8}:decide (V.byt i=V.byt j)=(i.toList == j.toList):=by
 rw [aAQ]
 cases i
 cases j
 simp
section
variable {X:Cx} {a b c:Expr} {ta tb tc:TE} {pos:Pos}
theorem aw {pins:List (Addr×Obj)} {σ:St} {H:Hp} {s:Shared} {Q:VK} {k k':Bool} (I:Inv X pins σ H s) (q:Q (.bl k) H) (e:k=k'):EP X pins σ Q (.bool k') s:=by
 subst e;exact ⟨.bl k,H,I,rfl,q⟩
theorem op_eq:OpR X (compareOp .Eq) rEq:=by
 intro pins s σ H x y v u Q I rx ry h;obtain ⟨hs,q⟩:=h
 cases x with
 | non =>
  cases rx
  cases y with
  | non=>cases ry;exact PySem.EqNone.eq_none_none (aw I q (by simp))
  | bl j=>cases ry;exact PySem.EqNone.eq_none_bool (aw I q (by simp))
  | int j=>obtain ⟨t',rfl⟩:=ry;exact PySem.EqNone.eq_none_int (aw I q (by simp))
  | str j=>obtain ⟨t',rfl⟩:=ry;exact PySem.EqNone.eq_none_str (aw I q (by simp))
  | _=>exact absurd (show false=true from hs) aAu
 | bl i =>
  cases rx
  cases y with
  | non=>cases ry;exact PySem.EqNone.eq_bool_none (aw I q (by simp))
  | bl j=>cases ry;exact eq_bool (aw I q tX)
  | str j=>obtain ⟨t',rfl⟩:=ry;exact PySem.EqMixed.eq_bool_str (aw I q (by simp))
  | _=>exact absurd (show false=true from hs) aAu
 | int i =>
  obtain ⟨t,rfl⟩:=rx
  cases y with
  | non=>cases ry;exact PySem.EqNone.eq_int_none (aw I q (by simp))
  | int j=>obtain ⟨t',rfl⟩:=ry;exact eq_int (aw I q qJ)
  | str j=>obtain ⟨t',rfl⟩:=ry;exact PySem.EqMixed.eq_int_str (aw I q (by simp))
  | _=>exact absurd (show false=true from hs) aAu
 | str i =>
  obtain ⟨t,rfl⟩:=rx
  cases y with
  | non=>cases ry;exact PySem.EqNone.eq_str_none (aw I q (by simp))
  | bl j=>cases ry;exact PySem.EqMixed.eq_str_bool (aw I q (by simp))
  | int j=>obtain ⟨t',rfl⟩:=ry;exact PySem.EqMixed.eq_str_int (aw I q (by simp))
  | str j=>obtain ⟨t',rfl⟩:=ry;exact eq_str (aw I q qK)
  | _=>exact absurd (show false=true from hs) aAu
 | byt i =>
  obtain ⟨t,rfl⟩:=rx
  cases y with
  | byt j=>obtain ⟨t',rfl⟩:=ry;exact W.eq_bytes (aw I q qL)
  | _=>exact absurd (show false=true from hs) aAu
 | _=>cases y <;> exact absurd (show false=true from hs) aAu
theorem op_ne:OpR X (compareOp .NotEq) rNe:=by
 intro pins s σ H x y v u Q I rx ry h;obtain ⟨hs,q⟩:=h
 cases x with
 | non =>
  cases rx
  cases y with
  | non=>cases ry;exact PySem.EqNone.ne_none_none (aw I q (by simp))
  | bl j=>cases ry;exact PySem.EqNone.ne_none_bool (aw I q (by simp))
  | int j=>obtain ⟨t',rfl⟩:=ry;exact PySem.EqNone.ne_none_int (aw I q (by simp))
  | str j=>obtain ⟨t',rfl⟩:=ry;exact PySem.EqNone.ne_none_str (aw I q (by simp))
  | _=>exact absurd (show false=true from hs) aAu
 | bl i =>
  cases rx
  cases y with
  | non=>cases ry;exact PySem.EqNone.ne_bool_none (aw I q (by simp))
  | bl j=>cases ry;exact ne_bool (aw I q (congrArg not tX))
  | str j=>obtain ⟨t',rfl⟩:=ry;exact PySem.EqMixed.ne_bool_str (aw I q (by simp))
  | _=>exact absurd (show false=true from hs) aAu
 | int i =>
  obtain ⟨t,rfl⟩:=rx
  cases y with
  | non=>cases ry;exact PySem.EqNone.ne_int_none (aw I q (by simp))
  | int j=>obtain ⟨t',rfl⟩:=ry;exact ne_int (aw I q (congrArg not qJ))
  | str j=>obtain ⟨t',rfl⟩:=ry;exact PySem.EqMixed.ne_int_str (aw I q (by simp))
  | _=>exact absurd (show false=true from hs) aAu
 | str i =>
  obtain ⟨t,rfl⟩:=rx
  cases y with
  | non=>cases ry;exact PySem.EqNone.ne_str_none (aw I q (by simp))
  | bl j=>cases ry;exact PySem.EqMixed.ne_str_bool (aw I q (by simp))
  | int j=>obtain ⟨t',rfl⟩:=ry;exact PySem.EqMixed.ne_str_int (aw I q (by simp))
  | str j=>obtain ⟨t',rfl⟩:=ry;exact ne_str (aw I q (congrArg not qK))
  | _=>exact absurd (show false=true from hs) aAu
 | byt i =>
  obtain ⟨t,rfl⟩:=rx
  cases y with
  | byt j=>obtain ⟨t',rfl⟩:=ry;exact W.ne_bytes (aw I q (congrArg not qL))
  | _=>exact absurd (show false=true from hs) aAu
 | _=>cases y <;> exact absurd (show false=true from hs) aAu
theorem yi:OpR X (compareOp .Lt) (rI0 λi j=>.bl (decide (i < j))):=wx λ_ _ _ _ _ _ _ q=>lt_int q
theorem op_le:OpR X (compareOp .LtE) (rI0 λi j=>.bl (decide (i<=j))):=wx λ_ _ _ _ _ _ _ q=>le_int q
theorem op_gt:OpR X (compareOp .Gt) (rI0 λi j=>.bl (decide (j < i))):=wx λ_ _ _ _ _ _ _ q=>gt_int q
theorem Ak:OpR X (compareOp .GtE) (rI0 λi j=>.bl (decide (j<=i))):=wx λ_ _ _ _ _ _ _ q=>ge_int q
theorem rV:OpR X (compareOp .Lt) (λx y H Q=>∃ i j,x=.str i/\y=.str j/\Q (.bl (decide (i.cps.toList < j.cps.toList))) H):=by
 intro pins s σ H x y v u Q I rx ry h;obtain ⟨i,j,rfl,rfl,q⟩:=h;obtain ⟨t,rfl⟩:=rx;obtain ⟨t',rfl⟩:=ry;exact lt_str (aw I q rfl)
theorem rW:OpR X (compareOp .In) (λx y H Q=>∃ i j,x=.str i/\y=.str j/\Q (.bl (!(Builtin.Str.occurrences j i 0 j.length 1).isEmpty)) H):=by
 intro pins s σ H x y v u Q I rx ry h;obtain ⟨i,j,rfl,rfl,q⟩:=h;obtain ⟨t,rfl⟩:=rx;obtain ⟨t',rfl⟩:=ry;exact in_str (aw I q rfl)
theorem op_isN:OpR X (compareOp .Is) (λx y H Q=>y=.non/\Q (.bl (decide (x=.non))) H):=by
 intro pins s σ H x y v u Q I rx ry h;obtain ⟨rfl,q⟩:=h
 cases ry
 refine is_none_gen (aw I q ?_)
 cases x <;> first
  | (cases rx;rfl)
  | (obtain ⟨t,rfl⟩:=rx;rfl)
theorem op_notN:OpR X (compareOp .IsNot) (λx y H Q=>y=.non/\Q (.bl (!decide (x=.non))) H):=by
 intro pins s σ H x y v u Q I rx ry h;obtain ⟨rfl,q⟩:=h
 cases ry
 refine isnot_none_gen (aw I q ?_)
 cases x <;> first
  | (cases rx;rfl)
  | (obtain ⟨t,rfl⟩:=rx;rfl)
theorem nomark (b:Expr) {op:CmpOp} (h:op≠.In:=by decide) (h2:op≠.NotIn:=by decide):behindInMarks op b=false:=by
 have e1:(op == CmpOp.In)=false:=by cases op <;> first | rfl | exact absurd rfl h
 have e2:(op == CmpOp.NotIn)=false:=by cases op <;> first | rfl | exact absurd rfl h2
 cases b <;> simp [behindInMarks,e1,e2]
theorem pe_cmpR {op:CmpOp} {r:R2} (ho:OpR X (compareOp op) r) (ha:PE X a ta) (hb:PE X b tb) (hm:behindInMarks op b=false):PE X (.Compare a [op] [b] pos) (tOp r ta tb):=by
 intro pins s σ H Q I h;exact wpAny_Compare1 (yJ ha hb I h λv u s2 x y H2 I2 rx ry q=>ho pins s2 σ H2 x y v u Q I2 rx ry q) hm
inductive IBl (x:V) (H':Hp) (Q:Bool->Hp->Prop):Prop
 | mk (k:Bool):(x=.bl k)->(Q k H')->IBl x H' Q
def nu (t:TE):TT:=λσ H Q=>t σ H λx H'=>IBl x H' Q
theorem pt_cmpR {op:CmpOp} {r:R2} (ho:OpR X (compareOp op) r) (ha:PE X a ta) (hb:PE X b tb) (hm:behindInMarks op b=false):PT X (.Compare a [op] [b] pos) (nu (tOp r ta tb)):=by
 intro pins s σ H Q I h;refine wpAny_isTrue_Compare1 (thn (ha pins s σ H _ I h) λv s1 ⟨x,H1,I1,r1,q1⟩=>thn (hb pins s1 σ H1 _ I1 q1) λu s2 ⟨y,H2,I2,r2,q2⟩ =>
  thn (ho pins s2 σ H2 x y v u _ I2 r1 r2 q2) λc s3 ⟨z,H3,I3,r3,k,e,q3⟩=>?_) hm
 subst e
 cases r3
 exact wpAny_truthy_bool ⟨H3,I3,q3⟩
def tY (r r':R2) (ta tb tc:TE):TE:=λσ H Q=>ta σ H λx H1=>tb σ H1 λy H2=>r x y H2 λz H3=>∃ k,z=.bl k /\
 (if k=true then tc σ H3 λw' H4=>r' y w' H4 Q else Q (.bl false) H3)
theorem tZ {op op':CmpOp} {r r':R2} (ho:OpR X (compareOp op) r) (ho':OpR X (compareOp op') r') (ha:PE X a ta) (hb:PE X b tb) (hc:PE X c tc)
  (hm:lastMarks [op,op'] [b,c]=false:=by with_unfolding_all rfl):PE X (.Compare a [op,op'] [b,c] pos) (tY r r' ta tb tc):=by
 intro pins s σ H Q I h;refine Compare_chain (thn (ha pins s σ H _ I h) λv s1 ⟨x,H1,I1,r1,q1⟩=>chain_link (thn (hb pins s1 σ H1 _ I1 q1) λu s2 ⟨y,H2,I2,r2,q2⟩ =>
  thn (ho pins s2 σ H2 x y v u _ I2 r1 r2 q2) λd s3 ⟨z,H3,I3,r3,k,e,q3⟩=>?_)) hm
 subst e
 cases r3
 refine wpAny_truthy_bool ?_
 cases k with
 | false=>exact ite_ff ⟨.bl false,H3,I3,rfl,q3⟩
 | true=>exact ite_tt (chain_last (thn (hc pins s3 σ H3 _ I3 q3) λw' s4 ⟨z',H4,I4,r4,q4⟩=>ho' pins s4 σ H4 y z' u w' Q I4 r2 r4 q4))
theorem pt_chain {op op':CmpOp} {r r':R2} (ho:OpR X (compareOp op) r) (ho':OpR X (compareOp op') r') (ha:PE X a ta) (hb:PE X b tb) (hc:PE X c tc)
  (hm:lastMarks [op,op'] [b,c]=false:=by with_unfolding_all rfl):PT X (.Compare a [op,op'] [b,c] pos) (nu (tY r r' ta tb tc)):=by
 intro pins s σ H Q I h;refine isTrue_chain (thn (ha pins s σ H _ I h) λv s1 ⟨x,H1,I1,r1,q1⟩=>test_link (thn (hb pins s1 σ H1 _ I1 q1) λu s2 ⟨y,H2,I2,r2,q2⟩ =>
  thn (ho pins s2 σ H2 x y v u _ I2 r1 r2 q2) λd s3 ⟨z,H3,I3,r3,k,e,q3⟩=>?_)) hm
 subst e
 cases r3
 refine wpAny_truthy_bool ?_
 cases k with
 | false =>
  obtain ⟨k',e',q'⟩:=q3
  cases e'
  exact ite_ff ⟨H3,I3,q'⟩
 | true =>
  refine ite_tt (test_last (thn (hc pins s3 σ H3 _ I3 q3) λw' s4 ⟨z',H4,I4,r4,q4⟩=>thn (ho' pins s4 σ H4 y z' u w' _ I4 r2 r4 q4) λd' s5 ⟨z2,H5,I5,r5,k2,e2,q5⟩=>?_));subst e2
  cases r5
  exact wpAny_truthy_bool ⟨H5,I5,q5⟩
theorem i4:(sizeLine:Nat) < 2 ^ 63:=by rw [sizeLine_eq];decide
theorem bE {x:V} {us:List Value} (r:Vals [x] us):∃ u,us=[u]/\RelV x u:=by
 cases r with
 | cons r1 r2=>cases r2;exact ⟨_,rfl,r1⟩
theorem Al {x y:V} {us:List Value} (r:Vals [x,y] us):∃ u w',us=[u,w']/\RelV x u/\RelV y w':=by
 cases r with
 | cons r1 r2 =>
  cases r2 with
  | cons r3 r4=>cases r4;exact ⟨_,_,rfl,r1,r3⟩
theorem kB:aP X (.type "int") (λxs H Q=>(∃ i,xs=[.int i]/\Q (.int i) H)\/∃ k,xs=[.bl k]/\Q (.int (if k then 1 else 0)) H):=by
 intro pins s σ H xs us Q I r h;rcases h with ⟨i,rfl,q⟩ | ⟨k,rfl,q⟩
 ·obtain ⟨u,rfl,t,rfl⟩:=bE r;exact call_int_int ⟨.int i,H,I,⟨_,rfl⟩,q⟩
 ·obtain ⟨u,rfl,r1⟩:=bE r
  cases r1
  exact call_int_bool ⟨.int (if k then 1 else 0),H,I.tok _,⟨_,rfl⟩,q⟩
end
structure ObjM (h:Heap) (x dx C:Addr) (mA:Str->Option Value):Prop where
 obj:h.get? x=some (W.instObj C dx)
 ns:h.Ns1 dx mA
 ne:dx≠x
section
variable {prog:Program} {w:World} {A:Around} {E:Value->Shared->Prop} {s:Shared} {K:W.Frag} {x dx C f:Addr} {mA:Str->Option Value} {name:Str} {v:Value}
end
theorem RelO.some_of {v:V} {o:Option Value} (r:RelO (some v) o):∃ u,o=some u/\RelV v u:=by
 cases o with
 | none=>exact (show False from r).elim
 | some u=>exact ⟨u,rfl,r⟩
section
variable {P:Program} {w:World} {H H':Hp} {h h':Heap} {a C dx:Addr} {fs fs':List (Str×V)}
end
structure Cls (K:W.Frag) (C:Addr):Prop where
 pg:W.plainGet K C Str.empty=true
 hd:W.hasDictIn K C=true
 po:W.plainOver K C=true
 sa:W.findIn K (.ref C) "__setattr__" = some (some (.builtin "object.__setattr__"))
section
variable {X:Cx} {pins:List (Addr×Obj)} {σ:St} {H:Hp} {s:Shared} {a C dx:Addr} {fs:List (Str×V)} {f:Str} {v:V} {A:Around} {E:Value->Shared->Prop}
end
section
variable {X:Cx} {o e value:Expr} {f:Str} {pos pos' tpos:Pos} {ta tv:TE}
end
section
variable {X:Cx} {pins:List (Addr×Obj)} {σ:St} {H:Hp} {s:Shared} {A:Around} {E:Value->Shared->Prop} {Q:Value->Shared->Prop} {c:Value} {b:Bool}
end
structure Room (k:Nat) (A:Around):Prop where
 hd:A.handled=none
 dp:A.depth+3*k+5 < recursionLimit
 un:A.units+16*k+200 < cLine
theorem Room.mono {j k:Nat} {A:Around} (r:Room k A) (h:j<=k):Room j A:=⟨r.hd,by have:=r.dp;lia,by have:=r.un;lia⟩
theorem Room.deeper {k:Nat} {A:Around} (r:Room (k+1) A) (env:Env):Room k (A.deeper env) :=
 ⟨r.hd,by have:=r.dp;show A.depth+1+3*k+5 < _;lia,by have:=r.un;show A.units+3+16*k+200 < _;lia⟩
theorem Room.depth {k:Nat} {A:Around} (r:Room k A):A.depth < recursionLimit:=by have:=r.dp;lia
theorem Room.units {k:Nat} {A:Around} (r:Room k A):A.units+64 < cLine:=by have:=r.un;lia
def rX:TA:=λ_ H Q=>Q [] H
def fw (ta:TE) (tr:TA):TA:=λσ H Q=>ta σ H λx H1=>tr σ H1 λxs H2=>Q (x :: xs) H2
section
variable {X:Cx} {e:Expr} {es:List Expr} {te:TE} {t:TA} {pos:Pos}
theorem a9:PA X [] rX:=λ_ _ _ _ H Q I h=>Calls.spliced_nil ⟨[],H,I,.nil,h⟩
theorem pa_cons (ha:PE X e te) (hr:PA X es t) (hs:starEach (e :: es) X.env=(false,eval e X.env) :: starEach es X.env:=by rfl):PA X (e :: es) (fw te t):=by
 intro pos pins s σ H Q I h;rw [hs];show wpAny _ _ (spliced ((false,eval e X.env) :: backTo pos (starEach es X.env))) _ _ s;refine Calls.spliced_cons (thn (ha pins s σ H _ I h) λu s1 ⟨x,H1,I1,r1,q1⟩=>?_);exact thn (hr pos pins s1 σ H1 _ I1 q1) λus s2 ⟨xs,H2,I2,r2,q2⟩=>⟨x :: xs,H2,I2,.cons r1 r2,q2⟩
def Bz (t:TA):TE:=λσ H Q=>t σ H λxs H1=>xs.length<=sizeLine/\∀ p,H1 p=none->Q (.ref p) (upd H1 p (.lst xs))
theorem aB (h:PA X es t):PE X (.List es pos) (Bz t):=by
 intro pins s σ H Q I hq;refine wpAny_List_spliced (thn (h pos pins s σ H _ I hq) λus s1 ⟨xs,H1,I1,r,z,q⟩=>⟨by rw [<- r.length];exact z,?_⟩);have hf:H1 s1.heap.objs.size=none:=I1.hok.fresh (aAm _);refine ⟨.ref s1.heap.objs.size,upd H1 s1.heap.objs.size (.lst xs),I1.laid (t':=s1.toks) (λb u e=>aAa _ e) (aAm _) ?_,rfl,q _ hf⟩;exact ⟨z,us,0,r,aAh _ rfl⟩
end
abbrev Sp:=List V->Hp->VK->XK->Prop
abbrev CXT:=List Env->Hp->Shared->XK->Value->Shared->Prop
structure Env0 (P:Program) (w:World) (K:W.Frag) (mg:Str->Option Value) (base:Heap) (A:Around) (outer:List Env) (s:Shared) (H:Hp):Prop where
 frames:A.frames=some outer
 mod:Mod K mg base
 bs:∀ b o,base.get? b=some o->s.heap.get? b=some o/\H b=none
 bsz:base.objs.size<=s.heap.objs.size
 funs:s.heap.FunFrames base outer
 frf:∀ b∈frs outer,H b=none
 hok:HOk P w H s.heap
 bare:AllBare s.gens
def CE (outer:List Env) (P:Program) (w:World) (H:Hp) (s:Shared) (Q:VK) (u:Value) (s':Shared):Prop :=
 ∃ v H',s'.os=s.os/\AllBare s'.gens/\Un (frs outer) [] H H' s.heap s'.heap/\HOk P w H' s'.heap/\RelV v u/\Q v H'
def CR (CX:CXT) (outer:List Env) (P:Program) (w:World) (H:Hp) (s:Shared) (Q:VK) (E:XK) (r:Result) (s':Shared):Prop :=
 match r with
 | .ok (.ret u)=>CE outer P w H s Q u s'
 | .ok _=>False
 | .error e=>CX outer H s E e s'
structure FnOk (P:Program) (w:World) (K:W.Frag) (mg:Str->Option Value) (base:Heap) (CX:CXT) (k:Nat) (f:Addr) (fd:FuncData) (ps:List Str) (sp:Sp):Prop where
 len:∀ vs H Q E,sp vs H Q E->vs.length=ps.length
 run:∀ (A:Around) (outer:List Env) (s:Shared) (H:Hp) (args:Args) (us:List Value) (vs:List V) (Q:VK) (E:XK),Room k A->Env0 P w K mg base A outer s H->BindsTo s fd args (ps.zip us)->Vals vs us->sp vs H Q E ->
  codeAny (model P w) A (.call (.ref f) args) (CR CX outer P w H s Q E) s
theorem FnOk.imp {P:Program} {w:World} {K:W.Frag} {mg:Str->Option Value} {base:Heap} {CX:CXT} {k:Nat} {f:Addr} {fd:FuncData} {ps:List Str} {sp sp':Sp} (F:FnOk P w K mg base CX k f fd ps sp)
  (h:∀ vs H Q E,sp' vs H Q E->sp vs H Q E):FnOk P w K mg base CX k f fd ps sp' :=
 ⟨λvs H Q E q=>F.len vs H Q E (h _ _ _ _ q),λA outer s H args us vs Q E hr he hb hv hs=>F.run A outer s H args us vs Q E hr he hb hv (h _ _ _ _ hs)⟩
section
variable {X:Cx} {pins:List (Addr×Obj)} {σ:St} {H:Hp} {s s':Shared}
theorem Inv.env0 (I:Inv X pins σ H s):Env0 X.prog X.w X.K X.mg X.base X.A X.stack s H :=
 ⟨I.ok.frames,I.ok.mod,I.bs,aAE I.ok.bsz I.sz,I.stack,I.stkFree,I.hok,I.bare⟩
theorem Inv.after {Q:VK} {u:Value} (I:Inv X pins σ H s) (h:CE X.stack X.prog X.w H s Q u s'):EP X pins σ Q u s':=by
 obtain ⟨v,H',os,bare,un,hok,r,q⟩:=h;obtain ⟨hh,g,d,t,os'⟩:=s';obtain rfl:os'=s.os:=os;exact ⟨v,H',I.call (h':=hh) (g':=g) (d':=d) (t':=t) (ch:=[]) un hok bare (λb z=>absurd z (by simp)),r,q⟩
end
def yj (sp:Sp) (dvs:List V) (E:XK) (t:TA):TE:=λσ H Q=>t σ H λvs H1=>sp (vs++dvs) H1 Q E
def Binds (K:W.Frag) (fd:FuncData) (ps:List Str) (ds:List Value):Prop :=
 ∀ (s:Shared) (us:List Value),K.In s.heap->(us++ds).length=ps.length->BindsTo s fd ⟨us,[]⟩ (ps.zip (us++ds))
theorem Binds.all {K:W.Frag} {fd:FuncData} {ps:List Str} (h:∀ us:List Value,us.length=ps.length->bindArgs fd ⟨us,[]⟩=pure (ps.zip us)):Binds K fd ps []:=λs us _ hl=>by
 rw [aA9] at hl ⊢;exact .of_eq (h us hl)
def lB (CX:CXT) (X:Cx) (E:XK):Prop:=∀ (pins:List (Addr×Obj)) (σ:St) (H:Hp) (s:Shared) (e:Value) (s':Shared),Inv X pins σ H s->CX X.stack H s E e s'->X.xe e s'
section
variable {X:Cx} {CX:CXT} {k:Nat} {f C:Addr} {fd:FuncData} {ps:List Str} {sp:Sp} {dvs:List V} {ds:List Value} {E:XK} {x m:Str} {p pos apos:Pos} {e o:Expr} {es:List Expr} {ta:TE} {t:TA}
theorem yL {pins:List (Addr×Obj)} {σ:St} {H:Hp} {s:Shared} {Q:VK} {us:List Value} {vs:List V} (F:FnOk X.prog X.w X.K X.mg X.base CX k f fd ps sp) (hr:Room k X.A) (hb:Binds X.K fd ps ds) (hd:Vals dvs ds) (hx:lB CX X E)
  (I:Inv X pins σ H s) (r:Vals vs us) (h:sp (vs++dvs) H Q E):wpAny (model X.prog X.w) X.A (call (.ref f) us) (EP X pins σ Q) X.xe s:=by
 have r2:Vals (vs++dvs) (us++ds):=r.append hd;have hl:(us++ds).length=ps.length:=by rw [<- r2.length];exact F.len _ _ _ _ h
 refine wpAny_call (codeAny_mono (F.run X.A X.stack s H ⟨us,[]⟩ (us++ds) (vs++dvs) Q E hr I.env0 (hb s us I.kIn hl) r2 h) λr s' hq=>?_)
 cases r with
 | error e=>exact hx pins σ H s e s' I hq
 | ok fl =>
  cases fl with
  | ret u=>exact I.after hq
  | next=>exact False.elim hq
  | brk=>exact False.elim hq
  | cont=>exact False.elim hq
theorem pe_call (F:FnOk X.prog X.w X.K X.mg X.base CX k f fd ps sp) (hr:Room k X.A) (hg:Gl X x) (hm:X.mg x=some (.ref f)) (hk:W.keepIn X.K (.ref f)=true) (hb:Binds X.K fd ps ds) (hd:Vals dvs ds) (hx:lB CX X E)
  (ha:PA X (e :: es) t) (hdb:(x == ("__debug__" : Str))=false:=by decide) (he:starEach (e :: es) X.env=(false,eval e X.env) :: starEach es X.env:=by rfl) (hpl:(backTo pos (starEach es X.env)).any (·.1)=false:=by rfl) :
  PE X (.Call (.Name x p) (e :: es) [] pos) (yj sp dvs E t):=by
 intro pins s σ H Q I h;refine wpAny_Call_Name_kw (fX I hg hm ?_ hdb);refine W.callWith_K (h₀:=X.base) I.ok.mod.kin hk (thn (ha pos pins s σ H _ I h) λus s1 ⟨vs,H1,I1,r,q⟩=>⟨I1.kIn,?_⟩) he hpl;exact yL F hr hb hd hx I1 r q
end
section
variable {X:Cx} {CX:CXT} {k:Nat} {f C:Addr} {fd:FuncData} {ps ks:List Str} {sp:Sp} {E:XK} {x m:Str} {p pos apos kpos:Pos} {e o:Expr} {es:List Expr} {kws:List Keyword} {te ta:TE} {t tk:TA} {nm:Option Str}
variable {g:List Value->List Value->List Value} {gV:List V->List V->List V}
end
structure FnScope (N P:List Str) (sc:Scope):Prop where
 kind:sc.kind=.function
 co:sc.isCoroutine=false
 gen:sc.isGenerator=false
 nd:N.Nodup
 pre:N.take P.length=P
 par:∀ x∈P,sc.names.lookup x=some .local\/sc.names.lookup x=some .cell
 nofree:∀ y∈sc.names,y.2≠.free
theorem kC {kindOf:Str->Option NameKind} {x:Str}:∀ {binds:List (Str×Value)} {m:Str->Option Value},(∀ v,(x,v)∉binds)->bindL kindOf binds m x=m x
 | [],_,_=>rfl
 | (n,v) :: r,m,h=>by
  unfold bindL;rw [kC λw hw=>h w (aAr _ hw)]
  split
  ·have:x≠n:=by rintro rfl;exact h v aAq
   simp [this]
  ·rfl
theorem kD {kindOf:Str->Option NameKind} {x:Str}:∀ {binds:List (Str×Value)} {m:Str->Option Value},(∀ v,(x,v)∉binds)->bindC kindOf binds m x=m x
 | [],_,_=>rfl
 | (n,v) :: r,m,h=>by
  unfold bindC;rw [kD λw hw=>h w (aAr _ hw)]
  split
  ·rfl
  ·have:x≠n:=by rintro rfl;exact h v aAq
   simp [this]
theorem kE {kindOf:Str->Option NameKind} {x:Str} {v:Value}:∀ {P:List Str} {vs:List Value} {i:Nat} {m:Str->Option Value},P.Nodup->P[i]?=some x->vs[i]?=some v->kindOf x=some .local ->
  bindL kindOf (P.zip vs) m x=some v
 | [],_,_,_,_,h,_,_=>by simp at h
 | _ :: _,[],_,_,_,_,h,_=>by simp at h
 | p :: P,w :: vs,0,m,nd,h1,h2,hk=>by
  simp at h1 h2;subst h1;subst h2;show bindL kindOf ((p,w) :: P.zip vs) m p=_;unfold bindL;rw [kC λv hv=>(aAR.mp nd).1 (aBY hv).1,if_pos hk];simp
 | p :: P,w :: vs,i+1,m,nd,h1,h2,hk=>by
  show bindL kindOf ((p,w) :: P.zip vs) m x=_;unfold bindL;exact kE (i:=i) (aAR.mp nd).2 (by simpa using h1) (by simpa using h2) hk
theorem kF {kindOf:Str->Option NameKind} {x:Str} {v:Value}:∀ {P:List Str} {vs:List Value} {i:Nat} {m:Str->Option Value},P.Nodup->P[i]?=some x->vs[i]?=some v->kindOf x≠some .local ->
  bindC kindOf (P.zip vs) m x=some v
 | [],_,_,_,_,h,_,_=>by simp at h
 | _ :: _,[],_,_,_,_,h,_=>by simp at h
 | p :: P,w :: vs,0,m,nd,h1,h2,hk=>by
  simp at h1 h2;subst h1;subst h2;show bindC kindOf ((p,w) :: P.zip vs) m p=_;unfold bindC;rw [kD λv hv=>(aAR.mp nd).1 (aBY hv).1,if_neg hk];simp
 | p :: P,w :: vs,i+1,m,nd,h1,h2,hk=>by
  show bindC kindOf ((p,w) :: P.zip vs) m x=_;unfold bindC;exact kF (i:=i) (aAR.mp nd).2 (by simpa using h1) (by simpa using h2) hk
def fZ (N:List Str) (vs:List V):St:=vs.map some++List.replicate (N.length - vs.length) none
def nv (CX:CXT) (P:Program) (w:World) (K:W.Frag) (mg:Str->Option Value) (base:Heap) (N:List Str) (qual:Str) (scope:Scope) (f:Addr) (cd:Value) (A:Around) (outer:List Env) (s:Shared) (H:Hp) (E:XK):Cx where
 prog:=P
 w:=w
 K:=K
 mg:=mg
 base:=base
 A:=A.deeper (envOfC qual scope s.heap.objs.size f cd)
 N:=N
 s₀:=s
 H₀:=H
 env:=envOfC qual scope s.heap.objs.size f cd
 outer:=outer
 stack:=envOfC qual scope s.heap.objs.size f cd :: outer
 ex:=[]
 calm:=true
 fn:=λ_=>true
 pn:=[]
 xe:=λe s'=>wpAny (model P w) (A.deeper (envOfC qual scope s.heap.objs.size f cd)) (leaving (envOfC qual scope s.heap.objs.size f cd) e) (λ_ s''=>CX outer H s E e s'') (λe' s''=>CX outer H s E e' s'') s'
theorem ny {sc:Scope} {n:Nat} {x:Str} (h:sc.names.lookup x=some .cell):∃ c,(cellsFrom n sc.names []).lookup x=some c:=by
 have q:=W.cellsFrom_some sc.names n [] (.inl h);exact aBS.mp q
theorem rY {CX:CXT} {P:Program} {w:World} {K:W.Frag} {mg:Str->Option Value} {base:Heap} {N ps:List Str} {qual:Str} {scope:Scope} {f:Addr} {cd:Value} {A:Around} {outer:List Env} {s s1:Shared} {H:Hp} {E:XK} {us:List Value} {vs:List V}
  (S:FnScope N ps scope) (hd:A.handled=none) (e0:Env0 P w K mg base A outer s H) (hl:vs.length=ps.length) (r:Vals vs us)
  (x:InCallC s s.heap.objs.size (bindL (envOfC qual scope s.heap.objs.size f cd).kindOf (ps.zip us) λ_=>none) (cellsFrom (s.heap.objs.size+1) scope.names []) (bindC (envOfC qual scope s.heap.objs.size f cd).kindOf (ps.zip us) λ_=>none) s1) :
  Inv (nv CX P w K mg base N qual scope f cd A outer s H E) [] (fZ N vs) H s1:=by
 have hpl:ps.length<=N.length:=by have:=congrArg List.length S.pre;rw [aAp] at this;lia
 obtain ⟨h1,tk,rfl,hk⟩:=x.done;have noA:∀ b:Addr,b∉(nv CX P w K mg base N qual scope f cd A outer s H E).ex:=λb z=>absurd (show b∈([]:List Addr) from z) (by simp);refine ⟨⟨e0.mod,S.kind,rfl,rfl,aAm _,λy z c h1 h2=>?_,λy hy=>?_,λy c _ h=>?_,λ_=>hd,Around.frames_deeper e0.frames,.inr ⟨rfl,rfl⟩,λb z=>absurd z (noA b),e0.bs,e0.bsz,λb _ _=>noA b,λb z=>absurd z (noA b),e0.funs,e0.frf⟩,
  rfl,e0.bare,Un.kept hk,⟨_,x.toInCall.ns,λi y v h1 h2 h3=>?_⟩,λy c h=>⟨_,x.cell y c h⟩,e0.hok.fresh (aAm _),λy c h=>?_,λp hp=>absurd (show p∈([]:List (Addr×Obj)) from hp) (by simp),e0.hok.kept hk,?_⟩
 ·exact name_of_addr x.apart (PySem.mem_of_lookup h1) (PySem.mem_of_lookup h2)
 ·have hy:scope.names.lookup y=some .cell\/scope.names.lookup y=some .free:=hy;rcases hy with hy | hy
  ·exact ny hy
  ·exact absurd rfl (S.nofree _ (PySem.mem_of_lookup hy))
 ·exact aAK (x.above y c (PySem.mem_of_lookup h))
 ·have hi:i < vs.length:=by
   unfold fZ at h2
   by_cases hi:i < vs.length
   ·exact hi
   ·rw [aBm (by simpa using hi)] at h2;rw [aBW] at h2
    split at h2 <;> cases h2
  have ha:vs[i]?=some v:=by
   unfold fZ at h2;rw [aBN (by simpa using hi),aAc] at h2
   cases e:vs[i]? with
   | none=>rw [e] at h2;cases h2
   | some a=>rw [e] at h2;cases h2;rfl
  obtain ⟨u,hu,rv⟩:=r.get ha;have hp:ps[i]?=some y:=by
   rw [<- S.pre,List.getElem?_take_of_lt (by lia)];exact h1
  have ndP:ps.Nodup:=by rw [<- S.pre];exact S.nd.sublist (List.take_sublist _ _)
  refine ⟨u,rv,?_⟩;rcases S.par y (aAs hp) with k | k
  ·exact .inl ⟨k,kE ndP hp hu k⟩
  ·obtain ⟨c,e⟩:=ny (n:=s.heap.objs.size+1) k;refine .inr ⟨.inl k,c,e,?_⟩;have q:=x.cell y c e;rw [kF ndP hp hu (by show scope.names.lookup y≠_;rw [k];decide)] at q;exact q
 ·exact e0.hok.fresh (aAK (x.above y c (PySem.mem_of_lookup h)))
 ·unfold fZ;show _=N.length;rw [aAP,aAb,aBi];lia
theorem yk {CX:CXT} {P:Program} {w:World} {K:W.Frag} {mg:Str->Option Value} {base:Heap} {k:Nat} {f:Addr} {name qual:Str} {params:Arguments} {body:List Stmt} {scope:Scope} {dV kV doc pm cdv ct oc:Value} {an od:Option Addr}
  {osl:Array (Option Value)} {N ps:List Str} {sp:Sp} (lk:K.lookup f=some ⟨oc,od,.func (W.fnOf name qual params body scope dV kV doc pm an cdv ct),osl⟩) (hcd:W.codeIn K cdv qual=true) (S:FnScope N ps scope)
  (len:∀ vs H Q E,sp vs H Q E->vs.length=ps.length)
  (hbody:∀ (A:Around) (outer:List Env) (s:Shared) (H:Hp) (vs:List V) (Q:VK) (E:XK),Room k (A.deeper (envOfC qual scope s.heap.objs.size f cdv))->sp vs H Q E ->
   ∃ t,PSs (nv CX P w K mg base N qual scope f cdv A outer s H E) body t/\t { nx:=λ_ H'=>Q .non H',rt:=Q } (fZ N vs) H) :
  FnOk P w K mg base CX (k+1) f (W.fnOf name qual params body scope dV kV doc pm an cdv ct) ps sp:=by
 refine ⟨len,λA outer s H args us vs Q E hr e0 hb r hsp=>?_⟩;have hl:=len _ _ _ _ hsp;have KX:K.In s.heap:=e0.mod.kin.keeps λb o e=>(e0.bs b o e).1;have lim:s.heap.NoLimit:=e0.mod.nolimit.keeps λb o e=>(e0.bs b o e).1;have hkind:∀ y∈ps.zip us,scope.names.lookup y.1=some .local\/(scope.names.lookup y.1=some .cell/\((cellsFrom (s.heap.objs.size+1) scope.names []).lookup y.1).isSome=true):=λ⟨n,v⟩ hy=>by
  rcases S.par n (aBY hy).1 with q | q
  ·exact .inl q
  ·exact .inr ⟨q,W.cellsFrom_some _ _ _ (.inl q)⟩
 refine codeAny_call_function hr.depth (KX _ _ lk) rfl S.co S.gen rfl (W.codeRec_of KX hcd) (hb _ _ _ _ ?_);refine wpAny_newFunctionEnv_cells S.kind hkind λenv he s1 x=>?_;subst he;refine ⟨lim.keeps x.toInCall.keep,codeAny_func ?_⟩;obtain ⟨t,ht,hq⟩:=hbody A outer s H vs Q E (hr.deeper _) hsp;have I:Inv (nv CX P w K mg base N qual scope f cdv A outer s H E) [] (fZ N vs) H s1:=rY S hr.hd e0 hl r x;refine wpAny_mono (ht [] s1 (fZ N vs) H _ I hq) (λfl s' hs=>?_) λe s' hs=>hs;have fin:∀ {σ':St} {H':Hp} {v:V} {u:Value},Inv (nv CX P w K mg base N qual scope f cdv A outer s H E) [] σ' H' s'->RelV v u->Q v H'->CE outer P w H s Q u s' :=
  λ{σ' H' v u} J rv q=>⟨v,H',J.os,J.bare,J.base,J.hok,rv,q⟩
 cases fl with
 | ret u =>
  obtain ⟨v,σ',H',J,rv,q⟩:=hs;exact fin J rv q
 | next =>
  obtain ⟨σ',H',J,q⟩:=hs;exact fin (v:=V.non) (u:=Value.none) J rfl q
 | brk =>
  obtain ⟨_,_,_,q⟩:=hs;exact False.elim q
 | cont =>
  obtain ⟨_,_,_,q⟩:=hs;exact False.elim q
section
variable {X:Cx} {x:Str} {p pos:Pos} {e:Expr} {es:List Expr} {t:TA} {id T:String} {r:List V->Hp->VK->Prop}
def tCB (r:List V->Hp->VK->Prop) (t:TA):TE:=λσ H Q=>t σ H λvs H1=>r vs H1 Q
theorem pe_callB (hc:aP X (.builtin id) r) (hg:Gl X x) (hm:X.mg x=none) (hv:bootBuiltins x=some (.builtin id)) (ha:PA X (e :: es) t) (hn:x≠ "__name__" :=by decide) (hdb:(x == ("__debug__" : Str))=false:=by decide)
  (he:starEach (e :: es) X.env=(false,eval e X.env) :: starEach es X.env:=by rfl) (hpl:(backTo pos (starEach es X.env)).any (·.1)=false:=by rfl):PE X (.Call (.Name x p) (e :: es) [] pos) (tCB r t):=by
 intro pins s σ H Q I h;refine wpAny_Call_Name_kw (cH I hg hm hv ?_ hn hdb);exact PyProof.Rows.callWith_builtin1 (thn (ha pos pins s σ H _ I h) λus s1 ⟨vs,H1,I1,r1,q1⟩=>hc pins s1 σ H1 vs us Q I1 r1 q1) he hpl
theorem pe_callTy (hc:aP X (.type T) r) (hg:Gl X x) (hm:X.mg x=none) (hv:bootBuiltins x=some (.type T)) (ha:PA X (e :: es) t) (hn:x≠ "__name__" :=by decide) (hdb:(x == ("__debug__" : Str))=false:=by decide)
  (he:starEach (e :: es) X.env=(false,eval e X.env) :: starEach es X.env:=by rfl) (hpl:(backTo pos (starEach es X.env)).any (·.1)=false:=by rfl):PE X (.Call (.Name x p) (e :: es) [] pos) (tCB r t):=by
 intro pins s σ H Q I h;refine wpAny_Call_Name_kw (cH I hg hm hv ?_ hn hdb);exact PyProof.Rows.callWith_type1 (thn (ha pos pins s σ H _ I h) λus s1 ⟨vs,H1,I1,r1,q1⟩=>hc pins s1 σ H1 vs us Q I1 r1 q1) he hpl
end
end L2
namespace HT
open PySem PyProof.Rows
section
open PySem.SeqAt
open PySem.AutoSeq1 (wpAny_loadPart')
open PySem.MeetsSeq PySem.MeetsSeq2 PySem.MeetsSeq3
end
section
variable {prog:Program} {w:World} {A:Around} {E:Value->Shared->Prop} {s:Shared}
theorem cat_tup {t b:Addr} {vs ws:List Value} {Q:Value->Shared->Prop} (ht:IsTup s.heap t vs.toArray) (hb:IsTup s.heap b ws.toArray) (hv:vs≠[])
  (h1:ws=[]->Q (.ref t) s) (h2:ws≠[]->Q (.ref s.heap.objs.size) { s with heap:=s.heap.push { cls:=.type "tuple",data:=.seq (vs++ws).toArray } })
  (hsz:vs.length+ws.length<=sizeLine):wpAny (model prog w) A (binaryOp .Add (.ref t) (.ref b)) Q E s:=by
 obtain ⟨⟨cls,dd,data,sl⟩,ho,hc,n,hd⟩:=id ht;obtain ⟨⟨cls2,dd2,data2,sl2⟩,ho2,hc2,n2,hd2⟩:=id hb;simp only at hc hd hc2 hd2;subst hc hd hc2 hd2;have e:vs.toArray++ws.toArray=(vs++ws).toArray:=by simp
 by_cases hw:ws=[]
 ·exact concat_meets ⟨_,ho,rfl⟩ ⟨_,ho2,rfl⟩ noFill_tuple_add seq_tuple_add PySem.F.slot_tuple_add PySem.F.entry_tuple_add (PySem.F.args_tuple_add_2 _ _)
   (tuple_addW1 t b vs.toArray ws.toArray n n2 dd dd2 sl sl2 (by simpa using hv) (by simp [hw])) ⟨ho,ho2,h1 hw⟩
 ·refine concat_meets ⟨_,ho,rfl⟩ ⟨_,ho2,rfl⟩ noFill_tuple_add seq_tuple_add PySem.F.slot_tuple_add PySem.F.entry_tuple_add (PySem.F.args_tuple_add_2 _ _)
   (tuple_addW2 t b vs.toArray ws.toArray n n2 dd dd2 sl sl2 (by simpa using hv) (by simpa using hw) (by rw [aAi,aAi];exact hsz)) ⟨ho,ho2,?_⟩
  rw [e];exact h2 hw
def sIx (n d:Nat):Option Int->Nat
 | none=>d
 | some v=>if v < 0 then (v+(n:Int)).toNat else min v.toNat n
theorem sIx_nat (n d k:Nat):sIx n d (some (k:Int))=min k n:=by
 show (if (k:Int) < 0 then ((k:Int)+(n:Int)).toNat else min (k:Int).toNat n)=min k n;rw [if_neg (by lia),aBt]
theorem yM (n d:Nat) (hd:d<=n) (o:Option Int):sIx n d o<=n:=by
 cases o with
 | none=>exact hd
 | some v =>
  show (if v < 0 then (v+(n:Int)).toNat else min v.toNat n)<=n
  by_cases hv:v < 0
  ·rw [if_pos hv];lia
  ·rw [if_neg hv];exact Nat.min_le_right _ _
theorem qM (v:Int) (n d:Nat):(if v < 0 then max (v+(n:Int)) 0 else min v (n:Int))=((sIx n d (some v):Nat):Int):=by
 show (if v < 0 then max (v+(n:Int)) 0 else min v (n:Int))=(((if v < 0 then (v+(n:Int)).toNat else min v.toNat n):Nat):Int)
 by_cases hv:v < 0
 ·simp only [if_pos hv];lia
 ·simp only [if_neg hv];lia
theorem pB (lo hi:Option Int) (n:Nat):Builtin.Slice.sliceAdjust lo hi 1 (n:Int)=(((sIx n 0 lo:Nat):Int),((sIx n n hi:Nat):Int)):=by
 have h1:¬ ((1:Int) < 0):=by lia
 unfold Builtin.Slice.sliceAdjust;simp only [h1,if_false];refine Prod.ext ?_ ?_
 ·cases lo with
  | none=>rfl
  | some v=>exact qM v n 0
 ·cases hi with
  | none=>rfl
  | some v=>exact qM v n n
theorem pC (i j:Nat):Builtin.Slice.slicePlaces (i:Int) (j:Int) 1=j - i:=by
 unfold Builtin.Slice.slicePlaces;have h1:(1:Int) > 0:=by lia
 simp only [h1,if_true,Int.ediv_one]
 split <;> lia
theorem i6 {v:Value} {o:Option Int} {Q:Option Int->Shared->Prop} (p:IsPart v o) (h:Q o s):wpAny (model prog w) A (Builtin.Slice.slicePartIndex v) Q E s:=by
 cases p with
 | none=>exact slicePart_none h
 | int i t=>exact slicePart_int h
theorem cT {sl:Addr} {vl vu:Value} {lo hi:Option Int} {n:Nat} {Q:Int×Int×Nat->Shared->Prop} (hs:s.heap.IsSliceOf sl vl vu .none) (pl:IsPart vl lo) (pu:IsPart vu hi)
  (h:Q (((sIx n 0 lo:Nat):Int),1,sIx n n hi - sIx n 0 lo) s):wpAny (model prog w) A (Builtin.Slice.sliceApplied (.ref sl) (pure (n:Int))) Q E s:=by
 obtain ⟨os,hos,hcs,hds⟩:=id hs;unfold Builtin.Slice.sliceApplied Builtin.Slice.sliceFields;refine wpAny_bind (wpAny_bind (wpAny_field hos hds (x:=vl) rfl (wpAny_bind (wpAny_field hos hds (x:=vu) rfl (wpAny_bind (wpAny_field hos hds (x:=.none) rfl (wpAny_pure ?_)))))));refine wpAny_bind (slicePart_none ?_);show wpAny _ _ (if ((1:Int) == 0)=true then _ else _) _ _ s;rw [if_neg (by decide)];refine wpAny_bind (i6 pl (wpAny_bind (i6 pu (wpAny_bind (wpAny_pure ?_)))));show wpAny _ _ (match Builtin.Slice.sliceAdjust lo hi 1 (n:Int) with | (lo,hi)=>pure (lo,(1:Int),Builtin.Slice.slicePlaces lo hi 1)) _ _ s;rw [pB lo hi n];show wpAny _ _ (pure (((sIx n 0 lo:Nat):Int),(1:Int),Builtin.Slice.slicePlaces ((sIx n 0 lo:Nat):Int) ((sIx n n hi:Nat):Int) 1)) _ _ s;rw [pC];exact wpAny_pure h
theorem uc (xs:Array Value) (i k:Nat):((List.range k).filterMap λ(m:Nat)=>xs[((i:Int)+(m:Int)*1).toNat]?).toArray=((xs.toList.drop i).take k).toArray:=by
 have e:(λ(m:Nat)=>xs[((i:Int)+(m:Int)*1).toNat]?)=λm=>xs[i+m]?:=by
  funext m
  have:((i:Int)+(m:Int)*1).toNat=i+m:=by lia
  rw [this]
 rw [e];have:=pick_run xs i k;rw [List.filterMap_map] at this;have e2:((λx=>xs[x]?) ∘ λx=>i+x)=λm=>xs[i+m]?:=rfl;rw [e2] at this;rw [this]
theorem getItem_tuple_cut {t sl:Addr} {items:Array Value} {vl vu:Value} {lo hi:Option Int} {Q:Value->Shared->Prop} (ht:IsTup s.heap t items) (hs:s.heap.IsSliceOf sl vl vu .none) (pl:IsPart vl lo) (pu:IsPart vu hi)
  (hw:¬ (sIx items.size 0 lo=0/\sIx items.size items.size hi=items.size))
  (h:Q (.ref s.heap.objs.size) { s with heap:=s.heap.push { cls:=.type "tuple",data:=.seq ((items.toList.drop (sIx items.size 0 lo)).take (sIx items.size items.size hi - sIx items.size 0 lo)).toArray } })
  (hsz:items.size<=sizeLine):wpAny (model prog w) A (getItem (.ref t) (.ref sl)) Q E s:=by
 have htake:sizeOk (.seq ((items.toList.drop (sIx items.size 0 lo)).take (sIx items.size items.size hi - sIx items.size 0 lo)).toArray):=by
  show ((items.toList.drop (sIx items.size 0 lo)).take (sIx items.size items.size hi - sIx items.size 0 lo)).toArray.size<=sizeLine;rw [aAi,aAp,aBb,aA1];lia
 have hj:sIx items.size items.size hi<=items.size:=yM _ _ (aAm _) hi;obtain ⟨os,hos,hcs,hds⟩:=id hs;have hTs:s.TypeIs (.ref sl) "slice" :=⟨os,hos,hcs⟩;unfold getItem
 try with_reducible refine wpAny_holding ?_
 first | refine wpAny_bind (wpAny_pure ?_) | skip
 refine wpAny_bind (wpAny_sequenceKey ht.typeIs (by decide) ?_);refine wpAny_bind (wpAny_callSpecial?_slot (name:=Str.ofString "__getitem__") ht.typeIs PyProof.Rows.slot_tuple_getitem
  (wpAny_call_entry PyProof.Rows.slot_tuple_getitem ht.typeIs entry_tuple_getitem ?_ (args_tuple_getitem _ _)))
 show wpAny _ _ (Builtin.Tuple.tupleItemsOf (.ref t) >>= _) _ _ s;refine wpAny_bind (tupleItemsOf_ ht ?_);refine wpAny_bind (wpAny_typeOf hTs ?_);rw [if_pos (by decide)];refine wpAny_bind (cT hs pl pu ?_);have hno:¬ ((((sIx items.size 0 lo:Nat):Int) == 0 && (1:Int) == 1 && (sIx items.size items.size hi - sIx items.size 0 lo) == items.size)=true):=by
  intro q;rw [aAA,aAA] at q;have q1:((sIx items.size 0 lo:Nat):Int)=0:=eq_of_beq q.1.1;have q2:sIx items.size items.size hi - sIx items.size 0 lo=items.size:=eq_of_beq q.2;exact hw ⟨by lia,by lia⟩
 show wpAny _ _ (if (((sIx items.size 0 lo:Nat):Int) == 0 && (1:Int) == 1 && (sIx items.size items.size hi - sIx items.size 0 lo) == items.size)=true then _ else _) _ _ s;rw [if_neg hno,uc]
 first
  | exact wpAny_bind (m:=Builtin.Tuple.tupleExact _) (wpAny_newObj_type (wpAny_pure ⟨_,rfl,wpAny_pure h⟩) htake)
  | exact wpAny_bind (m:=Builtin.Tuple.tupleExact _) (wpAny_newObj_type (wpAny_bind (wpAny_pure (wpAny_pure ⟨_,rfl,wpAny_pure h⟩))) htake)
  | exact wpAny_bind (wpAny_bind (m:=Builtin.Tuple.tupleExact _) (wpAny_newObj_type (wpAny_pure (wpAny_pure ⟨_,rfl,wpAny_pure h⟩)) htake))
  | exact wpAny_bind (wpAny_bind (m:=Builtin.Tuple.tupleExact _) (wpAny_newObj_type (wpAny_pure ⟨_,rfl,wpAny_pure h⟩) htake))
end
end HT
namespace L2
open PySem PySem.Spec PyProof.Rows
abbrev TO:=St->Hp->(Option Int->Hp->Prop)->Prop
def PO (X:Cx) (e:Option Expr) (t:TO):Prop :=
 ∀ (pins:List (Addr×Obj)) (s:Shared) (σ:St) (H:Hp) (Q:Option Int->Hp->Prop),Inv X pins σ H s->t σ H Q ->
  wpAny (model X.prog X.w) X.A (evalPart e X.env) (λu s'=>∃ o H',Inv X pins σ H' s'/\IsPart u o/\Q o H') X.xe s
def wy:TO:=λ_ H Q=>Q none H
inductive IPrt (x:V) (H1:Hp) (Q:Option Int->Hp->Prop):Prop
 | mk (i:Int):(x=.int i)->(Q (some i) H1)->IPrt x H1 Q
def Am (t:TE):TO:=λσ H Q=>t σ H λx H1=>IPrt x H1 Q
section
variable {X:Cx} {e:Expr} {te:TE} {lo hi:Option Expr} {tl th:TO} {pos p2:Pos}
theorem cz:PO X none wy:=by
 intro pins s σ H Q I h;rw [evalPart_none];exact wpAny_pure ⟨none,H,I,.none,h⟩
theorem cA (h:PE X e te):PO X (some e) (Am te):=by
 intro pins s σ H Q I hw;rw [evalPart_some];refine thn (h pins s σ H _ I hw) λu s1 ⟨x,H1,I1,r1,q1⟩=>?_;obtain ⟨i,rfl,q⟩:=q1;obtain ⟨t,rfl⟩:=r1;exact ⟨some i,H1,I1,.int i t,q⟩
def SlR (X:Cx) (r:V->Option Int->Option Int->Hp->VK->Prop):Prop :=
 ∀ (pins:List (Addr×Obj)) (s:Shared) (σ:St) (H:Hp) (x:V) (v vl vu:Value) (lo hi:Option Int) (sl:Addr) (Q:VK),Inv X pins σ H s->RelV x v->s.heap.IsSliceOf sl vl vu .none->IsPart vl lo->IsPart vu hi->r x lo hi H Q ->
  ∃ T id,typeLookup (.type T) "__getitem__" = pure (some (.builtin id))/\s.TypeIs v T/\wpAny (model X.prog X.w) X.A (getItem v (.ref sl)) (EP X pins σ Q) X.xe s
def tSl (r:V->Option Int->Option Int->Hp->VK->Prop) (te:TE) (tl th:TO):TE:=λσ H Q=>te σ H λx H1=>tl σ H1 λl H2=>th σ H2 λu H3=>r x l u H3 Q
theorem bP {r:V->Option Int->Option Int->Hp->VK->Prop} (hr:SlR X r) (he:PE X e te) (hl:PO X lo tl) (hu:PO X hi th):PE X (.Subscript e (.Slice lo hi none p2) pos) (tSl r te tl th):=by
 intro pins s σ H Q I h;refine Subscript_ (thn (he pins s σ H _ I h) λv s1 ⟨x,H1,I1,r1,q1⟩=>?_);refine wpAny_Slice (thn (hl pins s1 σ H1 _ I1 q1) λvl s2 ⟨l,H2,I2,pl,q2⟩=>thn (hu pins s2 σ H2 _ I2 q2) λvu s3 ⟨u,H3,I3,pu,q3⟩=>?_);rw [evalPart_none];refine wpAny_pure ?_;have I4:Inv X pins σ H3 { s3 with heap:=s3.heap.push { cls:=.type "slice",data:=.fields #[vl,vu,.none] } }:=I3.kept (t':=s3.toks) λb ob q=>aAa _ q;obtain ⟨T,id,hT,ht,hg⟩:=hr pins { s3 with heap:=s3.heap.push { cls:=.type "slice",data:=.fields #[vl,vu,.none] } } σ H3 x v vl vu l u s3.heap.objs.size Q I4 r1 (Heap.IsSliceOf.new ..) pl pu q3;show wpAny (model X.prog X.w) X.A (subscriptTail e (.Slice lo hi none p2) v (.ref s3.heap.objs.size)) (EP X pins σ Q) X.xe { s3 with heap:=s3.heap.push { cls:=.type "slice",data:=.fields #[vl,vu,.none] } };exact tail_any (ops:=[.ref s3.heap.objs.size,v]) ht hT hg (by with_unfolding_all rfl)
def lC (xs:List V) (lo hi:Option Int):List V:=(xs.drop (HT.sIx xs.length 0 lo)).take (HT.sIx xs.length xs.length hi - HT.sIx xs.length 0 lo)
theorem iw (xs:List V) (lo hi:Option Int):(lC xs lo hi).length<=xs.length:=by
 unfold lC;rw [aAp,aBb];lia
theorem Vals.nil_iff {xs:List V} {us:List Value} (r:Vals xs us):us=[]↔xs=[]:=by
 cases r with
 | nil=>simp
 | cons _ _=>simp
end
def ixN (n:Nat) (i:Int):Option Nat:=if 0<=i then (if i < n then some i.toNat else none) else if -(n:Int)<=i then some (i+n).toNat else none
def atI {α:Type} (xs:List α) (i:Int):Option α:=(ixN xs.length i).bind λj=>xs[j]?
theorem lD {n:Nat} {i:Int} {j:Nat} (h:ixN n i=some j):seqIndex? i n=some j/\j < n/\-(n:Int)<=i/\i < n:=by
 unfold ixN at h
 by_cases h0:0<=i
 ·rw [if_pos h0] at h
  by_cases h1:i < n
  ·rw [if_pos h1] at h;have e:i.toNat=j:=Option.some.inj h;exact ⟨by rw [seqIndex_of h0 h1,e],by lia,by lia,h1⟩
  ·rw [if_neg h1] at h;cases h
 ·rw [if_neg h0] at h
  by_cases h1:-(n:Int)<=i
  ·rw [if_pos h1] at h;have e:(i+n).toNat=j:=Option.some.inj h;exact ⟨by rw [seqIndex_neg (by lia) h1,e],by lia,h1,by lia⟩
  ·rw [if_neg h1] at h;cases h
theorem lE {α:Type} {xs:List α} {i:Int} {v:α} (h:atI xs i=some v):∃ j,seqIndex? i xs.length=some j/\xs[j]?=some v/\j < xs.length/\-(xs.length:Int)<=i/\i < xs.length:=by
 unfold atI at h
 cases e:ixN xs.length i with
 | none=>rw [e] at h;cases h
 | some j =>
  rw [e] at h;obtain ⟨h1,h2,h3,h4⟩:=lD e;exact ⟨j,h1,h,h2,h3,h4⟩
theorem fc {α:Type} {xs:List α} {j:Nat} {v:α} (h:xs[j]?=some v):atI xs (j:Int)=some v:=by
 have hj:j < xs.length:=(aAg.mp h).1;have e:ixN xs.length (j:Int)=some j:=by
  unfold ixN;rw [if_pos (by lia),if_pos (by lia)];simp
 unfold atI;rw [e];exact h
def wz (b:Expr):Prop:=∀ o i,subscripted b false o i=operate [o,i] (getItem o i)
def IxR (X:Cx) (r:R2):Prop :=
 ∀ (value slice:Expr) (pins:List (Addr×Obj)) (s:Shared) (σ:St) (H:Hp) (x y:V) (v u:Value) (Q:VK),Inv X pins σ H s->RelV x v->RelV y u->r x y H Q ->
  subscripted slice false v u=operate [v,u] (getItem v u)->wpAny (model X.prog X.w) X.A (subscriptTail value slice v u) (EP X pins σ Q) X.xe s
def MtR (X:Cx) (id:String) (r:V->List V->Hp->VK->Prop):Prop :=
 ∀ (pins:List (Addr×Obj)) (s:Shared) (σ:St) (H:Hp) (x:V) (xs:List V) (v:Value) (us:List Value) (Q:VK),Inv X pins σ H s->RelV x v->Vals xs us->r x xs H Q ->
  wpAny (model X.prog X.w) X.A (call (.builtin id) (v :: us)) (EP X pins σ Q) X.xe s
section
variable {X:Cx} {a b:Expr} {ta tb:TE} {pos:Pos}
theorem cU {r:R2} (hr:IxR X r) (ha:PE X a ta) (hb:PE X b tb) (hs:wz b):PE X (.Subscript a b pos) (tOp r ta tb):=by
 intro pins s σ H Q I h;exact Subscript_ (yJ ha hb I h λv u s2 x y H2 I2 rx ry q=>hr a b pins s2 σ H2 x y v u Q I2 rx ry q (hs _ _))
inductive IIxL (K:W.Frag) (x y:V) (H:Hp) (Q:VK):Prop
 | mk (p:Addr) (xs:List V) (i:Int) (v:V):(x=.ref p)->(y=.int i)->(SqL K H p xs)->(atI xs i=some v)->(Q v H)->IIxL K x y H Q
def An (K:W.Frag):R2:=λx y H Q=>IIxL K x y H Q
def BA (K:W.Frag):R2:=λx y H Q=>∃ p xs i v,x=.ref p/\y=.int i/\SqT K H p xs/\atI xs i=some v/\Q v H
theorem wA:IxR X (An X.K):=by
 intro value slice pins s σ H x y v u Q I rx ry h hs;obtain ⟨p,xs,i,z,rfl,rfl,hq,he,q⟩:=h
 cases rx
 obtain ⟨t,rfl⟩:=ry;obtain ⟨its,r,pl,hz⟩:=I.list hq;obtain ⟨j,h1,h2,h3,h4,h5⟩:=lE he;obtain ⟨w,ew,rw'⟩:=r.get h2;have hl:=r.length;have hn:=i4;have fin:EP X pins σ Q w s:=⟨z,H,I,rw',q⟩
 by_cases h0:0<=i
 ·have hj:i.toNat=j:=by
   rw [seqIndex_of h0 h5] at h1;exact Option.some.inj h1
  exact item_listR pl.isList h0 (by lia) (by rw [hj];simpa using ew) fin hs
 ·have hj:(i+(its.toArray.size:Int)).toNat=j:=by
   rw [seqIndex_neg (by lia) h4] at h1;rw [aAi,<- hl];exact Option.some.inj h1
  exact subscriptTail_builtinR (x:=w) pl.isList.typeIs slot_list_getitem.lookup
   (wpAny_getItem_list_neg (Q:=λr s'=>r=w/\EP X pins σ Q r s') pl.isList (by lia) (by rw [aAi] <;> lia) (by lia) (by rw [hj];simpa using ew) ⟨rfl,fin⟩) hs
theorem yN:IxR X (BA X.K):=by
 intro value slice pins s σ H x y v u Q I rx ry h hs;obtain ⟨p,xs,i,z,rfl,rfl,hq,he,q⟩:=h
 cases rx
 obtain ⟨t,rfl⟩:=ry;obtain ⟨its,r,pl,hz⟩:=I.tuple hq;obtain ⟨j,h1,h2,h3,h4,h5⟩:=lE he;obtain ⟨w,ew,rw'⟩:=r.get h2;have hl:=r.length;have hn:=i4;have fin:EP X pins σ Q w s:=⟨z,H,I,rw',q⟩;exact subscriptTail_builtinR (x:=w) pl.typeIs slot_tuple_getitem.lookup
  (getItem_tuple (j:=j) (Q:=λr s'=>r=w/\EP X pins σ Q r s') pl (by lia) (by lia) (by rw [aAi,<- hl];exact h1) (by simpa using ew) ⟨rfl,fin⟩) hs
theorem pD (its:List Value) (n j:Nat) (u:Value):Obj.mapSeq (·.setIfInBounds j u) { cls:=.type "list",data:=.seq its.toArray n }={ cls:=.type "list",data:=.seq (its.set j u).toArray n }:=by
 simp [Obj.mapSeq]
theorem Inv.lst {pins:List (Addr×Obj)} {σ:St} {H:Hp} {s:Shared} {p:Addr} {xs:List V} (I:Inv X pins σ H s) (h:H p=some (.lst xs)) :
  ∃ (its:List Value) (n:Nat),Vals xs its/\s.heap.get? p=some { cls:=.type "list",data:=.seq its.toArray n }/\xs.length<=sizeLine:=by
 obtain ⟨z,its,n,r,e⟩:=I.hok p _ h;exact ⟨its,n,r,e,z⟩
theorem Inv.lstUpd {pins:List (Addr×Obj)} {σ:St} {H:Hp} {s:Shared} {p:Addr} {xs ys:List V} {its its':List Value} {n n':Nat} {f:Obj->Obj} (I:Inv X pins σ H s) (h:H p=some (.lst xs))
  (ho:s.heap.get? p=some { cls:=.type "list",data:=.seq its.toArray n }) (hf:f { cls:=.type "list",data:=.seq its.toArray n }={ cls:=.type "list",data:=.seq its'.toArray n' }) (r:Vals ys its') (hz:ys.length<=sizeLine) (t:Nat) :
  Inv X pins σ (upd H p (.lst ys)) { s with heap:=s.heap.update p f,toks:=t }:=by
 have e:(s.heap.update p f).get? p=some { cls:=.type "list",data:=.seq its'.toArray n' }:=by
  rw [aAU f ho (by rw [hf] <;> rfl),hf]
 refine I.write (x:=p) (e:=p) (by rw [h];trivial) (.inl rfl) (λb u hb q=>(aAV _ _ (Ne.symm hb)).trans q) ⟨_,e⟩ ?_;exact ⟨hz,its',n',r,e⟩
inductive ISetL (o i v:V) (H:Hp) (Q:Hp->Prop):Prop
 | mk (p:Addr) (xs:List V) (k:Int) (j:Nat):(o=.ref p)->(i=.int k)->(H p=some (.lst xs))->(ixN xs.length k=some j)->(Q (upd H p (.lst (xs.set j v))))->ISetL o i v H Q
def Ao:V->V->V->Hp->(Hp->Prop)->Prop:=λo i v H Q=>ISetL o i v H Q
theorem ud:Ae X Ao:=by
 intro pins s σ H o i v ov iv u Q I ro ri rv h;obtain ⟨p,xs,k,j,rfl,rfl,hp,hj,q⟩:=h
 cases ro
 obtain ⟨t,rfl⟩:=ri;obtain ⟨its,n,r,ho,hz⟩:=I.lst hp;obtain ⟨h1,h2,h3,h4⟩:=lD hj;have hl:=r.length;have hn:=i4;have I':Inv X pins σ (upd H p (.lst (xs.set j v))) { s with heap:=s.heap.update p (Obj.mapSeq (·.setIfInBounds j u)) } :=
  I.lstUpd hp ho (pD its n j u) (r.set rv j) (by rw [List.length_set];exact hz) s.toks
 by_cases h0:0<=k
 ·have hk:k.toNat=j:=by
   rw [seqIndex_of h0 h4] at h1;exact Option.some.inj h1
  exact W.ki_setAt ho h0 (by lia) (by rw [aAi,<- hl];exact h4) (by rw [hk];exact ⟨_,I',q⟩)
 ·have hk:(k+(its.toArray.size:Int)).toNat=j:=by
   rw [seqIndex_neg (by lia) h3] at h1;rw [aAi,<- hl];exact Option.some.inj h1
  exact W.ki_setBack ho (by lia) (by rw [aAi,<- hl];exact h3) (by lia) (by rw [hk];exact ⟨_,I',q⟩)
theorem lF (lo hi:Option Int) (n:Nat):(sliceBounds lo hi none n).1=((HT.sIx n 0 lo:Nat):Int)/\(sliceBounds lo hi none n).2.1=((HT.sIx n n hi:Nat):Int)/\(sliceBounds lo hi none n).2.2=1:=by
 refine ⟨?_,?_,rfl⟩
 ·cases lo with
  | none=>simp [sliceBounds,HT.sIx]
  | some i =>
   simp only [sliceBounds,HT.sIx,aBw,show (1:Int) > 0 by decide,if_true]
   by_cases h:i < 0
   ·simp only [h,if_true] <;> lia
   ·simp only [h,if_false] <;> lia
 ·cases hi with
  | none=>simp [sliceBounds,HT.sIx]
  | some i =>
   simp only [sliceBounds,HT.sIx,aBw,show (1:Int) > 0 by decide,if_true]
   by_cases h:i < 0
   ·simp only [h,if_true] <;> lia
   ·simp only [h,if_false] <;> lia
theorem jK (its:List Value) (lo hi:Option Int):slicePick its.toArray lo hi none=((its.drop (HT.sIx its.length 0 lo)).take (HT.sIx its.length its.length hi - HT.sIx its.length 0 lo)).toArray:=by
 obtain ⟨h1,h2,h3⟩:=lF lo hi its.toArray.size;unfold slicePick;rw [h1,h2,h3];simp only [sliceRange_one,pick_run,aAi] <;> rfl
def Ap (K:W.Frag):V->Option Int->Option Int->Hp->VK->Prop:=λx lo hi H Q=>∃ a xs,x=.ref a/\SqL K H a xs/\∀ p,H p=none->Q (.ref p) (upd H p (.lst (lC xs lo hi)))
theorem wB:SlR X (Ap X.K):=by
 intro pins s σ H x v vl vu lo hi sl Q I rx hs pl pu h;obtain ⟨a,xs,rfl,hx,q⟩:=h
 cases rx
 obtain ⟨its,r,ht,hz⟩:=I.list hx;have hlen:=r.length;refine ⟨"list",_,slot_list_getitem.lookup,ht.isList.typeIs,?_⟩;refine wpAny_getItem_list_slice ht.isList hs pl pu .none (by simp) ?_ (by rw [aAi] <;> lia);rw [jK,<- hlen];refine ⟨.ref s.heap.objs.size,_,I.laid (t':=s.toks) (o:=.lst (lC xs lo hi)) (λb ob q=>aAa _ q) (aAm _) ?_,rfl,q _ (I.hok.fresh (aAm _))⟩;exact ⟨aAE (iw xs lo hi) hz,_,0,(r.drop (HT.sIx xs.length 0 lo)).take (HT.sIx xs.length xs.length hi - HT.sIx xs.length 0 lo),aAh _ rfl⟩
def fA:V->Bool
 | .non=>true
 | .bl _=>true
 | .int _=>true
 | .str _=>true
 | _=>false
def eqV:V->V->Bool
 | .non,.non=>true
 | .bl a,.bl b=>a == b
 | .bl a,.int b=>(if a then 1 else 0) == b
 | .int a,.bl b=>a == (if b then 1 else 0)
 | .int a,.int b=>a == b
 | .str a,.str b=>a == b
 | _,_=>false
theorem yO {A:Around} {s:Shared} {y x:V} {u v:Value} (ry:RelV y u) (rx:RelV x v) (fy:fA y=true) (fx:fA x=true):SeqAt.EqAt A s u v (eqV y x):=by
 cases y with
 | non =>
  cases ry
  cases x with
  | non=>cases rx;exact SeqAt.EqAt.same _
  | bl b=>cases rx;exact SeqAt.EqAt.none_bool b
  | int b=>obtain ⟨t,rfl⟩:=rx;exact SeqAt.EqAt.none_int b t
  | str b=>obtain ⟨t,rfl⟩:=rx;exact SeqAt.EqAt.none_str b t
  | _=>exact absurd (show false=true from fx) aAu
 | bl a =>
  cases ry
  cases x with
  | non=>cases rx;exact SeqAt.EqAt.bool_none a
  | bl b=>cases rx;exact SeqAt.EqAt.bool_bool a b
  | int b=>obtain ⟨t,rfl⟩:=rx;exact SeqAt.EqAt.bool_int a b t
  | str b=>obtain ⟨t,rfl⟩:=rx;exact SeqAt.EqAt.bool_str a b t
  | _=>exact absurd (show false=true from fx) aAu
 | int a =>
  obtain ⟨t',rfl⟩:=ry
  cases x with
  | non=>cases rx;exact SeqAt.EqAt.int_none a t'
  | bl b=>cases rx;exact SeqAt.EqAt.int_bool a t' b
  | int b=>obtain ⟨t,rfl⟩:=rx;exact SeqAt.EqAt.int_int a t' b t
  | str b=>obtain ⟨t,rfl⟩:=rx;exact SeqAt.EqAt.int_str a t' b t
  | _=>exact absurd (show false=true from fx) aAu
 | str a =>
  obtain ⟨t',rfl⟩:=ry
  cases x with
  | non=>cases rx;exact SeqAt.EqAt.str_none a t'
  | bl b=>cases rx;exact SeqAt.EqAt.str_bool a t' b
  | int b=>obtain ⟨t,rfl⟩:=rx;exact SeqAt.EqAt.str_int a t' b t
  | str b=>obtain ⟨t,rfl⟩:=rx;exact SeqAt.EqAt.str_str a t' b t
  | _=>exact absurd (show false=true from fx) aAu
 | _=>exact absurd (show false=true from fy) aAu
def eqU (x:V) (u:Value):Bool:=match u with
 | .none=>eqV .non x
 | .bool b=>eqV (.bl b) x
 | .int i _=>eqV (.int i) x
 | .str z _=>eqV (.str z) x
 | _=>false
theorem ue {x y:V} {u:Value} (r:RelV y u) (f:fA y=true):eqU x u=eqV y x:=by
 cases y with
 | non=>cases r;rfl
 | bl b=>cases r;rfl
 | int i=>obtain ⟨t,rfl⟩:=r;rfl
 | str z=>obtain ⟨t,rfl⟩:=r;rfl
 | _=>exact absurd (show false=true from f) aAu
theorem f6 {x:V}:∀ {xs:List V} {us:List Value},Vals xs us->xs.all fA=true->us.any (eqU x)=xs.any λy=>eqV y x
 | _,_,.nil,_=>rfl
 | y :: xs,u :: us,.cons r t,f=>by
  rw [aBv,aAA] at f;rw [aAX,aAX,ue r f.1,f6 t f.2]
theorem dR {A:Around} {s:Shared} {x:V} {v:Value} (rx:RelV x v) (fx:fA x=true):∀ {xs:List V} {us:List Value},Vals xs us->xs.all fA=true->∀ u∈us,SeqAt.EqAt A s u v (eqU x u)
 | _,_,.nil,_=>λu hu=>by cases hu
 | y :: xs,u :: us,.cons r t,f=>λu' hu=>by
  rw [aBv,aAA] at f;rcases aAf.mp hu with rfl | hu
  ·rw [ue r f.1];exact yO r rx f.1 fx
  ·exact dR rx fx t f.2 u' hu
def inV (x:V) (xs:List V):Bool:=xs.any λy=>eqV y x
def rIn (K:W.Frag) (neg:Bool):R2:=λx y H Q=>∃ p xs,y=.ref p/\(SqL K H p xs\/SqT K H p xs)/\fA x=true/\xs.all fA=true/\Q (.bl (if neg then !inV x xs else inV x xs)) H
theorem rZ:OpR X (compareOp .In) (rIn X.K false):=by
 intro pins s σ H x y v u Q I rx ry h;obtain ⟨p,xs,rfl,hq,fx,fs,q⟩:=h
 cases ry
 rcases hq with hq | hq
 ·obtain ⟨its,r,pl,hz⟩:=I.list hq;refine SeqAt.in_listAt (eqU x) pl.isList (λw hw=>dR rx fx r fs w (by simpa using hw)) ⟨.bl _,H,I,rfl,?_⟩;rw [show its.toArray.any (eqU x)=its.any (eqU x) by simp,f6 r fs];exact q
 ·obtain ⟨its,r,pl,hz⟩:=I.tuple hq;refine SeqAt.in_tupleAt (eqU x) pl (λw hw=>dR rx fx r fs w (by simpa using hw)) ⟨.bl _,H,I,rfl,?_⟩;rw [show its.toArray.any (eqU x)=its.any (eqU x) by simp,f6 r fs];exact q
theorem lG:OpR X (compareOp .NotIn) (rIn X.K true):=by
 intro pins s σ H x y v u Q I rx ry h;obtain ⟨p,xs,rfl,hq,fx,fs,q⟩:=h
 cases ry
 rcases hq with hq | hq
 ·obtain ⟨its,r,pl,hz⟩:=I.list hq;refine SeqAt.notIn_listAt (eqU x) pl.isList (λw hw=>dR rx fx r fs w (by simpa using hw)) ⟨.bl _,H,I,rfl,?_⟩;rw [show its.toArray.any (eqU x)=its.any (eqU x) by simp,f6 r fs];exact q
 ·obtain ⟨its,r,pl,hz⟩:=I.tuple hq;refine SeqAt.notIn_tupleAt (eqU x) pl (λw hw=>dR rx fx r fs w (by simpa using hw)) ⟨.bl _,H,I,rfl,?_⟩;rw [show its.toArray.any (eqU x)=its.any (eqU x) by simp,f6 r fs];exact q
theorem f7:aP X (.builtin "len") (λxs H Q=>∃ p ys,xs=[.ref p]/\(SqL X.K H p ys\/SqT X.K H p ys)/\Q (.int ys.length) H):=by
 intro pins s σ H xs us Q I r h;obtain ⟨p,ys,rfl,hq,q⟩:=h;obtain ⟨u,rfl,rx⟩:=bE r
 cases rx
 have hn:=i4;rcases hq with hq | hq
 ·obtain ⟨its,r',pl,hz⟩:=I.list hq;have hlen:=r'.length;exact Calls.call_len_list pl.isList (by simp only [aAi] <;> lia) ⟨.int ys.length,H,I.tok _,⟨s.toks+1,by rw [aAi,hlen]⟩,q⟩
 ·obtain ⟨its,r',pl,hz⟩:=I.tuple hq;have hlen:=r'.length;exact len_tuple pl (by simp only [aAi] <;> lia) ⟨.int ys.length,H,I.tok _,⟨s.toks+1,by rw [aAi,hlen]⟩,q⟩
theorem call_len_str:aP X (.builtin "len") (λxs H Q=>∃ z,xs=[.str z]/\z.length<=sizeLine/\Q (.int z.length) H):=by
 intro pins s σ H xs us Q I r h;obtain ⟨z,rfl,hz,q⟩:=h;obtain ⟨u,rfl,t,rfl⟩:=bE r;have hn:=i4;exact len_str (by lia) ⟨.int z.length,H,I.tok _,⟨_,rfl⟩,q⟩
theorem lH:aP X (.type "list") (λxs H Q=>∃ p ys,xs=[.ref p]/\(SqL X.K H p ys\/SqT X.K H p ys)/\∀ l,H l=none->Q (.ref l) (upd H l (.lst ys))):=by
 intro pins s σ H xs us Q I r h;obtain ⟨p,ys,rfl,hq,q⟩:=h;obtain ⟨u,rfl,rx⟩:=bE r
 cases rx
 have fin:∀ (its:List Value),Vals ys its->ys.length<=sizeLine->∀ (h':Heap) (c':Nat),(∀ b o',s.heap.get? b=some o'->h'.get? b=some o') ->
   h'.get? s.heap.objs.size=some { cls:=.type "list",dict:=none,data:=.seq its.toArray c',slots:=#[] }->EP X pins σ Q (.ref s.heap.objs.size) { s with heap:=h' }:=λits r' hz h' c' kp e =>
  ⟨.ref s.heap.objs.size,_,I.laid (t':=s.toks) kp (aAm _) (show ObjOk X.prog X.w _ h' _ (.lst ys) from ⟨hz,its,c',r',e⟩),rfl,q _ (I.hok.fresh (aAm _))⟩
 rcases hq with hq | hq
 ·obtain ⟨its,r',pl,hz⟩:=I.list hq;have hlen:=r'.length;obtain ⟨o,ho,hc,n,hd⟩:=pl.isList;exact call_list_seq p (.inl rfl) ho hc hd (λh' c' kp e=>fin its r' hz h' c' kp e) (by simp only [aAi] <;> lia)
 ·obtain ⟨its,r',pl,hz⟩:=I.tuple hq;have hlen:=r'.length;obtain ⟨o,ho,hc,n,hd⟩:=pl;exact call_list_seq p (.inr rfl) ho hc hd (λh' c' kp e=>fin its r' hz h' c' kp e) (by simp only [aAi] <;> lia)
def tyV (K:W.Frag) (T:String) (x:V) (H:Hp):Prop:=match x with
 | .str _=>T= "str"
 | .int _=>T= "int"
 | .ref p=>(T= "list" /\∃ xs,SqL K H p xs)\/(T= "tuple" /\∃ o,K.lookup p=some o/\o.cls=.type "tuple" /\o.dict=none) \/
   (T= "dict" /\((∃ kvs,H p=some (.dK kvs))\/∃ kvs,H p=some (.dT kvs)))\/(T= "set" /\∃ S n,H p=some (.set S n))
 | _=>False
theorem uf {pins:List (Addr×Obj)} {σ:St} {H:Hp} {s:Shared} {T:String} {x:V} {v:Value} (I:Inv X pins σ H s) (r:RelV x v) (ty:tyV X.K T x H) :
  s.TypeIs v T/\∀ a,v=.ref a->∃ ob,s.heap.get? a=some ob/\ob.dict=none:=by
 cases x with
 | str z =>
  obtain ⟨t,rfl⟩:=r
  cases (show T= "str" from ty)
  exact ⟨typeIs_str s z t,λ_ e=>nomatch e⟩
 | int i =>
  obtain ⟨t,rfl⟩:=r
  cases (show T= "int" from ty)
  exact ⟨typeIs_int s i t,λ_ e=>nomatch e⟩
 | ref p =>
  cases r
  rcases ty with ⟨rfl,xs,hq⟩ | ⟨rfl,o,hk,hc,hd⟩ | ⟨rfl,hk⟩ | ⟨rfl,S,n,hk⟩
  ·obtain ⟨its,_,pl,_⟩:=I.list hq;refine ⟨pl.isList.typeIs,λa e=>?_⟩
   cases e
   obtain ⟨o,n,e,c,hd,_⟩:=pl;exact ⟨o,e,hd⟩
  ·refine ⟨⟨o,I.kIn p o hk,hc⟩,λa e=>?_⟩
   cases e
   exact ⟨o,I.kIn _ o hk,hd⟩
  ·have z:∃ o,s.heap.get? p=some o/\o.ExactDict:=by
    rcases hk with ⟨kvs,hk⟩ | ⟨kvs,hk⟩
    ·obtain ⟨_,_,_,_,o,_,_,e,ex,_⟩:=I.hok p _ hk;exact ⟨o,e,ex⟩
    ·obtain ⟨_,_,_,_,o,_,_,e,ex,_⟩:=I.hok p _ hk;exact ⟨o,e,ex⟩
   obtain ⟨o,e,ex⟩:=z;refine ⟨⟨o,e,ex.1⟩,λa e2=>?_⟩
   cases e2
   exact ⟨o,e,ex.2.1⟩
  ·obtain ⟨o,_,_,_,e,ex,_⟩:=I.hok p _ hk;refine ⟨⟨o,e,ex.1⟩,λa e2=>?_⟩
   cases e2
   exact ⟨o,e,ex.2.1⟩
 | _=>exact False.elim ty
def BB (K:W.Frag) (T:String) (r:V->List V->Hp->VK->Prop) (to:TE):TE:=λσ H Q=>to σ H λx H1=>tyV K T x H1/\r x [] H1 Q
def tBM (K:W.Frag) (T:String) (r:V->List V->Hp->VK->Prop) (to:TE) (t:TA):TE:=λσ H Q=>to σ H λx H1=>tyV K T x H1/\t σ H1 λxs H2=>r x xs H2 Q
variable {o e:Expr} {es:List Expr} {to:TE} {t:TA} {name:Str} {apos cpos:Pos} {T id:String} {r:V->List V->Hp->VK->Prop}
theorem yP (pa:PlainAttrs T) (slot:Slot T name id) (hty:typeOf (.builtin id)=pure (.type "method_descriptor")) (hm:MtR X id r) (ho:PE X o to)
  (hbase:attributeBase o name X.env (eval o X.env)=eval o X.env:=by rfl) (hline:(apos.endLine == cpos.line)=true:=by rfl):PE X (.Call (.Attribute o name apos) [] [] cpos) (BB X.K T r to):=by
 intro pins s σ H Q I h;refine wpAny_Call_method0_late hbase hline (thn (ho pins s σ H _ I h) λv s1 ⟨x,H1,I1,r1,ty,q1⟩=>?_);obtain ⟨h1,h2⟩:=uf I1 r1 ty;exact ⟨T,id,pa,slot,hty,h1,h2,Calls.callWith_builtin rfl (PySem.evalArgs_none (hm pins s1 σ H1 x [] v [] Q I1 r1 .nil q1))⟩
theorem pe_bm (pa:PlainAttrs T) (slot:Slot T name id) (hty:typeOf (.builtin id)=pure (.type "method_descriptor")) (hm:MtR X id r) (ho:PE X o to) (ha:PA X (e :: es) t)
  (hbase:attributeBase o name X.env (eval o X.env)=eval o X.env:=by rfl)
  (hfew:((backTo cpos (starEach (e :: es) X.env)).all (λx=>!x.1) && (backToKw cpos (keywordEach [] X.env)).all (λx=>x.1.isSome)
   && decide ((e :: es).length+([]:List Keyword).length+(if ([]:List Keyword).isEmpty then 0 else 1) < 30))=true:=by rfl)
  (hline:(apos.endLine == cpos.line)=true:=by rfl) (hs:starEach (e :: es) X.env=(false,eval e X.env) :: starEach es X.env:=by rfl) (hplain:(backTo cpos (starEach es X.env)).any (·.1)=false:=by rfl) :
  PE X (.Call (.Attribute o name apos) (e :: es) [] cpos) (tBM X.K T r to t):=by
 intro pins s σ H Q I h;refine wpAny_Call_method_late hbase hfew hline rfl (thn (ho pins s σ H _ I h) λv s1 ⟨x,H1,I1,r1,ty,q1⟩=>?_);obtain ⟨h1,h2⟩:=uf I1 r1 ty;refine ⟨T,id,pa,slot,hty,h1,h2,?_⟩;have hA:=ha cpos pins s1 σ H1 _ I1 q1;rw [hs] at hA ⊢;refine Calls.callWith_builtin (by show (false || (backTo cpos (starEach es X.env)).any (·.1))=false;rw [hplain] <;> rfl) (Calls.evalArgs_plain ?_);exact thn hA λus s2 ⟨vs,H2,I2,r2,q2⟩=>hm pins s2 σ H2 x vs v us Q I2 r1 r2 q2
end
def MtM (X:Cx) (id:String) (r:V->List V->Hp->VK->Prop):Prop :=
 ∀ (pins:List (Addr×Obj)) (s:Shared) (σ:St) (H:Hp) (x:V) (xs:List V) (v:Value) (us:List Value) (Q:VK),Inv X pins σ H s->RelV x v->Vals xs us->r x xs H Q ->
  wpAny (model X.prog X.w) X.A (call (.builtin id) (v :: us)) (EP X pins σ Q) X.xe s
theorem Vals.one:∀ {x:V} {us:List Value},Vals [x] us->∃ u,us=[u]/\RelV x u:=by
 intro x us h
 cases h with
 | cons r t =>
  cases t
  exact ⟨_,rfl,r⟩
theorem Vals.two:∀ {x y:V} {us:List Value},Vals [x,y] us->∃ u v,us=[u,v]/\RelV x u/\RelV y v:=by
 intro x y us h
 cases h with
 | cons r t =>
  cases t with
  | cons q t =>
   cases t
   exact ⟨_,_,rfl,r,q⟩
theorem Vals.zero:∀ {us:List Value},Vals [] us->us=[]
 | _,.nil=>rfl
theorem Vals.dropLast {xs:List V} {us:List Value} (h:Vals xs us):Vals xs.dropLast us.dropLast:=by
 induction h with
 | nil=>exact .nil
 | cons r t ih =>
  cases t with
  | nil=>exact .nil
  | cons q t'=>exact .cons r ih
theorem pE {α:Type} (l:List α):l.eraseIdx (l.length - 1)=l.dropLast:=by
 induction l with
 | nil=>rfl
 | cons a r ih =>
  cases r with
  | nil=>rfl
  | cons b r =>
   have e:(a :: b :: r).length - 1=((b :: r).length - 1)+1:=by
    have h1:(a :: b :: r).length=r.length+2:=rfl;have h2:(b :: r).length=r.length+1:=rfl;lia
   rw [e,List.eraseIdx_cons_succ,ih]
   all_goals rfl
section
variable {X:Cx} {pins:List (Addr×Obj)} {σ:St} {H:Hp} {s:Shared} {l b:Addr} {xs ys zs:List V}
theorem Inv.lset {its its':List Value} {n:Nat} {f:Array Value->Array Value} {t':Nat} (I:Inv X pins σ H s) (hH:H l=some (.lst xs))
  (e:s.heap.get? l=some { cls:=.type "list",data:=.seq its.toArray n }) (hf:f its.toArray=its'.toArray) (hv:Vals ys its') (hz:ys.length<=sizeLine) :
  Inv X pins σ (upd H l (.lst ys)) { s with heap:=s.heap.update l (Obj.mapSeq f),toks:=t' }:=by
 have q:=PySem.IsL.update e f;rw [hf] at q;refine I.write (x:=l) (e:=l) (by rw [hH];exact trivial) (.inl rfl) (λb' u hb hu=>(aAV s.heap (Obj.mapSeq f) (Ne.symm hb)).trans hu) ⟨_,q⟩ ?_;exact ⟨hz,its',_,hv,q⟩
theorem Inv.lnew {its:List Value} {t':Nat} (I:Inv X pins σ H s) (hv:Vals ys its) (hz:ys.length<=sizeLine) :
  Inv X pins σ (upd H s.heap.objs.size (.lst ys)) { s with heap:=s.heap.push { cls:=.type "list",data:=.seq its.toArray },toks:=t' } :=
 I.laid (λ_ _ q=>aAa _ q) (aAm _) ⟨hz,its,0,hv,aAh _ rfl⟩
theorem Inv.fresh (I:Inv X pins σ H s):H s.heap.objs.size=none:=I.hok.fresh (aAm _)
theorem Inv.lstM (I:Inv X pins σ H s) (hH:H l=some (.lst xs)):xs.length<=sizeLine/\∃ (its:List Value) (n:Nat),Vals xs its/\xs.length=its.length/\s.heap.get? l=some { cls:=.type "list",data:=.seq its.toArray n }:=by
 obtain ⟨z,its,n,r,e⟩:=I.hok l _ hH;exact ⟨z,its,n,r,r.length,e⟩
theorem ug {n:Nat} (h:n<=sizeLine):Builtin.List.listTooLong n=false:=by
 unfold Builtin.List.listTooLong;exact decide_eq_false (by lia)
end
section
variable {X:Cx}
inductive IApp (x:V) (vs:List V) (H:Hp) (Q:VK):Prop
 | mk (l:Addr) (xs:List V) (y:V):(x=.ref l)->(vs=[y])->(H l=some (.lst xs))->(xs.length < sizeLine)->(Q .non (upd H l (.lst (xs++[y]))))->IApp x vs H Q
def wC:V->List V->Hp->VK->Prop:=λx vs H Q=>IApp x vs H Q
theorem mt_append:MtM X "list.append" wC:=by
 intro pins s σ H x vs v us Q I rx rv h;obtain ⟨l,xs,y,rfl,rfl,hH,hz,q⟩:=h
 cases rx
 obtain ⟨u,rfl,ru⟩:=rv.one;obtain ⟨z,its,n,r,hl,e⟩:=I.lstM hH;refine call_meets F.slot_list_append ⟨_,e,rfl⟩ F.entry_list_append (F.args_list_append_2 _ _) (PySem.list_append l its.toArray n u (by rw [aAi];lia)) ⟨e,?_⟩;refine ⟨.non,_,I.lset (its':=its++[u]) hH e (by simp) (r.append (.cons ru .nil)) ?_,rfl,q⟩;rw [aAP,aB2];lia
def wD:V->List V->Hp->VK->Prop:=λx vs H Q=>∃ l b xs zs,x=.ref l/\vs=[.ref b]/\H l=some (.lst xs)/\H b=some (.lst zs)/\xs.length+zs.length<=sizeLine/\Q .non (upd H l (.lst (xs++zs)))
theorem sh:MtM X "list.extend" wD:=by
 intro pins s σ H x vs v us Q I rx rv h;obtain ⟨l,b,xs,zs,rfl,rfl,hH,hB,hz,q⟩:=h
 cases rx
 obtain ⟨u,rfl,ru⟩:=rv.one
 cases ru
 obtain ⟨z,its,n,r,hl,e⟩:=I.lstM hH;obtain ⟨z2,its2,n2,r2,hl2,e2⟩:=I.lstM hB;have hsz:its.toArray.size+its2.toArray.size<=sizeLine:=by rw [aAi,aAi];lia
 have hlong:¬ (!its.toArray.isEmpty && Builtin.List.listTooLong (its.toArray.size+its2.toArray.size))=true:=by
  rw [ug hsz,aBa];exact aAu
 refine call_meets F.slot_list_extend ⟨_,e,rfl⟩ F.entry_list_extend (F.args_list_extend_2 _ _)
  (AutoSeq1.list_extend_list_list_0 l its.toArray n b its2.toArray n2 hlong (by rw [aAi];lia) (by lia)) ⟨e,e2,?_⟩
 refine ⟨.non,_,I.lset (its':=its++its2) hH e (by simp) (r.append r2) ?_,rfl,q⟩;rw [aAP];lia
def BC:V->List V->Hp->VK->Prop:=λx vs H Q=>∃ l xs y,x=.ref l/\vs=[]/\H l=some (.lst xs)/\xs[xs.length - 1]?=some y/\Q y (upd H l (.lst xs.dropLast))
theorem yQ:MtM X "list.pop" BC:=by
 intro pins s σ H x vs v us Q I rx rv h;obtain ⟨l,xs,y,rfl,rfl,hH,hy,q⟩:=h
 cases rx
 have hus:=rv.zero;subst hus;obtain ⟨z,its,n,r,hl,e⟩:=I.lstM hH;obtain ⟨u,hu,ru⟩:=r.get hy;have hy':its.toArray[its.toArray.size - 1]?=some u:=by
  show its.toArray[its.length - 1]?=some u;rw [<- aB3,<- hl];exact hu
 refine call_meets F.slot_list_pop ⟨_,e,rfl⟩ F.entry_list_pop (F.args_list_pop_1 _) (MeetsSeq.list_pop_last l its.toArray n u hy' (by rw [aAi];lia)) ⟨e,?_⟩;refine ⟨y,_,I.lset (its':=its.dropLast) hH e ?_ r.dropLast ?_,ru,q⟩
 ·show its.toArray.eraseIdxIfInBounds (its.toArray.size - 1)=its.dropLast.toArray;rw [aAi,List.eraseIdxIfInBounds_toArray,pE]
 ·rw [aBz];lia
end
section
variable {prog:Program} {w:World} {A:Around} {E:Value->Shared->Prop} {s:Shared}
end
section
variable {X:Cx}
end
end L2
namespace Att
open PySem PySem.W PySem.Calls PyProof.Rows
theorem iI {P:Params} {h:Heap}:∀ (ns:List Int) (vs:List Value),WellAll P h vs (ns.map WData.int)->IntsAre vs ns:=by
 intro ns
 induction ns with
 | nil =>
  intro vs w;rw [List.map_nil] at w
  cases w
  exact .nil
 | cons n ns ih =>
  intro vs w;rw [aAz] at w
  cases w with
  | cons a b =>
   cases a
   exact .cons _ _ (ih _ b)
theorem sj {l:OpenLaw} {n:Nat} (hn:l.most=some n) {P:Params} {h:Heap} {args:List WData} {vals:List Value}
  (hpre:l.row.toRowW.claim.pre args=true) (hwl:WellAll P h vals args) :
  ∃ a vs ns,vals=[Value.ref a]/\args=[WData.list (ns.map WData.int)]/\h.get? a=some { cls:=.type "list",data:=.seq vs.toArray }/\IntsAre vs ns/\ns.length<=n:=by
 have hsh:WShape.hasAll [] args [.list .int]=true:=(pre_splitW hpre).1;have hc:l.pre.holds [] { args:=args }=true:=(pre_splitW hpre).2;obtain ⟨d,r,rfl,h1,h2⟩:=hasAllW_cons hsh;obtain rfl:=hasAllW_nil h2;obtain ⟨xs,rfl,h3⟩:=hasW_list h1;obtain ⟨ns,rfl⟩:=items_int h3;have hlen:ns.length<=n:=by
  unfold OpenLaw.pre at hc;have h4:(WTm.not (.lt (.lit (.int (n:Int))) (.len (.arg 0)))).holds [] { args:=[.list (ns.map .int)] }=true:=by
   have h4:=(holds_andW hc).1;rw [hn] at h4;exact h4
  have h5:=condW_of h4 (w_not (w_lt w_lit (w_len_list (w_arg rfl))));rw [aAb] at h5;refine aBT λq=>?_;have q':(n:Int) < ((ns.length:Nat):Int):=by lia
  first
   | (rw [decide_eq_true q'] at h5;exact absurd h5 (by decide))
   | (simp at h5;lia)
 cases hwl with
 | cons w1 w2 =>
  cases w2
  cases w1 with
  | list ho hall=>exact ⟨_,_,ns,rfl,rfl,ho,iI ns _ hall,hlen⟩
theorem sk (l:OpenLaw) (args:List WData):l.row.toRowW.claim.post args (.bool true) args=true :=
 postW_of (r:=l.row.toRowW) (X:=(true == true))
  (show WShape.has [] (.bool true) .bool=true by first | rfl | decide | simp [WShape.has,WShape.arms,WShape.armsAll])
  (show (WTm.eq .res (.lit (.bool true))).value [] { args:=args,res:=some (.bool true),after:=args }=some (.bool (true == true)) from w_eq_bool (w_res rfl) w_lit) rfl
theorem attach_call {l:OpenLaw} {n:Nat} {q:Program} {loose:List Str} {XP:(Str->Option Value)->Heap->Prop} {YP:World->Heap->Prop} {d:DefRec}
  (hn:l.most=some n) (hdf:d.params.defaults=[])
  (call:∀ (w:World) (s₀ s₁:Shared) (mg mb:Str->Option Value) (fa:Addr) (o:Obj) (pm cd doc:Value) (a:Addr) (vs:List Value) (ns:List Int),
   Ground q loose [] XP w s₀ mg mb s₁.heap->YP w s₁.heap ->
   s₁.heap.get? fa=some o->o.data=.func (docDef d.name d.params d.body d.scope pm cd doc)->s₁.heap.CodeRec cd d.name->mg d.name=some (.ref fa) ->
   s₁.heap.get? a=some { cls:=.type "list",data:=.seq vs.toArray }->IntsAre vs ns->ns.length<=n->s₁.gens=#[] ->
   codeAny (model l.prog w) callerA (.call (.ref fa) ⟨[.ref a],[]⟩) (λr s'=>r=.ok (.ret (.bool true))/\OldK s₁.heap s'.heap/\s'.os=s₁.os/\AllBare s'.gens) s₁) :
  WalkO q loose XP YP l.row.toRowW d [] (λf vs=>PySem.call f vs):=by
 intro w s₀ s₁ mg mb G Y fa o pm cd doc dV kV ho hd hcd hD hmg hg args vals as hpre hlay hrd hwl hlo;obtain rfl:dV=.none:=Dflts.none hD hdf;obtain rfl:kV=.none:=Dflts.noKw hD;obtain ⟨a,vs,ns,rfl,rfl,hobj,hints,hlen⟩:=sj hn hpre hwl;refine enter_call (codeAny_mono (call w s₀ s₁ mg mb fa o pm cd doc a vs ns G Y ho (fd_plain hd) hcd hmg hobj hints hlen hg) λr s' hq=>?_);obtain ⟨rfl,h2,h3,h4⟩:=hq;exact ⟨.inl ⟨.bool true,.bool true,[],rfl,λ_=>rfl,.bool true,sk l _,λ_=>⟨List.Pairwise.nil,λ_ hm=>(nomatch hm)⟩⟩,h2,h3,h4⟩
section
variable {prog:Program} {w:World} {A:Around} {E:Value->Shared->Prop} {s:Shared} {K:Frag}
end
end Att
namespace L2
open PySem PySem.Spec PyProof.Rows
theorem kG:∀ {vs:List Value} {ns:List Int},IntsAre vs ns->Vals (ns.map V.int) vs
 | _,_,.nil=>.nil
 | _,_,.cons n t h=>.cons ⟨t,rfl⟩ (kG h)
def wE (H:Hp):Prop:=∀ b,H b=none\/∃ o xs,H b=some (.frz o (.lst xs))
theorem uh {P:Program} {w:World} {K:W.Frag} {mg mb:Str->Option Value} {CX:CXT} {k:Nat} {fa a:Addr} {fd:FuncData} {x:Str} {sp:Sp} {s₁:Shared} {vs:List Value} {ns:List Int}
  (KX:K.In s₁.heap) (hns:s₁.heap.Ns mainGlobals mg) (hb:s₁.heap.Ns builtinsNs mb) (hbb:∀ x:Str,x≠ "__name__" ->mb x=bootBuiltins x) (hlim:s₁.heap.NoLimit) (hg:s₁.gens=#[])
  (ha:s₁.heap.get? a=some { cls:=.type "list",data:=.seq vs.toArray }) (hi:IntsAre vs ns) (hl:ns.length<=sizeLine) (hr:Room k callerA)
  (F:∀ base:Heap,K.In base->base.Ns mainGlobals mg->FnOk P w K mg base CX k fa fd [x] sp) (hbind:∀ (s:Shared) (u:Value),BindsTo s fd ⟨[u],[]⟩ [(x,u)])
  (hsp:∀ H:Hp,wE H->SqL K H a (ns.map V.int)->sp [.ref a] H (λv _=>v=.bl true) λ_ _ _=>False)
  (hCX:∀ H e s',CX [] H s₁ (λ_ _ _=>False) e s'->False) :
  codeAny (model P w) callerA (.call (.ref fa) ⟨[.ref a],[]⟩) (λr s'=>r=.ok (.ret (.bool true))/\OldK s₁.heap s'.heap/\s'.os=s₁.os/\AllBare s'.gens) s₁:=by
 have rv:=kG hi;have lenV:=hi.length;have core:∀ H:Hp,wE H->SqL K H a (ns.map V.int)->HOk P w H s₁.heap->(∀ b,H b≠none->b=a)->(H a≠none->K.lookup a=none) ->
   codeAny (model P w) callerA (.call (.ref fa) ⟨[.ref a],[]⟩) (λr s'=>r=.ok (.ret (.bool true))/\OldK s₁.heap s'.heap/\s'.os=s₁.os/\AllBare s'.gens) s₁:=by
  intro H hO hS hok hA hK;have base_of:∀ {b:Addr} {o:Obj},s₁.heap.get? b=some o->H b=none->(lv s₁.heap H).get? b=some o:=λe n=>tP e n;have noA:∀ {b:Addr} {o:Obj} {es:Array DictEntry} {ep:Nat},s₁.heap.get? b=some o->o.data=.dict es ep->H b=none:=λ{b o es ep} e d=>by
   cases q:H b with
   | none=>rfl
   | some u =>
    have e':b=a:=hA b (by rw [q];simp);subst e';rw [ha] at e;cases e;have d':Data.seq vs.toArray _=Data.dict es ep:=d
    cases d'
  have nsK:∀ {b:Addr} {m:Str->Option Value},s₁.heap.Ns b m->(lv s₁.heap H).Ns b m:=λ{b m} ⟨o,es,ep,e,d,r⟩=>⟨o,es,ep,base_of e (noA e d),d,r⟩;have hKb:K.In (lv s₁.heap H):=λb o e=>base_of (KX b o e) (by
   cases q:H b with
   | none=>rfl
   | some u =>
    have e':b=a:=hA b (by rw [q];simp);subst e';rw [hK (by rw [q];simp)] at e;cases e)
  have hM:Mod K mg (lv s₁.heap H):=⟨hKb,nsK hns,⟨mb,nsK hb,hbb⟩,let ⟨mc,h1,h2⟩:=hlim;⟨mc,nsK h1,h2⟩⟩;have e0:Env0 P w K mg (lv s₁.heap H) callerA [] s₁ H:=⟨rfl,hM,λb o e=>wn e,Nat.le_of_eq (rM _ _),trivial,λb hb=>absurd (show b∈([]:List Addr) from hb) (by simp),hok,.of_eq hg⟩;refine codeAny_mono ((F _ hKb (nsK hns)).run callerA [] s₁ H ⟨[.ref a],[]⟩ [.ref a] [.ref a] _ _ hr e0 (hbind s₁ (.ref a)) (.cons rfl .nil) (hsp H hO hS)) λr s' h=>?_
  cases r with
  | error e=>exact (hCX H e s' h).elim
  | ok fl =>
   cases fl with
   | next=>exact False.elim h
   | brk=>exact False.elim h
   | cont=>exact False.elim h
   | ret u =>
    obtain ⟨v,H',os,bare,un,hok',r',q⟩:=h;have q':v=.bl true:=q;subst q';obtain rfl:u=Value.bool true:=r';refine ⟨rfl,OldK.of_keep λb o e=>?_,os,bare⟩
    cases q:H b with
    | none=>exact un.keep b o e q (by intro z;exact absurd (show b∈([]:List Addr) from z) (by simp)) (by simp)
    | some u =>
     rcases hO b with z | ⟨ob,xs,z⟩
     ·rw [q] at z;cases z
     ·have z2:=un.frzs b ob _ z;obtain ⟨e1,_⟩:=hok b _ z;obtain ⟨e2,_⟩:=hok' b _ z2;rw [e] at e1;cases e1;exact e2
 cases hk:K.lookup a with
 | some o =>
  have e:=KX a o hk;rw [ha] at e
  cases e
  refine core (λ_=>none) (λ_=>.inl rfl) (.inr ⟨_,vs.toArray,_,hk,rfl,rfl,rfl,by rw [aAi,lenV];exact hl,by simpa using rv⟩) (λb u z=>by have z':(none:Option HO)=some u:=z;cases z') (λb z=>absurd rfl z) λz=>absurd rfl z
 | none =>
  refine core (λb=>if b=a then some (.frz { cls:=.type "list",data:=.seq vs.toArray } (.lst (ns.map V.int))) else none) (λb=>?_) (.inl (.inr ⟨{ cls:=.type "list",data:=.seq vs.toArray },if_pos rfl⟩)) (λb u z=>?_) (λb z=>?_) λ_=>hk
  ·by_cases hb:b=a
   ·exact .inr ⟨_,_,if_pos hb⟩
   ·exact .inl (if_neg hb)
  ·by_cases hb:b=a
   ·have z':=(if_pos hb).symm.trans z
    cases z'
    subst hb;exact ⟨ha,by rw [aAb];exact hl,vs,_,rv,ha⟩
   ·have z':=(if_neg hb).symm.trans z
    cases z'
  ·by_cases hb:b=a
   ·exact hb
   ·exact absurd (if_neg hb) z
abbrev KOf {K:W.Frag} {h:Heap} (_:K.In h):W.Frag:=K
theorem wF {l:W.OpenLaw} {n k:Nat} {q:Program} {loose:List Str} {XP:(Str->Option Value)->Heap->Prop} {YP:World->Heap->Prop} {d:DefRec} {K:Params->W.Frag} {CX:World->CXT} {sp:World->Sp} {x:Str}
  (hn:l.most=some n) (hn2:n<=sizeLine) (hdf:d.params.defaults=[]) (hr:Room k callerA)
  (hY:∀ (w:World) (h:Heap),YP w h->(K w.params).In h)
  (F:∀ (w:World) (mg:Str->Option Value) (fa:Addr) (h:Heap),(K w.params).In h->h.Ns mainGlobals mg->mg d.name=some (.ref fa) ->
   ∃ fd:FuncData,(∀ (s:Shared) (u:Value),BindsTo s fd ⟨[u],[]⟩ [(x,u)]) /\
    ∀ base:Heap,(K w.params).In base->base.Ns mainGlobals mg->FnOk l.prog w (K w.params) mg base (CX w) k fa fd [x] (sp w))
  (hsp:∀ (w:World) (H:Hp) (a:Addr) (ns:List Int),ns.length<=n->wE H->SqL (K w.params) H a (ns.map V.int)->sp w [.ref a] H (λv _=>v=.bl true) λ_ _ _=>False)
  (hCX:∀ (w:World) (H:Hp) (s:Shared) (e:Value) (s':Shared),CX w [] H s (λ_ _ _=>False) e s'->False) :
  W.WalkO q loose XP YP l.row.toRowW d [] (λf vs=>PySem.call f vs):=by
 refine Att.attach_call hn hdf λw s₀ s₁ mg mb fa o pm cd doc a vs ns G Y ho hd hcd hmg hobj hints hlen hg=>?_;have KX:=hY w _ Y;obtain ⟨fd,hb,hF⟩:=F w mg fa _ KX G.T.g hmg;exact uh KX G.T.g G.T.b G.T.builtins G.T.nolimit hg hobj hints (aAE hlen hn2) hr hF hb (λH hO hS=>hsp w H a ns hlen hO hS) λH e s'=>hCX w H s₁ e s'
theorem Aq {l:W.OpenLaw} {n k:Nat} {q:Program} {loose:List Str} {XP:(Str->Option Value)->Heap->Prop} {YP:World->Heap->Prop} {d:DefRec} {K:Params->W.Frag} {CX:CXT} {sp:W.Frag->Sp} {x:Str}
  (hn:l.most=some n) (hn2:n<=sizeLine) (hdf:d.params.defaults=[]) (hr:Room k callerA)
  (hY:∀ (w:World) (h:Heap),YP w h->(K w.params).In h)
  (F:∀ (w:World) (mg:Str->Option Value) (fa:Addr) (h:Heap),(K w.params).In h->h.Ns mainGlobals mg->mg d.name=some (.ref fa) ->
   ∃ fd:FuncData,(∀ (s:Shared) (u:Value),BindsTo s fd ⟨[u],[]⟩ [(x,u)]) /\
    ∀ base:Heap,(K w.params).In base->base.Ns mainGlobals mg->FnOk l.prog w (K w.params) mg base CX k fa fd [x] (sp (K w.params)))
  (hsp:∀ (K:W.Frag) (H:Hp) (a:Addr) (ns:List Int),ns.length<=n->wE H->SqL K H a (ns.map V.int)->sp K [.ref a] H (λv _=>v=.bl true) λ_ _ _=>False)
  (hCX:∀ (H:Hp) (s:Shared) (e:Value) (s':Shared),CX [] H s (λ_ _ _=>False) e s'->False) :
  W.WalkO q loose XP YP l.row.toRowW d [] (λf vs=>PySem.call f vs) :=
 wF (K:=K) (CX:=λ_=>CX) (sp:=λw=>sp (K w.params)) hn hn2 hdf hr hY F (λw H a ns h1 h2 h3=>hsp (K w.params) H a ns h1 h2 h3) λ_ H s e s'=>hCX H s e s'
end L2
namespace L2
open PySem PySem.Spec PyProof.Rows
abbrev CX0:CXT:=λ_ _ _ _ _ _=>False
abbrev E0:XK:=λ_ _ _=>False
theorem Ar {X:Cx}:lB CX0 X E0:=λ_ _ _ _ _ _ _ h=>h.elim
structure Fun (K:W.Frag) (x qual:Str) (st:Stmt) (f:Addr) (fd:FuncData):Prop where
 ex:∃ (oc:Value) (od:Option Addr) (kV doc pm:Value) (an:Option Addr) (cdv ct:Value) (osl:Array (Option Value)),
  fd=W.fnOf x qual (bW st) (bK st) (ac st) .none kV doc pm an cdv ct/\K.lookup f=some ⟨oc,od,.func fd,osl⟩/\W.codeIn K cdv qual=true
 kp:W.keepIn K (.ref f)=true
section
variable {P:Program} {w:World} {K:W.Frag} {mg:Str->Option Value} {base:Heap}
theorem Fun.ok {x qual:Str} {st:Stmt} {f:Addr} {fd:FuncData} {N ps:List Str} {k:Nat} {sp:Sp} (F:Fun K x qual st f fd) (S:FnScope N ps (ac st)) (len:∀ vs H Q E,sp vs H Q E->vs.length=ps.length)
  (hbody:∀ (cdv:Value) (A:Around) (outer:List Env) (s:Shared) (H:Hp) (vs:List V) (Q:VK) (E:XK),Room k (A.deeper (envOfC qual (ac st) s.heap.objs.size f cdv))->sp vs H Q E ->
   ∃ t,PSs (nv CX0 P w K mg base N qual (ac st) f cdv A outer s H E).nox (bK st) t/\t { nx:=λ_ H'=>Q .non H',rt:=Q } (fZ N vs) H):FnOk P w K mg base CX0 (k+1) f fd ps sp:=by
 obtain ⟨oc,od,kV,doc,pm,an,cdv,ct,osl,rfl,lk,hcd⟩:=F.ex;refine yk lk hcd S len λA outer s H vs Q E hr hsp=>?_;obtain ⟨t,h,q⟩:=hbody cdv A outer s H vs Q E hr hsp;exact ⟨t,h.nox,q⟩
theorem Fun.binds {x qual:Str} {st:Stmt} {f:Addr} {fd:FuncData} {ps:List Str} (F:Fun K x qual st f fd)
  (h:∀ (kV doc pm:Value) (an:Option Addr) (cdv ct:Value) (us:List Value),us.length=ps.length->bindArgs (W.fnOf x qual (bW st) (bK st) (ac st) .none kV doc pm an cdv ct) ⟨us,[]⟩=pure (ps.zip us)):Binds K fd ps []:=by
 obtain ⟨oc,od,kV,doc,pm,an,cdv,ct,osl,rfl,lk,hcd⟩:=F.ex;exact .all (h kV doc pm an cdv ct)
theorem ui {x qual:Str} {st:Stmt} {f:Addr} {oc:Value} {od an:Option Addr} {osl:Array (Option Value)} {kV doc pm cdv ct:Value} (l:K.lookup f=some ⟨oc,od,.func (W.fnOf x qual (bW st) (bK st) (ac st) .none kV doc pm an cdv ct),osl⟩)
  (c:W.codeIn K cdv qual=true) (k:W.keepIn K (.ref f)=true):Fun K x qual st f (W.fnOf x qual (bW st) (bK st) (ac st) .none kV doc pm an cdv ct):=⟨⟨oc,od,kV,doc,pm,an,cdv,ct,osl,rfl,l,c⟩,k⟩
end
theorem ai {n:Nat} (h:n<=1000):n < sizeLine:=Nat.lt_of_le_of_lt h (by decide)
section
variable {X:Cx}
theorem pv (i:Nat) {x:Str} {pos:Pos} (hN:X.N[i]?=some x:=by rfl) (hv:Vis X.env.scope x:=by first | exact Or.inl rfl | exact Or.inr (Or.inl rfl) | exact Or.inr (Or.inr rfl)) (hd:(x == ("__debug__" : Str))=false:=by decide)
  (hcd:(x == ("__classdict__" : Str))=false:=by decide):PE X (.Name x pos) (rN i):=yC hN hv hd hcd
end
theorem aL {A B:Prop} (h:B):if false=true then A else B:=by
 rw [if_neg aAu];exact h
theorem aG {A B:Prop} (h:A):if true=true then A else B:=by
 rw [if_pos rfl];exact h
theorem dS {c A B:Prop} [Decidable c] (h1:c->A) (h2:¬ c->B):if c then A else B:=by
 by_cases h:c
 ·rw [if_pos h];exact h1 h
 ·rw [if_neg h];exact h2 h
def Same (H H':Hp):Prop:=∀ b o,H b=some o->H' b=some o
theorem Same.refl (H:Hp):Same H H:=λ_ _ h=>h
theorem Same.trans {H H1 H2:Hp} (a:Same H H1) (b:Same H1 H2):Same H H2:=λc o h=>b c o (a c o h)
theorem Same.free {H H':Hp} (e:Same H H') {l:Addr} (h:H' l=Option.none):H l=Option.none:=by
 cases q:H l with
 | none=>rfl
 | some o =>
  rw [e l o q] at h
  cases h
theorem Same.seq {K:W.Frag} {H H':Hp} {a:Addr} {xs:List V} (e:Same H H') (h:SqL K H a xs):SqL K H' a xs:=by
 rcases h with (h | ⟨o,h⟩) | h
 ·exact .inl (.inl (e _ _ h))
 ·exact .inl (.inr ⟨o,e _ _ h⟩)
 ·exact .inr h
def cB (env:Env):List (Str×NameKind)->List (Str×Addr)->List (Str×Addr)
 | [],cs=>cs
 | (n,k) :: r,cs=>cB env r (if k == .free then (n,(env.cells.lookup n).getD 0) :: cs else cs)
theorem i7 {env:Env} {scope:Scope} (h:∀ x∈scope.names,x.2=.free->∃ c,env.cells.lookup x.1=some c):closureFor scope env=pure (cB env scope.names []):=by
 simp only [closureFor];have go:∀ (l:List (Str×NameKind)) (cs:List (Str×Addr)),(∀ x∈l,x.2=.free->∃ c,env.cells.lookup x.1=some c) ->
   (forIn l cs λ(x:Str×NameKind) (r:List (Str×Addr))=>(do
    let (name,kind):=x
    if kind == .free then
     let a <- cellOf env name
     pure (ForInStep.yield ((name,a) :: r))
    else pure (ForInStep.yield r):Sem (ForInStep (List (Str×Addr)))))=pure (cB env l cs):=by
  intro l
  induction l with
  | nil=>intro cs _;rfl
  | cons x r ih =>
   intro cs hx;obtain ⟨n,k⟩:=x;rw [aAS]
   by_cases hk:k=.free
   ·obtain ⟨c,hc⟩:=hx (n,k) aAq hk;subst hk;have e:cellOf env n=pure c:=by unfold cellOf;rw [hc]
    simp only [beq_self_eq_true,if_true,e,pure_bind];rw [ih _ λy hy=>hx y (aAr _ hy)];simp only [cB,beq_self_eq_true,if_true,hc,aBU]
   ·have hb:(k == NameKind.free)=false:=by simpa using hk
    simp only [hb,aAo,if_false,pure_bind];rw [ih _ λy hy=>hx y (aAr _ hy)];simp only [cB,hb,aAo,if_false]
 have g:=go scope.names [] h
 first
  | exact (by rw [g]:_=_)
  | (rw [<- bind_pure (pure (cB env scope.names []))];rw [<- g];rfl)
  | (simp only [g,pure_bind])
theorem gW {env:Env}:∀ (l:List (Str×NameKind)) (cs:List (Str×Addr)),(∀ x∈l,x.2=.free->∃ c,env.cells.lookup x.1=some c)->(∀ x c,cs.lookup x=some c->env.cells.lookup x=some c) ->
  ∀ x c,(cB env l cs).lookup x=some c->env.cells.lookup x=some c
 | [],_,_,h=>h
 | (n,k) :: r,cs,hx,h=>by
  refine gW r _ (λy hy=>hx y (aAr _ hy)) ?_;intro x c e
  by_cases hk:k=.free
  ·obtain ⟨c',hc⟩:=hx (n,k) aAq hk;subst hk;simp only [beq_self_eq_true,if_true,hc,aBU] at e;rw [aA4] at e
   cases q:x == n with
   | true =>
    rw [q] at e;have q':x=n:=by simpa using q
    cases e
    rw [q'];exact hc
   | false=>rw [q] at e;exact h x c e
  ·have hb:(k == NameKind.free)=false:=by simpa using hk
   simp only [hb,aAo,if_false] at e;exact h x c e
theorem ix {env:Env}:∀ (l:List (Str×NameKind)) (cs:List (Str×Addr)) (x:Str),(∃ c,cs.lookup x=some c)->∃ c,(cB env l cs).lookup x=some c
 | [],_,_,h=>h
 | (n,k) :: r,cs,x,h=>by
  refine ix r _ x ?_
  split
  ·rw [aA4]
   cases q:x == n with
   | true=>exact ⟨_,rfl⟩
   | false=>exact h
  ·exact h
theorem fe {env:Env}:∀ (l:List (Str×NameKind)) (cs:List (Str×Addr)) (x:Str),l.lookup x=some .free->∃ c,(cB env l cs).lookup x=some c
 | [],_,_,h=>by simp at h
 | (n,k) :: r,cs,x,h=>by
  rw [aA4] at h
  cases q:x == n with
  | true =>
   rw [q] at h
   cases h
   refine ix r _ x ?_;simp only [beq_self_eq_true,if_true];rw [aA4,q];exact ⟨_,rfl⟩
  | false=>rw [q] at h;exact fe r _ x h
theorem c7 {env:Env}:∀ {names:List (Str×NameKind)} {x:Str} {k':NameKind},
  (names.map λ(n,k)=>if (k == NameKind.free && env.scope.kind == .function && env.kindOf n == some .cell) then (n,NameKind.cell) else (n,k)).lookup x=some k' ->
  ∃ k,names.lookup x=some k/\(k'=k\/(k=.free/\k'=.cell))
 | [],_,_,h=>by simp at h
 | (n,k) :: r,x,k',h=>by
  have ih:=@c7 env r x k';rw [aAz] at h
  by_cases hc:(k == NameKind.free && env.scope.kind == .function && env.kindOf n == some .cell)=true
  ·have h2:List.lookup x ((n,NameKind.cell) :: r.map λ(n,k)=>if (k == NameKind.free && env.scope.kind == .function && env.kindOf n == some .cell) then (n,NameKind.cell) else (n,k))=some k':=by
    simpa [hc] using h
   rw [aA4] at h2;rw [aA4]
   cases q:x == n with
   | true =>
    rw [q] at h2
    cases h2
    have hk:k=.free:=by
     simp only [aAA] at hc
     simpa using hc.1.1
    exact ⟨k,rfl,.inr ⟨hk,rfl⟩⟩
   | false=>rw [q] at h2;exact ih h2
  ·have h2:List.lookup x ((n,k) :: r.map λ(n,k)=>if (k == NameKind.free && env.scope.kind == .function && env.kindOf n == some .cell) then (n,NameKind.cell) else (n,k))=some k':=by
    simpa [hc] using h
   rw [aA4] at h2;rw [aA4]
   cases q:x == n with
   | true=>rw [q] at h2;cases h2;exact ⟨_,rfl,.inl rfl⟩
   | false=>rw [q] at h2;exact ih h2
def ccx (X:Cx) (scope:Scope) (C:Addr) (N':List Str) (s₀:Shared) (H₀:Hp) (fp:List Addr):Cx :=
 { X with N:=N',s₀:=s₀,H₀:=H₀,env:=compEnvC scope (cB X.env scope.names []) C X.env,outer:=X.stack,stack:=X.stack,ex:=fp,fn:=λ_=>false,pn:=[],xe:=λ_ _=>False }
def cst (k:Nat) (ρ:List Nat) (σ:St):St:=List.replicate k none++ρ.map λj=>(σ[j]?).join
structure CScope (X:Cx) (scope:Scope) (NL:List Str) (ρ:List Nat) (N':List Str):Prop where
 kind:scope.kind=.function
 nocell:∀ x∈scope.names,x.2≠.cell
 locs:∀ x∈scope.names,x.2=.local->scope.names.lookup x.1=some .local
 frees:∀ x∈scope.names,x.2=.free->X.env.kindOf x.1=some .cell\/X.env.kindOf x.1=some .free
 names:N'=NL++ρ.map λj=>X.N.getD j ""
 outs:∀ j∈ρ,∃ x,X.N[j]?=some x/\scope.names.lookup x=some .free/\(X.env.scope.names.lookup x=some .cell\/X.env.scope.names.lookup x=some .free)
section
variable {X:Cx}
theorem wG {scope:Scope} {NL N':List Str} {ρ:List Nat} (S:CScope X scope NL ρ N') {pins:List (Addr×Obj)} {σ:St} {H:Hp} {s:Shared} {fp:List Addr} {C:Addr} (I:Inv X pins σ H s) (hf:∀ b∈fp,dQ X pins H b)
  (hfo:∀ b∈fp,∃ o,s.heap.get? b=some o) (hC:s.heap.objs.size<=C):(ccx X scope C N' s H fp).Ok:=by
 have free_in:∀ x∈scope.names,x.2=.free->∃ c,X.env.cells.lookup x.1=some c:=λx hx hk=>I.ok.has x.1 (S.frees x hx hk);have sub:=gW (env:=X.env) scope.names [] free_in (λx c e=>by simp at e);refine ⟨I.ok.mod,S.kind,I.ok.glob,I.ok.blt,hC,?_,?_,?_,I.ok.hd,I.ok.frames,.inl rfl,?_,I.bs,?_,?_,?_,I.stack,I.stkFree⟩
 ·exact λx y c e1 e2=>I.ok.inj x y c (sub x c e1) (sub y c e2)
 ·intro x hx;have hx':(relabel scope X.env).names.lookup x=some .cell\/(relabel scope X.env).names.lookup x=some .free:=hx;have look:∀ k',(relabel scope X.env).names.lookup x=some k'->(k'=.cell\/k'=.free)->scope.names.lookup x=some .free:=λk' e hk=>by
   obtain ⟨k,e1,z⟩:=c7 e;rcases z with z | ⟨z,_⟩
   ·subst z;rcases hk with z | z
    ·subst z;have hm:(x,NameKind.cell)∈scope.names:=mem_of_lookup e1;exact absurd rfl (S.nocell _ hm)
    ·subst z;exact e1
   ·subst z;exact e1
  rcases hx' with e | e
  ·exact fe scope.names [] x (look _ e (.inl rfl))
  ·exact fe scope.names [] x (look _ e (.inr rfl))
 ·intro x c e;exact absurd e (by show ¬ (false=true);decide)
 ·intro b hb;obtain ⟨f0,f1,f2,f3,f4,f5⟩:=hf b hb;refine ⟨?_,λx c e=>f4 x c (sub x c e)⟩;obtain ⟨o,ho⟩:=hfo b hb;exact aAk (aAn (aAe ho) hC)
 ·exact aAE I.ok.bsz I.sz
 ·intro b o e hb;obtain ⟨f0,f1,f2,f3,f4,f5⟩:=hf b hb;rcases f3 with z | z
  ·exact I.ok.noex b o e z
  ·exact absurd (aAn (aAe e) (aAE I.ok.bsz z)) (aAM _)
 ·intro b hb z;obtain ⟨f0,f1,f2,f3,f4,f5⟩:=hf b hb;rcases aAf.mp (I.stkSub b z) with e | e
  ·exact f1 e
  ·exact f2 e
end
section
variable {X:Cx}
theorem Inv.comp {scope:Scope} {NL N':List Str} {ρ:List Nat} (S:CScope X scope NL ρ N') {pins:List (Addr×Obj)} {σ:St} {H:Hp} {s:Shared} {fp:List Addr} {C D:Addr} {h':Heap} {t':Nat} (I:Inv X pins σ H s) (hf:∀ b∈fp,dQ X pins H b)
  (hfo:∀ b∈fp,∃ o,s.heap.get? b=some o) (hC:s.heap.objs.size<=C) (hD:s.heap.objs.size<=D) (hDC:D≠C) (k:∀ b u,s.heap.get? b=some u->h'.get? b=some u)
  (hd:h'.get? D=some { cls:=.type "list",data:=.seq #[] 0 }) (hn:h'.Ns C λ_=>none) :
  Inv (ccx X scope C N' s H fp) (X.pn++pins) (cst NL.length ρ σ) (upd H D (.lst [])) { s with heap:=h',toks:=t' }:=by
 have ok:=wG S I hf hfo hC;have free_in:∀ x∈scope.names,x.2=.free->∃ c,X.env.cells.lookup x.1=some c:=λx hx hk=>I.ok.has x.1 (S.frees x hx hk);have sub:=gW (env:=X.env) scope.names [] free_in (λx c e=>by simp at e);have fresh:∀ b,s.heap.objs.size<=b->H b=none:=λb hb=>I.hok.fresh hb;have neD:∀ b o,s.heap.get? b=some o->b≠D:=λb o e=>aAk (aAn (aAe e) hD);have neH:∀ b u,H b=some u->b≠D:=λb u e=>af e (fresh D hD);refine ⟨ok,rfl,I.bare,⟨λb o e _ _ _=>k b o e,λb o e _ _ _=>⟨o.slots,k b o e⟩,λb o e n _=>?_,λb o e _=>⟨o,k b o e⟩,λb xs e=>?_,λb o u e=>?_,λb ps e=>⟨#[],?_⟩⟩,⟨_,hn,?_⟩,?_,?_,?_,?_,?_,?_⟩
 ·show upd H D _ b=none;rw [ao (neD b o e)];exact n
 ·show upd H D _ b=_;rw [ao (neH b _ e)];exact e
 ·show upd H D _ b=_;rw [ao (neH b _ e)];exact e
 ·show upd H D _ b=_;rw [ao (neH b _ e)];have e':H b=some (.tbl ps):=e;rw [e'];simp
 ·-- the names around
  intro i x v e1 e2 hv;obtain ⟨m,hm,hl⟩:=I.loc;have eN:(NL++ρ.map λj=>X.N.getD j "")[i]?=some x:=by
   have e1':N'[i]?=some x:=e1;rw [S.names] at e1';exact e1'
  have eσ:(List.replicate NL.length (none:Option V)++ρ.map λj=>(σ[j]?).join)[i]?=some (some v):=e2
  by_cases hi:i < NL.length
  ·rw [aBN (by simpa using hi)] at eσ;rw [aBW] at eσ
   split at eσ <;> cases eσ
  ·have hi':NL.length<=i:=aBT hi;rw [aBm (by simpa using hi'),aBi,aAc] at eσ;rw [aBm hi',aAc] at eN
   cases q:ρ[i - NL.length]? with
   | none=>rw [q] at eN;cases eN
   | some j =>
    rw [q] at eN eσ;obtain ⟨y,ey,f1,f2⟩:=S.outs j (aAs q);have exy:X.N.getD j "" = y:=by rw [aAI,ey];rfl
    have exx:X.N.getD j "" = x:=Option.some.inj eN;have xy:x=y:=exx.symm.trans exy;subst xy;have eσ':(σ[j]?).join=some v:=Option.some.inj eσ;have eσ2:σ[j]?=some (some v):=by
     cases z:σ[j]? with
     | none=>rw [z] at eσ';cases eσ'
     | some w=>rw [z] at eσ';exact congrArg some eσ'
    have vis:Vis X.env.scope x:=by
     rcases f2 with z | z
     ·exact .inr (.inl z)
     ·exact .inr (.inr z)
    obtain ⟨u,r,l⟩:=hl j x v ey eσ2 vis;refine ⟨u,r,?_⟩;obtain ⟨c,hc⟩:=fe (env:=X.env) scope.names [] x f1;rcases l with ⟨kl,_⟩ | ⟨_,c',hc',z⟩
    ·have kl':X.env.scope.names.lookup x=some .local:=kl;rcases f2 with z | z
     ·rw [z] at kl';cases kl'
     ·rw [z] at kl';cases kl'
    ·have e3:=sub x c hc;rw [hc'] at e3;obtain rfl:=Option.some.inj e3;obtain ⟨oc,hoc,hcd⟩:=z;have hv':(relabel scope X.env).names.lookup x=some .local\/(relabel scope X.env).names.lookup x=some .cell\/(relabel scope X.env).names.lookup x=some .free:=hv;refine .inr ⟨?_,c',hc,oc,k _ _ hoc,hcd⟩;rcases hv' with z | z | z
     ·obtain ⟨k0,e4,z2⟩:=c7 z;rw [f1] at e4
      cases e4
      rcases z2 with z2 | ⟨_,z2⟩ <;> cases z2
     ·exact .inl z
     ·exact .inr z
 ·intro x c e;obtain ⟨v,oc,hoc,hcd⟩:=I.cell x c (sub x c e);exact ⟨v,oc,k _ _ hoc,hcd⟩
 ·show upd H D _ C=none;rw [ao (Ne.symm hDC)];exact fresh C hC
 ·intro x c e;obtain ⟨v,oc,hoc,hcd⟩:=I.cell x c (sub x c e);rw [ao (neD c oc hoc)];exact I.freeC x c (sub x c e)
 ·intro p hp;have hp':p∈X.pn++pins:=hp;obtain ⟨e,n,ne,nf,d⟩:=I.pin p hp';refine ⟨k _ _ e,?_,?_,?_,d⟩
  ·rw [ao (neD p.1 p.2 e)];exact n
  ·exact aAk (aAn (aAe e) hC)
  ·intro z;rcases aAf.mp (I.stkSub p.1 z) with q | q
   ·exact ne q
   ·exact nf q
 ·exact I.hok.laid k hD ⟨aAB _,[],0,.nil,hd⟩
 ·show (List.replicate NL.length (none:Option V)++ρ.map λj=>(σ[j]?).join).length=N'.length;rw [S.names];simp
theorem Inv.compEnd {scope:Scope} {N':List Str} {pins:List (Addr×Obj)} {σ σ':St} {H H':Hp} {s s':Shared} {fp:List Addr} {C:Addr} {h':Heap} {pins':List (Addr×Obj)} (I:Inv X pins σ H s) (hf:∀ b∈fp,dQ X pins H b) (hC:s.heap.objs.size<=C)
  (J:Inv (ccx X scope C N' s H fp) pins' σ' H' s') (hs:Heap.SameBut C s'.heap h'):Inv X pins σ H' { s' with heap:=h' }:=by
 have hn:H' C=none:=J.free;have nC:∀ b o,s.heap.get? b=some o->b≠C:=λb o e=>aAk (aAn (aAe e) hC);have B:Un (frs X.stack) fp H H' s.heap s'.heap:=J.base;have U:Un (frs X.stack) fp H H' s.heap h':=⟨λb o e n hb hx=>(hs.2 b (nC b o e)).trans (B.keep b o e n hb hx),λb o e n hb hx=>by
   obtain ⟨sl,q⟩:=B.slot b o e n hb hx;exact ⟨sl,(hs.2 b (nC b o e)).trans q⟩,B.free,λb o e hx=>by
   obtain ⟨o',q⟩:=B.there b o e hx;exact ⟨o',(hs.2 b (nC b o e)).trans q⟩,B.tups,B.frzs,B.tbls⟩
 have hok:HOk X.prog X.w H' h':=λb u e=>by
  refine (J.hok b u e).stay (λc v hc q=>(hs.2 c ?_).trans q) (λ_ q=>q) λ_ _ q=>q;rintro rfl;rcases hc with rfl | hc
  ·rw [hn] at e;cases e
  ·rw [hn] at hc;cases hc
 refine Inv.call' (s':={ s' with heap:=h' }) I J.os U hok J.bare λb hb=>?_;obtain ⟨f0,f1,f2,f3,f4,f5⟩:=hf b hb;exact ⟨f3,f1,f4,f5⟩
def nA (k:Nat) (ρ:List Nat) (wi:TI) (g:TG) (tb:List V->Addr->St->Hp->(List V->St->Hp->Prop)->Prop):TE:=λσ H Q =>
 wi σ H λJ H1=>∀ l,H1 l=none->∃ W:Nat->Nat->List V->St->Hp->Prop,(∃ m,W 0 m [] (cst k ρ σ) (upd H1 l (.lst []))) /\
  ∀ i m ys σ' H',W i m ys σ' H'->(J.stop i H'/\Q (.ref l) H')\/(J.go i H'/\∀ x H'',J.yld i H' x H''->g x σ' H'' λσ2 H2=>tb ys l σ2 H2 λys' σ3 H3=>∃ m',m' < m/\W (i+1) m' ys' σ3 H3)
def cEl (te:TE):List V->Addr->St->Hp->(List V->St->Hp->Prop)->Prop:=λys l σ H N=>te σ H λy H1=>H1 l=some (.lst ys)/\ys.length < sizeLine/\N (ys++[y]) σ (upd H1 l (.lst (ys++[y])))
def cIf (tc:TT) (te:TE):List V->Addr->St->Hp->(List V->St->Hp->Prop)->Prop:=λys l σ H N=>tc σ H λb H1=>if b=true then cEl te ys l σ H1 N else N ys σ H1
def PB (X:Cx) (body:Value->Sem Unit) (tb:List V->Addr->St->Hp->(List V->St->Hp->Prop)->Prop):Prop :=
 ∀ (pins:List (Addr×Obj)) (s:Shared) (σ:St) (H:Hp) (l:Addr) (ys:List V) (N:List V->St->Hp->Prop),Inv X pins σ H s->tb ys l σ H N ->
  wpAny (model X.prog X.w) X.A (body (.ref l)) (λ_ s'=>∃ ys' σ' H',Inv X pins σ' H' s'/\N ys' σ' H') X.xe s
theorem uj {elt:Expr} {te:TE} (he:PE X elt te):PB X (λacc=>do let x <- eval elt X.env;let _ <- call (.builtin "list.append") [acc,x];pure ()) (cEl te):=by
 intro pins s σ H l ys N I h;refine wpAny_bind (thn (he pins s σ H _ I h) λu s1 ⟨y,H1,I1,r1,q0,q1,q2⟩=>wpAny_bind ?_);refine thn (mt_append pins s1 σ H1 (.ref l) [y] (.ref l) [u] (λv H'=>v=.non/\N (ys++[y]) σ H') I1 rfl (.cons r1 .nil) ⟨l,ys,y,rfl,rfl,q0,q1,rfl,q2⟩) λ_ s2 ⟨v,H2,I2,_,_,n2⟩=>wpAny_pure ⟨_,σ,H2,I2,n2⟩
theorem As {c elt:Expr} {tc:TT} {te:TE} (hc:PT X c tc) (he:PE X elt te):PB X (λacc=>do
  let b <- isTrue c X.env (eval c X.env)
  if b then (do let x <- eval elt X.env;let _ <- call (.builtin "list.append") [acc,x];pure ()) else pure ()) (cIf tc te):=by
 intro pins s σ H l ys N I h;refine wpAny_bind (thn (hc pins s σ H _ I h) λb s1 ⟨H1,I1,q1⟩=>?_)
 cases b with
 | true=>exact uj he pins s1 σ H1 l ys N I1 q1
 | false=>exact wpAny_pure ⟨ys,σ,H1,I1,q1⟩
theorem nB (elt target iter:Expr) (scope:Scope) (pos:Pos) (it acc:Value) (env:Env) :
  compTurn (.ListComp elt [⟨target,iter,[],0⟩] scope pos) 0 it acc env=(standAt iter.pos >>= λ_=>pyNext it >>= λr=>match r with
   | none=>pure (.done .next)
   | some v=>letOwnedTupleGo target it v >>= λ_=>assign target env v >>= λ_ =>
    (do let x <- eval elt env;let _ <- call (.builtin "list.append") [acc,x];pure ():Sem Unit) >>= λ_=>again (.compLoop (.ListComp elt [⟨target,iter,[],0⟩] scope pos) 0 it acc env)):=by rfl
theorem uk (elt target iter c:Expr) (scope:Scope) (pos:Pos) (it acc:Value) (env:Env) :
  compTurn (.ListComp elt [⟨target,iter,[c],0⟩] scope pos) 0 it acc env=(standAt iter.pos >>= λ_=>pyNext it >>= λr=>match r with
   | none=>pure (.done .next)
   | some v=>letOwnedTupleGo target it v >>= λ_=>assign target env v >>= λ_ =>
    (do
     let b <- isTrue c env (eval c env)
     if b then (do let x <- eval elt env;let _ <- call (.builtin "list.append") [acc,x];pure ()) else pure ():Sem Unit) >>= λ_=>again (.compLoop (.ListComp elt [⟨target,iter,[c],0⟩] scope pos) 0 it acc env)):=by
 rw [compTurn_list]
 congr 1
 funext _
 congr 1
 funext r
 cases r with
 | none=>rfl
 | some v =>
  refine congrArg (letOwnedTupleGo target it v >>= ·) (funext λ_=>?_);refine congrArg (assign target env v >>= ·) (funext λ_=>?_);dsimp only;rw [aAS];simp only [if_true,bind_assoc,pure_bind,aA6];refine congrArg (PySem.isTrue c env (eval c env) >>= ·) (funext λb=>?_)
  cases b
  ·simp
  ·simp
end
section
variable {X:Cx}
theorem nD {elt tgt iter:Expr} {ifs:List Expr} {scope:Scope} {pos:Pos} {NL N':List Str} {ρ:List Nat} {wi:TI} {g:TG} {tb:List V->Addr->St->Hp->(List V->St->Hp->Prop)->Prop} {body:Value->Env->Sem Unit}
  (hc:X.calm=true) (S:CScope X scope NL ρ N') (hi:PI X tgt iter wi)
  (hg:∀ C s₀ H₀ fp,PG (ccx X scope C N' s₀ H₀ fp) tgt g) (hb:∀ C s₀ H₀ fp,PB (ccx X scope C N' s₀ H₀ fp) (λacc=>body acc (ccx X scope C N' s₀ H₀ fp).env) tb)
  (he:∀ (it acc:Value) (env:Env),compTurn (.ListComp elt [⟨tgt,iter,ifs,0⟩] scope pos) 0 it acc env=(standAt iter.pos >>= λ_=>pyNext it >>= λr=>match r with
   | none=>pure (.done .next)
   | some v=>letOwnedTupleGo tgt it v >>= λ_=>assign tgt env v >>= λ_=>body acc env >>= λ_=>again (.compLoop (.ListComp elt [⟨tgt,iter,ifs,0⟩] scope pos) 0 it acc env)))
  (hs:∀ x,foldedSetIterable iter X.env x=pure x:=by intro _;rfl):PE X (.ListComp elt [⟨tgt,iter,ifs,0⟩] scope pos) (nA NL.length ρ wi g tb):=by
 intro pins s σ H Q I h;have free_in:∀ x∈scope.names,x.2=.free->∃ c,X.env.cells.lookup x.1=some c:=λx hx hk=>I.ok.has x.1 (S.frees x hx hk);rw [eval_ListComp];refine wpAny_comprehension_free (use:=none) rfl hs (i7 free_in) S.kind S.locs ?_;refine thn (hi pins s σ H _ I h) λv s1 h1=>thn h1 λitv s2 h2=>?_;obtain ⟨it,fp,tn,J,H2,e,I2,T,st2,f2,w⟩:=h2;subst e;refine wpAny_newObj_type (wpAny_newFunctionEnv S.nocell (by intro y hy;simp at hy) (λh₁ hns₁ hsb₁=>?_) S.kind);dsimp only at hns₁ hsb₁ ⊢
 generalize hH2:s2.heap.push { cls:=.type "list",dict:=none,data:=.seq ([]:List Value).toArray }=h2' at hns₁ hsb₁ ⊢
 have hCs:h2'.objs.size=s2.heap.objs.size+1:=by rw [<- hH2,aAC]
 have hDC:s2.heap.objs.size≠h2'.objs.size:=by rw [hCs];exact aAk (aA2 _)
 have hC:s2.heap.objs.size<=h2'.objs.size:=by rw [hCs];exact aBI _
 have old:∀ b o,s2.heap.get? b=some o->h₁.get? b=some o:=λb o e=>hsb₁.extBut b o (aAk (aAn (aAe e) hC)) (aAa _ (hH2 ▸ aAa _ e));have hd:h₁.get? s2.heap.objs.size=some { cls:=.type "list",data:=.seq #[] 0 }:=hsb₁.extBut _ _ hDC (aAa _ (hH2 ▸ aAh _ rfl));have hfo:∀ b∈fp,∃ o,s2.heap.get? b=some o:=λb hb=>let ⟨o,e,_⟩:=T.obj _ _ st2 b hb;⟨o,e⟩;have I4:Inv (ccx X scope h2'.objs.size N' s2 H2 fp) (X.pn++pins) (cst NL.length ρ σ) (upd H2 s2.heap.objs.size (.lst [])) { s2 with heap:=h₁,toks:=s2.toks+([]:List (Str×Value)).length } :=
  Inv.comp S I2 f2 hfo hC (aAm _) hDC old hd (by simpa using hns₁)
 have hD0:H2 s2.heap.objs.size=none:=I2.hok.fresh (aAm _);have nfp:s2.heap.objs.size∉fp:=λz=>by
  obtain ⟨o,e⟩:=hfo _ z;exact absurd (aAe e) (aAM _)
 obtain ⟨W,⟨m0,w0⟩,turn⟩:=w s2.heap.objs.size hD0;have stat:∀ {H':Hp},(∀ b∈fp,H' b=none)->∀ b∈fp,dQ (ccx X scope h2'.objs.size N' s2 H2 fp) (X.pn++pins) H' b:=λ{H'} hn b hb=>by
  obtain ⟨f0,f1,f2',f3,f4,f5⟩:=f2 b hb;have ok:=I4.ok;refine ⟨hn b hb,(ok.exf b hb).1,ok.exfs b hb,.inl hb,(ok.exf b hb).2,λp hp=>f5 p hp⟩
 have loop:∀ s₃:Shared,s₃={ s2 with heap:=h₁,toks:=s2.toks+([]:List (Str×Value)).length } ->
   codeAny (model X.prog X.w) X.A (.compLoop (.ListComp elt [⟨tgt,iter,ifs,0⟩] scope pos) 0 (.ref it) (.ref s2.heap.objs.size) (compEnvC scope (cB X.env scope.names []) h2'.objs.size X.env))
    (compPost (model X.prog X.w) X.A X.xe none (EP X pins σ Q) (.ref s2.heap.objs.size) h2'.objs.size) s₃:=by
  rintro s₃ rfl;refine codeAny_loop rfl (λn s'=>∃ i ys σ' H',Inv (ccx X scope h2'.objs.size N' s2 H2 fp) (X.pn++pins) σ' H' s'/\tn i s'.heap/\(∀ b∈fp,H' b=none)/\W i n ys σ' H') (λn s3 hI=>?_) m0
   ⟨0,[],_,_,I4,T.keep _ _ _ st2 (λb _ o e=>old b o e),λb hb=>?_,w0⟩
  ·obtain ⟨i,ys,σ3,H3,I3,st3,fr3,w3⟩:=hI;show wpAny _ _ ((compTurn (.ListComp elt [⟨tgt,iter,ifs,0⟩] scope pos) 0 (.ref it) (.ref s2.heap.objs.size) (compEnvC scope (cB X.env scope.names []) h2'.objs.size X.env)).onRaise (λx=>do noteFrame x _;theTreesLotGoes x)) _ _ s3;refine wpAny_noted ?_;rw [he];refine wpAny_bind (wpAny_standAt (wpAny_bind ?_));rcases turn i n ys σ3 H3 w3 with ⟨stop,qn⟩ | ⟨go,step⟩
   ·refine thn (T.done (ccx X scope h2'.objs.size N' s2 H2 fp) rfl rfl rfl hc i _ s3 σ3 H3 _ I3 (stat fr3) st3 stop) λr s4 ⟨hr,I5⟩=>?_;subst hr;refine wpAny_pure ?_;obtain ⟨m,hm,_⟩:=id I5.loc;exact ⟨m,hm,λh' hs'=>⟨.ref s2.heap.objs.size,H3,Inv.compEnd I2 f2 hC I5 hs',rfl,qn⟩⟩
   ·refine thn (T.item (ccx X scope h2'.objs.size N' s2 H2 fp) rfl rfl rfl hc i _ s3 σ3 H3 _ I3 (stat fr3) st3 go) λr s4 ⟨u,hr,h4⟩=>?_;subst hr;refine wpAny_bind (thn h4 λ_ s5 ⟨x,H5,I5,r5,y5,st5,fr5⟩=>?_);have I5':=I5.pinned (stat fr5) (T.obj _ _ st5);refine wpAny_bind (wpAny_mono (hg h2'.objs.size s2 H2 fp _ s5 σ3 H5 x u _ I5' r5 (step x H5 y5)) (λ_ s6 ⟨σ6,H6,I6,q6⟩=>?_) λ_ _ z=>z.elim);refine wpAny_bind (wpAny_mono (hb h2'.objs.size s2 H2 fp _ s6 σ6 H6 s2.heap.objs.size ys _ I6 q6) (λ_ s7 ⟨ys7,σ7,H7,I7,m',hm,w7⟩=>?_) λ_ _ z=>z.elim);refine wpAny_pure ⟨rfl,m',hm,i+1,ys7,σ7,H7,I7.unpinned,T.keep _ _ _ st5 λb hb o e=>(I7.pin (b,o) (aAG _ (aAG _ (bG hb e)))).1,λb hb=>?_,w7⟩;obtain ⟨o,e,d⟩:=T.obj _ _ st5 b hb;exact (I7.pin (b,o) (aAG _ (aAG _ (bG hb e)))).2.1
  ·rw [ao (show b≠s2.heap.objs.size from λz=>nfp (by rw [<- z];exact hb))];exact (f2 b hb).1
 refine codeAny_compStart_list (loop _ rfl) (T.self _ 0 _ _ _ ?_ (loop _ rfl));exact T.keep _ _ _ st2 λb _ o e=>old b o e
theorem aC {elt tgt iter:Expr} {scope:Scope} {pos:Pos} {NL N':List Str} {ρ:List Nat} {wi:TI} {g:TG} {te:TE} (hc:X.calm=true) (S:CScope X scope NL ρ N') (hi:PI X tgt iter wi)
  (hg:∀ C s₀ H₀ fp,PG (ccx X scope C N' s₀ H₀ fp) tgt g) (he:∀ C s₀ H₀ fp,PE (ccx X scope C N' s₀ H₀ fp) elt te)
  (hs:∀ x,foldedSetIterable iter X.env x=pure x:=by intro _;rfl):PE X (.ListComp elt [⟨tgt,iter,[],0⟩] scope pos) (nA NL.length ρ wi g (cEl te)) :=
 nD (body:=λacc env=>do let x <- eval elt env;let _ <- call (.builtin "list.append") [acc,x];pure ()) hc S hi hg (λC s₀ H₀ fp=>uj (he C s₀ H₀ fp)) (λit acc env=>nB elt tgt iter scope pos it acc env) hs
theorem sq {elt tgt iter c:Expr} {scope:Scope} {pos:Pos} {NL N':List Str} {ρ:List Nat} {wi:TI} {g:TG} {tc:TT} {te:TE} (hc:X.calm=true) (S:CScope X scope NL ρ N') (hi:PI X tgt iter wi)
  (hg:∀ C s₀ H₀ fp,PG (ccx X scope C N' s₀ H₀ fp) tgt g) (ht:∀ C s₀ H₀ fp,PT (ccx X scope C N' s₀ H₀ fp) c tc) (he:∀ C s₀ H₀ fp,PE (ccx X scope C N' s₀ H₀ fp) elt te)
  (hs:∀ x,foldedSetIterable iter X.env x=pure x:=by intro _;rfl):PE X (.ListComp elt [⟨tgt,iter,[c],0⟩] scope pos) (nA NL.length ρ wi g (cIf tc te)) :=
 nD (body:=λacc env=>do
  let b <- PySem.isTrue c env (eval c env)
  if b then (do let x <- eval elt env;let _ <- call (.builtin "list.append") [acc,x];pure ()) else pure ()) hc S hi hg (λC s₀ H₀ fp=>As (ht C s₀ H₀ fp) (he C s₀ H₀ fp)) (λit acc env=>uk elt tgt iter c scope pos it acc env) hs
end
section
variable {X:Cx}
inductive IsiB (K:W.Frag) (H:Hp):V->String->Bool->Prop
 | int_int {i}:IsiB K H (.int i) "int" true
 | int_str {i}:IsiB K H (.int i) "str" false
 | int_bool {i}:IsiB K H (.int i) "bool" false
 | int_tuple {i}:IsiB K H (.int i) "tuple" false
 | int_list {i}:IsiB K H (.int i) "list" false
 | str_int {x}:IsiB K H (.str x) "int" false
 | str_str {x}:IsiB K H (.str x) "str" true
 | str_bool {x}:IsiB K H (.str x) "bool" false
 | str_tuple {x}:IsiB K H (.str x) "tuple" false
 | str_list {x}:IsiB K H (.str x) "list" false
 | bl_int {b}:IsiB K H (.bl b) "int" true
 | bl_bool {b}:IsiB K H (.bl b) "bool" true
 | bl_str {b}:IsiB K H (.bl b) "str" false
 | bl_tuple {b}:IsiB K H (.bl b) "tuple" false
 | tup_int {a xs}:SqT K H a xs->IsiB K H (.ref a) "int" false
 | tup_str {a xs}:SqT K H a xs->IsiB K H (.ref a) "str" false
 | tup_bool {a xs}:SqT K H a xs->IsiB K H (.ref a) "bool" false
 | tup_tuple {a xs}:SqT K H a xs->IsiB K H (.ref a) "tuple" true
 | tup_list {a xs}:SqT K H a xs->IsiB K H (.ref a) "list" false
 | lst_int {a xs}:SqL K H a xs->IsiB K H (.ref a) "int" false
 | lst_str {a xs}:SqL K H a xs->IsiB K H (.ref a) "str" false
 | lst_tuple {a xs}:SqL K H a xs->IsiB K H (.ref a) "tuple" false
 | lst_list {a xs}:SqL K H a xs->IsiB K H (.ref a) "list" true
theorem cJ (a b:String) (h:isSubtype (.type a) (.type b)=pure false:=by rw [isSubtype_type];kernel_rfl):isSubtype (.type a) (.type b)=pure false:=h
theorem sr (a b:String) (h:isSubtype (.type a) (.type b)=pure true:=by rw [isSubtype_type];kernel_rfl):isSubtype (.type a) (.type b)=pure true:=h
theorem su:isSubtype (.type "int") (.type "str")=pure false:=cJ _ _
theorem pF:isSubtype (.type "int") (.type "bool")=pure false:=cJ _ _
theorem nE:isSubtype (.type "int") (.type "tuple")=pure false:=cJ _ _
theorem pG:isSubtype (.type "int") (.type "list")=pure false:=cJ _ _
theorem sv:isSubtype (.type "str") (.type "int")=pure false:=cJ _ _
theorem pH:isSubtype (.type "str") (.type "bool")=pure false:=cJ _ _
theorem nF:isSubtype (.type "str") (.type "tuple")=pure false:=cJ _ _
theorem pI:isSubtype (.type "str") (.type "list")=pure false:=cJ _ _
theorem pJ:isSubtype (.type "bool") (.type "str")=pure false:=cJ _ _
theorem lI:isSubtype (.type "bool") (.type "tuple")=pure false:=cJ _ _
theorem nJ:isSubtype (.type "tuple") (.type "int")=pure false:=cJ _ _
theorem nK:isSubtype (.type "tuple") (.type "str")=pure false:=cJ _ _
theorem lJ:isSubtype (.type "tuple") (.type "bool")=pure false:=cJ _ _
theorem lK:isSubtype (.type "tuple") (.type "list")=pure false:=cJ _ _
theorem pK:isSubtype (.type "list") (.type "int")=pure false:=cJ _ _
theorem pL:isSubtype (.type "list") (.type "str")=pure false:=cJ _ _
theorem lL:isSubtype (.type "list") (.type "tuple")=pure false:=cJ _ _
theorem At:isSubtype (.type "int") (.type "int")=pure true:=sr _ _
theorem Au:isSubtype (.type "str") (.type "str")=pure true:=sr _ _
theorem yR:isSubtype (.type "bool") (.type "bool")=pure true:=sr _ _
theorem pM:isSubtype (.type "bool") (.type "int")=pure true:=sr _ _
theorem wH:isSubtype (.type "tuple") (.type "tuple")=pure true:=sr _ _
theorem yS:isSubtype (.type "list") (.type "list")=pure true:=sr _ _
theorem nL:typeOf (.type "int")=pure (.type "type"):=by kernel_rfl
theorem nM:typeOf (.type "str")=pure (.type "type"):=by kernel_rfl
theorem lM:typeOf (.type "bool")=pure (.type "type"):=by kernel_rfl
theorem gh:typeOf (.type "tuple")=pure (.type "type"):=by kernel_rfl
theorem lN:typeOf (.type "list")=pure (.type "type"):=by kernel_rfl
theorem ul:aP X (.builtin "isinstance") (λxs H Q=>∃ x T b,xs=[x,.ty T]/\IsiB X.K H x T b/\Q (.bl b) H):=by
 intro pins s σ H xs us Q I r h;obtain ⟨x,T,b,rfl,hb,q⟩:=h;obtain ⟨u,w',rfl,rx,rT⟩:=Al r
 cases rT
 have fin:∀ t,EP X pins σ Q (.bool b) { s with toks:=t }:=λt=>⟨.bl b,H,I.tok t,rfl,q⟩;have fin0:EP X pins σ Q (.bool b) s:=⟨.bl b,H,I,rfl,q⟩;have tup:∀ {a xs},SqT X.K H a xs->∃ o,s.heap.get? a=some o/\o.cls=.type "tuple" :=λhq=>by
  obtain ⟨its,_,p,_⟩:=I.tuple hq;obtain ⟨o,e,c,_⟩:=p;exact ⟨o,e,c⟩
 have lst:∀ {a xs},SqL X.K H a xs->∃ o,s.heap.get? a=some o/\o.cls=.type "list" :=λhq=>by
  obtain ⟨its,_,p,_⟩:=I.list hq;obtain ⟨o,e,c,_⟩:=p.isList;exact ⟨o,e,c⟩
 cases hb with
 | int_int=>obtain ⟨t,rfl⟩:=rx;exact call_isinstance (isinstance_true (Tx:= "int") nL At) ⟨rfl,fin0⟩
 | int_str=>obtain ⟨t,rfl⟩:=rx;exact call_isinstance (isinstance_false_int (by decide) nM su) (fin _)
 | int_bool=>obtain ⟨t,rfl⟩:=rx;exact call_isinstance (isinstance_false_int (by decide) lM pF) (fin _)
 | int_tuple=>obtain ⟨t,rfl⟩:=rx;exact call_isinstance (isinstance_false_int (by decide) gh nE) (fin _)
 | int_list=>obtain ⟨t,rfl⟩:=rx;exact call_isinstance (isinstance_false_int (by decide) lN pG) (fin _)
 | str_int=>obtain ⟨t,rfl⟩:=rx;exact call_isinstance (isinstance_false_str (by decide) nL sv) (fin _)
 | str_str=>obtain ⟨t,rfl⟩:=rx;exact call_isinstance (isinstance_true (Tx:= "str") nM Au) ⟨rfl,fin0⟩
 | str_bool=>obtain ⟨t,rfl⟩:=rx;exact call_isinstance (isinstance_false_str (by decide) lM pH) (fin _)
 | str_tuple=>obtain ⟨t,rfl⟩:=rx;exact call_isinstance (isinstance_false_str (by decide) gh nF) (fin _)
 | str_list=>obtain ⟨t,rfl⟩:=rx;exact call_isinstance (isinstance_false_str (by decide) lN pI) (fin _)
 | bl_int=>cases rx;exact call_isinstance (isinstance_true (Tx:= "bool") nL pM) ⟨rfl,fin0⟩
 | bl_bool=>cases rx;exact call_isinstance (isinstance_true (Tx:= "bool") lM yR) ⟨rfl,fin0⟩
 | bl_str=>cases rx;exact call_isinstance (isinstance_false_bool (by decide) nM pJ) (fin _)
 | bl_tuple=>cases rx;exact call_isinstance (isinstance_false_bool (by decide) gh lI) (fin _)
 | tup_int hq=>cases rx;exact call_isinstance (isinstance_false_tuple (by decide) nL nJ) ⟨tup hq,fin _⟩
 | tup_str hq=>cases rx;exact call_isinstance (isinstance_false_tuple (by decide) nM nK) ⟨tup hq,fin _⟩
 | tup_bool hq=>cases rx;exact call_isinstance (isinstance_false_tuple (by decide) lM lJ) ⟨tup hq,fin _⟩
 | tup_tuple hq=>cases rx;exact call_isinstance (isinstance_true (Tx:= "tuple") gh wH) ⟨tup hq,fin0⟩
 | tup_list hq=>cases rx;exact call_isinstance (isinstance_false_tuple (by decide) lN lK) ⟨tup hq,fin _⟩
 | lst_int hq=>cases rx;exact call_isinstance (isinstance_false_list (by decide) nL pK) ⟨lst hq,fin _⟩
 | lst_str hq=>cases rx;exact call_isinstance (isinstance_false_list (by decide) nM pL) ⟨lst hq,fin _⟩
 | lst_tuple hq=>cases rx;exact call_isinstance (isinstance_false_list (by decide) gh lL) ⟨lst hq,fin _⟩
 | lst_list hq=>cases rx;exact call_isinstance (isinstance_true (Tx:= "list") lN yS) ⟨lst hq,fin0⟩
def Its (z:Str):It:=⟨λi _=>i < z.cps.size,λi H x H'=>H'=H/\∃ c,z.cps[i]?=some c/\x=.str ⟨#[c]⟩,λi _=>i=z.cps.size⟩
def BD (te:TE):TI:=λσ H R=>te σ H λx H1=>∃ z,x=.str z/\R (Its z) H1
theorem nN {P:Program} {w:World} {K:W.Frag} {tg:Expr} (T:String) (it:Addr) (z:Str) (t:Tok)
  (W:∀ A:Around,A.handled=none->Walks P w A it [it] [it] z.cps.size (SignAt z) (λi h=>h.IsStrIter it T z t i))
  (hT:["enumerate","zip","dict_itemiterator","dict_reverseitemiterator","odict_iterator","itertools.zip_longest","itertools.pairwise"].contains T=false)
  (hs:∀ (A:Around) (i:Nat) (s:Shared) (Q:Value->Shared->Prop) (E:Value->Shared->Prop),s.heap.IsStrIter it T z t i->Q (.ref it) s->wpAny (model P w) A (pyIter (.ref it)) Q E s) :
  Turn P w K tg (Its z) [it] it (λi h=>h.IsStrIter it T z t i) where
 mem:=by simp
 obj:=λi h st b hb=>by
  have e:b=it:=by simpa using hb
  subst e;obtain ⟨o,e,c,d⟩:=st;exact ⟨o,e,λv z=>by rw [d] at z;cases z⟩
 keep:=λi h h' st k=>by
  obtain ⟨o,e,c,d⟩:=st;exact ⟨o,k it (by simp) o e,c,d⟩
 item:=by
  intro X hP hw hK hc i pins s σ H E I hf st hg;subst hP hw hK;obtain ⟨f0,f1,f2,f3,f4,f5⟩:=hf it (by simp);refine (W X.A (I.ok.hd hc)).item i s _ _ hg st λv h' tk hv st' kk=>?_;obtain ⟨c,u,hcz,rfl⟩:=hv;have I1:Inv X pins σ H { s with heap:=h',toks:=tk }:=I.turned (λb o hb e=>kk b o (by simpa using hb) e) f0 f1 f3 f4 f5;obtain ⟨o,e,cl,d⟩:=id st';exact ⟨_,rfl,nr (s:={ s with heap:=h',toks:=tk }) e cl d hT ⟨.str ⟨#[c]⟩,H,I1,⟨u,rfl⟩,⟨rfl,c,hcz,rfl⟩,st',λb hb=>(hf b hb).1⟩⟩
 done:=by
  intro X hP hw hK hc i pins s σ H E I hf st hg;subst hP hw hK;obtain ⟨f0,f1,f2,f3,f4,f5⟩:=hf it (by simp);have hi:i=z.cps.size:=hg;subst hi;exact (W X.A (I.ok.hd hc)).done s _ _ st λh' tk kk=>⟨rfl,I.turned (λb o hb e=>kk b o (by simpa using hb) e) f0 f1 f3 f4 f5⟩
 self:=hs
theorem yT {tg l:Expr} {tl:TE} (hl:PE X l tl):PI X tg l (BD tl):=by
 intro pins s σ H R I h;refine thn (hl pins s σ H _ I h) λv s1 ⟨x,H1,I1,r1,q1⟩=>?_;obtain ⟨z,rfl,q⟩:=q1;obtain ⟨t,rfl⟩:=r1;have fp:∀ (o:Obj),∀ b∈[s1.heap.objs.size],dQ X pins H1 b:=λo b hb=>by
  have e:b=s1.heap.objs.size:=by simpa using hb
  subst e;exact I1.fpOk (aAm _) (I1.hok.fresh (aAm _))
 cases ha:z.cps.all (· < 128)
 ·refine wpAny_pyIter_wide ha ?_;exact ⟨s1.heap.objs.size,[s1.heap.objs.size],_,_,H1,rfl,I1.kept (t':=s1.toks) λb o e=>aAa _ e,
   nN "str_iterator" _ z t (λA hA=>Walks.strWide hA _ z t) (by decide) (λ_ _ _ _ _ st h=>wpAny_pyIter_striter_wide st h),⟨_,aAh _ rfl,rfl,rfl⟩,fp default,q⟩
 ·refine wpAny_pyIter_ascii ha ?_;exact ⟨s1.heap.objs.size,[s1.heap.objs.size],_,_,H1,rfl,I1.kept (t':=s1.toks) λb o e=>aAa _ e,
   nN "str_ascii_iterator" _ z t (λA hA=>Walks.strAscii hA _ z t) (by decide) (λ_ _ _ _ _ st h=>wpAny_pyIter_striter_ascii st h),⟨_,aAh _ rfl,rfl,rfl⟩,fp default,q⟩
def bls:List Bool->List V:=List.map V.bl
theorem um:aP X (.builtin "all") (λxs H Q=>∃ p ys,xs=[.ref p]/\X.calm=true/\SqL X.K H p (bls ys)/\Q (.bl (ys.all id)) H):=by
 intro pins s σ H xs us Q I r h;obtain ⟨p,ys,rfl,hcm,hq,q⟩:=h;obtain ⟨u,rfl,rx⟩:=bE r
 cases rx
 obtain ⟨its,r',pl,hz⟩:=I.list hq;have hh:X.A.in1.handled=none:=I.ok.hd hcm;have hne:p≠s.heap.objs.size:=by
  obtain ⟨o,e,_⟩:=pl.isList;exact aAk (aAe e)
 have hlen:its.length=ys.length:=by rw [<- r'.length];simp [bls]
 refine call_all_walk (wpAny_pyIter_list pl.isList ⟨s.heap.objs.size,_,_,_,_,_,λi=>ys.getD i true,rfl,Walks.list hh _ p hne its.toArray,⟨⟨_,aAh _ rfl,rfl,rfl⟩,pl.isList.at λo e=>aAa _ e⟩,?_,?_⟩)
 ·intro i v s' Q' E' hv hQ;have hv':its[i]?=some v:=by simpa using hv
  have hi:i < ys.length:=by
   rw [<- hlen];exact (aAg.mp hv').1
  have e1:(bls ys)[i]?=some (V.bl ys[i]):=by simp [bls,hi]
  obtain ⟨u,hu,ru⟩:=r'.get e1;rw [hv'] at hu;obtain rfl:=Option.some.inj hu
  cases ru
  refine wpAny_truthy_bool ?_;have e2:ys.getD i true=ys[i]:=by simp [aAI,hi]
  have hQ':Q' (ys.getD i true) s':=hQ;rw [e2] at hQ';exact hQ'
 ·intro h' tk kk;have e3:(List.range its.toArray.size).all (λi=>ys.getD i true)=ys.all id:=by
   rw [aAi,hlen];rw [aAQ,aAO,aAO]
   constructor
   ·intro g x hx;obtain ⟨i,hi,rfl⟩:=aBj.mp hx;have:=g i (aB1.mpr hi)
    simpa [aAI,hi] using this
   ·intro g i hi;have hi':=aB1.mp hi;have:=g ys[i] (List.getElem_mem hi')
    simpa [aAI,hi'] using this
  rw [e3];refine ⟨.bl _,H,?_,rfl,q⟩;have I1:Inv X pins σ H { s with heap:=s.heap.push { cls:=.type "list_iterator",data:=.fields #[.ref p,.int 0 0] } }:=I.kept (t':=s.toks) λb o e=>aAa _ e;exact I.kept (t':=tk) λb o e=>kk b o (by
   intro z;have z':b=s.heap.objs.size:=by simpa using z
   exact absurd (aAe e) (by rw [z'];exact aAM _)) (aAa _ e)
end
section
variable {X:Cx}
theorem iy (ns:List Int):∀ n,n<=ns.length->preSum (λi=>ns.getD i 0) n=(ns.take n).sum
 | 0,_=>by simp [preSum]
 | n+1,h=>by
  have hn:n < ns.length:=h;rw [preSum,iy ns n (aAK hn),aAw,List.sum_append];simp [aAI,hn]
theorem uo:aP X (.builtin "sum") (λxs H Q=>∃ (p:Addr) (ns:List Int),xs=[.ref p]/\X.calm=true/\SqL X.K H p (ns.map V.int)/\Q (.int ns.sum) H):=by
 intro pins s σ H xs us Q I r h;obtain ⟨p,ns,rfl,hcm,hq,q⟩:=h;obtain ⟨u,rfl,rx⟩:=bE r
 cases rx
 obtain ⟨its,r',pl,hz⟩:=I.list hq;have hh:X.A.in1.handled=none:=I.ok.hd hcm;have hlt:p < s.heap.objs.size:=by
  obtain ⟨o,e,_⟩:=pl.isList;exact aAe e
 have hne:p≠s.heap.objs.size:=aAk hlt;have hlen:its.length=ns.length:=by rw [<- r'.length];simp
 refine call_sum_walkG (wpAny_pyIter_list pl.isList ⟨s.heap.objs.size,_,_,_,_,_,λi=>ns.getD i 0,rfl,Walks.list hh _ p hne its.toArray,⟨⟨_,aAh _ rfl,rfl,rfl⟩,pl.isList.at λo e=>aAa _ e⟩,?_,?_,?_⟩)
 ·intro b hb;have hb':b=s.heap.objs.size\/b=p:=by simpa using hb
  show b < (s.heap.push _).objs.size;rw [aAC];rcases hb' with e | e
  ·exact e ▸ aA2 _
  ·exact aAN (e ▸ hlt)
 ·intro i v hv;have hv':its[i]?=some v:=by simpa using hv
  have hi:i < ns.length:=by
   rw [<- hlen];exact (aAg.mp hv').1
  have e1:(ns.map V.int)[i]?=some (V.int ns[i]):=by simp [hi]
  obtain ⟨u,hu,ru⟩:=r'.get e1;rw [hv'] at hu;obtain rfl:=Option.some.inj hu;obtain ⟨t,rfl⟩:=ru;exact ⟨t,by simp [aAI,hi]⟩
 ·intro h' tk t' kk;have e3:preSum (λi=>ns.getD i 0) its.toArray.size=ns.sum:=by
   rw [aAi,hlen,iy ns _ (aAm _),aAt]
  rw [e3];refine ⟨.int _,H,?_,⟨_,rfl⟩,q⟩;exact I.kept (t':=tk) λb o e=>kk b o (by
   intro z;have z':b=s.heap.objs.size:=by simpa using z
   exact absurd (aAe e) (by rw [z'];exact aAM _)) (aAa _ e)
end
theorem ae {H:Hp} {p:Addr} (h:H p=none) (o:HO):Same H (upd H p o):=λb u q=>by rw [ao (af q h)];exact q
def But (r:Addr) (H H':Hp):Prop:=∀ b o,b≠r->H b=some o->H' b=some o
theorem But.refl (r:Addr) (H:Hp):But r H H:=λ_ _ _ h=>h
theorem But.trans {r:Addr} {H H1 H2:Hp} (a:But r H H1) (b:But r H1 H2):But r H H2:=λc o n h=>b c o n (a c o n h)
theorem But.same {r:Addr} {H H1:Hp} (a:Same H H1):But r H H1:=λc o _ h=>a c o h
theorem But.put {r:Addr} {H:Hp} {o:HO}:But r H (upd H r o):=λc u n h=>by rw [ao n];exact h
theorem But.seq {K:W.Frag} {r:Addr} {H H':Hp} {a:Addr} {xs:List V} (e:But r H H') (n:a≠r) (h:SqL K H a xs):SqL K H' a xs:=by
 rcases h with (h | ⟨o,h⟩) | h
 ·exact .inl (.inl (e _ _ n h))
 ·exact .inl (.inr ⟨o,e _ _ n h⟩)
 ·exact .inr h
theorem But.tup {K:W.Frag} {r:Addr} {H H':Hp} {a:Addr} {xs:List V} (e:But r H H') (n:a≠r) (h:SqT K H a xs):SqT K H' a xs:=by
 rcases h with (h | ⟨o,h⟩) | h
 ·exact .inl (.inl (e _ _ n h))
 ·exact .inl (.inr ⟨o,e _ _ n h⟩)
 ·exact .inr h
theorem Same.tup {K:W.Frag} {H H':Hp} {a:Addr} {xs:List V} (e:Same H H') (h:SqT K H a xs):SqT K H' a xs:=by
 rcases h with (h | ⟨o,h⟩) | h
 ·exact .inl (.inl (e _ _ h))
 ·exact .inl (.inr ⟨o,e _ _ h⟩)
 ·exact .inr h
theorem cs0 {X:Cx} {scope:Scope} {NL:List Str} (h1:scope.kind=.function) (h2:(scope.names.all λx=>x.2 != .cell && x.2 != .free)=true)
  (h3:∀ x∈scope.names,x.2=.local->scope.names.lookup x.1=some .local):CScope X scope NL [] NL:=by
 rw [aAO] at h2;refine ⟨h1,λx hx e=>?_,h3,λx hx e=>?_,by simp,λj hj=>by simp at hj⟩
 ·have:=h2 x hx;rw [e] at this;exact absurd this (by decide)
 ·have:=h2 x hx;rw [e] at this;exact absurd this (by decide)
theorem uq {z:Str} {l:Addr} {g:TG} {tb:List V->Addr->St->Hp->(List V->St->Hp->Prop)->Prop} {Q:VK} {σ0:St} {H0:Hp} (Pv:Nat->List V->St->Hp->Prop) (h0:Pv 0 [] σ0 H0)
  (hs:∀ i c ys σ H (N:List V->St->Hp->Prop),z.cps[i]?=some c->Pv i ys σ H->(∀ ys' σ' H',Pv (i+1) ys' σ' H'->N ys' σ' H')->g (.str ⟨#[c]⟩) σ H λσ2 H2=>tb ys l σ2 H2 N)
  (hd:∀ ys σ H,Pv z.cps.size ys σ H->Q (.ref l) H) :
  ∃ W:Nat->Nat->List V->St->Hp->Prop,(∃ m,W 0 m [] σ0 H0)/\∀ i m ys σ' H',W i m ys σ' H'->((Its z).stop i H'/\Q (.ref l) H') \/
   ((Its z).go i H'/\∀ x H'',(Its z).yld i H' x H''->g x σ' H'' λσ2 H2=>tb ys l σ2 H2 λys' σ3 H3=>∃ m',m' < m/\W (i+1) m' ys' σ3 H3):=by
 refine ⟨λi m ys σ H=>m=z.cps.size - i/\i<=z.cps.size/\Pv i ys σ H,⟨z.cps.size,by simp,aAB _,h0⟩,?_⟩;rintro i m ys σ H ⟨rfl,hi,p⟩
 by_cases hlt:i < z.cps.size
 ·refine .inr ⟨hlt,λx H' y=>?_⟩;obtain ⟨e,c,hc,rfl⟩:=y;subst e;exact hs i c ys σ _ _ hc p λys' σ' H' q=>⟨_,by lia,rfl,hlt,q⟩
 ·have e:i=z.cps.size:=by lia
  subst e;exact .inl ⟨rfl,hd ys σ H p⟩
theorem sw {K:W.Frag} {a:Addr} {xs:List V} {l:Addr} {g:TG} {tb:List V->Addr->St->Hp->(List V->St->Hp->Prop)->Prop} {Q:VK} {σ0:St} {H0:Hp} (Pv:Nat->List V->St->Hp->Prop) (h0:Pv 0 [] σ0 H0) (hl:∀ i ys σ H,i<=xs.length->Pv i ys σ H->SqL K H a xs)
  (hs:∀ i x ys σ H (N:List V->St->Hp->Prop),xs[i]?=some x->Pv i ys σ H->(∀ ys' σ' H',Pv (i+1) ys' σ' H'->N ys' σ' H')->g x σ H λσ2 H2=>tb ys l σ2 H2 N)
  (hd:∀ ys σ H,Pv xs.length ys σ H->Q (.ref l) H) :
  ∃ W:Nat->Nat->List V->St->Hp->Prop,(∃ m,W 0 m [] σ0 H0)/\∀ i m ys σ' H',W i m ys σ' H'->((Itl K a).stop i H'/\Q (.ref l) H') \/
   ((Itl K a).go i H'/\∀ x H'',(Itl K a).yld i H' x H''->g x σ' H'' λσ2 H2=>tb ys l σ2 H2 λys' σ3 H3=>∃ m',m' < m/\W (i+1) m' ys' σ3 H3):=by
 refine ⟨λi m ys σ H=>m=xs.length - i/\i<=xs.length/\Pv i ys σ H,⟨xs.length,by simp,aAB _,h0⟩,?_⟩;rintro i m ys σ H ⟨rfl,hi,p⟩;have q:=hl i ys σ H hi p
 by_cases hlt:i < xs.length
 ·refine .inr ⟨⟨xs,xs[i],q,by simp [hlt]⟩,λx H' y=>?_⟩;obtain ⟨e,y⟩:=y;subst e;exact hs i x ys σ _ _ (y xs q) p λys' σ' H' q=>⟨_,by lia,rfl,hlt,q⟩
 ·have e:i=xs.length:=by lia
  subst e;exact .inl ⟨⟨xs,q,aAm _⟩,hd ys σ H p⟩
theorem ur {K:W.Frag} {a:Addr} {xs:List V} {l:Addr} {g:TG} {tb:List V->Addr->St->Hp->(List V->St->Hp->Prop)->Prop} {Q:VK} {σ0:St} {H0:Hp} (Pv:Nat->List V->St->Hp->Prop) (h0:Pv 0 [] σ0 H0) (hl:∀ i ys σ H,i<=xs.length->Pv i ys σ H->SqT K H a xs)
  (hs:∀ i x ys σ H (N:List V->St->Hp->Prop),xs[i]?=some x->Pv i ys σ H->(∀ ys' σ' H',Pv (i+1) ys' σ' H'->N ys' σ' H')->g x σ H λσ2 H2=>tb ys l σ2 H2 N)
  (hd:∀ ys σ H,Pv xs.length ys σ H->Q (.ref l) H) :
  ∃ W:Nat->Nat->List V->St->Hp->Prop,(∃ m,W 0 m [] σ0 H0)/\∀ i m ys σ' H',W i m ys σ' H'->((Itt K a).stop i H'/\Q (.ref l) H') \/
   ((Itt K a).go i H'/\∀ x H'',(Itt K a).yld i H' x H''->g x σ' H'' λσ2 H2=>tb ys l σ2 H2 λys' σ3 H3=>∃ m',m' < m/\W (i+1) m' ys' σ3 H3):=by
 refine ⟨λi m ys σ H=>m=xs.length - i/\i<=xs.length/\Pv i ys σ H,⟨xs.length,by simp,aAB _,h0⟩,?_⟩;rintro i m ys σ H ⟨rfl,hi,p⟩;have q:=hl i ys σ H hi p
 by_cases hlt:i < xs.length
 ·refine .inr ⟨⟨xs,xs[i],q,by simp [hlt]⟩,λx H' y=>?_⟩;obtain ⟨e,y⟩:=y;subst e;exact hs i x ys σ _ _ (y xs q) p λys' σ' H' q=>⟨_,by lia,rfl,hlt,q⟩
 ·have e:i=xs.length:=by lia
  subst e;exact .inl ⟨⟨xs,q,aAm _⟩,hd ys σ H p⟩
theorem pe_gint {X:Cx} {x:Str} {i:Int} {t:Tok} {pos:Pos} (hg:Gl X x) (hm:X.mg x=some (.int i t)) (hd:(x == ("__debug__" : Str))=false:=by decide):PE X (.Name x pos) (tC (.int i)):=qH hg hm ⟨_,rfl⟩ hd
theorem pe_gstr {X:Cx} {x z:Str} {t:Tok} {pos:Pos} (hg:Gl X x) (hm:X.mg x=some (.str z t)) (hd:(x == ("__debug__" : Str))=false:=by decide):PE X (.Name x pos) (tC (.str z)):=qH hg hm ⟨_,rfl⟩ hd
theorem bH {X:Cx} {x:Str} {n:String} {pos:Pos} (hg:Gl X x) (hm:X.mg x=none) (hv:bootBuiltins x=some (.type n)) (hn:x≠ "__name__" :=by decide) (hd:(x == ("__debug__" : Str))=false:=by decide):PE X (.Name x pos) (tC (.ty n)):=wq hg hm hv rfl hn hd
structure Gn (K:W.Frag) (mg:Str->Option Value) (x:Str) (st:Stmt) (ps:List Str) (f:Addr) (fd:FuncData):Prop where
 F:Fun K x x st f fd
 b:Binds K fd ps []
 m:mg x=some (.ref f)
inductive Dt where
 | non | bl (b:Bool) | int (i:Int) | str (z:Str) | tup (l:List Dt)
mutual
inductive IsD (K:W.Frag) (H:Hp):Dt->V->Prop
 | non:IsD K H .non .non
 | bl {b}:IsD K H (.bl b) (.bl b)
 | int {i}:IsD K H (.int i) (.int i)
 | str {z}:IsD K H (.str z) (.str z)
 | tup {l:List Dt} {a:Addr} {xs:List V}:SqT K H a xs->IsDs K H l xs->IsD K H (.tup l) (.ref a)
inductive IsDs (K:W.Frag) (H:Hp):List Dt->List V->Prop
 | nil:IsDs K H [] []
 | cons {d:Dt} {l:List Dt} {x:V} {xs:List V}:IsD K H d x->IsDs K H l xs->IsDs K H (d :: l) (x :: xs)
end
mutual
def Dt.dep:Dt->Nat
 | .tup l=>depS l+1
 | _=>0
def depS:List Dt->Nat
 | []=>0
 | d :: l=>max d.dep (depS l)
end
mutual
def eqD:Dt->Dt->Bool
 | .non,.non=>true
 | .bl a,.bl b=>a == b
 | .bl a,.int i=>(if a then 1 else 0) == i
 | .int i,.bl a=>i == (if a then 1 else 0)
 | .int i,.int j=>i == j
 | .str x,.str y=>x == y
 | .tup l,.tup m=>dU l m
 | _,_=>false
def dU:List Dt->List Dt->Bool
 | [],[]=>true
 | d :: l,e :: m=>eqD d e && dU l m
 | _,_=>false
end
mutual
def Dt.plain:Dt->Bool
 | .bl _=>false
 | .tup l=>ja l
 | _=>true
def ja:List Dt->Bool
 | []=>true
 | d :: l=>d.plain && ja l
end
mutual
theorem dW:∀ d:Dt,eqD d d=true
 | .non=>rfl
 | .bl a=>by simp [eqD]
 | .int i=>by simp [eqD]
 | .str z=>by simp [eqD]
 | .tup l=>by simp only [eqD];exact gX l
theorem gX:∀ l:List Dt,dU l l=true
 | []=>rfl
 | d :: l=>by simp only [dU,dW d,gX l,Bool.and_self]
end
mutual
theorem yU:∀ d e:Dt,d.plain=true->e.plain=true->eqD d e=true->d=e
 | .non,e,_,_,h=>by cases e <;> simp_all [eqD]
 | .bl _,_,h,_,_=>by simp [Dt.plain] at h
 | .int i,e,_,he,h=>by cases e <;> simp_all [eqD,Dt.plain]
 | .str z,e,_,_,h=>by cases e <;> simp_all [eqD]
 | .tup l,e,hd,he,h=>by
  cases e with
  | tup m=>rw [qN l m (by simpa [Dt.plain] using hd) (by simpa [Dt.plain] using he) (by simpa [eqD] using h)]
  | _=>simp [eqD] at h
theorem qN:∀ l m:List Dt,ja l=true->ja m=true->dU l m=true->l=m
 | [],[],_,_,_=>rfl
 | [],_ :: _,_,_,h=>by simp [dU] at h
 | _ :: _,[],_,_,h=>by simp [dU] at h
 | d :: l,e :: m,hl,hm,h=>by
  simp only [ja,aAA] at hl hm;simp only [dU,aAA] at h;rw [yU d e hl.1 hm.1 h.1,qN l m hl.2 hm.2 h.2]
end
section
variable {K:W.Frag} {H H':Hp}
mutual
theorem IsD.same (g:Same H H'):∀ {d:Dt} {v:V},IsD K H d v->IsD K H' d v
 | _,_,.non=>.non
 | _,_,.bl=>.bl
 | _,_,.int=>.int
 | _,_,.str=>.str
 | _,_,.tup h r=>.tup (g.tup h) (IsDs.same g r)
theorem IsDs.same (g:Same H H'):∀ {l:List Dt} {xs:List V},IsDs K H l xs->IsDs K H' l xs
 | _,_,.nil=>.nil
 | _,_,.cons h r=>.cons (IsD.same g h) (IsDs.same g r)
end
theorem ut {a r:Addr} {xs ys:List V} (hr:H r=some (.lst ys)) (h:SqT K H a xs):a≠r\/∀ H'',SqT K H'' a xs:=by
 rcases h with (h | ⟨o,h⟩) | h
 ·exact .inl (ne_of h hr (by intro z;cases z))
 ·exact .inl (ne_of h hr (by intro z;cases z))
 ·exact .inr λ_=>.inr h
mutual
theorem IsD.but {r:Addr} {ys:List V} (hr:H r=some (.lst ys)) (g:But r H H'):∀ {d:Dt} {v:V},IsD K H d v->IsD K H' d v
 | _,_,.non=>.non
 | _,_,.bl=>.bl
 | _,_,.int=>.int
 | _,_,.str=>.str
 | _,_,.tup h q=>.tup (by
   rcases ut hr h with n | n
   ·exact g.tup n h
   ·exact n _) (IsDs.but hr g q)
theorem IsDs.but {r:Addr} {ys:List V} (hr:H r=some (.lst ys)) (g:But r H H'):∀ {l:List Dt} {xs:List V},IsDs K H l xs->IsDs K H' l xs
 | _,_,.nil=>.nil
 | _,_,.cons h q=>.cons (IsD.but hr g h) (IsDs.but hr g q)
end
theorem IsDs.length {l:List Dt} {xs:List V} (h:IsDs K H l xs):l.length=xs.length:=by
 induction l generalizing xs with
 | nil=>cases h;rfl
 | cons d l ih=>cases h with | cons _ r=>simp [ih r]
theorem IsDs.get {l:List Dt} {xs:List V} (h:IsDs K H l xs) {i:Nat} {d:Dt} (e:l[i]?=some d):∃ x,xs[i]?=some x/\IsD K H d x:=by
 induction l generalizing xs i with
 | nil=>simp at e
 | cons c l ih =>
  cases h with
  | cons h r =>
   cases i with
   | zero=>simp at e;subst e;exact ⟨_,rfl,h⟩
   | succ i=>exact ih r (by simpa using e)
end
section
variable {X:Cx} {pins:List (Addr×Obj)} {σ:St} {H:Hp} {s:Shared}
mutual
theorem IsD.inj (I:Inv X pins σ H s):∀ {d e:Dt} {v:V},IsD X.K H d v->IsD X.K H e v->d=e
 | _,_,_,.non,.non=>rfl
 | _,_,_,.bl,.bl=>rfl
 | _,_,_,.int,.int=>rfl
 | _,_,_,.str,.str=>rfl
 | _,_,_,.tup h r,.tup h' r'=>by
  have e:=I.tuple_inj h h';subst e;rw [IsDs.inj I r r']
theorem IsDs.inj (I:Inv X pins σ H s):∀ {l m:List Dt} {xs:List V},IsDs X.K H l xs->IsDs X.K H m xs->l=m
 | _,_,_,.nil,.nil=>rfl
 | _,_,_,.cons h r,.cons h' r'=>by rw [IsD.inj I h h',IsDs.inj I r r']
end
theorem c8:∀ (l m:List Dt),dU l m=((List.range (min l.length m.length)).all (λj=>eqD (l.getD j .non) (m.getD j .non)) && l.length == m.length)
 | [],[]=>rfl
 | [],_ :: _=>by simp [dU]
 | _ :: _,[]=>by simp [dU]
 | d :: l,e :: m=>by
  simp only [dU,aAx];rw [c8 l m,Nat.succ_min_succ,List.range_succ_eq_map,aBv,aA8];have e1:(l.length+1 == m.length+1)=(l.length == m.length):=by
   rw [aAQ];simp
  rw [e1,Bool.and_assoc]
  rfl
theorem gj:∀ {l:List Dt} {j:Nat},j < l.length->(l.getD j .non).dep<=depS l
 | [],_,h=>by simp at h
 | d :: l,0,_=>by simp only [List.getD_cons_zero,depS];lia
 | d :: l,j+1,h=>by
  have q:=@gj l j (by simpa using h);simp only [List.getD_cons_succ,depS];lia
theorem Inv.tup' (I:Inv X pins σ H s) {a:Addr} {xs:List V} (h:SqT X.K H a xs):∃ its:List Value,Vals xs its/\s.heap.IsTuple a its.toArray:=by
 obtain ⟨its,r,p,_⟩:=I.tuple h;exact ⟨its,r,p⟩
theorem cV (A:Around):A.in1.units=A.units+1:=by
 first | rfl | simp [Around.in1]
theorem sy (I:Inv X pins σ H s):∀ (n:Nat) (d e:Dt) (x y:V) (u v:Value) (A:Around),d.dep<=n->IsD X.K H d x->IsD X.K H e y->RelV x u->RelV y v->A.units+n < cLine ->
  SeqAt.EqAt A s u v (eqD d e)/\SeqAt.RcAt A s u v (eqD d e)/\SeqAt.RcNeAt A s u v (!eqD d e):=by
 intro n
 induction n with
 | zero =>
  intro d e x y u v A hd hx hy rx ry hu;have hu0:A.units < cLine:=by lia
  cases hx with
  | tup h r=>simp [Dt.dep] at hd
  | non =>
   cases rx
   cases hy with
   | non=>cases ry;exact ⟨.same _,.none_none,.none_none⟩
   | bl=>cases ry;exact ⟨.none_bool _,.none_bool _,.none_bool _⟩
   | int=>obtain ⟨t,rfl⟩:=ry;exact ⟨.none_int _ _,.none_int _ _,.none_int _ _⟩
   | str=>obtain ⟨t,rfl⟩:=ry;exact ⟨.none_str _ _,.none_str _ _,.none_str _ _⟩
   | tup h r=>cases ry;obtain ⟨its,_,p⟩:=I.tup' h;exact ⟨.none_tuple p hu0,.none_tuple p hu0,.none_tuple p hu0⟩
  | bl =>
   cases rx
   cases hy with
   | non=>cases ry;exact ⟨.bool_none _,.bool_none _,.bool_none _⟩
   | bl=>cases ry;exact ⟨.bool_bool _ _,.bool_bool _ _,.bool_bool _ _⟩
   | int=>obtain ⟨t,rfl⟩:=ry;exact ⟨.bool_int _ _ _,.bool_int _ _ _,.bool_int _ _ _⟩
   | str=>obtain ⟨t,rfl⟩:=ry;exact ⟨.bool_str _ _ _,.bool_str _ _ _,.bool_str _ _ _⟩
   | tup h r=>cases ry;obtain ⟨its,_,p⟩:=I.tup' h;exact ⟨.bool_tuple _ p hu0,.bool_tuple _ p hu0,.bool_tuple _ p hu0⟩
  | int =>
   obtain ⟨t0,rfl⟩:=rx
   cases hy with
   | non=>cases ry;exact ⟨.int_none _ _,.int_none _ _,.int_none _ _⟩
   | bl=>cases ry;exact ⟨.int_bool _ _ _,.int_bool _ _ _,.int_bool _ _ _⟩
   | int=>obtain ⟨t,rfl⟩:=ry;exact ⟨.int_int _ _ _ _,.int_int _ _ _ _,.int_int _ _ _ _⟩
   | str=>obtain ⟨t,rfl⟩:=ry;exact ⟨.int_str _ _ _ _,.int_str _ _ _ _,.int_str _ _ _ _⟩
   | tup h r=>cases ry;obtain ⟨its,_,p⟩:=I.tup' h;exact ⟨.int_tuple _ _ p hu0,.int_tuple _ _ p hu0,.int_tuple _ _ p hu0⟩
  | str =>
   obtain ⟨t0,rfl⟩:=rx
   cases hy with
   | non=>cases ry;exact ⟨.str_none _ _,.str_none _ _,.str_none _ _⟩
   | bl=>cases ry;exact ⟨.str_bool _ _ _,.str_bool _ _ _,.str_bool _ _ _⟩
   | int=>obtain ⟨t,rfl⟩:=ry;exact ⟨.str_int _ _ _ _,.str_int _ _ _ _,.str_int _ _ _ _⟩
   | str=>obtain ⟨t,rfl⟩:=ry;exact ⟨.str_str _ _ _ _,.str_str _ _ _ _,.str_str _ _ _ _⟩
   | tup h r=>cases ry;obtain ⟨its,_,p⟩:=I.tup' h;exact ⟨.str_tuple _ _ p hu0,.str_tuple _ _ p hu0,.str_tuple _ _ p hu0⟩
 | succ n ih =>
  intro d e x y u v A hd hx hy rx ry hu;have hu0:A.units < cLine:=by lia
  cases hx with
  | tup h r =>
   rename_i l a xs
   cases rx
   cases hy with
   | non=>cases ry;obtain ⟨its,_,p⟩:=I.tup' h;exact ⟨.tuple_none p hu0,.tuple_none p hu0,.tuple_none p hu0⟩
   | bl=>cases ry;obtain ⟨its,_,p⟩:=I.tup' h;exact ⟨.tuple_bool _ p hu0,.tuple_bool _ p hu0,.tuple_bool _ p hu0⟩
   | int=>obtain ⟨t,rfl⟩:=ry;obtain ⟨its,_,p⟩:=I.tup' h;exact ⟨.tuple_int _ _ p hu0,.tuple_int _ _ p hu0,.tuple_int _ _ p hu0⟩
   | str=>obtain ⟨t,rfl⟩:=ry;obtain ⟨its,_,p⟩:=I.tup' h;exact ⟨.tuple_str _ _ p hu0,.tuple_str _ _ p hu0,.tuple_str _ _ p hu0⟩
   | tup h' r' =>
    rename_i m b ys
    cases ry
    obtain ⟨its,q,p⟩:=I.tup' h;obtain ⟨its',q',p'⟩:=I.tup' h';have l1:its.length=l.length:=by rw [<- q.length,<- r.length]
    have l2:its'.length=m.length:=by rw [<- q'.length,<- r'.length]
    have he:∀ j (h1:j < its.toArray.size) (h2:j < its'.toArray.size),SeqAt.EqAt A.in1 s its.toArray[j] its'.toArray[j] (eqD (l.getD j .non) (m.getD j .non)):=by
     intro j h1 h2;have j1:j < l.length:=by simpa [l1] using h1
     have j2:j < m.length:=by simpa [l2] using h2
     obtain ⟨x1,ex,dx⟩:=r.get (i:=j) (d:=l.getD j .non) (by simp [aAI,j1]);obtain ⟨y1,ey,dy⟩:=r'.get (i:=j) (d:=m.getD j .non) (by simp [aAI,j2]);obtain ⟨u1,eu,ru⟩:=q.get ex;obtain ⟨v1,ev,rv⟩:=q'.get ey;have e1:its.toArray[j]=u1:=by
      have:its[j]?=some its[j]:=by simp [l1,j1]
      rw [this] at eu
      simpa using Option.some.inj eu
     have e2:its'.toArray[j]=v1:=by
      have:its'[j]?=some its'[j]:=by simp [l2,j2]
      rw [this] at ev
      simpa using Option.some.inj ev
     rw [e1,e2];have hdl:depS l<=n:=by simp only [Dt.dep] at hd;lia
     exact (ih _ _ _ _ _ _ A.in1 (aAE (gj j1) hdl) dx dy ru rv (by rw [cV];lia)).1
    have ev:eqD (.tup l) (.tup m)=((List.range (min its.toArray.size its'.toArray.size)).all (λj=>eqD (l.getD j .non) (m.getD j .non)) && its.toArray.size == its'.toArray.size):=by
     simp only [eqD,aAi,l1,l2];exact c8 l m
    rw [ev];refine ⟨?_,SeqAt.RcAt.tuples p p' hu0 he,SeqAt.RcNeAt.tuples p p' hu0 he⟩
    by_cases hab:a=b
    ·subst hab;have e3:=I.tuple_inj h h';subst e3;have e4:=IsDs.inj I r r';subst e4;rw [<- ev,dW];exact .same _
    ·exact .of_refs hab (SeqAt.RcAt.tuples p p' hu0 he)
  | non=>exact ih _ _ _ _ _ _ A (by simp [Dt.dep]) .non hy rx ry (by lia)
  | bl=>exact ih _ _ _ _ _ _ A (by simp [Dt.dep]) .bl hy rx ry (by lia)
  | int=>exact ih _ _ _ _ _ _ A (by simp [Dt.dep]) .int hy rx ry (by lia)
  | str=>exact ih _ _ _ _ _ _ A (by simp [Dt.dep]) .str hy rx ry (by lia)
def Av (K:W.Frag):R2:=λx y H Q=>∃ d e,IsD K H d x/\IsD K H e y/\d.dep<=60/\Q (.bl (eqD d e)) H
def Aw (K:W.Frag):R2:=λx y H Q=>∃ d e,IsD K H d x/\IsD K H e y/\d.dep<=60/\Q (.bl (!eqD d e)) H
theorem yV (hu:X.A.units+64 < cLine):OpR X (compareOp .Eq) (Av X.K):=by
 intro pins s σ H x y v u Q I rx ry h;obtain ⟨d,e,hd,he,hn,q⟩:=h;exact (sy I 60 d e x y v u X.A hn hd he rx ry (by lia)).2.1 _ _ _ _ ⟨.bl _,H,I,rfl,q⟩
theorem yW (hu:X.A.units+64 < cLine):OpR X (compareOp .NotEq) (Aw X.K):=by
 intro pins s σ H x y v u Q I rx ry h;obtain ⟨d,e,hd,he,hn,q⟩:=h;exact (sy I 60 d e x y v u X.A hn hd he rx ry (by lia)).2.2 _ _ _ _ ⟨.bl _,H,I,rfl,q⟩
def BE (K:W.Frag) (neg:Bool):R2:=λx y H Q=>∃ p b xs ys l m,x=.ref p/\y=.ref b/\SqL K H p xs/\SqL K H b ys/\IsDs K H l xs/\IsDs K H m ys/\depS l<=60/\Q (.bl (if neg then !dU l m else dU l m)) H
theorem sA (hu:X.A.units+64 < cLine) (I:Inv X pins σ H s) {l m:List Dt} {xs ys:List V} {its its':List Value} (r:IsDs X.K H l xs) (r':IsDs X.K H m ys) (q:Vals xs its) (q':Vals ys its') (hd:depS l<=60) :
  ∀ j (h1:j < its.toArray.size) (h2:j < its'.toArray.size),SeqAt.EqAt X.A.in1 s its.toArray[j] its'.toArray[j] (eqD (l.getD j .non) (m.getD j .non)):=by
 have l1:its.length=l.length:=by rw [<- q.length,<- r.length]
 have l2:its'.length=m.length:=by rw [<- q'.length,<- r'.length]
 intro j h1 h2;have j1:j < l.length:=by simpa [l1] using h1
 have j2:j < m.length:=by simpa [l2] using h2
 obtain ⟨x1,ex,dx⟩:=r.get (i:=j) (d:=l.getD j .non) (by simp [aAI,j1]);obtain ⟨y1,ey,dy⟩:=r'.get (i:=j) (d:=m.getD j .non) (by simp [aAI,j2]);obtain ⟨u1,eu,ru⟩:=q.get ex;obtain ⟨v1,ev,rv⟩:=q'.get ey;have e1:its.toArray[j]=u1:=by
  have:its[j]?=some its[j]:=by simp [l1,j1]
  rw [this] at eu
  simpa using Option.some.inj eu
 have e2:its'.toArray[j]=v1:=by
  have:its'[j]?=some its'[j]:=by simp [l2,j2]
  rw [this] at ev
  simpa using Option.some.inj ev
 rw [e1,e2];exact (sy I 60 _ _ _ _ _ _ X.A.in1 (aAE (gj j1) hd) dx dy ru rv (by rw [cV];lia)).1
theorem yX (hu:X.A.units+64 < cLine):OpR X (compareOp .NotEq) (BE X.K true):=by
 intro pins s σ H x y v u Q I rx ry h;obtain ⟨p,b,xs,ys,l,m,rfl,rfl,hp,hb,r,r',hd,q⟩:=h
 cases rx
 cases ry
 obtain ⟨its,r1,p1,_⟩:=I.list hp;obtain ⟨its',r2,p2,_⟩:=I.list hb;have l1:its.length=l.length:=by rw [<- r1.length,<- r.length]
 have l2:its'.length=m.length:=by rw [<- r2.length,<- r'.length]
 have he:=sA hu I r r' r1 r2 hd;have hu0:X.A.units < cLine:=by lia
 by_cases hs:its.length=its'.length
 ·have ev:dU l m=(List.range its.toArray.size).all (λj=>eqD (l.getD j .non) (m.getD j .non)):=by
   rw [c8 l m,aAi,l1];have e3:l.length=m.length:=by lia
   rw [<- e3,Nat.min_self,beq_self_eq_true,Bool.and_true]
  refine SeqAt.RcNeAt.lists p1.isList p2.isList (by simpa using hs) hu0 he _ _ _ _ ?_;rw [<- ev];exact ⟨.bl _,H,I,rfl,q⟩
 ·have ev:dU l m=false:=by
   have e3:(l.length == m.length)=false:=by simpa using (show ¬ l.length=m.length by lia)
   rw [c8 l m,e3,aBa]
  refine SeqAt.RcNeAt.lists_lengths p1.isList p2.isList (by simpa using hs) hu0 _ _ _ _ ?_;have q':Q (.bl (!dU l m)) H:=q;rw [ev] at q';exact ⟨.bl _,H,I,rfl,q'⟩
end
end L2
namespace PySem.W
open PySem PySem.Spec PyProof.Rows PySem.Calls
structure ExcK (K:Frag) (C:Addr):Prop where
 ga:findIn K (.ref C) "__getattribute__" = some (some (.builtin "BaseException.__getattribute__"))
 gt:findIn K (.ref C) "__getattr__" = some none
 cl:findIn K (.ref C) "__class__" = some (some (.builtin "object.__class__"))
 sb:mroIn K C (.type "BaseException")=some true
 so:mroIn K C (.type "object")=some true
 cd:∃ c,clsIn K C=some c
section
variable {prog:Program} {w:World} {A:Around} {E:Value->Shared->Prop} {h:Heap} {g:Array GenState} {d:Drawn} {t:Nat} {os:OsState} {a C:Addr} {o:Obj} {K:Frag}
end
end PySem.W
namespace L2
open PySem PySem.Spec PyProof.Rows
abbrev bmV:List Value:=[.type "ValueError",.type "Exception",.type "BaseException",.type "object"]
structure ExC (K:W.Frag) (mg:Str->Option Value) (x:Str) (C:Addr):Prop where
 m:mg x=some (.ref C)
 q:W.excIn K C bmV "ValueError.__new__" = true
 k:W.ExcK K C
 kp:W.keepIn K (.ref C)=true
theorem wI {K:W.Frag} {h:Heap} {C:Addr} {bmB:List Value} {newId:String} (X:K.In h) (q:W.excIn K C bmB newId=true) :
  ∃ bm N nm qn bs hd sn sub ab col dd k0 k1 k2 k3 k5 mN,h.get? C=some (excClassObj nm qn C N bs bm hd sn sub ab col dd k0 k1 k2 k3 k5 newId)/\h.Ns N mN/\mN "__init__" = none/\OwnTail h bmB bm:=by
 unfold W.excIn at q
 split at q
 case h_2=>cases q
 case h_1 dd cd sl ho =>
  split at q
  case h_2=>cases q
  case h_1 C' bm k0 k1 k2 k3 n k5 hm hs =>
   simp only [aAA,beq_iff_eq,Bool.not_eq_true'] at q;obtain ⟨⟨⟨⟨⟨q1,q2⟩,q3⟩,q4⟩,q5⟩,q6⟩:=q;subst q1 q2;obtain ⟨nm,bs,mro,ns,qn,hd,sn,sub,ab,col,del⟩:=cd;dsimp only at hm q3 q5 q6;subst hm q3;obtain ⟨l⟩:=sl;dsimp only at hs;subst hs;exact ⟨bm,ns,nm,qn,bs,hd,sn,sub,ab,col,dd,k0,k1,k2,k3,k5,_,X _ _ ho,.of_isNs (W.isNs_of_in X q5),W.nsMap_none_of_in X q5 q6,W.tail_of_in X q4⟩
section
variable {X:Cx} {pins:List (Addr×Obj)} {σ:St} {H:Hp} {s:Shared}
end
def CXE (P:Program) (w:World):CXT:=λouter H s E e s'=>∃ (ea C:Addr) (a0:Value) (B:Heap) (H':Hp),e=.ref ea/\Heap.FlyingW B outer ea (.ref C) a0 s'.heap/\s'.os=s.os/\AllBare s'.gens/\Un (frs outer) [] H H' s.heap s'.heap/\HOk P w H' B /\
 (∀ b o,s.heap.get? b=some o->H b=none->b∉frs outer->B.get? b=some o)/\(∀ b o,s.heap.get? b=some o->b∉frs outer->∃ o',B.get? b=some o')/\E (.ref C) none H'
theorem yY {fs:List Addr} {H H1:Hp} {h h1 h' B:Heap} (u:Un fs [] H H1 h h1) (c1:∀ b o,h.get? b=some o->H b=none->b∉fs->B.get? b=some o) (c2:∀ b o,h.get? b=some o->b∉fs->∃ o',B.get? b=some o')
  (st:B.StaysIn h') (c3:∀ b o,h.get? b=some o->b∈fs->∃ sl,h'.get? b=some { o with slots:=sl }):Un fs [] H H1 h h' where
 keep:=λb o q n hb _=>st b o (c1 b o q n hb)
 slot:=λb o q n hb _=>c3 b o q hb
 free:=u.free
 there:=λb o q hx=>by
  by_cases hb:b∈fs
  ·obtain ⟨sl,e⟩:=c3 b o q hb;exact ⟨_,e⟩
  ·obtain ⟨o',e⟩:=c2 b o q hb;exact ⟨o',st b o' e⟩
 tups:=u.tups
 frzs:=u.frzs
 tbls:=u.tbls
def yZ (X:Cx) (E:XK):Prop:=X.xe=λe s'=>wpAny (model X.prog X.w) X.A (leaving X.env e) (λ_ s''=>CXE X.prog X.w X.outer X.H₀ X.s₀ E e s'') (λe' s''=>CXE X.prog X.w X.outer X.H₀ X.s₀ E e' s'') s'
section
variable {X:Cx} {pins:List (Addr×Obj)} {σ:St} {H:Hp} {s:Shared}
theorem uu {base h:Heap} {l:List Env} {b:Addr} (f:h.FunFrames base l) (hb:b∈frs l):∃ o,h.get? b=some o/\∀ vs,o.data≠.fields vs:=by
 obtain ⟨_,o,ho,hn⟩:=f.mem hb;exact ⟨o,ho,hn⟩
theorem uv {E:XK} {C:Addr} {ea:Addr} {vs:List Value} {h':Heap} {tk:Nat} (hx:yZ X E) (hstk:X.stack=X.env :: X.outer) (hfr:X.env.frame=some X.env.locals) (hex:X.ex=[]) (I:Inv X pins σ H s) (hm:Heap.MadeExcOf s.heap h' ea (.ref C) vs)
  (q:E (.ref C) none H):X.xe (.ref ea) { s with heap:=h',toks:=tk }:=by
 rw [hx];have F0:s.heap.FunFrames X.base (X.env :: X.outer):=by rw [<- hstk];exact I.stack
 have fr0:X.A.frames=some (X.env :: X.outer):=by rw [<- hstk];exact I.ok.frames
 have mem:∀ b∈frs X.outer,b∈frs (X.env :: X.outer):=λb hb=>by
  obtain ⟨env,he,hf⟩:=aA5.mp hb;exact aA5.mpr ⟨env,aAr _ he,hf⟩
 have inv:∀ b,b∈frs (X.env :: X.outer)->b=X.env.locals\/b∈frs X.outer:=λb hb=>by
  obtain ⟨env,he,hf⟩:=aA5.mp hb;rcases aAf.mp he with rfl | he
  ·rw [hfr] at hf;exact .inl (Option.some.inj hf).symm
  ·exact .inr (aA5.mpr ⟨env,he,hf⟩)
 have hin:∀ env∈(X.env :: X.outer),∀ b,env.frame=some b->b∈frs (X.env :: X.outer):=λenv he b hb=>aA5.mpr ⟨env,he,hb⟩;have stayB:∀ b o,s.heap.get? b=some o->b∉frs (X.env :: X.outer)->(W.hideAll s.heap (frs (X.env :: X.outer))).get? b=some o:=λb o e n=>W.hideAll_get _ e n;have old:∀ b o,X.s₀.heap.get? b=some o->b∉frs X.outer->b∉frs (X.env :: X.outer):=λb o e n z=>by
  rcases inv b z with rfl | z
  ·exact absurd (aAn (aAe e) I.ok.above) (aAM _)
  ·exact n z
 refine wpAny_leaves_madeW (s:={ s with heap:=h',toks:=tk }) fr0 hfr (λb o e=>W.of_hideAll _ e) (W.funFrames_hide F0 hin) hm λh2 t fl _ _ up=>?_;have B0:Un X.fs [] X.H₀ H X.s₀.heap s.heap:=by have z:=I.base;rw [hex] at z;exact z
 have c1:∀ b o,X.s₀.heap.get? b=some o->X.H₀ b=none->b∉frs X.outer->(W.hideAll s.heap (frs (X.env :: X.outer))).get? b=some o:=λb o e n hb=>stayB b o (B0.keep b o e n hb (by simp)) (old b o e hb);have c2:∀ b o,X.s₀.heap.get? b=some o->b∉frs X.outer->∃ o',(W.hideAll s.heap (frs (X.env :: X.outer))).get? b=some o':=λb o e hb=>by
  obtain ⟨o',e'⟩:=B0.there b o e (by simp);exact ⟨o',stayB b o' e' (old b o e hb)⟩
 refine ⟨ea,C,_,_,H,rfl,fl,I.os,I.bare,yY B0 c1 c2 fl.1 λb o e hb=>?_,λb u e=>?_,c1,c2,q⟩
 ·obtain ⟨sl,e1⟩:=B0.slot b o e (I.ok.frf b hb) hb (by simp);obtain ⟨o2,e2,nf⟩:=uu F0 (mem b hb);rw [e1] at e2;obtain rfl:=Option.some.inj e2;obtain ⟨sl2,e3⟩:=up b _ (hm.keeps b _ e1) nf;exact ⟨sl2,e3⟩
 ·refine (I.hok b u e).stay (λc v hc z=>stayB c v z λhf=>?_) (λ_ z=>z) λ_ _ z=>z;have n0:H c=none:=by rw [<- hstk] at hf;exact I.stkFree c hf
  rcases hc with rfl | hc
  ·rw [e] at n0;cases n0
  ·rw [hc] at n0;cases n0
def y0 (C:Addr) (E:XK) (t:TA):TS:=λ_ σ H=>t σ H λxs H1=>xs.length<=sizeLine/\E (.ref C) none H1
theorem ps_raise {E:XK} {x:Str} {C:Addr} {e:Expr} {es:List Expr} {t:TA} {np cpos pos:Pos} (hx:yZ X E) (hstk:X.stack=X.env :: X.outer) (hfr:X.env.frame=some X.env.locals) (hex:X.ex=[]) (hc:X.calm=true) (G:ExC X.K X.mg x C) (hg:Gl X x) (ha:PA X (e :: es) t)
  (hdb:(x == ("__debug__" : Str))=false:=by decide) (he:starEach (e :: es) X.env=(false,eval e X.env) :: starEach es X.env:=by rfl) (hpl:(backTo cpos (starEach es X.env)).any (·.1)=false:=by rfl) :
  PS X (.Raise (some (.Call (.Name x np) (e :: es) [] cpos)) none pos) (y0 C E t):=by
 intro pins s σ H D I h;obtain ⟨bm,N,nm,qn,bs,hd,sn,sub,ab,col,dd,k0,k1,k2,k3,k5,mN,hC,hN,hni,T⟩:=wI I.ok.mod.kin G.q;refine wpAny_Raise_call_subT (C:=C) (nm:=nm) (q:=qn) (N:=N) (bs:=bs) (bm:=bm) (hdct:=hd) (sn:=sn) (sub:=sub) (ab:=ab) (col:=col) (dd:=dd) (k0:=k0) (k1:=k1) (k2:=k2) (k3:=k3) (k5:=k5) F.excBase_ValueError (mN:=mN) (T.hasType F.excBase_ValueError.hasBase) (I.ok.hd hc)
  (by rw [he];show (false || (backTo cpos (starEach es X.env)).any (·.1))=false;rw [hpl];rfl) hni (fX I hg G.m ⟨rfl,?_⟩ hdb)
 have z:=ha cpos pins s σ H _ I h;rw [he] at z ⊢;refine Calls.evalArgs_plain (wpAny_mono z (λus s2 ⟨vs,H2,I2,r,hz,q⟩=>?_) λ_ _ y=>y);refine ⟨rfl,by show us.length<=sizeLine;rw [<- r.length];exact hz,I2.bk _ _ hC,hN.keeps I2.bk,T.keeps I2.bk,λh' ea hm=>?_⟩;exact uv (tk:=s2.toks) hx hstk hfr hex I2 hm q
end
theorem Fun.okE {P:Program} {w:World} {K:W.Frag} {mg:Str->Option Value} {base:Heap} {x qual:Str} {st:Stmt} {f:Addr} {fd:FuncData} {N ps:List Str} {k:Nat} {sp:Sp} (F:Fun K x qual st f fd) (S:FnScope N ps (ac st)) (len:∀ vs H Q E,sp vs H Q E->vs.length=ps.length)
  (hbody:∀ (cdv:Value) (A:Around) (outer:List Env) (s:Shared) (H:Hp) (vs:List V) (Q:VK) (E:XK),Room k (A.deeper (envOfC qual (ac st) s.heap.objs.size f cdv))->sp vs H Q E ->
   ∃ t,PSs (nv (CXE P w) P w K mg base N qual (ac st) f cdv A outer s H E) (bK st) t/\t { nx:=λ_ H'=>Q .non H',rt:=Q } (fZ N vs) H):FnOk P w K mg base (CXE P w) (k+1) f fd ps sp:=by
 obtain ⟨oc,od,kV,doc,pm,an,cdv,ct,osl,rfl,lk,hcd⟩:=F.ex;exact yk lk hcd S len λA outer s H vs Q E hr hsp=>hbody cdv A outer s H vs Q E hr hsp
theorem xeOf {P:Program} {w:World} {K:W.Frag} {mg:Str->Option Value} {base:Heap} {N:List Str} {qual:Str} {scope:Scope} {f:Addr} {cd:Value} {A:Around} {outer:List Env} {s:Shared} {H:Hp} {E:XK} :
  yZ (nv (CXE P w) P w K mg base N qual scope f cd A outer s H E) E:=rfl
section
variable {X:Cx} {pins:List (Addr×Obj)} {σ:St} {H:Hp} {s:Shared}
end
section
variable {X:Cx} {a b c d:Expr} {ta tb tc td:TE} {pos:Pos}
def wJ (r r' r'':R2) (ta tb tc td:TE):TE:=λσ H Q=>ta σ H λx H1=>tb σ H1 λy H2=>r x y H2 λz H3=>∃ k,z=.bl k /\
 (if k=true then tc σ H3 λy' H4=>r' y y' H4 λz' H5=>∃ k',z'=.bl k'/\(if k'=true then td σ H5 λw' H6=>r'' y' w' H6 Q else Q (.bl false) H5) else Q (.bl false) H3)
theorem pe_chain3 {op op' op'':CmpOp} {r r' r'':R2} (ho:OpR X (compareOp op) r) (ho':OpR X (compareOp op') r') (ho'':OpR X (compareOp op'') r'') (ha:PE X a ta) (hb:PE X b tb) (hc:PE X c tc) (hd:PE X d td)
  (hm:lastMarks [op,op',op''] [b,c,d]=false:=by with_unfolding_all rfl):PE X (.Compare a [op,op',op''] [b,c,d] pos) (wJ r r' r'' ta tb tc td):=by
 intro pins s σ H Q I h;refine Compare_chain (thn (ha pins s σ H _ I h) λv s1 ⟨x,H1,I1,r1,q1⟩=>chain_link (thn (hb pins s1 σ H1 _ I1 q1) λu s2 ⟨y,H2,I2,r2,q2⟩ =>
  thn (ho pins s2 σ H2 x y v u _ I2 r1 r2 q2) λd' s3 ⟨z,H3,I3,r3,k,e,q3⟩=>?_)) hm
 subst e
 cases r3
 refine wpAny_truthy_bool ?_
 cases k with
 | false=>exact ite_ff ⟨.bl false,H3,I3,rfl,q3⟩
 | true =>
  refine ite_tt (chain_link (thn (hc pins s3 σ H3 _ I3 q3) λw' s4 ⟨z',H4,I4,r4,q4⟩=>thn (ho' pins s4 σ H4 y z' u w' _ I4 r2 r4 q4) λd2 s5 ⟨z2,H5,I5,r5,k2,e2,q5⟩=>?_));subst e2
  cases r5
  refine wpAny_truthy_bool ?_
  cases k2 with
  | false=>exact ite_ff ⟨.bl false,H5,I5,rfl,q5⟩
  | true=>exact ite_tt (chain_last (thn (hd pins s5 σ H5 _ I5 q5) λw2 s6 ⟨z3,H6,I6,r6,q6⟩=>ho'' pins s6 σ H6 z' z3 w' w2 Q I6 r4 r6 q6))
end
def jL (D:List (Str×Int)):List (Str×KTD.Dat):=D.map λp=>(p.1,.flat (.int p.2))
def nO (K:W.Frag) (a:Addr) (D:List (Str×Int)):Prop:=∀ h,K.In h->KTD.TextTab h a (jL D)
theorem uw {K:W.Frag} {a:Addr} {D:List (Str×Int)} (e:KTD.tabLook (KTD.datLooks λb=>K.lookup b) (λb=>K.lookup b) a (jL D)=true):nO K a D:=λh X=>KTD.text_of_look (λb o q=>X b o q) e
def bQ (k:Str):List (Str×Int)->V
 | []=>.non
 | (x,i) :: D=>if k=x then .int i else bQ k D
theorem kH {k:Str}:∀ {D:List (Str×Int)} {d:KTD.Dat},KTD.datumAt k (jL D)=some d->∃ i,d=.flat (.int i)/\bQ k D=.int i
 | [],_,h=>by simp [jL,KTD.datumAt] at h
 | (x,i) :: D,d,h=>by
  simp only [jL,aAz,KTD.datumAt,decide_eq_true_eq] at h
  by_cases hk:k=x
  ·rw [if_pos hk] at h;exact ⟨i,(Option.some.inj h).symm,by simp [bQ,hk]⟩
  ·rw [if_neg hk] at h;obtain ⟨j,e1,e2⟩:=kH (D:=D) h;exact ⟨j,e1,by simp [bQ,hk,e2]⟩
theorem kI {k:Str}:∀ {D:List (Str×Int)},KTD.datumAt k (jL D)=none->bQ k D=.non
 | [],_=>rfl
 | (x,i) :: D,h=>by
  simp only [jL,aAz,KTD.datumAt,decide_eq_true_eq] at h
  by_cases hk:k=x
  ·rw [if_pos hk] at h;cases h
  ·rw [if_neg hk] at h;simp [bQ,hk,kI (D:=D) h]
section
variable {X:Cx}
def Ax (D:List (Str×Int)) (t:TA):TE:=λσ H Q=>t σ H λvs H1=>∃ k,vs=[.str k]/\Q (bQ k D) H1
theorem pe_kget {x:Str} {ad:Addr} {D:List (Str×Int)} {e:Expr} {t:TA} {p apos cpos:Pos} (hD:nO X.K ad D) (hg:Gl X x) (hm:X.mg x=some (.ref ad)) (ha:PA X [e] t) (hdb:(x == ("__debug__" : Str))=false:=by decide)
  (hbase:attributeBase (.Name x p) "get" X.env (eval (.Name x p) X.env)=eval (.Name x p) X.env:=by rfl)
  (hfew:((backTo cpos (starEach [e] X.env)).all (λx=>!x.1) && (backToKw cpos (keywordEach [] X.env)).all (λx=>x.1.isSome)
   && decide (([e]:List Expr).length+([]:List Keyword).length+(if ([]:List Keyword).isEmpty then 0 else 1) < 30))=true:=by rfl)
  (hline:(apos.endLine == cpos.line)=true:=by rfl) (hs:starEach [e] X.env=(false,eval e X.env) :: starEach [] X.env:=by rfl) :
  PE X (.Call (.Attribute (.Name x p) "get" apos) [e] [] cpos) (Ax D t):=by
 intro pins s σ H Q I h;refine wpAny_Call_method_late hbase hfew hline rfl (fX I hg hm ?_ hdb);have T:∀ {s':Shared} {σ':St} {H':Hp} {pins':List (Addr×Obj)},Inv X pins' σ' H' s'->KTD.Here X.base s'.heap ad (jL D):=λJ=>⟨hD _ J.ok.mod.kin,J.bk⟩;refine ⟨"dict","dict.get",PySem.F.plainAttrs_dict,PySem.F.slot_dict_get,PySem.F.type_dict_get,(T I).typeIs,(T I).noDict,?_⟩;have hA:=ha cpos pins s σ H _ I h;rw [hs] at hA ⊢;refine Calls.callWith_builtin (by rfl) (Calls.evalArgs_plain ?_);refine thn hA λus s2 ⟨vs,H2,I2,r2,k,e2,q2⟩=>?_;subst e2;obtain ⟨u,rfl,ru⟩:=bE r2;obtain ⟨tk,rfl⟩:=ru;refine call_meetsIn PySem.F.slot_dict_get (T I2).typeIs PySem.F.entry_dict_get (PySem.F.args_dict_get_2 _ _) (KTD.meets_get1 (h₀:=X.base) (D:=jL D)) ⟨T I2,λdd v hdd hv=>?_,λhn=>?_⟩
 ·obtain ⟨i,rfl,el⟩:=kH hdd;have hv':Reads s2.heap v (.int i) []:=hv s2.heap;obtain ⟨t0,rfl⟩:∃ t0,v=.int i t0:=by cases hv';exact ⟨_,rfl⟩
  rw [el] at q2;exact ⟨.int i,H2,I2.tok _,⟨_,rfl⟩,q2⟩
 ·rw [kI hn] at q2;exact ⟨.non,H2,I2.tok _,rfl,q2⟩
end
theorem csR {X:Cx} {scope sc:Scope} {NL N N':List Str} {ρ:List Nat} (hsc:X.env.scope=sc) (hN:X.N=N) (h1:scope.kind=.function) (h2:(scope.names.all λx=>x.2 != .cell)=true) (h3:∀ x∈scope.names,x.2=.local->scope.names.lookup x.1=some .local)
  (h4:(scope.names.all λx=>x.2 != .free || sc.names.lookup x.1 == some .cell)=true) (h5:N'=NL++ρ.map λj=>N.getD j "")
  (h6:(ρ.all λj=>match N[j]? with | some x=>scope.names.lookup x == some .free && sc.names.lookup x == some .cell | none=>false)=true):CScope X scope NL ρ N':=by
 rw [aAO] at h2 h4 h6;refine ⟨h1,λx hx e=>?_,h3,λx hx e=>.inl ?_,by rw [hN];exact h5,λj hj=>?_⟩
 ·have:=h2 x hx;rw [e] at this;exact absurd this (by decide)
 ·have z:=h4 x hx;rw [e] at z;have z2:(sc.names.lookup x.1 == some NameKind.cell)=true:=by simpa using z
  show X.env.scope.names.lookup x.1=some .cell;rw [hsc];exact beq_iff_eq.mp z2
 ·have z:=h6 j hj
  cases q:N[j]? with
  | none=>rw [q] at z;cases z
  | some x =>
   rw [q] at z;simp only [aAA,beq_iff_eq] at z;exact ⟨x,by rw [hN];exact q,z.1,.inl (by rw [hsc];exact z.2)⟩
structure RoomH (k:Nat) (A:Around):Prop where
 dp:A.depth+3*k+5 < recursionLimit
 un:A.units+16*k+200 < cLine
structure FnOkH (P:Program) (w:World) (K:W.Frag) (mg:Str->Option Value) (base:Heap) (k:Nat) (f:Addr) (fd:FuncData) (ps:List Str) (sp:Sp):Prop where
 len:∀ vs H Q E,sp vs H Q E->vs.length=ps.length
 run:∀ (A:Around) (outer:List Env) (s:Shared) (H:Hp) (args:Args) (us:List Value) (vs:List V) (Q:VK) (E:XK),RoomH k A->Env0 P w K mg base A outer s H->BindsTo s fd args (ps.zip us)->Vals vs us->sp vs H Q E ->
  codeAny (model P w) A (.call (.ref f) args) (CR CX0 outer P w H s Q E) s
section
variable {X:Cx}
end
end L2
namespace HT
open PySem PySem.Spec PyProof.Rows
section
variable {prog:Program} {w:World} {A:Around} {E:Value->Shared->Prop} {s:Shared}
theorem cat_nil {t b:Addr} {ws:List Value} {Q:Value->Shared->Prop} (ht:IsTup s.heap t ([]:List Value).toArray) (hb:IsTup s.heap b ws.toArray) (h:Q (.ref b) s):wpAny (model prog w) A (binaryOp .Add (.ref t) (.ref b)) Q E s:=by
 obtain ⟨⟨cls,dd,data,sl⟩,ho,hc,n,hd⟩:=id ht;obtain ⟨⟨cls2,dd2,data2,sl2⟩,ho2,hc2,n2,hd2⟩:=id hb;simp only at hc hd hc2 hd2;subst hc hd hc2 hd2;exact concat_meets ⟨_,ho,rfl⟩ ⟨_,ho2,rfl⟩ noFill_tuple_add seq_tuple_add PySem.F.slot_tuple_add PySem.F.entry_tuple_add (PySem.F.args_tuple_add_2 _ _) (tuple_addW0 t b _ ws.toArray n n2 dd dd2 sl sl2 (by rfl)) ⟨ho,ho2,h⟩
theorem getItem_tuple_all {t sl:Addr} {items:Array Value} {vl vu:Value} {lo hi:Option Int} {Q:Value->Shared->Prop} (ht:IsTup s.heap t items) (hs:s.heap.IsSliceOf sl vl vu .none) (pl:IsPart vl lo) (pu:IsPart vu hi)
  (h1:sIx items.size 0 lo=0) (h2:sIx items.size items.size hi=items.size) (h:Q (.ref t) s):wpAny (model prog w) A (getItem (.ref t) (.ref sl)) Q E s:=by
 obtain ⟨os,hos,hcs,hds⟩:=id hs;have hTs:s.TypeIs (.ref sl) "slice" :=⟨os,hos,hcs⟩;unfold getItem
 try with_reducible refine wpAny_holding ?_
 first | refine wpAny_bind (wpAny_pure ?_) | skip
 refine wpAny_bind (wpAny_sequenceKey ht.typeIs (by decide) ?_);refine wpAny_bind (wpAny_callSpecial?_slot (name:=Str.ofString "__getitem__") ht.typeIs PyProof.Rows.slot_tuple_getitem (wpAny_call_entry PyProof.Rows.slot_tuple_getitem ht.typeIs entry_tuple_getitem ?_ (args_tuple_getitem _ _)));show wpAny _ _ (Builtin.Tuple.tupleItemsOf (.ref t) >>= _) _ _ s;refine wpAny_bind (tupleItemsOf_ ht ?_);refine wpAny_bind (wpAny_typeOf hTs ?_);rw [if_pos (by decide)];refine wpAny_bind (cT hs pl pu ?_);have hyes:(((sIx items.size 0 lo:Nat):Int) == 0 && (1:Int) == 1 && (sIx items.size items.size hi - sIx items.size 0 lo) == items.size)=true:=by
  rw [h1,h2];simp
 show wpAny _ _ (if (((sIx items.size 0 lo:Nat):Int) == 0 && (1:Int) == 1 && (sIx items.size items.size hi - sIx items.size 0 lo) == items.size)=true then _ else _) _ _ s;rw [if_pos hyes];refine wpAny_bind (m:=Builtin.Tuple.tupleIsExact _) (wpAny_bind (wpAny_typeOf ht.typeIs ?_));refine wpAny_pure ?_;rw [if_pos (by decide)];exact wpAny_bind (wpAny_rule (wpAny_pure ⟨_,rfl,wpAny_pure h⟩))
end
end HT
namespace L2
open PySem PySem.Spec PyProof.Rows
section
variable {X:Cx}
theorem IsD.unref {K:W.Frag} {H:Hp} {l:List Dt} {v:V} (h:IsD K H (.tup l) v):∃ a xs,v=.ref a/\SqT K H a xs/\IsDs K H l xs:=by
 cases h with
 | tup h r=>exact ⟨_,_,rfl,h,r⟩
def sC (l:List Dt) (lo hi:Option Int):List Dt:=(l.drop (HT.sIx l.length 0 lo)).take (HT.sIx l.length l.length hi - HT.sIx l.length 0 lo)
theorem sD:aP X (.builtin "len") (λxs H Q=>∃ x l,xs=[x]/\IsD X.K H (.tup l) x/\Q (.int l.length) H):=by
 intro pins s σ H xs us Q I r h;obtain ⟨x,l,rfl,dx,q⟩:=h;obtain ⟨a,ys,rfl,hx,ra⟩:=dx.unref;exact f7 pins s σ H [.ref a] us Q I r ⟨a,ys,rfl,.inr hx,by rw [<- ra.length];exact q⟩
end
end L2
namespace PySem
open Sem (wp)
section
variable {M:Model} {A:Around} {E:Value->Shared->Prop} {s:Shared}
end
end PySem
namespace L2
open PySem PySem.Spec PyProof.Rows
section
variable {X:Cx} {E:XK}
variable {pins:List (Addr×Obj)} {σ:St} {H:Hp} {s:Shared}
end
section
variable {κ:Type} [DecidableEq κ]
def aH (kvs:List (κ×V)) (k:κ):Option V:=(kvs.find? λkv=>decide (kv.1=k)).map (·.2)
def bc (kvs:List (κ×V)) (k:κ) (v:V):List (κ×V) :=
 if (kvs.any λkv=>decide (kv.1=k))=true then kvs.map (λkv=>if kv.1=k then (kv.1,v) else kv) else kvs++[(k,v)]
theorem aR {p:κ×V} {r:List (κ×V)} {k:κ} (e:p.1=k):aH (p :: r) k=some p.2:=by simp [aH,aAY,e]
theorem aS {p:κ×V} {r:List (κ×V)} {k:κ} (e:¬ p.1=k):aH (p :: r) k=aH r k:=by simp [aH,aAY,e]
theorem gl (k:κ):∀ kvs:List (κ×V),(kvs.any λkv=>decide (kv.1=k))=(aH kvs k).isSome
 | []=>rfl
 | p :: r=>by
  rw [aAX]
  by_cases e:p.1=k
  ·simp only [aR e,decide_eq_true e,Bool.true_or,Option.isSome_some]
  ·rw [aS e,decide_eq_false e,Bool.false_or];exact gl k r
theorem nP (k j:κ) (y:V):∀ kvs:List (κ×V),aH (kvs.map λkv=>if kv.1=k then (kv.1,y) else kv) j=(aH kvs j).map λx=>if j=k then y else x
 | []=>rfl
 | p :: r=>by
  have ih:=nP k j y r;rw [aAz]
  by_cases h:p.1=k
  ·rw [if_pos h]
   by_cases e:p.1=j
   ·rw [aR (p:=(p.1,y)) e,aR e,aBA,if_pos (e.symm.trans h)]
   ·rw [aS (p:=(p.1,y)) e,aS e,ih]
  ·rw [if_neg h]
   by_cases e:p.1=j
   ·rw [aR (p:=p) e,aR e,aBA,if_neg (λz=>h (e.trans z))]
   ·rw [aS (p:=p) e,aS e,ih]
theorem kJ (k j:κ) (y:V):∀ kvs:List (κ×V),aH kvs k=none->aH (kvs++[(k,y)]) j=if j=k then some y else aH kvs j
 | [],_=>by
  by_cases e:k=j
  ·rw [if_pos e.symm];exact aR (p:=(k,y)) e
  ·rw [if_neg (λz=>e z.symm)];exact aS (p:=(k,y)) e
 | p :: r,hn=>by
  rw [List.cons_append];have hk:¬ p.1=k:=λz=>by rw [aR z] at hn;cases hn
  rw [aS hk] at hn;have ih:=kJ k j y r hn
  by_cases e:p.1=j
  ·rw [aR e,aR e,if_neg (λz=>hk (e.trans z))]
  ·rw [aS e,aS e,ih]
theorem dX (kvs:List (κ×V)) (k j:κ) (y:V):aH (bc kvs k y) j=if j=k then some y else aH kvs j:=by
 unfold bc
 by_cases a:(kvs.any λkv=>decide (kv.1=k))=true
 ·rw [if_pos a,nP];rw [gl] at a
  by_cases e:j=k
  ·obtain ⟨x,hx⟩:=aBS.mp a;rw [if_pos e,e,hx,aBA,if_pos rfl]
  ·rw [if_neg e]
   cases aH kvs j with
   | none=>rfl
   | some x=>rw [aBA,if_neg e]
 ·rw [if_neg a];refine kJ k j y kvs ?_;rw [gl] at a
  cases q:aH kvs k with
  | none=>rfl
  | some x=>rw [q] at a;exact (a rfl).elim
theorem cC (kvs:List (κ×V)) (k:κ) (v:V):(bc kvs k v).length<=kvs.length+1:=by
 unfold bc
 split
 ·rw [aAb];lia
 ·rw [aAP,aAx,aBd];lia
theorem RelO.isSome_eq {o:Option V} {u:Option Value} (r:RelO o u):o.isSome=u.isSome:=by
 cases o with
 | none=>cases u with
  | none=>rfl
  | some _=>exact (show False from r).elim
 | some _=>cases u with
  | none=>exact (show False from r).elim
  | some _=>rfl
theorem RelO.getD {o:Option V} {u:Option Value} {d:V} {d':Value} (r:RelO o u) (rd:RelV d d'):RelV (o.getD d) (u.getD d'):=by
 cases o with
 | none=>cases u with
  | none=>exact rd
  | some _=>exact (show False from r).elim
 | some _=>cases u with
  | none=>exact (show False from r).elim
  | some _=>exact r
theorem KV.val {kvs:List (κ×V)} {vs:List (κ×Value)} (r:KV kvs vs) (k:κ):RelO (aH kvs k) (valueAt vs k):=by
 unfold KV at r
 induction r with
 | nil=>exact True.intro
 | @cons p q ps qs h t ih =>
  obtain ⟨h1,h2⟩:=h
  by_cases e:p.1=k
  ·have e':q.1=k:=h1.symm.trans e;have b:valueAt (q :: qs) k=some q.2:=by simp [valueAt,aAY,e']
   rw [aR e,b];exact h2
  ·have e':¬ q.1=k:=λz=>e (h1.trans z);have b:valueAt (q :: qs) k=valueAt qs k:=by simp [valueAt,aAY,e']
   rw [aS e,b];exact ih
theorem KV.any {kvs:List (κ×V)} {vs:List (κ×Value)} (r:KV kvs vs) (k:κ):(kvs.any λkv=>decide (kv.1=k))=vs.any λkv=>decide (kv.1=k):=by
 unfold KV at r
 induction r with
 | nil=>rfl
 | cons h t ih=>rw [aAX,aAX,ih,h.1]
theorem KV.repl {kvs:List (κ×V)} {vs:List (κ×Value)} (r:KV kvs vs) (k:κ) {y:V} {u:Value} (ry:RelV y u) :
  KV (kvs.map λkv=>if kv.1=k then (kv.1,y) else kv) (vs.map λkv=>if kv.1=k then (kv.1,u) else kv):=by
 unfold KV at r ⊢
 induction r with
 | nil=>exact .nil
 | @cons p q ps qs h t ih =>
  rw [aAz,aAz];refine .cons ?_ ih;obtain ⟨h1,h2⟩:=h
  by_cases e:p.1=k
  ·rw [if_pos e,if_pos (h1.symm.trans e)];exact ⟨h1,ry⟩
  ·rw [if_neg e,if_neg (λz=>e (h1.trans z))];exact ⟨h1,h2⟩
theorem KV.put {kvs:List (κ×V)} {vs:List (κ×Value)} (r:KV kvs vs) (k:κ) {y:V} {u:Value} (ry:RelV y u):KV (bc kvs k y) (stored vs k u):=by
 unfold bc stored;rw [r.any k]
 by_cases e:(vs.any λkv=>decide (kv.1=k))=true
 ·rw [if_pos e,if_pos e];exact r.repl k ry
 ·rw [if_neg e,if_neg e];exact Paired.snoc r ⟨rfl,ry⟩
theorem KV.keys {kvs:List (κ×V)} {vs:List (κ×Value)} (r:KV kvs vs):kvs.map (·.1)=vs.map (·.1):=by
 unfold KV at r
 induction r with
 | nil=>rfl
 | cons h t ih=>rw [aAz,aAz,ih,h.1]
theorem KV.length {kvs:List (κ×V)} {vs:List (κ×Value)} (r:KV kvs vs):kvs.length=vs.length:=Paired.length r
end
theorem iz {P:Program} {w:World} {k:Key} {u:Value} (r:RelV (kV k) u):(aj P w).is k u=true:=by
 cases k with
 | inl i=>obtain ⟨t,e⟩:=(show ∃ t,u=Value.int i t from r);subst e;exact nh P w i t
 | inr x=>obtain ⟨t,e⟩:=(show ∃ t,u=Value.str x t from r);subst e;exact ni P w x t
theorem gY {P:Program} {w:World}:∀ {ks:List Key} {us:List Value},Vals (ks.map kV) us->ItemsAre (aj P w) ks us
 | [],_,r=>by rw [List.map_nil] at r;cases r;exact .nil
 | k :: ks,_,r=>by
  rw [aAz] at r
  cases r with
  | cons h t=>exact .cons (iz h) (gY t)
abbrev KT (H:Hp):List (List Key×V)->List (List Key×Addr×Value)->Prop:=Paired λp q=>p.1=q.1/\H q.2.1=some (.tup (p.1.map kV))/\RelV p.2 q.2.2
theorem KT.val {H:Hp} {kvs:List (List Key×V)} {xs:List (List Key×Addr×Value)} (r:KT H kvs xs) (k:List Key):RelO (aH kvs k) ((atKey xs k).map (·.2)):=by
 induction r with
 | nil=>exact True.intro
 | @cons p q ps qs h t ih =>
  obtain ⟨h1,_,h2⟩:=h
  by_cases e:p.1=k
  ·have e':q.1=k:=h1.symm.trans e;have b:atKey (q :: qs) k=some q.2:=by simp [atKey,aAY,e']
   rw [aR e,b];exact h2
  ·have e':¬ q.1=k:=λz=>e (h1.trans z);have b:atKey (q :: qs) k=atKey qs k:=by simp [atKey,aAY,e']
   rw [aS e,b];exact ih
theorem KT.repl {H:Hp} {kvs:List (List Key×V)} {xs:List (List Key×Addr×Value)} (r:KT H kvs xs) (k:List Key) {y:V} {u:Value} (ry:RelV y u) :
  KT H (kvs.map λkv=>if kv.1=k then (kv.1,y) else kv) (xs.map (putAt k u)):=by
 induction r with
 | nil=>exact .nil
 | @cons p q ps qs h t ih =>
  rw [aAz,aAz];refine .cons ?_ ih;obtain ⟨h1,h2,h3⟩:=h;unfold putAt
  by_cases e:p.1=k
  ·rw [if_pos e,if_pos (h1.symm.trans e)];exact ⟨h1,h2,ry⟩
  ·rw [if_neg e,if_neg (λz=>e (h1.trans z))];exact ⟨h1,h2,h3⟩
theorem KT.put {H:Hp} {kvs:List (List Key×V)} {xs:List (List Key×Addr×Value)} (r:KT H kvs xs) (k:List Key) {b:Addr} {y:V} {u:Value} (hb:H b=some (.tup (k.map kV))) (ry:RelV y u) :
  KT H (bc kvs k y) (storedH xs k b u):=by
 have e:(kvs.any λkv=>decide (kv.1=k))=(atKey xs k).isSome:=by
  rw [gl,(r.val k).isSome_eq,Option.isSome_map]
 unfold bc storedH;rw [e]
 by_cases q:(atKey xs k).isSome=true
 ·rw [if_pos q,if_pos q];exact r.repl k ry
 ·rw [if_neg q,if_neg q];exact Paired.snoc r ⟨rfl,hb,ry⟩
theorem KT.keeps {H H':Hp} {kvs:List (List Key×V)} {xs:List (List Key×Addr×Value)} (r:KT H kvs xs) (ht:∀ b ys,H b=some (.tup ys)->H' b=some (.tup ys)):KT H' kvs xs :=
 Paired.mapP r λ_ _ z=>⟨z.1,ht _ _ z.2.1,z.2.2⟩
section
variable {P:Program} {w:World} {H:Hp} {h:Heap} {a:Addr}
theorem yl {u:HO} (ok:HOk P w H h) (e:Rd H a u):ObjOk P w H h a u:=e.ok ok
theorem kK {kvs:List (Key×V)} (ok:HOk P w H h) (e:Rd H a (.dK kvs)):kvs.length<=sizeLine/\(a == sysModules)=false/\∃ vs,KV kvs vs/\h.DictOf (aj P w) a vs :=
 show ObjOk P w H h a (.dK kvs) from yl ok e
theorem qO {kvs:List (Key×V)} (ok:HOk P w H h) (e:H a=some (.dK kvs)):kvs.length<=sizeLine/\(a == sysModules)=false/\∃ vs,KV kvs vs/\h.DictOf (aj P w) a vs:=kK ok (.inl e)
theorem lO {ks:List Key} (ok:HOk P w H h) (e:H a=some (.tup (ks.map kV))):(tupleKind (aj P w)).is h ks a:=by
 obtain ⟨_,its,r,o,h1,h2,n,h3⟩:=(show ObjOk P w H h a (.tup (ks.map kV)) from ok a _ e);exact ⟨o,its.toArray,n,h1,h2,h3,by simpa using gY r⟩
theorem nQ {kvs:List (List Key×V)} (ok:HOk P w H h) (e:Rd H a (.dT kvs)):kvs.length<=sizeLine/\(a == sysModules)=false /\
  ∃ xs,KT H kvs xs/\h.DictOfH (tupleKind (aj P w)) a xs:=by
 obtain ⟨z,y,xs,r,o,es,ep,h1,h2,h3,h4,h5⟩:=(show ObjOk P w H h a (.dT kvs) from yl ok e);refine ⟨z,y,xs,r,o,es,ep,h1,h2,h3,h4,λx hx=>?_,h5⟩;have all:∀ {l:List (List Key×V)} {m:List (List Key×Addr×Value)},KT H l m->∀ x∈m,(tupleKind (aj P w)).is h x.1 x.2.1:=by
  intro l m q
  induction q with
  | nil=>intro x hx;exact nomatch hx
  | @cons p q ps qs hq t ih =>
   intro x hx;rcases aAf.mp hx with e | hx
   ·subst e;exact lO ok (by rw [<- hq.1];exact hq.2.1)
   ·exact ih x hx
 exact all r x hx
theorem Ay {kvs:List (List Key×V)} (ok:HOk P w H h) (e:H a=some (.dT kvs)):kvs.length<=sizeLine/\(a == sysModules)=false /\
  ∃ xs,KT H kvs xs/\h.DictOfH (tupleKind (aj P w)) a xs:=nQ ok (.inl e)
end
def DGet (H:Hp) (a:Addr) (y:V) (r:Option V):Prop :=
 (∃ kvs k,Rd H a (.dK kvs)/\y=kV k/\r=aH kvs k)\/∃ kvs k b,Rd H a (.dT kvs)/\y=.ref b/\H b=some (.tup (k.map kV))/\r=aH kvs k
def DPut (H:Hp) (a:Addr) (y v:V) (H':Hp):Prop :=
 (∃ kvs k,H a=some (.dK kvs)/\y=kV k/\kvs.length < sizeLine/\H'=upd H a (.dK (bc kvs k v))) \/
 ∃ kvs k b,H a=some (.dT kvs)/\y=.ref b/\H b=some (.tup (k.map kV))/\kvs.length < sizeLine/\H'=upd H a (.dT (bc kvs k v))
theorem DGet.k {H:Hp} {a:Addr} {kvs:List (Key×V)} {k:Key} (e:H a=some (.dK kvs)):DGet H a (kV k) (aH kvs k):=.inl ⟨kvs,k,.inl e,rfl,rfl⟩
theorem DGet.t {H:Hp} {a b:Addr} {kvs:List (List Key×V)} {k:List Key} (e:H a=some (.dT kvs)) (eb:H b=some (.tup (k.map kV))):DGet H a (.ref b) (aH kvs k):=.inr ⟨kvs,k,b,.inl e,rfl,eb,rfl⟩
theorem DPut.k {H:Hp} {a:Addr} {kvs:List (Key×V)} {k:Key} {v:V} (e:H a=some (.dK kvs)) (hl:kvs.length < sizeLine):DPut H a (kV k) v (upd H a (.dK (bc kvs k v))):=.inl ⟨kvs,k,e,rfl,hl,rfl⟩
theorem DPut.t {H:Hp} {a b:Addr} {kvs:List (List Key×V)} {k:List Key} {v:V} (e:H a=some (.dT kvs)) (eb:H b=some (.tup (k.map kV))) (hl:kvs.length < sizeLine) :
  DPut H a (.ref b) v (upd H a (.dT (bc kvs k v))):=.inr ⟨kvs,k,b,e,rfl,eb,hl,rfl⟩
section
variable {X:Cx} {pins:List (Addr×Obj)} {σ:St} {H:Hp} {s:Shared} {a:Addr} {y v:V} {u r:Value} {o:Option V} {A:Around} {E:Value->Shared->Prop}
theorem Inv.big (I:Inv X pins σ H s):sysModules < s.heap.objs.size:=by
 have h:mainGlobals < s.heap.objs.size:=(I.mod.glob.keeps I.bk).lt;exact aAT (by decide) h
theorem sE {Q:Value->Shared->Prop} (hu:A.units+1 < cLine) (I:Inv X pins σ H s) (g:DGet H a y (some v)) (ry:RelV y u) (h:∀ w' s',Inv X pins σ H s'->RelV v w'->Q w' s') :
  wpAny (model X.prog X.w) A (getItem (.ref a) u) Q E s:=by
 rcases g with ⟨kvs,k,e,ey,l⟩ | ⟨kvs,k,b,e,ey,eb,l⟩
 ·subst ey;obtain ⟨z,hd,vs,rel,dd⟩:=kK I.hok e;obtain ⟨w',hw,rw'⟩:=RelO.some_of (v:=v) (o:=valueAt vs k) (by rw [l];exact rel.val k);exact wpAny_getItem_of (iz ry) dd.mapOf hw (h w' _ (I.tok _) rw')
 ·subst ey
  cases (show u=Value.ref b from ry)
  obtain ⟨z,hd,xs,rel,dd⟩:=nQ I.hok e;obtain ⟨w',hw,rw'⟩:=RelO.some_of (v:=v) (o:=(atKey xs k).map (·.2)) (by rw [l];exact rel.val k);obtain ⟨p,hp,hp2⟩:=aAd.mp hw;refine wpAny_getItem_heap (tupleKind_room_in1 hu) (lO I.hok eb) dd hp ?_;rw [hp2];exact h w' _ (I.tok _) rw'
theorem iY {h':Heap} {t':Nat} {ob:HO} (I:Inv X pins σ H s) (mu:Mut (H a)) (hs:Heap.SameBut a s.heap h') (he:∃ q,h'.get? a=some q) (new:ObjOk X.prog X.w (upd H a ob) h' a ob) :
  Inv X pins σ (upd H a ob) { s with heap:=h',toks:=t' } :=
 I.write (x:=a) (e:=a) mu (.inl rfl) (λb q hb z=>(hs.2 b hb).trans z) he new
theorem pN {P:Program} {w:World} {H':Hp} {h':Heap} {kvs:List (Key×V)} {vs:List (Key×Value)} (z:kvs.length<=sizeLine) (hd:(a == sysModules)=false) (rel:KV kvs vs) (dd:h'.DictOf (aj P w) a vs) :
  ObjOk P w H' h' a (.dK kvs):=⟨z,hd,vs,rel,dd⟩
theorem sF {H':Hp} {Q:Unit->Shared->Prop} (hu:A.units+1 < cLine) (I:Inv X pins σ H s) (g:DPut H a y v H') (ry:RelV y u) (rv:RelV v r) (h:∀ s',Inv X pins σ H' s'->Q () s') :
  wpAny (model X.prog X.w) A (setItem (.ref a) u r) Q E s:=by
 rcases g with ⟨kvs,k,e,ey,l,eH⟩ | ⟨kvs,k,b,e,ey,eb,l,eH⟩
 ·subst ey eH;obtain ⟨z,hd,vs,rel,dd⟩:=qO I.hok e;have hz:vs.length<=sizeLine:=by rw [<- rel.length];exact z
  have hl:(bc kvs k v).length<=sizeLine:=by have:=cC kvs k v;lia
  refine wpAny_setItem_pairs (hsz:=hz) (iz ry) dd λh' dd' hs=>h _ ?_;have he:∃ q,h'.get? a=some q:=let ⟨q,_,_,hq,_⟩:=dd';⟨q,hq⟩;exact iY I (by rw [e];exact True.intro) hs he (pN hl hd (rel.put k rv) dd')
 ·subst ey eH
  cases (show u=Value.ref b from ry)
  obtain ⟨z,hd,xs,rel,dd⟩:=Ay I.hok e;have hz:xs.length<=sizeLine:=by rw [<- Paired.length rel];exact z
  have hl:(bc kvs k v).length<=sizeLine:=by have:=cC kvs k v;lia
  refine wpAny_setItem_heap (hsz:=hz) (tupleKind_room_in1 hu) (lO I.hok eb) dd λh' dd' hs=>h _ ?_;obtain ⟨q,es,ep,hq,h2,h3,h4,_,h5⟩:=dd';refine iY I (by rw [e];exact True.intro) hs ⟨q,hq⟩ ⟨hl,hd,_,(rel.put k eb rv).keeps λc ys ec=>?_,q,es,ep,hq,h2,h3,h4,h5⟩;rw [ao (ne_of ec e (λz=>nomatch z))];exact ec
end
section
variable {X:Cx} {pins:List (Addr×Obj)} {σ:St} {H:Hp} {s:Shared} {a:Addr} {kvs:List (Key×V)} {k:Key} {u:Value} {A:Around} {E:Value->Shared->Prop}
end
def y3 (i:Expr):Prop:=∀ ov iv,subscripted i false ov iv=operate [ov,iv] (getItem ov iv)
theorem qP {prog:Program} {w:World} {A:Around} {E:Value->Shared->Prop} {s:Shared} {env:Env} {value slice:Expr} {pos:Pos} {T id:String} {Q:Value->Shared->Prop}
  (hl:typeLookup (.type T) "__getitem__" = pure (some (.builtin id))) (hs:y3 slice)
  (h:wpAny (model prog w) A (eval value env) (λo s₁=>wpAny (model prog w) A (eval slice env) (λi s₂=>s₂.TypeIs o T/\wpAny (model prog w) A (getItem o i) Q E s₂) E s₁) E s) :
  wpAny (model prog w) A (eval (.Subscript value slice pos) env) Q E s:=by
 refine Subscript_ (wpAny_mono h (λo s₁ h₁=>wpAny_mono h₁ (λi s₂ h₂=>?_) λ_ _ x=>x) λ_ _ x=>x);obtain ⟨hT,h₂⟩:=h₂;unfold subscriptTail;refine wpAny_bind ?_;rw [getitemInPython_of_ne hT.not_modules];refine wpAny_bind (wpAny_specialOf hT hl ?_);have fin:wpAny (model prog w) A (subscripted slice false o i) (λr s₃=>wpAny (model prog w) A (letTemporaryGo value o r >>= λ_=>pure r) Q E s₃) E s₂:=by
  rw [hs o i];exact wpAny_operating (wpAny_mono h₂ (λr s₃ h₃=>wpAny_bind (wpAny_letTemporaryGo (wpAny_pure h₃))) λ_ _ x=>x)
 first
  | exact wpAny_pure (wpAny_bind fin)
  | exact wpAny_bind (wpAny_pure (wpAny_bind fin))
  | exact wpAny_bind fin
theorem nR {X:Cx} {pins:List (Addr×Obj)} {σ:St} {H:Hp} {s:Shared} {a:Addr} {y:V} {o:Option V} (I:Inv X pins σ H s) (g:DGet H a y o):s.TypeIs (.ref a) "dict" :=by
 rcases g with ⟨kvs,k,e,_,_⟩ | ⟨kvs,k,b,e,_,_,_⟩
 ·obtain ⟨_,_,vs,_,dd⟩:=kK I.hok e;exact dd.typeIs
 ·obtain ⟨_,_,xs,_,dd⟩:=nQ I.hok e;exact dd.typeIs
def Az (td ty:TE):TE:=λσ H Q=>td σ H λx H1=>ty σ H1 λy H2=>∃ a v,x=.ref a/\DGet H2 a y (some v)/\Q v H2
def AA (td ty tv:TE):TS:=λD σ H=>tv σ H λv H1=>td σ H1 λx H2=>ty σ H2 λy H3=>∃ a H4,x=.ref a/\DPut H3 a y v H4/\D.nx σ H4
section
variable {X:Cx} {o i e value:Expr} {pos pos' tpos:Pos} {td ty tv:TE}
theorem cD (hu:X.A.units+1 < cLine) (ho:PE X o td) (hi:PE X i ty) (hs:y3 i):PE X (.Subscript o i pos) (Az td ty):=by
 intro pins s σ H Q I h;refine qP PySem.F.slot_dict_getitem.lookup hs (thn (ho pins s σ H _ I h) λu s1 ⟨x,H1,I1,rx,q1⟩=>thn (hi pins s1 σ H1 _ I1 q1) λiv s2 ⟨y,H2,I2,ry,a,v,ex,g,q2⟩=>?_);subst ex;obtain rfl:u=Value.ref a:=rx;exact ⟨nR I2 g,sE hu I2 g ry λw' s3 I3 rw'=>⟨v,H2,I3,rw',q2⟩⟩
theorem ps_dput (hu:X.A.units+1 < cLine) (ho:PE X o td) (hi:PE X i ty) (hv:PE X value tv) (hs:swapsWith value (some (.Subscript o i pos')) pos.line X.env=pure false) :
  PS X (.Assign [.Subscript o i pos'] value pos) (AA td ty tv):=by
 intro pins s σ H D I h;refine wpAny_Assign_Subscript (thn (hv pins s σ H _ I h) λr s1 ⟨v,H1,I1,rv,q1⟩=>thn (ho pins s1 σ H1 _ I1 q1) λu s2 ⟨x,H2,I2,rx,q2⟩=>thn (hi pins s2 σ H2 _ I2 q2) λiv s3 ⟨y,H3,I3,ry,a,H4,ex,g,q3⟩=>?_) hs;subst ex;obtain rfl:u=Value.ref a:=rx;exact sF hu I3 g ry rv λs4 I4=>⟨σ,H4,I4,q3⟩
end
theorem ux {P:Program} {w:World} {H:Hp} (h:Heap) (hb:sysModules < h.objs.size):ObjOk P w H (h.push { cls:=.type "dict",data:=.dict #[] }) h.objs.size (.dK []) :=
 ⟨aAB _,beq_eq_false_iff_ne.mpr (Ne.symm (aAk hb)),[],.nil,Heap.DictOf.new h⟩
def y4:TE:=λ_ H Q=>∀ p,H p=none->Q (.ref p) (upd H p (.dK []))
section
variable {X:Cx} {pos:Pos}
theorem gm:PE X (.Dict [] [] pos) y4:=λpins s σ H Q I h =>
 wpAny_Dict_empty ⟨.ref s.heap.objs.size,_,I.laid (a:=s.heap.objs.size) (o:=.dK []) (t':=s.toks) (λ_ _ q=>aAa _ q) (aAm _) (ux s.heap I.big),rfl,h _ (I.hok.fresh (aAm _))⟩
end
structure M2 (X:Cx) (o:Expr) (m:Str) (apos:Pos) (e f:Expr) (cpos:Pos):Prop where
 base:attributeBase o m X.env (eval o X.env)=eval o X.env
 few:((backTo cpos (starEach [e,f] X.env)).all (λx=>!x.1) && (backToKw cpos (keywordEach [] X.env)).all (λx=>x.1.isSome)
  && decide (([e,f]:List Expr).length+([]:List Keyword).length+(if ([]:List Keyword).isEmpty then 0 else 1) < 30))=true
 line:(apos.endLine == cpos.line)=true
 trees:backTo cpos (starEach [e,f] X.env)=[(false,eval e X.env),(false,eval f X.env)]
def pO (H:Hp) (a:Addr):Prop:=(∃ kvs,Rd H a (.dK kvs))\/∃ kvs,Rd H a (.dT kvs)
theorem kL {X:Cx} {pins:List (Addr×Obj)} {σ:St} {H:Hp} {s:Shared} {a:Addr} (I:Inv X pins σ H s) (d:pO H a) :
  s.TypeIs (.ref a) "dict" /\(∀ b,Value.ref a=.ref b->∃ ob,s.heap.get? b=some ob/\ob.dict=none)/\(a == sysModules)=false:=by
 rcases d with ⟨kvs,e⟩ | ⟨kvs,e⟩
 ·obtain ⟨_,hd,vs,_,dd⟩:=kK I.hok e;refine ⟨dd.typeIs,λb q=>?_,hd⟩
  cases q
  obtain ⟨ob,_,_,h1,h2,_⟩:=dd;exact ⟨ob,h1,h2.2.1⟩
 ·obtain ⟨_,hd,xs,_,dd⟩:=nQ I.hok e;refine ⟨dd.typeIs,λb q=>?_,hd⟩
  cases q
  obtain ⟨ob,_,_,h1,h2,_⟩:=dd;exact ⟨ob,h1,h2.2.1⟩
section
variable {X:Cx} {pins:List (Addr×Obj)} {σ:St} {H:Hp} {s:Shared} {a:Addr} {y d:V} {u r:Value} {o:Option V} {A:Around} {E:Value->Shared->Prop}
theorem y6 {Q:Value->Shared->Prop} (hu:A.units+1 < cLine) (I:Inv X pins σ H s) (g:DGet H a y o) (ry:RelV y u) (rd:RelV d r) (h:∀ w' s',Inv X pins σ H s'->RelV (o.getD d) w'->Q w' s') :
  wpAny (model X.prog X.w) A (call (.builtin "dict.get") [.ref a,u,r]) Q E s:=by
 rcases g with ⟨kvs,k,e,ey,l⟩ | ⟨kvs,k,b,e,ey,eb,l⟩
 ·subst ey;obtain ⟨z,hd,vs,rel,dd⟩:=kK I.hok e;refine call_meetsIn PySem.F.slot_dict_get dd.typeIs PySem.F.entry_dict_get (PySem.F.args_dict_get_3 _ _ _) (meets_dict_get_default (aj X.prog X.w) a (iz ry) hd r) ⟨_,dd.mapOf,h _ _ (I.tok _) ?_⟩;rw [l];exact (rel.val k).getD rd
 ·subst ey
  cases (show u=Value.ref b from ry)
  obtain ⟨z,hd,xs,rel,dd⟩:=nQ I.hok e;refine call_meetsIn PySem.F.slot_dict_get dd.typeIs PySem.F.entry_dict_get (PySem.F.args_dict_get_3 _ _ _) (meetsH_dict_get_default (tupleKind (aj X.prog X.w)) a b hd r) ⟨tupleKind_room_in1 hu,k,xs,lO I.hok eb,dd,h _ _ (I.tok _) ?_⟩;rw [l];exact (rel.val k).getD rd
end
def y7 (td ty tx:TE):TE:=λσ H Q=>td σ H λx H1=>∃ a,x=.ref a/\pO H1 a/\ty σ H1 λy H2=>tx σ H2 λz H3=>∃ o,DGet H3 a y o/\Q (o.getD z) H3
section
variable {X:Cx} {o e f:Expr} {apos cpos:Pos} {td ty tx:TE}
theorem uy (hu:X.A.units+1 < cLine) (ho:PE X o td) (he:PE X e ty) (hf:PE X f tx) (m:M2 X o "get" apos e f cpos):PE X (.Call (.Attribute o "get" apos) [e,f] [] cpos) (y7 td ty tx):=by
 intro pins s σ H Q I h;refine wpAny_Call_method m.base m.few m.line PySem.F.plainAttrs_dict PySem.F.slot_dict_get PySem.F.type_dict_get (thn (ho pins s σ H _ I h) λu s1 ⟨x,H1,I1,rx,a,ex,d,q1⟩=>?_);subst ex;obtain rfl:u=Value.ref a:=rx;obtain ⟨t1,t2,_⟩:=kL I1 d;refine ⟨t1,t2,?_⟩;rw [m.trees];refine Calls.callWith_builtin rfl (Calls.evalArgs_plain (Calls.spliced_cons (thn (he pins s1 σ H1 _ I1 q1) λiv s2 ⟨y,H2,I2,ry,q2⟩ =>
  Calls.spliced_cons (thn (hf pins s2 σ H2 _ I2 q2) λfv s3 ⟨z,H3,I3,rz,ov,g,q3⟩=>Calls.spliced_nil ?_))))
 exact y6 hu I3 g ry rz λw' s4 I4 rw'=>⟨_,H3,I4,rw',q3⟩
end
section
variable {X:Cx} {pins:List (Addr×Obj)} {σ:St} {H:Hp} {s:Shared} {a:Addr} {kvs:List (Key×V)} {A:Around} {E:Value->Shared->Prop}
end
section
variable {X:Cx} {pins:List (Addr×Obj)} {σ:St} {H:Hp} {s:Shared} {a:Addr} {y:V} {u:Value} {A:Around} {E:Value->Shared->Prop}
end
end L2
namespace PySem
open Sem (wp)
namespace F
theorem entry_dict_update_loop:entryFor table "dict.update.loop" = some Builtin.«dict.update.loop»:=entryFor_of_tree (by kernel_rfl)
theorem plain_dict_update_loop:plainId "dict.update.loop" = true:=by decide +kernel
theorem miss_keys_tuple:typeLookup (.type "tuple") "keys" = pure none:=by rw [typeLookup_type,builtinLookup_eq_fast];kernel_rfl
end F
theorem iJ {prog:Program} {w:World} {A:Around} {E:Value->Shared->Prop} {s:Shared} {a:Addr} {o:Obj} {xs:Array Value} {k:Nat} {Q:Option Value->Shared->Prop}
  (hx:s.heap.get? a=some o) (hc:o.cls=.type "tuple") (hdat:o.data=.seq xs k) (hd:o.dict=none) (hA:A.handled=none)
  (h:∀ h' tk e,Heap.NewExcOf s.heap h' e "AttributeError" ->Q none { s with heap:=h',toks:=tk }) :
  wpAny (model prog w) A (getAttr? (.ref a) "keys") Q E s:=by
 obtain ⟨c,dct,dat,sl⟩:=o;simp only at hc hdat hd;subst hc hdat hd;obtain ⟨hp,g,d,tk,os⟩:=s;have hT:∀ tk',(⟨hp,g,d,tk',os⟩:Shared).TypeIs (.ref a) "tuple" :=λ_=>⟨_,hx,rfl⟩;have f1:=sub_AttributeError;have f3:=F.slot_tuple_getattribute.lookup;have f4:=F.slot_tuple_getattribute.bind (.ref a);have f5:=am_tuple_getattr_none;unfold getAttr? getAttrBy? getAttrBy
 repeat (any_goals (first | assumption | exact hT _ | ((with_reducible show wpAny _ _ (call (Value.builtin "tuple.__getattribute__") _ _) _ _ _);refine call_meets F.slot_tuple_getattribute (hT _) am_entry_tuple_getattribute (F.args_tuple_getattribute_2 _ _) (meets_getattribute_miss_tuple a xs k sl "keys" _ F.miss_keys_tuple (by decide)) ⟨hx,hA,λh' tk' e hx'=>?_⟩) | wp_step))
 obtain ⟨t',u',he⟩:=hx'.there;show wpAny _ _ (getattributeRaised _ _ _ _ _ _ _) _ _ _;unfold getattributeRaised
 repeat (any_goals (first | assumption | wp_step))
 all_goals exact h _ _ _ hx'.of
end PySem
namespace PySem
open Sem (wp)
section
variable {prog:Program} {w:World} {K:Type} [DecidableEq K] {knd:KeyKind prog w K} {A:Around} {E:Value->Shared->Prop}
def Heap.PairItems (h:Heap) (knd:KeyKind prog w K) (items:Array Value) (kvs:List (K×Value)):Prop :=
 items.size=kvs.length/\∀ (i:Nat) (kv:K×Value),kvs[i]?=some kv->∃ (a:Addr) (key:Value),items[i]?=some (.ref a)/\h.IsTuple a #[key,kv.2]/\knd.is kv.1 key=true
theorem Heap.PairItems.stay {h h':Heap} {items:Array Value} {kvs:List (K×Value)} (x:h.PairItems knd items kvs) (k:∀ (i:Nat) (a:Addr) (o:Obj),items[i]?=some (.ref a)->h.get? a=some o->h'.get? a=some o):h'.PairItems knd items kvs :=
 ⟨x.1,λi kv e=>by
  obtain ⟨a,key,e1,⟨o,e2,r⟩,e3⟩:=x.2 i kv e;exact ⟨a,key,e1,⟨o,k i a o e1 e2,r⟩,e3⟩⟩
theorem gp {t it d:Addr} {items:Array Value} {kvs:List (K×Value)} {R:Result->Shared->Prop} (hh:A.handled=none) (hdt:t≠d) (hit:t≠it) (hdi:d≠it) (hav:∀ (i:Nat) (a:Addr),items[i]?=some (.ref a)->a≠d/\a≠it) (hsz:kvs.length+kvs.length<=sizeLine) :
  ∀ (n i:Nat) (s:Shared) (acc:List (K×Value)),kvs.length - i=n->i<=kvs.length->acc.length<=i->s.heap.IsTuple t items->s.heap.PairItems knd items kvs->s.heap.IsTupleIter it t i->s.heap.DictOf knd d acc ->
   (∀ h' tk,h'.DictOf knd d (merged acc (kvs.drop i))->(∀ b o,b≠d->b≠it->s.heap.get? b=some o->h'.get? b=some o)->R (.ok (.ret .none)) { s with heap:=h',toks:=tk }) ->
   codeAny (model prog w) A (.builtin "dict.update.loop" ⟨[.ref d,.ref it,rawInt i,.none],[]⟩) R s:=by
 intro n
 induction n with
 | zero =>
  intro i s acc hn hi ha ht hp hs hd hR;have e:i=kvs.length:=by lia
  refine codeAny_builtin F.entry_dict_update_loop ?_;rw [Around.under_plainId F.plain_dict_update_loop _];show wpAny _ A.in1 (pyNext (.ref it) >>= _) _ _ s;refine wpAny_bind (wpAny_pyNext_tuple_end (by first | exact hh | simpa using hh) hs ht (by rw [e,<- hp.1];simp) λh' eb=>?_);show wpAny _ _ (Builtin.Dict.addKeywords d [] >>= _) _ _ _;have hd':h'.DictOf knd d acc:=by
   obtain ⟨o,es,ep,ho,r⟩:=hd;exact ⟨o,es,ep,eb d o hdi ho,r⟩
  have q:=hR h' s.toks (by rw [e,List.drop_length];exact hd') λb o _ hb z=>eb b o hb z;exact wpAny_bind (wpAny_pure (wpAny_pure q))
 | succ n ih =>
  intro i s acc hn hi ha ht hp hs hd hR;have hlt:i < kvs.length:=by lia
  obtain ⟨kv,hkv⟩:∃ kv,kvs[i]?=some kv:=⟨_,aAj hlt⟩;obtain ⟨a,key,hx,hpair,hkey⟩:=hp.2 i kv hkv;refine codeAny_builtin F.entry_dict_update_loop ?_;rw [Around.under_plainId F.plain_dict_update_loop _];show wpAny _ A.in1 (pyNext (.ref it) >>= _) _ _ s;refine wpAny_bind (wpAny_pyNext_tuple_item hs ht hx λh1 hs1 sb=>?_);obtain ⟨av1,av2⟩:=hav i a hx;have keep1:∀ b o,b≠it->s.heap.get? b=some o->h1.get? b=some o:=λb o hb z=>(sb.2 b hb).trans z;obtain ⟨po,pe,pc,pn,pd⟩:=hpair;have pe1:=keep1 a po av2 pe;have hd1:h1.DictOf knd d acc:=by
   obtain ⟨o,es,ep,ho,r⟩:=hd;exact ⟨o,es,ep,keep1 d o hdi ho,r⟩
  refine wpAny_bind (wpAny_holding ?_);refine wpAny_bind (wpAny_tryCatch ?_);unfold Builtin.Dict.pairItems;refine wpAny_bind (wpAny_typeOf (T:= "tuple") ⟨_,pe1,pc⟩ ?_);rw [if_pos (by decide)];refine wpAny_bind (wpAny_seqItems pe1 pd ?_);refine wpAny_pure ?_;show wpAny _ _ (holding [key,kv.2] (dictSet d key kv.2)) _ _ _;refine wpAny_holding (wpAny_dictSet_pairs (s:={ s with heap:=h1 }) hkey hd1 (λh2 hd2 sb2=>?_) (by lia));refine wpAny_pure ⟨plainId_quiet F.plain_dict_update_loop _,?_⟩;have keep2:∀ b o,b≠d->b≠it->s.heap.get? b=some o->h2.get? b=some o:=λb o hb hb' z=>(sb2.2 b hb).trans (keep1 b o hb' z);have hlen:(stored acc kv.1 kv.2).length<=i+1:=by have:=stored_length_le acc kv.1 kv.2;lia
  have ht2:h2.IsTuple t items:=by
   obtain ⟨o,ho,r⟩:=ht;exact ⟨o,keep2 t o hdt hit ho,r⟩
  have hs2:h2.IsTupleIter it t (i+1):=by
   obtain ⟨o,ho,r⟩:=hs1;exact ⟨o,(sb2.2 it (Ne.symm hdi)).trans ho,r⟩
  have e:rawInt ((i:Int)+1)=rawInt ((i+1:Nat):Int):=by rw [Int.natCast_add];rfl
  show codeAny _ _ (.builtin "dict.update.loop" ⟨[.ref d,.ref it,rawInt ((i:Int)+1),.none],[]⟩) _ _;rw [e];refine ih (i+1) { s with heap:=h2,toks:=s.toks+1 } (stored acc kv.1 kv.2) (by lia) hlt hlen ht2 (hp.stay λj b o z z2=>keep2 b o (hav j b z).1 (hav j b z).2 z2) hs2 hd2 λh' tk hd' k'=>?_;have q:=hR h' tk (by
   have z:kvs.drop i=kv :: kvs.drop (i+1):=by
    rw [aBO hlt];rw [aAj hlt] at hkv;rw [Option.some.inj hkv]
   rw [z];exact hd') λb o hb hb' z=>k' b o hb hb' (keep2 b o hb hb' z)
  exact q
theorem iK {s:Shared} {t:Addr} {o:Obj} {items:Array Value} {n:Nat} {kvs:List (K×Value)} {Q:Value->Shared->Prop} (hh:A.handled=none) (ho:s.heap.get? t=some o) (hc:o.cls=.type "tuple") (hdat:o.data=.seq items n) (hd:o.dict=none)
  (hp:s.heap.PairItems knd items kvs) (hsz:kvs.length+kvs.length<=sizeLine)
  (h:∀ h' tk,h'.DictOf knd s.heap.objs.size (merged [] kvs)->(∀ b o,s.heap.get? b=some o->h'.get? b=some o)->Q (.ref s.heap.objs.size) { s with heap:=h',toks:=tk }) :
  wpAny (model prog w) A (call (.type "dict") [.ref t]) Q E s:=by
 refine callType_codes (Q₁:=λobj s₁=>obj=.ref s.heap.objs.size/\s₁={ s with heap:=s.heap.push { cls:=.type "dict",data:=.dict #[] } }) F.kt_called_dict (F.kt_typeCall_dict_1 _) F.entry_dict_init (kt_code_dict_new _ ⟨rfl,rfl⟩) ?_;rintro obj s₁ ⟨rfl,rfl⟩;have hnew:(s.heap.push { cls:=.type "dict",data:=.dict #[] }).DictOf knd s.heap.objs.size []:=Heap.DictOf.new s.heap;have ho1:(s.heap.push { cls:=.type "dict",data:=.dict #[] }).get? t=some o:=aAa _ ho;have htl:t < s.heap.objs.size:=aAe ho;refine ⟨hnew.typeIs,F.args_dict_init_2 _ _,?_⟩;unfold Builtin.«dict.__init__»;refine wpAny_bind ?_;unfold Builtin.Dict.selfAndRest;refine wpAny_bind (wpAny_notOrdered_dict hnew.typeIs ?_);show wpAny _ _ (pure (s.heap.objs.size,[Value.ref t])) _ _ _;refine wpAny_pure ?_;show wpAny _ _ (Builtin.Dict.updateFrom "dict.__init__" s.heap.objs.size (.ref t) [] .none) _ _ _;unfold Builtin.Dict.updateFrom;refine wpAny_bind (wpAny_typeOf (T:= "tuple") ⟨_,ho1,hc⟩ ?_);rw [if_pos (by decide)];refine wpAny_bind (iJ ho1 hc hdat hd (by first | exact hh | simpa using hh) λh1 tk1 e hx=>?_);rw [if_pos (by rfl)];refine wpAny_bind (wpAny_rule ?_);have kp1:∀ b o,(s.heap.push { cls:=.type "dict",data:=.dict #[] }).get? b=some o->h1.get? b=some o:=λb o z=>hx.keeps b o z;have ht1:h1.IsTuple t items:=⟨o,kp1 t o ho1,hc,n,hdat⟩;refine wpAny_bind (wpAny_pyIter_tuple ht1 ?_);have hit:s.heap.objs.size < h1.objs.size:=by
  obtain ⟨o2,es,ep,ho2,_⟩:=hnew;exact aAe (kp1 _ _ ho2)
 have kp0:∀ b o,s.heap.get? b=some o->h1.get? b=some o:=λb o z=>kp1 b o (aAa _ z);refine wpAny_pure ⟨plainId_quiet F.plain_dict_update_loop _,?_⟩;refine gp (knd:=knd) (t:=t) (items:=items) (kvs:=kvs) (by first | exact hh | simpa using hh) (aAk htl) (aAk (aAT htl hit)) (aAk hit) (λi a z=>?_) hsz kvs.length 0 _ [] (by lia) (aAB _) (aAm _)
  ⟨o,aAa _ (kp1 t o ho1),hc,n,hdat⟩ (hp.stay λi a o2 _ z=>aAa _ (kp0 a o2 z)) ⟨_,aAh _ rfl,rfl,rfl⟩ ?_ λh' tk hd' k'=>⟨rfl,?_⟩
 ·have hi:i < kvs.length:=by
   rw [<- hp.1];exact (aBK.mp z).1
  obtain ⟨b,key,e1,⟨ob,e2,_⟩,_⟩:=hp.2 i _ (aAj hi);rw [z] at e1;have e3:a=b:=by injection (Option.some.inj e1)
  subst e3;have:=aAe e2;exact ⟨aAk this,aAk (aAT this hit)⟩
 ·obtain ⟨o2,es,ep,ho2,r⟩:=hnew;exact ⟨o2,es,ep,aAa _ (kp1 _ _ ho2),r⟩
 ·refine h h' tk hd' λb ob z=>k' b ob (aAk (aAe z)) (aAk (aAT (aAe z) hit)) (aAa _ (kp0 b ob z))
end
end PySem
namespace L2
open PySem PySem.Spec PyProof.Rows
def Pl (H:Hp) (a:Addr):Prop:=∃ o u,H a=some (.frz o u)/\o.dict=none
mutual
inductive IsP (K:W.Frag) (H:Hp):Dt->V->Prop
 | non:IsP K H .non .non
 | bl {b}:IsP K H (.bl b) (.bl b)
 | int {i}:IsP K H (.int i) (.int i)
 | str {z}:IsP K H (.str z) (.str z)
 | tup {l:List Dt} {a:Addr} {xs:List V}:SqT K H a xs->Pl H a->IsPs K H l xs->IsP K H (.tup l) (.ref a)
inductive IsPs (K:W.Frag) (H:Hp):List Dt->List V->Prop
 | nil:IsPs K H [] []
 | cons {d:Dt} {l:List Dt} {x:V} {xs:List V}:IsP K H d x->IsPs K H l xs->IsPs K H (d :: l) (x :: xs)
end
section
variable {K:W.Frag} {H H':Hp}
mutual
theorem IsP.d:∀ {d:Dt} {v:V},IsP K H d v->IsD K H d v
 | _,_,.non=>.non
 | _,_,.bl=>.bl
 | _,_,.int=>.int
 | _,_,.str=>.str
 | _,_,.tup h _ r=>.tup h (IsPs.d r)
theorem IsPs.d:∀ {l:List Dt} {xs:List V},IsPs K H l xs->IsDs K H l xs
 | _,_,.nil=>.nil
 | _,_,.cons h r=>.cons (IsP.d h) (IsPs.d r)
end
theorem Pl.same {a:Addr} (g:Same H H') (h:Pl H a):Pl H' a:=by
 obtain ⟨o,u,e,d⟩:=h;exact ⟨o,u,g _ _ e,d⟩
theorem Pl.but {a r:Addr} {ys:List V} (hr:H r=some (.lst ys)) (g:But r H H') (h:Pl H a):Pl H' a:=by
 obtain ⟨o,u,e,d⟩:=h;exact ⟨o,u,g _ _ (ne_of e hr (by intro z;cases z)) e,d⟩
mutual
theorem IsP.same (g:Same H H'):∀ {d:Dt} {v:V},IsP K H d v->IsP K H' d v
 | _,_,.non=>.non
 | _,_,.bl=>.bl
 | _,_,.int=>.int
 | _,_,.str=>.str
 | _,_,.tup h p r=>.tup (g.tup h) (p.same g) (IsPs.same g r)
theorem IsPs.same (g:Same H H'):∀ {l:List Dt} {xs:List V},IsPs K H l xs->IsPs K H' l xs
 | _,_,.nil=>.nil
 | _,_,.cons h r=>.cons (IsP.same g h) (IsPs.same g r)
end
mutual
theorem IsP.but {r:Addr} {ys:List V} (hr:H r=some (.lst ys)) (g:But r H H'):∀ {d:Dt} {v:V},IsP K H d v->IsP K H' d v
 | _,_,.non=>.non
 | _,_,.bl=>.bl
 | _,_,.int=>.int
 | _,_,.str=>.str
 | _,_,.tup h p q=>.tup (by
   rcases ut hr h with n | n
   ·exact g.tup n h
   ·exact n _) (p.but hr g) (IsPs.but hr g q)
theorem IsPs.but {r:Addr} {ys:List V} (hr:H r=some (.lst ys)) (g:But r H H'):∀ {l:List Dt} {xs:List V},IsPs K H l xs->IsPs K H' l xs
 | _,_,.nil=>.nil
 | _,_,.cons h q=>.cons (IsP.but hr g h) (IsPs.but hr g q)
end
theorem IsPs.length {l:List Dt} {xs:List V} (h:IsPs K H l xs):l.length=xs.length:=h.d.length
theorem IsPs.get {l:List Dt} {xs:List V} (h:IsPs K H l xs) {i:Nat} {d:Dt} (e:l[i]?=some d):∃ x,xs[i]?=some x/\IsP K H d x:=by
 induction l generalizing xs i with
 | nil=>simp at e
 | cons c l ih =>
  cases h with
  | cons h r =>
   cases i with
   | zero=>simp at e;subst e;exact ⟨_,rfl,h⟩
   | succ i=>exact ih r (by simpa using e)
theorem IsPs.get' {l:List Dt} {xs:List V} (h:IsPs K H l xs) {i:Nat} {x:V} (e:xs[i]?=some x):∃ d,l[i]?=some d/\IsP K H d x:=by
 induction l generalizing xs i with
 | nil=>cases h;simp at e
 | cons c l ih =>
  cases h with
  | cons h r =>
   cases i with
   | zero=>simp at e;subst e;exact ⟨_,rfl,h⟩
   | succ i=>exact ih r (by simpa using e)
theorem IsPs.append {l m:List Dt} {xs ys:List V} (h:IsPs K H l xs) (h':IsPs K H m ys):IsPs K H (l++m) (xs++ys):=by
 induction l generalizing xs with
 | nil=>cases h;exact h'
 | cons d l ih=>cases h with | cons h r=>exact .cons h (ih r)
theorem IsPs.drop:∀ {l:List Dt} {xs:List V} (n:Nat),IsPs K H l xs->IsPs K H (l.drop n) (xs.drop n)
 | _,_,0,h=>h
 | _,_,_+1,.nil=>.nil
 | _,_,n+1,.cons _ r=>IsPs.drop n r
theorem IsPs.take:∀ {l:List Dt} {xs:List V} (n:Nat),IsPs K H l xs->IsPs K H (l.take n) (xs.take n)
 | _,_,0,_=>.nil
 | _,_,_+1,.nil=>.nil
 | _,_,n+1,.cons h r=>.cons h (IsPs.take n r)
theorem IsP.unref {l:List Dt} {v:V} (h:IsP K H (.tup l) v):∃ a xs,v=.ref a/\SqT K H a xs/\Pl H a/\IsPs K H l xs:=by
 cases h with
 | tup h p r=>exact ⟨_,_,rfl,h,p,r⟩
end
def plO (xs:List V) (us:List Value):HO:=.frz { cls:=.type "tuple",data:=.seq us.toArray } (.tup xs)
section
variable {X:Cx} {pins:List (Addr×Obj)} {σ:St} {H:Hp} {s:Shared}
theorem Inv.plain {xs:List V} {us:List Value} {t':Nat} (I:Inv X pins σ H s) (r:Vals xs us) (z:xs.length<=sizeLine) :
  Inv X pins σ (upd H s.heap.objs.size (plO xs us)) { s with heap:=s.heap.push { cls:=.type "tuple",data:=.seq us.toArray },toks:=t' }/\H s.heap.objs.size=none :=
 ⟨I.laid (t':=t') (λb ob q=>aAa _ q) (aAm _) ⟨aAh _ rfl,z,us,r,IsTup.new _ _⟩,I.hok.fresh (aAm _)⟩
theorem gq {p:Addr} {l:List Dt} {xs:List V} {us:List Value} (hf:H p=none) (d:IsPs X.K H l xs):Same H (upd H p (plO xs us))/\IsP X.K (upd H p (plO xs us)) (.tup l) (.ref p) :=
 ⟨ae hf _,.tup (.inl (.inr ⟨_,aa⟩)) ⟨_,_,aa,rfl⟩ (d.same (ae hf _))⟩
variable {e:Expr} {es:List Expr} {t:TA} {pos:Pos}
inductive ITup (K:W.Frag) (xs:List V) (H1:Hp) (Q:VK):Prop
 | mk (l:List Dt):(IsPs K H1 l xs)->(xs.length<=sizeLine)->(∀ v H',Same H1 H'->IsP K H' (.tup l) v->Q v H')->ITup K xs H1 Q
def qQ (K:W.Frag) (t:TA):TE:=λσ H Q=>t σ H λxs H1=>ITup K xs H1 Q
theorem wK {x1} (h:PA X es t):PE X (.Tuple es x1 pos) (qQ X.K t):=by
 intro pins s σ H Q I hq;refine wpAny_Tuple_spliced (thn (h pos pins s σ H _ I hq) λus s1 ⟨xs,H1,I1,r,l,d,z,q⟩=>⟨by rw [<- r.length];exact z,?_⟩);obtain ⟨I2,hf⟩:=I1.plain (t':=s1.toks) r z;obtain ⟨g,dp⟩:=gq (X:=X) (us:=us) hf d;exact ⟨.ref s1.heap.objs.size,_,I2,rfl,q _ _ g dp⟩
theorem nU:aP X (.type "tuple") (λxs H Q=>∃ p ys l,xs=[.ref p]/\SqL X.K H p ys/\IsPs X.K H l ys/\∀ v H',Same H H'->IsP X.K H' (.tup l) v->Q v H'):=by
 intro pins s σ H xs us Q I r h;obtain ⟨p,ys,l,rfl,hq,d,q⟩:=h;obtain ⟨u,rfl,rx⟩:=bE r
 cases rx
 obtain ⟨its,r',pl,hz⟩:=I.list hq;have hlen:=r'.length;refine call_tuple_list pl.isList (λh' kp=>?_) (by simp only [aAi] <;> lia);have I1:Inv X pins σ H { s with heap:=h' }:=I.kept (t':=s.toks) kp;obtain ⟨I2,hf⟩:=I1.plain (t':=s.toks) r' hz;obtain ⟨g,dp⟩:=gq (X:=X) (us:=its) hf d;exact ⟨.ref h'.objs.size,_,I2,rfl,q _ _ g dp⟩
theorem wL:OpR X (binaryOp .Add) (λx y H Q=>∃ l m,IsP X.K H (.tup l) x/\IsP X.K H (.tup m) y/\l.length+m.length<=sizeLine/\∀ v H',Same H H'->IsP X.K H' (.tup (l++m)) v->Q v H'):=by
 intro pins s σ H x y v u Q I rx ry h;obtain ⟨l,m,dx,dy,hz,q⟩:=h;obtain ⟨a,xs,rfl,ha,pa,ra⟩:=dx.unref;obtain ⟨b,ys,rfl,hb,pb,rb⟩:=dy.unref
 cases rx
 cases ry
 obtain ⟨its,r1,p1,_⟩:=I.tuple ha;obtain ⟨its2,r2,p2,_⟩:=I.tuple hb;have e1:=ra.length;have e2:=rb.length
 by_cases hx:xs=[]
 ·subst hx;have hi:its=[]:=r1.nil_iff.mpr rfl;subst hi;have hl:l=[]:=aBr.mp (by rw [e1];rfl);subst hl;exact HT.cat_nil p1 p2 ⟨.ref b,H,I,rfl,q _ H (Same.refl H) dy⟩
 ·refine HT.cat_tup p1 p2 (λz=>hx (r1.nil_iff.mp z)) (λz=>?_) (λz=>?_) (by rw [<- r1.length,<- r2.length,<- e1,<- e2];exact hz)
  ·have hy:=r2.nil_iff.mp z;subst hy;have hm:m=[]:=aBr.mp (by rw [e2];rfl);subst hm;exact ⟨.ref a,H,I,rfl,q _ H (Same.refl H) (by rw [aA9];exact dx)⟩
  ·obtain ⟨I2,hf⟩:=I.plain (t':=s.toks) (r1.append r2) (by rw [aAP,<- e1,<- e2];exact hz);obtain ⟨g,dp⟩:=gq (X:=X) (us:=its++its2) hf (ra.append rb);exact ⟨.ref s.heap.objs.size,_,I2,rfl,q _ _ g dp⟩
theorem wM:SlR X (λx lo hi H Q=>∃ l,IsP X.K H (.tup l) x/\∀ v H',Same H H'->IsP X.K H' (.tup (sC l lo hi)) v->Q v H'):=by
 intro pins s σ H x v vl vu lo hi sl Q I rx hs pl pu h;obtain ⟨l,dx,q⟩:=h;obtain ⟨a,xs,rfl,hx,pa,ra⟩:=id dx.unref
 cases rx
 have e1:=ra.length;obtain ⟨its,r,ht,hz⟩:=I.tuple hx;have hlen:its.toArray.size=xs.length:=by rw [aAi];exact r.length.symm
 refine ⟨"tuple",_,PyProof.Rows.slot_tuple_getitem.lookup,ht.typeIs,?_⟩
 by_cases hw:HT.sIx xs.length 0 lo=0/\HT.sIx xs.length xs.length hi=xs.length
 ·refine HT.getItem_tuple_all ht hs pl pu (by rw [hlen];exact hw.1) (by rw [hlen];exact hw.2) ⟨.ref a,H,I,rfl,q _ H (Same.refl H) ?_⟩;have e:sC l lo hi=l:=by
   unfold sC;rw [e1,hw.1,hw.2,List.drop_zero,Nat.sub_zero,<- e1,aAt]
  rw [e];exact dx
 ·refine HT.getItem_tuple_cut ht hs pl pu (by rw [hlen];exact hw) ?_ (by rw [hlen];exact hz);rw [hlen];obtain ⟨I2,hf⟩:=I.plain (t':=s.toks) ((r.drop (HT.sIx xs.length 0 lo)).take (HT.sIx xs.length xs.length hi - HT.sIx xs.length 0 lo)) (aAE (iw xs lo hi) hz);have d2:IsPs X.K H (sC l lo hi) (lC xs lo hi):=by
   unfold sC lC;rw [e1];exact (ra.drop _).take _
  obtain ⟨g,dp⟩:=gq (X:=X) (us:=(its.drop (HT.sIx xs.length 0 lo)).take (HT.sIx xs.length xs.length hi - HT.sIx xs.length 0 lo)) hf d2;exact ⟨.ref s.heap.objs.size,_,I2,rfl,q _ _ g dp⟩
theorem wN:IxR X (λx y H Q=>∃ l i d,IsP X.K H (.tup l) x/\y=.int i/\atI l i=some d/\∀ v,IsP X.K H d v->Q v H):=by
 intro value slice pins s σ H x y v u Q I rx ry h hs;obtain ⟨l,i,d,dx,rfl,ha,q⟩:=h;obtain ⟨a,xs,rfl,hx,pa,ra⟩:=id dx.unref;obtain ⟨j,hj,hd,_⟩:=lE ha;have e1:=ra.length;obtain ⟨w',hw,dw⟩:=ra.get hd;have hat:atI xs i=some w':=by
  unfold atI at ha ⊢;rw [<- e1]
  cases z:ixN l.length i with
  | none=>rw [z] at ha;cases ha
  | some j' =>
   rw [z] at ha;have ha':l[j']?=some d:=ha;obtain ⟨w2,hw2,dw2⟩:=ra.get ha';have z2:=lD z;rw [hj] at z2;have:j=j':=Option.some.inj z2.1;subst this;exact hw
 exact yN value slice pins s σ H (.ref a) (.int i) v u Q I rx ry ⟨a,xs,i,w',rfl,rfl,hx,hat,q w' dw⟩ hs
theorem wO:OpR X (binaryOp .Mult) (rI IntMulOk λi j=>.int (i*j)):=opI λ_ _ _ _ _ _ _ hc q=>mul_int q hc
end
def aq (fs:List (Str×Dt)) (z:Str):Option Dt:=(fs.find? λp=>decide (p.1=z)).map (·.2)
abbrev prD (p:Str×Dt):Dt:=.tup [.str p.1,p.2]
def BF (K:W.Frag) (H:Hp) (p:Addr) (fs:List (Str×Dt)):Prop :=
 ∃ kvs,H p=some (.dK kvs)/\∀ z,(aq fs z=none->aH kvs (Sum.inr z:Key)=none)/\∀ d,aq fs z=some d->∃ v,aH kvs (Sum.inr z:Key)=some v/\IsP K H d v
section
variable {X:Cx} {pins:List (Addr×Obj)} {σ:St} {H:Hp} {s:Shared}
theorem uz (I:Inv X pins σ H s):∀ {fs:List (Str×Dt)} {xs:List V} {its:List Value},IsPs X.K H (fs.map prD) xs->Vals xs its ->
  ∃ (kvs:List (Key×V)) (vs:List (Key×Value)),KV kvs vs/\kvs.map (·.1)=fs.map (λp=>Sum.inr p.1)/\kvs.length=fs.length /\
   (∀ z,(aq fs z=none->aH kvs (Sum.inr z:Key)=none)/\∀ d,aq fs z=some d->∃ v,aH kvs (Sum.inr z:Key)=some v/\IsP X.K H d v) /\
   its.length=vs.length/\∀ (i:Nat) (kv:Key×Value),vs[i]?=some kv->∃ (a:Addr) (key:Value),its[i]?=some (.ref a)/\s.heap.IsTuple a #[key,kv.2]/\(aj X.prog X.w).is kv.1 key=true:=by
 intro fs
 induction fs with
 | nil =>
  intro xs its h r
  cases h
  cases r
  exact ⟨[],[],.nil,rfl,rfl,λz=>⟨λ_=>rfl,λd q=>by cases q⟩,rfl,λi kv q=>by simp at q⟩
 | cons f fs ih =>
  intro xs its h r
  cases h with
  | cons h1 h2 =>
   cases r with
   | cons r1 r2 =>
    obtain ⟨kvs,vs,e1,e2,e3,e4,e5,e6⟩:=ih h2 r2;obtain ⟨a,ys,rfl,ha,pa,ra⟩:=h1.unref
    cases r1
    obtain ⟨its',r',p',_⟩:=I.tuple ha
    cases ra with
    | cons d1 ra =>
     cases ra with
     | @cons _ _ v _ d2 ra =>
      cases ra
      cases d1
      cases r' with
      | cons q1 r' =>
       cases r' with
       | @cons _ u _ _ q2 r' =>
        cases r'
        obtain ⟨tk,rfl⟩:=q1;refine ⟨(Sum.inr f.1,v) :: kvs,(Sum.inr f.1,u) :: vs,.cons ⟨rfl,q2⟩ e1,by simp [e2],by simp [e3],λz=>?_,by simp [e5],λi kv q=>?_⟩
        ·by_cases hz:f.1=z
         ·subst hz;have l1:aq (f :: fs) f.1=some f.2:=by simp [aq]
          have l2:aH ((Sum.inr f.1,v) :: kvs) (Sum.inr f.1:Key)=some v:=by simp [aH]
          exact ⟨λq=>(by rw [l1] at q;cases q),λd q=>(by rw [l1] at q;cases q;exact ⟨v,l2,d2⟩)⟩
         ·have l1:aq (f :: fs) z=aq fs z:=by simp [aq,hz]
          have l2:aH ((Sum.inr f.1,v) :: kvs) (Sum.inr z:Key)=aH kvs (Sum.inr z:Key):=by simp [aH,hz]
          rw [l1,l2];exact e4 z
        ·cases i with
         | zero =>
          simp at q;subst q;exact ⟨a,_,rfl,p',iz (k:=Sum.inr f.1) ⟨tk,rfl⟩⟩
         | succ i=>exact e6 i kv (by simpa using q)
end
end L2
namespace PySem
open Sem (wp)
open Builtin
section
variable {prog:Program} {w:World} {A:Around} {E:Value->Shared->Prop} {s:Shared}
end
end PySem
namespace L2
open PySem PySem.Spec PyProof.Rows
section
variable {X:Cx}
def uA (lo c:Int) (n:Nat):It:=⟨λi _=>i < n,λi H x H'=>H'=H/\x=.int (lo+i*c),λi _=>n<=i⟩
theorem nV {P:Program} {w:World} {K:W.Frag} {tg:Expr} (it:Addr) (lo c:Int) (n:Nat):Turn P w K tg (uA lo c n) [it] it (λi h=>IsRangeIter h it (lo+(i:Nat)*c) ((n:Int) - (i:Nat)) c) where
 mem:=by simp
 obj:=λi h st b hb=>by
  have e:b=it:=by simpa using hb
  subst e;exact ⟨_,st,λv z=>by
   have z':Data.fields _=Data.cell v:=z
   cases z'⟩
 keep:=λi h h' st k=>k it (by simp) _ st
 item:=by
  intro X hP hw hK hc i pins s σ H E I hf st hg;subst hP hw hK;obtain ⟨f0,f1,f2,f3,f4,f5⟩:=hf it (by simp);have W:=Walks.range (prog:=X.prog) (w:=X.w) (I.ok.hd hc) it lo c n;refine W.item i s _ _ hg st λv h' tk hv st' kk=>?_;obtain ⟨t,rfl⟩:=hv;have I1:Inv X pins σ H { s with heap:=h',toks:=tk }:=I.turned (λb o hb e=>kk b o (by simpa using hb) e) f0 f1 f3 f4 f5;exact ⟨_,rfl,nr (s:={ s with heap:=h',toks:=tk }) (n:= "range_iterator") st' rfl rfl (by decide) ⟨.int (lo+i*c),H,I1,⟨t,rfl⟩,⟨rfl,rfl⟩,st',λb hb=>(hf b hb).1⟩⟩
 done:=by
  intro X hP hw hK hc i pins s σ H E I hf st hg;subst hP hw hK;obtain ⟨f0,f1,f2,f3,f4,f5⟩:=hf it (by simp);exact wpAny_pyNext_range_end (I.ok.hd hc) st (by have:n<=i:=hg;lia) λh' eb=>⟨rfl,I.turned (t':=s.toks) (λb o hb e=>eb b o hb e) f0 f1 f3 f4 f5⟩
 self:=λ_ _ _ _ _ st h=>wpAny_pyIter_rangeiter st h
def rngN (a b c:Int):Nat:=(Builtin.Range.rangeSize a b c).toNat
theorem wP {a b c:Int} (hc:0 < c) {i:Nat} (h:i < rngN a b c):a+i*c < b:=by
 unfold rngN Builtin.Range.rangeSize at h;rw [if_pos (show c > 0 from hc)] at h
 by_cases hab:a < b
 ·rw [if_pos hab] at h;have h1:(0:Int)<=(b - a - 1) / c:=Int.ediv_nonneg (by lia) (by lia);have h2:(i:Int)<=(b - a - 1) / c:=by lia
  have h3:(i:Int)*c<=b - a - 1:=Int.le_trans (Int.mul_le_mul_of_nonneg_right h2 (by lia)) (Int.ediv_mul_le _ (by lia));lia
 ·rw [if_neg hab] at h;simp at h
theorem qR {a b c:Int} (hc:0 < c):(rngN a b c:Int)<=if a < b then b - a else 0:=by
 unfold rngN Builtin.Range.rangeSize;rw [if_pos (show c > 0 from hc)]
 by_cases hab:a < b
 ·rw [if_pos hab,if_pos hab];have h1:(0:Int)<=(b - a - 1) / c:=Int.ediv_nonneg (by lia) (by lia);have h2:(b - a - 1) / c<=b - a - 1:=Int.ediv_le_self _ (by lia);lia
 ·rw [if_neg hab,if_neg hab];simp
variable {tg:Expr}
def AB (ta:TA):TI:=λσ H R=>ta σ H λvs H1=>∃ i j c:Int,vs=[.int i,.int j,.int c]/\(0<=i/\i < 2 ^ 62/\0<=j/\j < 2 ^ 62/\0 < c/\c < 1073741824)/\R (uA i c (rngN i j c)) H1
theorem sG {a b c:Expr} {ta:TA} {p pos:Pos} (hg:Gl X "range") (hm:X.mg "range" = none) (ha:PA X [a,b,c] ta) (hs:starEach [a,b,c] X.env=[(false,eval a X.env),(false,eval b X.env),(false,eval c X.env)]:=by rfl) (hs2:starEach [b,c] X.env=[(false,eval b X.env),(false,eval c X.env)]:=by rfl) :
  PI X tg (.Call (.Name "range" p) [a,b,c] [] pos) (AB ta):=by
 intro pins s σ H R I h;refine Call_ (cH I hg hm boot_range (PyProof.Rows.callWith_type1 (thn (ha pos pins s σ H _ I h) λus s1 ⟨vs,H1,I1,r1,q1⟩=>?_) (by rw [hs,hs2]) (by rw [hs2];rfl)));obtain ⟨i,j,c,e,⟨q1,q2,q3,q4,q5,q6⟩,q⟩:=q1;subst e
 cases r1 with
 | cons r rr =>
  cases rr with
  | cons r' rr =>
   cases rr with
   | cons r'' rr =>
    cases rr
    obtain ⟨t,rfl⟩:=r;obtain ⟨t',rfl⟩:=r';obtain ⟨t'',rfl⟩:=r'';have hn0:=qR (a:=i) (b:=j) q5;have hsz:Builtin.Range.rangeSize i j c=((rngN i j c:Nat):Int):=rangeSize_toNat i j c;have hn:(rngN i j c:Int) < 2 ^ 62:=by
     split at hn0 <;> lia
    refine call_range_3 (by lia) ?_ (.inl (PyProof.noPylong_small (by lia)));have sm:Builtin.Range.small i j c=true:=by
     unfold Builtin.Range.small Builtin.Range.rangeFitsLong;rw [hsz,if_pos (show c > 0 from q5)];simp only [aAA,aBZ,decide_eq_true_eq,beq_iff_eq];refine ⟨⟨⟨⟨⟨?_,?_⟩,?_,?_⟩,?_,?_⟩,?_,?_⟩,.inr ⟨?_,?_⟩⟩ <;> lia
    refine wpAny_pyIter_range (IsRange.new ..) sm ?_;have I2:Inv X pins σ H1 { s1 with heap:=s1.heap.push { cls:=.type "range",data:=.fields #[.int i t,.int j t',.int c t''] } }:=I1.kept (t':=s1.toks) λb o e=>aAa _ e;refine ⟨(s1.heap.push { cls:=.type "range",data:=.fields #[.int i t,.int j t',.int c t''] }).objs.size,[(s1.heap.push { cls:=.type "range",data:=.fields #[.int i t,.int j t',.int c t''] }).objs.size],_,_,H1,rfl,
     I2.kept (t':=s1.toks) λb o e=>aAa _ e,nV _ i c (rngN i j c),?_,λb hb=>?_,q⟩
    ·have e1:i+((0:Nat):Int)*c=i:=by simp
     have e2:((rngN i j c:Nat):Int) - ((0:Nat):Int)=Builtin.Range.rangeSize i j c:=by rw [hsz];simp
     show IsRangeIter _ _ (i+((0:Nat):Int)*c) (((rngN i j c:Nat):Int) - ((0:Nat):Int)) c;rw [e1,e2];exact aAh _ rfl
    ·have e:b=(s1.heap.push { cls:=.type "range",data:=.fields #[.int i t,.int j t',.int c t''] }).objs.size:=by simpa using hb
     subst e;exact I2.fpOk (aAm _) (I2.hok.fresh (aAm _))
end
theorem passF {P:Program} {w:World} {X:Cx}:lB (CXE P w) X (λ_ _ _=>False):=by
 intro pins σ H s e s' I h;obtain ⟨_,_,_,_,_,_,_,_,_,_,_,_,_,q⟩:=h;exact q.elim
theorem u1 {A:Around} (h:A.units+64 < cLine):A.units+1 < cLine:=by lia
theorem gr {P:Program} {w:World} {K:W.Frag} {mg:Str->Option Value} {base:Heap} {CX:CXT} {k:Nat} {f:Addr} {fd:FuncData} {ps:List Str} {sp:Sp} (h:∀ vs H Q E,¬ sp vs H Q E):FnOk P w K mg base CX k f fd ps sp :=
 ⟨λvs H Q E z=>(h vs H Q E z).elim,λA outer s H args us vs Q E hr e0 hb r z=>(h vs H Q E z).elim⟩
theorem wQ {a:Int} {m:Nat} (h0:0<=a) (h:a < 2 ^ m):Builtin.Int.intBits a<=m:=by
 refine intBits_le_iff.mpr ?_;have e:((a.natAbs:Nat):Int)=a:=Int.natAbs_of_nonneg h0;have h':((a.natAbs:Nat):Int) < ((2 ^ m:Nat):Int):=by rw [e];simpa using h
 exact Int.ofNat_lt.mp h'
section
variable {X:Cx}
theorem nW:OpR X (binaryOp .FloorDiv) (rI (λ_ j=>0 < j/\j < 10000000000000000000000000000000000000000000000000000000000000) λi j=>.int (i / j)):=opI λi j _ _ _ _ _ hc q=>by
 have h1:(0:Int) < j:=hc.1;have h2:j < 10000000000000000000000000000000000000000000000000000000000000:=hc.2;refine floordiv_int (by lia) (by rw [Int.fdiv_eq_ediv_of_nonneg i (by lia)];exact q) (.inl (PyProof.noPylong_of_log2 ?_));have h3:j.natAbs < 2 ^ 9000:=aAn (show j.natAbs < 10000000000000000000000000000000000000000000000000000000000000 by lia) (by decide +kernel);exact (Nat.log2_lt (by lia)).mpr h3
inductive ICatS (K:W.Frag) (x y:V) (H:Hp) (Q:VK):Prop
 | mk (l b:Addr) (xs zs:List V):(x=.ref l)->(y=.ref b)->(SqL K H l xs)->(SqL K H b zs)->(xs.length+zs.length<=sizeLine)->(∀ p,H p=none->Q (.ref p) (upd H p (.lst (xs++zs))))->ICatS K x y H Q
def ym (K:W.Frag):R2:=λx y H Q=>ICatS K x y H Q
theorem wR:OpR X (binaryOp .Add) (ym X.K):=by
 intro pins s σ H x y v u Q I rx ry h;obtain ⟨l,b,xs,zs,rfl,rfl,hH,hB,hz,q⟩:=h
 cases rx
 cases ry
 obtain ⟨its,r,pl,z⟩:=I.list hH;obtain ⟨its2,r2,pl2,z2⟩:=I.list hB;obtain ⟨⟨cls,dd,data,sl⟩,ho,hc,n,hd⟩:=pl.isList;obtain ⟨⟨cls2,dd2,data2,sl2⟩,ho2,hc2,n2,hd2⟩:=pl2.isList;simp only at hc hd hc2 hd2;subst hc hd hc2 hd2;have l1:=r.length;have l2:=r2.length;have ea:its.toArray++its2.toArray=(its++its2).toArray:=by simp
 refine concat_meets ⟨_,ho,rfl⟩ ⟨_,ho2,rfl⟩ noFill_list_add seq_list_add PySem.F.slot_list_add PySem.F.entry_list_add (PySem.F.args_list_add_2 _ _) (list_addW l b its.toArray its2.toArray n n2 dd dd2 sl sl2 (by simp only [aAi];lia)) ⟨ho,ho2,?_⟩;rw [ea];exact ⟨.ref _,_,I.lnew (t':=s.toks) (r.append r2) (by rw [aAP];lia),rfl,q _ I.fresh⟩
end
open PySem.NumText
def dg (m:Nat):List Nat:=(Nat.toDigits 10 m).map Char.toNat
def y8 (n:Int):List Nat:=if n < 0 then 45 :: dg n.natAbs else dg n.natAbs
theorem str_int (n:Int):(Str.ofString (toString n)).cps.toList=y8 n:=by
 rw [signs_ofString]
 cases n with
 | ofNat m =>
  have:¬ (Int.ofNat m < 0):=by simp
  unfold y8;rw [if_neg this];show (Nat.repr m).toList.map Char.toNat=_;rw [Nat.toList_repr]
  rfl
 | negSucc m =>
  have:Int.negSucc m < 0:=Int.negSucc_lt_zero m;unfold y8;rw [if_pos this];show ("-" ++Nat.repr (m+1)).toList.map Char.toNat=_;rw [String.toList_append,aAy,Nat.toList_repr]
  rfl
end L2
namespace L2
open PySem PySem.Spec PyProof.Rows
section
variable {X:Cx} {pins:List (Addr×Obj)} {σ:St} {H:Hp} {s:Shared} {h':Heap}
theorem Inv.turnedT {t':Nat} {wr:List Addr} {T:Addr} {o:HO} (I:Inv X pins σ H s) (k:∀ b u,b∉wr->s.heap.get? b=some u->h'.get? b=some u) (f:∀ b∈wr,dQ X pins H b)
  (hT:s.heap.objs.size<=T) (new:ObjOk X.prog X.w (upd H T o) h' T o):Inv X pins σ (upd H T o) { s with heap:=h',toks:=t' }:=by
 have nT:∀ b u,s.heap.get? b=some u->b≠T:=λb u e z=>absurd (aAn (aAe e) (z ▸ hT)) (aAM _);have nH:∀ b u,H b=some u->b≠T:=λb u e z=>absurd (aAn (I.hok.lt e) (z ▸ hT)) (aAM _);have nw:∀ b u,H b=some u->b∉wr:=λb u e z=>by rw [(f b z).1] at e;cases e
 refine I.step (g':=s.gens) (d':=s.drawn) (ch:=wr) (λb hb=>?_) (λb u _ _ hc e _=>k b u hc e) (λb u _ _ hc e _=>⟨u.slots,k b u hc e⟩) (λb u _ e n=>by rw [ao (nT b u e)];exact n)
  (λb u hc e=>⟨u,k b u hc e⟩) (λb xs e=>by rw [ao (nH b _ e)];exact e) (λb u v e=>by rw [ao (nH b _ e)];exact e) (λb ps e=>⟨#[],by rw [ao (nH b _ e),e];simp⟩) (λm hm=>?_) (λb u e=>?_) I.bare
 ·obtain ⟨f0,f1,f2,f3,f4,f5⟩:=f b hb;exact ⟨f3,f1,f4,f5⟩
 ·obtain ⟨u,es,ep,ho,r⟩:=hm;exact ⟨u,es,ep,k _ u (λz=>(f _ z).2.1 rfl) ho,r⟩
 ·by_cases hb:b=T
  ·subst hb;rw [aa] at e
   cases e
   exact new
  ·rw [ao hb] at e;refine (I.hok b u e).stay (λc v hc q=>k c v ?_ q) (λc q=>?_) λc xs q=>by rw [ao (nH c _ q)];exact q
   ·rcases hc with z | z
    ·rw [z];exact nw b u e
    ·exact nw c _ z
   ·rw [ao (nH c _ q)];exact q
theorem Inv.turnedL {t':Nat} {wr:List Addr} (I:Inv X pins σ H s) (k:∀ b u,b∉wr->s.heap.get? b=some u->h'.get? b=some u) (f:∀ b∈wr,dQ X pins H b):Inv X pins σ H { s with heap:=h',toks:=t' }:=by
 have nw:∀ b u,H b=some u->b∉wr:=λb u e z=>by rw [(f b z).1] at e;cases e
 refine I.step (g':=s.gens) (d':=s.drawn) (ch:=wr) (λb hb=>?_) (λb u _ _ hc e _=>k b u hc e) (λb u _ _ hc e _=>⟨u.slots,k b u hc e⟩) (λ_ _ _ _ n=>n)
  (λb u hc e=>⟨u,k b u hc e⟩) (λ_ _ e=>e) (λ_ _ _ e=>e) (λb ps e=>⟨#[],by rw [e];simp⟩) (λm hm=>?_) (λb u e=>?_) I.bare
 ·obtain ⟨f0,f1,f2,f3,f4,f5⟩:=f b hb;exact ⟨f3,f1,f4,f5⟩
 ·obtain ⟨u,es,ep,ho,r⟩:=hm;exact ⟨u,es,ep,k _ u (λz=>(f _ z).2.1 rfl) ho,r⟩
 ·refine (I.hok b u e).stay (λc v hc q=>k c v ?_ q) (λ_ q=>q) λ_ _ q=>q;rcases hc with z | z
  ·rw [z];exact nw b u e
  ·exact nw c _ z
end
def Itz (K:W.Frag) (a b:Addr):It :=
 ⟨λi H=>∃ xs ys x y,SqL K H a xs/\SqL K H b ys/\xs[i]?=some x/\ys[i]?=some y,
  λi H v H'=>∃ T x y,v=.ref T/\H T=none/\H'=upd H T (.tup [x,y])/\(∀ xs,SqL K H a xs->xs[i]?=some x)/\(∀ ys,SqL K H b ys->ys[i]?=some y),
  λi H=>∃ xs ys,SqL K H a xs/\SqL K H b ys/\min xs.length ys.length=i⟩
def AC (z TI TO i1 i2 l1 l2:Addr) (i:Nat) (h:Heap):Prop:=IsZip h z TI TO .none/\IsPair h TI (.ref i1) (.ref i2)/\(∃ a b,IsPair h TO a b)/\h.IsListIter i1 l1 i/\h.IsListIter i2 l2 i
theorem uB {P:Program} {w:World} {K:W.Frag} {elts:List Expr} {k:Nat} {pos:Pos} (z TI TO i1 i2 l1 l2:Addr) (D:ZipApart z TI TO i1 i2 l1 l2) :
  Turn P w K (.Tuple elts k pos) (Itz K l1 l2) [z,TI,TO,i1,i2] z (AC z TI TO i1 i2 l1 l2) where
 mem:=by simp
 obj:=λi h st b hb=>by
  obtain ⟨hz,hTI,⟨a,c,hTO⟩,⟨o1,e1,c1,d1⟩,⟨o2,e2,c2,d2⟩⟩:=st;simp only [aAf,aAl,or_false] at hb;rcases hb with rfl | rfl | rfl | rfl | rfl
  ·exact ⟨_,hz,λv q=>by cases q⟩
  ·exact ⟨_,hTI,λv q=>by cases q⟩
  ·exact ⟨_,hTO,λv q=>by cases q⟩
  ·exact ⟨o1,e1,λv q=>by rw [d1] at q;cases q⟩
  ·exact ⟨o2,e2,λv q=>by rw [d2] at q;cases q⟩
 keep:=λi h h' st kk=>by
  obtain ⟨hz,hTI,⟨a,c,hTO⟩,h1,h2⟩:=st;exact ⟨kk z (by simp) _ hz,kk TI (by simp) _ hTI,⟨a,c,kk TO (by simp) _ hTO⟩,h1.at λo e=>kk i1 (by simp) o e,h2.at λo e=>kk i2 (by simp) o e⟩
 item:=by
  intro X hP hw hK hc i pins s σ H E I hf st hg;subst hP hw hK;obtain ⟨xs,ys,x,y,hx,hy,ex,ey⟩:=hg;obtain ⟨its,rv,p,hz⟩:=I.list hx;obtain ⟨its2,rv2,p2,hz2⟩:=I.list hy;obtain ⟨s1,s2,s3,s4,s5⟩:=st;have W:=WalksT.zip2 (prog:=X.prog) (w:=X.w) (I.ok.hd hc) z TI TO i1 i2 l1 l2 D its.toArray its2.toArray;have li:i < xs.length:=(aAg.mp ex).1;have li2:i < ys.length:=(aAg.mp ey).1;have el:=rv.length;have el2:=rv2.length;have wsub:∀ b∈[z,TO,i1,i2],b∈[z,TI,TO,i1,i2]:=λb hb=>by
   simp only [aAf,aAl,or_false] at hb ⊢;rcases hb with rfl | rfl | rfl | rfl <;> simp
  refine W.item i s _ _ (by simp only [aAi];lia) ⟨s1,s2,s3,s4,s5,p.isList,p2.isList⟩ λT vals h' tk hv hT hTup hm hk=>?_;obtain ⟨u,v,eu,ev,rfl⟩:=hv;obtain ⟨u',eu',ru⟩:=rv.get ex;obtain ⟨v',ev',rv'⟩:=rv2.get ey;have e1:u=u':=by
   have:its[i]?=some u:=by simpa using eu
   rw [eu'] at this;exact (Option.some.inj this).symm
  have e2:v=v':=by
   have:its2[i]?=some v:=by simpa using ev
   rw [ev'] at this;exact (Option.some.inj this).symm
  subst e1 e2;have hTn:H T=none:=I.hok.fresh hT;have I1:Inv X pins σ (upd H T (.tup [x,y])) { s with heap:=h',toks:=tk }:=I.turnedT hk (λb hb=>hf b (wsub b hb)) hT ⟨by show 2<=sizeLine;decide,[u,v],.cons ru (.cons rv' .nil),hTup⟩;have ap:=W.apart i T h' hm;have f1:∀ b∈[z,TO,i1,i2],dQ X pins (upd H T (.tup [x,y])) b:=λb hb=>by
   obtain ⟨f0,f1⟩:=hf b (wsub b hb);exact ⟨by rw [ao (λe:b=T=>ap (by rw [<- e];exact hb))];exact f0,f1⟩
  refine ⟨_,rfl,W.go elts k pos i T _ _ _ hm λh'' st2 hk2=>?_⟩;obtain ⟨t1,t2,t3,t4,t5,_,_⟩:=st2;refine ⟨.ref T,_,Inv.turnedL (s:={ s with heap:=h',toks:=tk }) (t':=tk) I1 hk2 f1,rfl,⟨T,x,y,rfl,hTn,rfl,λzs q=>by rw [I.list_inj q hx];exact ex,λzs q=>by rw [I.list_inj q hy];exact ey⟩,⟨t1,t2,t3,t4,t5⟩,λb hb=>?_⟩;have fb:=(hf b hb).1
  by_cases e:b=T
  ·subst e;have lti:s.heap.objs.size > TI:=aAe s2;simp only [aAf,aAl,or_false] at hb;rcases hb with rfl | rfl | rfl | rfl | rfl
   ·exact absurd (by simp) ap
   ·exact absurd lti (aBP.mpr hT)
   ·exact absurd (by simp) ap
   ·exact absurd (by simp) ap
   ·exact absurd (by simp) ap
  ·rw [ao e];exact fb
 done:=by
  intro X hP hw hK hc i pins s σ H E I hf st hg;subst hP hw hK;obtain ⟨xs,ys,hx,hy,hi⟩:=hg;obtain ⟨its,rv,p,hz⟩:=I.list hx;obtain ⟨its2,rv2,p2,hz2⟩:=I.list hy;obtain ⟨s1,s2,s3,s4,s5⟩:=st;have W:=WalksT.zip2 (prog:=X.prog) (w:=X.w) (I.ok.hd hc) z TI TO i1 i2 l1 l2 D its.toArray its2.toArray;have el:=rv.length;have el2:=rv2.length;have en:min its.toArray.size its2.toArray.size=i:=by simp only [aAi];lia
  have wsub:∀ b∈[z,TO,i1,i2],b∈[z,TI,TO,i1,i2]:=λb hb=>by
   simp only [aAf,aAl,or_false] at hb ⊢;rcases hb with rfl | rfl | rfl | rfl <;> simp
  refine W.done s _ _ ?_ λh' tk hk=>⟨rfl,I.turnedL hk λb hb=>hf b (wsub b hb)⟩;rw [en];exact ⟨s1,s2,s3,s4,s5,p.isList,p2.isList⟩
 self:=λ_ _ _ _ _ st h=>wpAny_pyIter_zip st.1 h
section
variable {X:Cx} {elts:List Expr} {k:Nat} {tpos:Pos}
def BG (K:W.Frag) (ta:TA):TI:=λσ H R=>ta σ H λvs H1=>∃ a b,vs=[.ref a,.ref b]/\(∃ xs,SqL K H1 a xs)/\(∃ ys,SqL K H1 b ys)/\R (Itz K a b) H1
theorem y9 {a b:Expr} {ta:TA} {p pos:Pos} (hg:Gl X "zip") (hm:X.mg "zip" = none) (ha:PA X [a,b] ta) (hs:starEach [a,b] X.env=[(false,eval a X.env),(false,eval b X.env)]:=by rfl) (hs2:starEach [b] X.env=[(false,eval b X.env)]:=by rfl) :
  PI X (.Tuple elts k tpos) (.Call (.Name "zip" p) [a,b] [] pos) (BG X.K ta):=by
 intro pins s σ H R I h;refine Call_ (cH I hg hm boot_zip (PyProof.Rows.callWith_type1 (thn (ha pos pins s σ H _ I h) λus s1 ⟨vs,H1,I1,r1,q1⟩=>?_) (by rw [hs,hs2]) (by rw [hs2];rfl)));obtain ⟨l1,l2,e,⟨xs,hx⟩,⟨ys,hy⟩,q⟩:=q1;subst e;obtain ⟨u,v,rfl,ru,rv⟩:=r1.two
 cases ru
 cases rv
 obtain ⟨its,rr,pl,hz⟩:=I1.list hx;obtain ⟨its2,rr2,pl2,hz2⟩:=I1.list hy;have lt1:l1 < s1.heap.objs.size:=by obtain ⟨o,e,_⟩:=pl.isList;exact aAe e
 have lt2:l2 < s1.heap.objs.size:=by obtain ⟨o,e,_⟩:=pl2.isList;exact aAe e
 refine call_zip_2 pl.isList pl2.isList λh' z1 z2 z3 z4 z5 zs kk=>?_;have I2:Inv X pins σ H1 { s1 with heap:=h' }:=I1.kept (t':=s1.toks) kk;refine wpAny_pyIter_zip z1 ?_;refine ⟨_,_,_,_,H1,rfl,I2,uB _ _ _ _ _ l1 l2 ?_,⟨z1,z2,⟨_,_,z3⟩,z4,z5⟩,λb hb=>?_,q⟩
 ·have lt1':s1.heap.objs.size > l1:=lt1;have lt2':s1.heap.objs.size > l2:=lt2
  constructor <;> (show ¬ (@Eq Nat _ _)) <;> lia
 ·have:s1.heap.objs.size<=b:=by
   simp only [aAf,aAl,or_false] at hb;rcases hb with rfl | rfl | rfl | rfl | rfl <;> lia
  exact I1.fpOk this (I1.hok.fresh this)
end
theorem uC {K:W.Frag} {a b l:Addr} {xs ys:List V} {g:TG} {tb:List V->Addr->St->Hp->(List V->St->Hp->Prop)->Prop} {Q:VK} {σ0:St} {H0:Hp} (Pv:Nat->List V->St->Hp->Prop) (h0:Pv 0 [] σ0 H0)
  (hla:∀ i us σ H,Pv i us σ H->SqL K H a xs/\SqL K H b ys)
  (hs:∀ i x y T us σ H (N:List V->St->Hp->Prop),xs[i]?=some x->ys[i]?=some y->H T=none->Pv i us σ H->(∀ us' σ' H',Pv (i+1) us' σ' H'->N us' σ' H')->g (.ref T) σ (upd H T (.tup [x,y])) λσ2 H2=>tb us l σ2 H2 N)
  (hd:∀ us σ H,Pv (min xs.length ys.length) us σ H->Q (.ref l) H) :
  ∃ W:Nat->Nat->List V->St->Hp->Prop,(∃ m,W 0 m [] σ0 H0)/\∀ i m us σ' H',W i m us σ' H'->((Itz K a b).stop i H'/\Q (.ref l) H') \/
   ((Itz K a b).go i H'/\∀ x H'',(Itz K a b).yld i H' x H''->g x σ' H'' λσ2 H2=>tb us l σ2 H2 λus' σ3 H3=>∃ m',m' < m/\W (i+1) m' us' σ3 H3):=by
 refine ⟨λi m us σ H=>m=min xs.length ys.length - i/\i<=min xs.length ys.length/\Pv i us σ H,⟨_,rfl,aAB _,h0⟩,?_⟩;rintro i m us σ H ⟨rfl,hi,p⟩;obtain ⟨sa,sb⟩:=hla i us σ H p
 by_cases hlt:i < min xs.length ys.length
 ·obtain ⟨x,ex⟩:∃ x,xs[i]?=some x:=⟨_,aAj (by lia)⟩;obtain ⟨y,ey⟩:∃ y,ys[i]?=some y:=⟨_,aAj (by lia)⟩;refine .inr ⟨⟨xs,ys,x,y,sa,sb,ex,ey⟩,λv H' q=>?_⟩;obtain ⟨T,x',y',rfl,hT,rfl,q1,q2⟩:=q;have e1:=q1 xs sa;have e2:=q2 ys sb;exact hs i x' y' T us σ H _ e1 e2 hT p λus' σ' H' w=>⟨_,by lia,rfl,hlt,w⟩
 ·have e:i=min xs.length ys.length:=by lia
  subst e;exact .inl ⟨⟨xs,ys,sa,sb,rfl⟩,hd us σ H p⟩
def met:List Key->List Key
 | []=>[]
 | k :: r=>if r.any (λj=>decide (j=k)) then met r else k :: met r
theorem lP (k:Key):∀ l:List Key,(met l).any (λj=>decide (j=k))=l.any (λj=>decide (j=k))
 | []=>rfl
 | a :: r=>by
  unfold met
  split
  ·rename_i h
   rw [lP k r,aAX]
   by_cases e:a=k
   ·subst e;rw [h];simp
   ·simp [e]
  ·rw [aAX,aAX,lP k r]
theorem uD:∀ l:List Key,(met l).length<=l.length
 | []=>aAm _
 | a :: r=>by
  unfold met;have:=uD r
  split
  ·rw [aAx];lia
  ·rw [aAx,aAx];lia
theorem qS:∀ {l:List Key},l.Nodup->(met l).length=l.length
 | [],_=>rfl
 | a :: r,h=>by
  obtain ⟨h1,h2⟩:=aAR.mp h;unfold met;rw [if_neg,aAx,aAx,qS h2];intro z;obtain ⟨b,hb,e⟩:=List.any_eq_true.mp z;exact h1 (of_decide_eq_true e ▸ hb)
abbrev gZ (ks:List Key) (i:Nat):List Key:=met (ks.take i).reverse
theorem kM {ks:List Key} {i:Nat} {k:Key} (h:ks[i]?=some k):gZ ks (i+1)=if (gZ ks i).any (λj=>decide (j=k)) then gZ ks i else k :: gZ ks i:=by
 have e:(ks.take (i+1)).reverse=k :: (ks.take i).reverse:=by rw [aAw,h];simp
 show met (ks.take (i+1)).reverse=_;rw [e];show (if (ks.take i).reverse.any (λj=>decide (j=k)) then met (ks.take i).reverse else k :: met (ks.take i).reverse)=_;rw [<- lP k (ks.take i).reverse]
theorem wS (ks:List Key) (i:Nat):(gZ ks i).length<=i:=by
 have h:=uD (ks.take i).reverse;rw [List.length_reverse,aAp] at h;show (met (ks.take i).reverse).length<=i;lia
section
variable {P:Program} {w:World} {A:Around} {R:Result->Shared->Prop} {it:Addr} {fp wr:List Addr} {G:Array GenState->Array GenState->Prop} {n:Nat} {Pt:Nat->Value->Prop} {St:Nat->Shared->Prop}
abbrev SetK (P:Program) (w:World) (h:Heap) (a:Addr) (l:List Key):Prop:=h.SetOf (aj P w) a (λk=>l.any λj=>decide (j=k)) l.length
theorem SetK.kept {h h':Heap} {a:Addr} {l:List Key} (x:SetK P w h a l) (k:∀ o,h.get? a=some o->h'.get? a=some o):SetK P w h' a l:=by
 obtain ⟨o,es,ep,tb,ho,rest⟩:=x;exact ⟨o,es,ep,tb,k o ho,rest⟩
theorem uE {h:Heap} {a:Addr} {S S':Key->Bool} {n n':Nat} (x:h.SetOf (aj P w) a S n) (e:∀ k,S k=S' k) (en:n=n'):h.SetOf (aj P w) a S' n':=by
 cases en
 cases (funext e:S=S')
 exact x
theorem uF (W:WalksS P w A.in1 it fp wr G n Pt St) (S:Addr) (hS0:S∉fp) (ks:List Key) (hks:ks.length=n) (hv:∀ i v,Pt i v->∃ k,ks[i]?=some k/\(aj P w).is k v=true/\v.scannable=true) (hn:n+1 < scanBound) :
  ∀ (d i:Nat) (s:Shared),n - i=d->i<=n->St i s->SetK P w s.heap S (gZ ks i) ->
   (∀ s',Moved (S :: wr) G s s'->SetK P w s'.heap S (gZ ks n)->R (.ok (.ret .none)) s')->codeAny (model P w) A (.builtin "set.update.loop" ⟨[.ref S,.ref it],[]⟩) R s:=by
 have nw:S∉wr:=λz=>hS0 (W.sub _ z);have up:∀ b∈wr,b∈S :: wr:=λb z=>aAr _ z;intro d
 induction d with
 | zero =>
  intro i s e1 e2 st hS hR;obtain rfl:i=n:=by lia
  refine codeAny_builtin PyProof.Rows.F.entry_set_update_loop (by
   rw [Around.under_plainId PyProof.Rows.F.plain_set_update_loop _];show wpAny _ A.in1 (pyNext (.ref it) >>= _) _ _ s;refine wpAny_bind (W.done s _ _ st λs' mv=>?_);exact wpAny_pure (hR s' (mv.mono up) (hS.kept λo q=>mv.heap S o nw q)))
 | succ d ih =>
  intro i s e1 e2 st hS hR;have lt:i < n:=by lia
  refine codeAny_builtin PyProof.Rows.F.entry_set_update_loop (by
   rw [Around.under_plainId PyProof.Rows.F.plain_set_update_loop _];show wpAny _ A.in1 (pyNext (.ref it) >>= _) _ _ s;refine wpAny_bind (W.item i s _ _ lt st λv s' pv st' mv=>?_);obtain ⟨k,ek,kv,sc⟩:=hv i v pv;have hS':=hS.kept (h':=s'.heap) λo q=>mv.heap S o nw q;show wpAny _ A.in1 (holding [v] (setAdd S v) >>= _) _ _ s';refine wpAny_bind (wpAny_holding (by
    unfold setAdd;refine wpAny_holding (wpAny_bind ((aj P w).pyHash kv ?_));have room:(gZ ks i).length+1 < scanBound:=by have:=wS ks i;lia
    refine wpAny_setAddHashed_of (knd:=aj P w) (s:={ s' with toks:=s'.toks+1 }) kv sc hS' room λh2 sb hS2=>?_;have hS3:SetK P w h2 S (gZ ks (i+1)):=by
     refine uE hS2 (λj=>?_) ?_
     ·rw [kM ek]
      split
      ·rename_i c
       by_cases z:j=k
       ·subst z;rw [c];simp
       ·simp [z]
      ·rw [aAX,Bool.or_comm]
       congr 1
       exact decide_eq_decide.mpr eq_comm
     ·rw [kM ek]
      split <;> rfl
    refine wpAny_pure ⟨plainId_quiet PyProof.Rows.F.plain_set_update_loop _,ih (i+1) _ (by lia) lt (W.frame _ s' _ _ st' (aBI _) λb hb o q=>?_) hS3 λs3 mv3 hS4=>?_⟩
    ·rw [sb.2 b (λz:b=S=>hS0 (by rw [<- z];exact hb))];exact q
    ·refine hR s3 (Moved.trans W.gtrans ((mv.mono up).then_heap (aBI _) λb o hb q=>?_) mv3) hS4;rw [sb.2 b (λz:b=S=>hb (by rw [z];exact aAq))];exact q)))
theorem jM:isSubtype (.type "tuple") (.type "set")=pure false:=cJ _ _
theorem ft:isSubtype (.type "tuple") (.type "frozenset")=pure false:=cJ _ _
end
section
variable {P:Program} {w:World} {A:Around} {E:Value->Shared->Prop} {s:Shared}
def df (b:Bool):Obj:={ cls:=.type "set",dict:=none,data:=.set #[] 0 (.fresh 0 0 b) }
set_option maxHeartbeats 3200000 in
theorem lQ {t:Addr} {its:Array Value} {ks:List Key} {Q:Value->Shared->Prop} (hh:A.handled=none) (ht:s.heap.IsTuple t its) (hl:ks.length=its.size) (hv:∀ (i:Nat) v,its[i]?=some v->∃ k,ks[i]?=some k/\(aj P w).is k v=true/\v.scannable=true)
  (hn:its.size+1 < scanBound) (h:∀ (h':Heap) (tk:Nat),SetK P w h' s.heap.objs.size (gZ ks its.size)->(∀ b o,s.heap.get? b=some o->h'.get? b=some o)->Q (.ref s.heap.objs.size) { s with heap:=h',toks:=tk }) :
  wpAny (model P w) A (call (.type "set") [.ref t]) Q E s:=by
 obtain ⟨c0,tl,hmro⟩:=PySem.F.called_set.mro;have k1:=PySem.F.called_set.made;have k2:=PySem.F.called_set.sub;refine wpAny_call (codeAny_of_tree (by
  show wpAny _ _ (callAny (.type "set") _) _ _ _;refine wpAny_pure ⟨Code.quiet_builtin _ (by decide +kernel),codeAny_builtin PySem.F.entry_type_call ?_⟩;rw [Around.under_plain (weight_type_call_type "set" [.ref t] []) rfl];have k3:=PySem.F.called_set.notType;have k4:=PySem.F.called_set.canCreate;have k5:=PySem.F.typeCall_set_1 (.ref t)
  repeat (any_goals (first | assumption | wp_step))
  refine codeAny_mono (code_set_new_1 (.ref t) (E:=E) (Q₁:=λob s1=>∃ b:Bool,ob=.ref s.heap.objs.size/\s1={ s with heap:=s.heap.push (df b) }) λb=>⟨b,rfl,rfl⟩) λr s1 hr=>?_
  cases r with
  | error e=>exact hr
  | ok fl =>
   cases fl with
   | ret ob =>
    obtain ⟨b,rfl,rfl⟩:=hr;have g1:(s.heap.push (df b)).get? s.heap.objs.size=some (df b):=aAh _ rfl;have tS:Shared.TypeIs { s with heap:=s.heap.push (df b) } (.ref s.heap.objs.size) "set" :=⟨_,g1,rfl⟩;have k6:=PySem.F.called_set.init.lookup;have k7:=PySem.F.called_set.init.bind (.ref s.heap.objs.size)
    repeat (any_goals (first | assumption | wp_step))
    refine codeAny_mono (codeAny_call_builtin (R:=wants (λr s2=>r=.none/\∃ h' tk,s2={ s with heap:=h',toks:=tk }/\SetK P w h' s.heap.objs.size (gZ ks its.size)/\(∀ b o,s.heap.get? b=some o->h'.get? b=some o)) E)
     PySem.F.called_set.init.plain PySem.F.entry_set_init (check_set_init_1 tS ?_)) λr2 s2 hr2=>?_
    ·obtain ⟨⟨oc,od,oa,osl⟩,ho,hcl,nl,hdt⟩:=id ht;simp only at hcl hdt;subst hcl hdt;have ht1:(s.heap.push (df b)).IsTuple t its:=⟨_,aAa _ ho,rfl,nl,rfl⟩;have ho1:(s.heap.push (df b)).get? t=some { cls:=.type "tuple",dict:=od,data:=.seq its nl,slots:=osl }:=aAa _ ho;have k8:=jM;have k9:=ft;have ka:(Value.type "tuple" == Value.type "dict")=false:=by decide
     unfold Builtin.«set.__init__» noKeywords Builtin.Frozenset.updateFrom
     generalize hPI:pyIter=PI
     wp_walk
     subst hPI;refine wpAny_pyIter_tuple ht1 ?_;refine wpAny_bind (wpAny_runValue ?_);have lt:s.heap.objs.size > t:=aAe ho;have hh3:A.in1.in1.in1.handled=none:=by simp [hh]
     have sz:(s.heap.push (df b)).objs.size=s.heap.objs.size+1:=aAC ..;have ne1:t≠(s.heap.push (df b)).objs.size:=by rw [sz];exact aAk (aAN lt)
     have nS:s.heap.objs.size∉[(s.heap.push (df b)).objs.size,t]:=by
      rw [sz];intro z;rcases aAf.mp z with z | z
      ·exact absurd z (aAk (aA2 _))
      ·exact absurd (aAD.mp z) (aAH lt)
     refine uF ((Walks.tuple hh3 _ t ne1 its).toS) s.heap.objs.size nS ks hl hv hn (its.size - 0) 0 _ rfl (aAB _) ⟨⟨_,aAh _ rfl,rfl,rfl⟩,ht1.push _⟩ ?_ ?_
     ·exact ⟨_,#[],0,_,aAa _ g1,⟨rfl,rfl,rfl⟩,rfl,(λe he=>by simp at he),(λk=>⟨λz=>Bool.noConfusion (show false=true from z),λ⟨e,he,_⟩=>(aAl he).elim⟩),by decide,rfl,rfl⟩
     ·intro s3 mv hS3;obtain ⟨h3,g3,d3,t3,o3⟩:=s3
      cases (mv.gens:g3=s.gens)
      cases (mv.drawn:d3=s.drawn)
      cases (mv.os:o3=s.os)
      refine wpAny_pure (wpAny_pure ⟨rfl,h3,t3,rfl,hS3,λc o q=>?_⟩);have lc:s.heap.objs.size > c:=aAe q;refine mv.heap c o ?_ (aAa _ (aAa _ q));intro z;rcases aAf.mp z with z | z
      ·exact absurd z (aAk lc)
      ·exact absurd ((aAD.mp z).trans sz) (aAk (aAN lc))
    ·cases r2 with
     | error e=>exact hr2
     | ok fl2 =>
      cases fl2 with
      | ret r =>
       obtain ⟨rfl,h',tk,rfl,q1,q2⟩:=hr2
       repeat (any_goals (first | assumption | wp_step))
       exact h _ _ q1 q2
      | _=>exact hr2.elim
   | _=>exact hr.elim))
end
def za (P:Program) (w:World) (p:Addr) (n:Nat):HO:=.ext λh=>∃ l,SetK P w h p l/\l.length=n
section
variable {X:Cx}
theorem wT {k:Key} {u:Value} (r:RelV (kV k) u):u.scannable=true:=by
 cases k with
 | inl i=>obtain ⟨t,rfl⟩:=r;rfl
 | inr z=>obtain ⟨t,rfl⟩:=r;rfl
theorem sH (hc:X.calm=true):aP X (.type "set") (λxs H Q=>∃ a ks,xs=[.ref a]/\SqT X.K H a (ks.map kV)/\ks.length<=1000/\∀ p,H p=none->Q (.ref p) (upd H p (za X.prog X.w p (gZ ks ks.length).length))):=by
 intro pins s σ H xs us Q I r h;obtain ⟨a,ks,rfl,ha,hl,q⟩:=h;obtain ⟨u,rfl,rx⟩:=bE r
 cases rx
 obtain ⟨its,rv,ht,hz⟩:=I.tuple ha;have el:=rv.length;rw [aAb] at el;have ez:its.toArray.size=ks.length:=by rw [aAi,el]
 refine lQ (ks:=ks) (I.ok.hd hc) (show s.heap.IsTuple a its.toArray from ht) ez.symm (λi v e=>?_) (by rw [ez];unfold scanBound;lia) λh' tk hS kk=>?_
 ·have e':its[i]?=some v:=by simpa using e
  have hi:i < ks.length:=by rw [el];exact (aAg.mp e').1
  obtain ⟨v',ev,rk⟩:=rv.get (i:=i) (x:=kV ks[i]) (by rw [aAc,aAj hi];rfl);rw [e'] at ev
  cases ev
  exact ⟨ks[i],aAj hi,iz rk,wT rk⟩
 ·rw [ez] at hS;refine ⟨.ref s.heap.objs.size,_,I.laid (a:=s.heap.objs.size) (o:=za X.prog X.w s.heap.objs.size (gZ ks ks.length).length) kk (aAm _) ?_,rfl,q _ (I.hok.fresh (aAm _))⟩;obtain ⟨o,_,_,_,ho,_⟩:=id hS;exact ⟨⟨_,hS,rfl⟩,⟨o,ho⟩,λh1 h2 ⟨l,hl,e⟩ k=>⟨l,hl.kept k,e⟩⟩
theorem sI:aP X (.builtin "len") (λxs H Q=>∃ p n,xs=[.ref p]/\H p=some (za X.prog X.w p n)/\Q (.int n) H):=by
 intro pins s σ H xs us Q I r h;obtain ⟨p,n,rfl,e,q⟩:=h;obtain ⟨u,rfl,rx⟩:=bE r
 cases rx
 obtain ⟨⟨l,hS,en⟩,_,_⟩:=I.hok p _ e;obtain ⟨o,es,ep,tb,ho,hex,hd,_,_,hb,hf,hn⟩:=hS;have e2:es.size=n:=hn.trans en;have hb':es.size < 4096:=hb;exact call_len_set ho hex hd hf (by lia) ⟨.int n,H,I.tok _,⟨_,by rw [e2]⟩,q⟩
end
section
variable {K:W.Frag} {a b l:Addr} {xs ys:List V} {g:TG} {tb:List V->Addr->St->Hp->(List V->St->Hp->Prop)->Prop} {R:Hp->Prop} {σ0:St} {H0:Hp}
theorem bn (Pv:Nat->List V->St->Hp->Prop) (h0:Pv 0 [] σ0 H0) (hl:∀ i ys σ H,i<=xs.length->Pv i ys σ H->SqT K H a xs)
  (hs:∀ i x ys σ H (N:List V->St->Hp->Prop),xs[i]?=some x->Pv i ys σ H->(∀ ys' σ' H',Pv (i+1) ys' σ' H'->N ys' σ' H')->g x σ H λσ2 H2=>tb ys l σ2 H2 N)
  (hd:∀ ys σ H,Pv xs.length ys σ H->R H) :
  ∃ W:Nat->Nat->List V->St->Hp->Prop,(∃ m,W 0 m [] σ0 H0)/\∀ i m ys σ' H',W i m ys σ' H'->((Itt K a).stop i H'/\R H') \/
   ((Itt K a).go i H'/\∀ x H'',(Itt K a).yld i H' x H''->g x σ' H'' λσ2 H2=>tb ys l σ2 H2 λys' σ3 H3=>∃ m',m' < m/\W (i+1) m' ys' σ3 H3):=ur (Q:=λ_ H=>R H) Pv h0 hl hs hd
theorem ax (Pv:Nat->List V->St->Hp->Prop) (h0:Pv 0 [] σ0 H0) (hl:∀ i ys σ H,i<=xs.length->Pv i ys σ H->SqL K H a xs)
  (hs:∀ i x ys σ H (N:List V->St->Hp->Prop),xs[i]?=some x->Pv i ys σ H->(∀ ys' σ' H',Pv (i+1) ys' σ' H'->N ys' σ' H')->g x σ H λσ2 H2=>tb ys l σ2 H2 N)
  (hd:∀ ys σ H,Pv xs.length ys σ H->R H) :
  ∃ W:Nat->Nat->List V->St->Hp->Prop,(∃ m,W 0 m [] σ0 H0)/\∀ i m ys σ' H',W i m ys σ' H'->((Itl K a).stop i H'/\R H') \/
   ((Itl K a).go i H'/\∀ x H'',(Itl K a).yld i H' x H''->g x σ' H'' λσ2 H2=>tb ys l σ2 H2 λys' σ3 H3=>∃ m',m' < m/\W (i+1) m' ys' σ3 H3):=sw (Q:=λ_ H=>R H) Pv h0 hl hs hd
theorem sJ (Pv:Nat->List V->St->Hp->Prop) (h0:Pv 0 [] σ0 H0) (hla:∀ i us σ H,Pv i us σ H->SqL K H a xs/\SqL K H b ys)
  (hs:∀ i x y T us σ H (N:List V->St->Hp->Prop),xs[i]?=some x->ys[i]?=some y->H T=none->Pv i us σ H->(∀ us' σ' H',Pv (i+1) us' σ' H'->N us' σ' H')->g (.ref T) σ (upd H T (.tup [x,y])) λσ2 H2=>tb us l σ2 H2 N)
  (hd:∀ us σ H,Pv (min xs.length ys.length) us σ H->R H) :
  ∃ W:Nat->Nat->List V->St->Hp->Prop,(∃ m,W 0 m [] σ0 H0)/\∀ i m us σ' H',W i m us σ' H'->((Itz K a b).stop i H'/\R H') \/
   ((Itz K a b).go i H'/\∀ x H'',(Itz K a b).yld i H' x H''->g x σ' H'' λσ2 H2=>tb us l σ2 H2 λus' σ3 H3=>∃ m',m' < m/\W (i+1) m' us' σ3 H3):=uC (Q:=λ_ H=>R H) Pv h0 hla hs hd
end
theorem bL {X:Cx} {K:W.Frag} {es:List Expr} {k:Nat} {pos:Pos} {t:TGs} {n:Nat} (hK:X.K=K) (hc:X.calm=true) (h:PGs X es t)
  (hn:(assignEach es X.env).length=n:=by rfl) (hst:(assignEach es X.env).findIdx? (·.1)=none:=by rfl):PG X (.Tuple es k pos) (Ag K n t):=by
 subst hK;exact cI hc h hn hst
theorem ar {H H1:Hp} {l:Addr} {o:HO} (hl:H l=none) (g:Same H H1):Same H (upd H1 l o):=λb u e=>by rw [ao (af e hl)];exact g b u e
section
variable {X:Cx}
theorem uG {elt tgt iter:Expr} {ifs:List Expr} {scope:Scope} {pos spos py:Pos} {NL N':List Str} {ρ:List Nat} {wi:TI} {g:TG} {tb:List V->Addr->St->Hp->(List V->St->Hp->Prop)->Prop} {body:Value->Env->Sem Unit} {j:Nat} {y:Str}
  (hN:X.N.Nodup) (hj:X.N[j]?=some y) (hy:Loc X.env.scope y) (hfn:X.fn y=true\/X.env.scope.names.lookup y=some .local)
  (hsw:swapsWith (.ListComp elt [⟨tgt,iter,ifs,0⟩] scope pos) (some (.Name y py)) spos.line X.env=pure true)
  (hc:X.calm=true) (S:CScope X scope NL ρ N') (hi:PI X tgt iter wi)
  (hg:∀ C s₀ H₀ fp,PG (ccx X scope C N' s₀ H₀ fp) tgt g) (hb:∀ C s₀ H₀ fp,PB (ccx X scope C N' s₀ H₀ fp) (λacc=>body acc (ccx X scope C N' s₀ H₀ fp).env) tb)
  (he:∀ (it acc:Value) (env:Env),compTurn (.ListComp elt [⟨tgt,iter,ifs,0⟩] scope pos) 0 it acc env=(standAt iter.pos >>= λ_=>pyNext it >>= λr=>match r with
   | none=>pure (.done .next)
   | some v=>letOwnedTupleGo tgt it v >>= λ_=>assign tgt env v >>= λ_=>body acc env >>= λ_=>again (.compLoop (.ListComp elt [⟨tgt,iter,ifs,0⟩] scope pos) 0 it acc env)))
  (hs:∀ x,foldedSetIterable iter X.env x=pure x:=by intro _;rfl):PS X (.Assign [.Name y py] (.ListComp elt [⟨tgt,iter,ifs,0⟩] scope pos) spos) (tV (nA NL.length ρ wi g tb) (i0 j)):=by
 intro pins s σ H D0 I h;have free_in:∀ x∈scope.names,x.2=.free->∃ c,X.env.cells.lookup x.1=some c:=λx hx hk=>I.ok.has x.1 (S.frees x hx hk);rw [exec_Assign_Name_used _ _ _ _ hsw];refine wpAny_bind (wpAny_standAt (wpAny_bind ?_));rw [arm_evalThenUse_ListComp];refine wpAny_bind (thn (Q:=λ_ s'=>SP X pins D0 .next s') ?_ λ_ s' q0=>wpAny_pure (wpAny_pure q0));refine wpAny_comprehension_free (use:=some (assign (.Name y py) X.env)) (Q:=λ_ s'=>SP X pins D0 .next s') rfl hs (i7 free_in) S.kind S.locs ?_;refine thn (hi pins s σ H _ I h) λv s1 h1=>thn h1 λitv s2 h2=>?_;obtain ⟨it,fp,tn,J,H2,e,I2,T,st2,f2,w⟩:=h2;subst e;refine wpAny_newObj_type (wpAny_newFunctionEnv S.nocell (by intro y hy;simp at hy) (λh₁ hns₁ hsb₁=>?_) S.kind);dsimp only at hns₁ hsb₁ ⊢
 generalize hH2:s2.heap.push { cls:=.type "list",dict:=none,data:=.seq ([]:List Value).toArray }=h2' at hns₁ hsb₁ ⊢
 have hCs:h2'.objs.size=s2.heap.objs.size+1:=by rw [<- hH2,aAC]
 have hDC:s2.heap.objs.size≠h2'.objs.size:=by rw [hCs];exact aAk (aA2 _)
 have hC:s2.heap.objs.size<=h2'.objs.size:=by rw [hCs];exact aBI _
 have old:∀ b o,s2.heap.get? b=some o->h₁.get? b=some o:=λb o e=>hsb₁.extBut b o (aAk (aAn (aAe e) hC)) (aAa _ (hH2 ▸ aAa _ e));have hd:h₁.get? s2.heap.objs.size=some { cls:=.type "list",data:=.seq #[] 0 }:=hsb₁.extBut _ _ hDC (aAa _ (hH2 ▸ aAh _ rfl));have hfo:∀ b∈fp,∃ o,s2.heap.get? b=some o:=λb hb=>let ⟨o,e,_⟩:=T.obj _ _ st2 b hb;⟨o,e⟩;have I4:Inv (ccx X scope h2'.objs.size N' s2 H2 fp) (X.pn++pins) (cst NL.length ρ σ) (upd H2 s2.heap.objs.size (.lst [])) { s2 with heap:=h₁,toks:=s2.toks+([]:List (Str×Value)).length } :=
  Inv.comp S I2 f2 hfo hC (aAm _) hDC old hd (by simpa using hns₁)
 have hD0:H2 s2.heap.objs.size=none:=I2.hok.fresh (aAm _);have nfp:s2.heap.objs.size∉fp:=λz=>by
  obtain ⟨o,e⟩:=hfo _ z;exact absurd (aAe e) (aAM _)
 obtain ⟨W,⟨m0,w0⟩,turn⟩:=w s2.heap.objs.size hD0;have stat:∀ {H':Hp},(∀ b∈fp,H' b=none)->∀ b∈fp,dQ (ccx X scope h2'.objs.size N' s2 H2 fp) (X.pn++pins) H' b:=λ{H'} hn b hb=>by
  obtain ⟨f0,f1,f2',f3,f4,f5⟩:=f2 b hb;have ok:=I4.ok;refine ⟨hn b hb,(ok.exf b hb).1,ok.exfs b hb,.inl hb,(ok.exf b hb).2,λp hp=>f5 p hp⟩
 have loop:∀ s₃:Shared,s₃={ s2 with heap:=h₁,toks:=s2.toks+([]:List (Str×Value)).length } ->
   codeAny (model X.prog X.w) X.A (.compLoop (.ListComp elt [⟨tgt,iter,ifs,0⟩] scope pos) 0 (.ref it) (.ref s2.heap.objs.size) (compEnvC scope (cB X.env scope.names []) h2'.objs.size X.env))
    (compPost (model X.prog X.w) X.A X.xe (some (assign (.Name y py) X.env)) (λ_ s'=>SP X pins D0 .next s') (.ref s2.heap.objs.size) h2'.objs.size) s₃:=by
  rintro s₃ rfl;refine codeAny_loop rfl (λn s'=>∃ i ys σ' H',Inv (ccx X scope h2'.objs.size N' s2 H2 fp) (X.pn++pins) σ' H' s'/\tn i s'.heap/\(∀ b∈fp,H' b=none)/\W i n ys σ' H') (λn s3 hI=>?_) m0
   ⟨0,[],_,_,I4,T.keep _ _ _ st2 (λb _ o e=>old b o e),λb hb=>?_,w0⟩
  ·obtain ⟨i,ys,σ3,H3,I3,st3,fr3,w3⟩:=hI;show wpAny _ _ ((compTurn (.ListComp elt [⟨tgt,iter,ifs,0⟩] scope pos) 0 (.ref it) (.ref s2.heap.objs.size) (compEnvC scope (cB X.env scope.names []) h2'.objs.size X.env)).onRaise (λx=>do noteFrame x _;theTreesLotGoes x)) _ _ s3;refine wpAny_noted ?_;rw [he];refine wpAny_bind (wpAny_standAt (wpAny_bind ?_));rcases turn i n ys σ3 H3 w3 with ⟨stop,qn⟩ | ⟨go,step⟩
   ·refine thn (T.done (ccx X scope h2'.objs.size N' s2 H2 fp) rfl rfl rfl hc i _ s3 σ3 H3 _ I3 (stat fr3) st3 stop) λr s4 ⟨hr,I5⟩=>?_;subst hr;refine wpAny_pure ?_;obtain ⟨m,hm,_⟩:=id I5.loc;have IX:Inv X pins σ H3 { s4 with heap:=s4.heap }:=Inv.compEnd I2 f2 hC I5 (Heap.SameBut.refl _ _);have cne:∀ x c,X.env.cells.lookup x=some c->c≠h2'.objs.size:=λx c ec z=>by
     obtain ⟨v0,oc,hoc,_⟩:=I2.cell x c ec;exact absurd (aAn (aAe hoc) hC) (by rw [z];exact aAM _)
    have lne:h2'.objs.size≠X.env.locals:=aAH (aAn I2.lt hC);refine wpAny_assign_Name (kw IX hN hj hy (v:=.ref s2.heap.objs.size) rfl (λs5 I6 ⟨a,sb,ha⟩=>?_) hfn);have na:h2'.objs.size≠a:=λz=>by
     rcases ha with e | e
     ·exact lne (z.trans e)
     ·exact cne _ _ e z.symm
    refine ⟨m,hm.at' λo e=>(sb.2 _ na).trans e,λh' hs'=>⟨_,H3,?_,qn⟩⟩;exact I6.turned (t':=s5.toks) (λb o hb' e=>(hs'.2 b hb').trans e) I5.free lne (.inr (aAE I2.sz hC)) cne λq hq z=>by
     obtain ⟨e,_⟩:=I2.pin q hq;exact absurd (aAn (aAe e) hC) (by rw [z];exact aAM _)
   ·refine thn (T.item (ccx X scope h2'.objs.size N' s2 H2 fp) rfl rfl rfl hc i _ s3 σ3 H3 _ I3 (stat fr3) st3 go) λr s4 ⟨u,hr,h4⟩=>?_;subst hr;refine wpAny_bind (thn h4 λ_ s5 ⟨x,H5,I5,r5,y5,st5,fr5⟩=>?_);have I5':=I5.pinned (stat fr5) (T.obj _ _ st5);refine wpAny_bind (wpAny_mono (hg h2'.objs.size s2 H2 fp _ s5 σ3 H5 x u _ I5' r5 (step x H5 y5)) (λ_ s6 ⟨σ6,H6,I6,q6⟩=>?_) λ_ _ z=>z.elim);refine wpAny_bind (wpAny_mono (hb h2'.objs.size s2 H2 fp _ s6 σ6 H6 s2.heap.objs.size ys _ I6 q6) (λ_ s7 ⟨ys7,σ7,H7,I7,m',hm,w7⟩=>?_) λ_ _ z=>z.elim);refine wpAny_pure ⟨rfl,m',hm,i+1,ys7,σ7,H7,I7.unpinned,T.keep _ _ _ st5 λb hb o e=>(I7.pin (b,o) (aAG _ (aAG _ (bG hb e)))).1,λb hb=>?_,w7⟩;obtain ⟨o,e,d⟩:=T.obj _ _ st5 b hb;exact (I7.pin (b,o) (aAG _ (aAG _ (bG hb e)))).2.1
  ·rw [ao (show b≠s2.heap.objs.size from λz=>nfp (by rw [<- z];exact hb))];exact (f2 b hb).1
 refine codeAny_compStart_list (loop _ rfl) (T.self _ 0 _ _ _ ?_ (loop _ rfl));exact T.keep _ _ _ st2 λb _ o e=>old b o e
theorem ps_setC {elt tgt iter:Expr} {scope:Scope} {pos spos py:Pos} {NL N':List Str} {ρ:List Nat} {wi:TI} {g:TG} {te:TE} {j:Nat} {y:Str} (hN:X.N.Nodup) (hj:X.N[j]?=some y) (hy:Loc X.env.scope y)
  (hc:X.calm=true) (S:CScope X scope NL ρ N') (hi:PI X tgt iter wi) (hg:∀ C s₀ H₀ fp,PG (ccx X scope C N' s₀ H₀ fp) tgt g) (he:∀ C s₀ H₀ fp,PE (ccx X scope C N' s₀ H₀ fp) elt te)
  (hsw:swapsWith (.ListComp elt [⟨tgt,iter,[],0⟩] scope pos) (some (.Name y py)) spos.line X.env=pure true:=by rfl) (hfn:X.fn y=true\/X.env.scope.names.lookup y=some .local:=by first | exact .inl rfl | exact .inr rfl | assumption)
  (hs:∀ x,foldedSetIterable iter X.env x=pure x:=by intro _;rfl):PS X (.Assign [.Name y py] (.ListComp elt [⟨tgt,iter,[],0⟩] scope pos) spos) (tV (nA NL.length ρ wi g (cEl te)) (i0 j)) :=
 uG (body:=λacc env=>do let x <- eval elt env;let _ <- call (.builtin "list.append") [acc,x];pure ()) hN hj hy hfn hsw hc S hi hg (λC s₀ H₀ fp=>uj (he C s₀ H₀ fp)) (λit acc env=>nB elt tgt iter scope pos it acc env) hs
end
section
variable {X:Cx}
variable {K:W.Frag}
theorem pe_tupPK {es:List Expr} {x1:Nat} {pos:Pos} {t:TA} (hK:X.K=K) (h:PA X es t):PE X (.Tuple es x1 pos) (qQ K t):=by subst hK;exact wK h
theorem bf (hK:X.K=K):IxR X (An K):=by subst hK;exact wA
theorem iZ (hK:X.K=K) (hu:X.A.units+64 < cLine):OpR X (compareOp .Eq) (Av K):=by subst hK;exact yV hu
theorem op_in_seqK (hK:X.K=K):OpR X (compareOp .In) (rIn K false):=by subst hK;exact rZ
theorem jN (hK:X.K=K):OpR X (compareOp .NotIn) (rIn K true):=by subst hK;exact lG
end
section
variable {X:Cx}
end
section
variable {X:Cx}
theorem hG:∀ {ss:List Str} {us:List Value},StrsAre us ss->Vals (ss.map V.str) us
 | _,_,.nil=>.nil
 | _,_,.cons z t r=>.cons ⟨t,rfl⟩ (hG r)
end
abbrev two (v:Value) (c:Nat):Obj:={ cls:=.type "list",dict:=none,data:=.seq #[v,v] c,slots:=#[] }
section
variable {prog:Program} {w:World} {A:Around} {R:Result->Shared->Prop} {it:Addr} {fp wr:List Addr} {n:Nat} {P:Nat->Value->Prop} {St:Nat->Heap->Prop}
end
section
variable {prog:Program} {w:World} {A:Around} {E:Value->Shared->Prop} {s:Shared} {l:Addr} {zs:Array (Int×Tok)} {d:Value} {Q:Value->Shared->Prop}
end
section
variable {X:Cx}
end
section
variable {X:Cx} {K:W.Frag}
end
section
variable {l:Addr} {g:TG} {tb:List V->Addr->St->Hp->(List V->St->Hp->Prop)->Prop} {R:Hp->Prop} {σ0:St} {H0:Hp} {lo:Int} {n:Nat} {z:Str}
end
section
variable {X:Cx} {K:W.Frag}
inductive JIxP (K:W.Frag) (x y:V) (H:Hp) (Q:VK):Prop
 | mk (l:List Dt) (i:Int) (d:Dt):(IsP K H (.tup l) x)->(y=.int i)->(atI l i=some d)->(∀ v,IsP K H d v->Q v H)->JIxP K x y H Q
def AD (K:W.Frag):R2:=λx y H Q=>JIxP K x y H Q
inductive JCatP (K:W.Frag) (x y:V) (H:Hp) (Q:VK):Prop
 | mk (l m:List Dt):(IsP K H (.tup l) x)->(IsP K H (.tup m) y)->(l.length+m.length<=sizeLine)->(∀ v H',Same H H'->IsP K H' (.tup (l++m)) v->Q v H')->JCatP K x y H Q
def AE (K:W.Frag):R2:=λx y H Q=>JCatP K x y H Q
inductive JLenD (K:W.Frag) (xs:List V) (H:Hp) (Q:VK):Prop
 | mk (x:V) (l:List Dt):(xs=[x])->(IsD K H (.tup l) x)->(Q (.int l.length) H)->JLenD K xs H Q
def AF (K:W.Frag):List V->Hp->VK->Prop:=λxs H Q=>JLenD K xs H Q
inductive JIsi (K:W.Frag) (xs:List V) (H:Hp) (Q:VK):Prop
 | mk (x:V) (T:String) (b:Bool):(xs=[x,.ty T])->(IsiB K H x T b)->(Q (.bl b) H)->JIsi K xs H Q
def BH (K:W.Frag):List V->Hp->VK->Prop:=λxs H Q=>JIsi K xs H Q
inductive JTupP (K:W.Frag) (xs:List V) (H:Hp) (Q:VK):Prop
 | mk (p:Addr) (ys:List V) (l:List Dt):(xs=[.ref p])->(SqL K H p ys)->(IsPs K H l ys)->(∀ v H',Same H H'->IsP K H' (.tup l) v->Q v H')->JTupP K xs H Q
def AG (K:W.Frag):List V->Hp->VK->Prop:=λxs H Q=>JTupP K xs H Q
theorem jb (hK:X.K=K):IxR X (AD K):=by
 subst hK;intro e1 e2 pins s σ H x y v u Q I rx ry h hs;obtain ⟨l,i,d,a,b,c,q⟩:=h;exact wN _ _ _ _ _ _ _ _ _ _ _ I rx ry ⟨l,i,d,a,b,c,q⟩ hs
theorem gu (hK:X.K=K):OpR X (binaryOp .Add) (AE K):=by
 subst hK;intro pins s σ H x y v u Q I rx ry h;obtain ⟨l,m,a,b,c,q⟩:=h;exact wL _ _ _ _ _ _ _ _ _ I rx ry ⟨l,m,a,b,c,q⟩
theorem qT (hK:X.K=K) (hu:X.A.units+64 < cLine):OpR X (compareOp .NotEq) (Aw K):=by subst hK;exact yW hu
theorem call_lenDN (hK:X.K=K):aP X (.builtin "len") (AF K):=by
 subst hK;intro pins s σ H xs us Q I r h;obtain ⟨x,l,a,b,q⟩:=h;exact sD _ _ _ _ _ _ _ I r ⟨x,l,a,b,q⟩
theorem aE (hK:X.K=K):aP X (.builtin "isinstance") (BH K):=by
 subst hK;intro pins s σ H xs us Q I r h;obtain ⟨x,l,m,a,b,q⟩:=h;exact ul _ _ _ _ _ _ _ I r ⟨x,l,m,a,b,q⟩
theorem call_tuplePN (hK:X.K=K):aP X (.type "tuple") (AG K):=by
 subst hK;intro pins s σ H xs us Q I r h;obtain ⟨x,l,m,a,b,c,q⟩:=h;exact nU _ _ _ _ _ _ _ I r ⟨x,l,m,a,b,c,q⟩
theorem pi_tupN {tg l:Expr} {tl:TE} (hK:X.K=K) (hl:PE X l tl):PI X tg l (Ah K tl):=by subst hK;exact yH hl
theorem az {tg l:Expr} {tl:TE} (hK:X.K=K) (hl:PE X l tl):PI X tg l (yh K tl):=by subst hK;exact wt hl
end
section
variable {prog:Program} {w:World} {A:Around} {E:Value->Shared->Prop} {s:Shared}
theorem cf {b t:Addr} {k:Nat} {its:Array Value} {v:Value} {Q:Value->Shared->Prop} (hb:IsTupIter s.heap b t k) (ht:IsTup s.heap t its) (hv:its[k]?=some v)
  (q:∀ h',IsTupIter h' b t (k+1)->Heap.SameBut b s.heap h'->Q v { s with heap:=h' }):wpAny (model prog w) A (Builtin.SmallTypes.nextOf (.ref b)) Q E s:=by
 obtain ⟨ob,gb,cb,db⟩:=id hb;obtain ⟨ot,gt,_,nt,dt⟩:=ht;unfold Builtin.SmallTypes.nextOf;refine wpAny_bind (wpAny_callSpecial?_slot (name:=Str.ofString "__next__") hb.typeIs slot_tupleiter_next (wpAny_call_entry slot_tupleiter_next hb.typeIs entry_tupleiter_next ?_ (args_tupleiter_next _)));refine show wpAny _ _ (field (.ref b) 0 >>= _) _ _ s from wpAny_bind (wpAny_field gb db (x:=.ref t) rfl ?_);refine show wpAny _ _ (if (Value.ref t == Value.none)=true then _ else _) _ _ s from ?_;rw [if_neg (by exact aAu)];refine show wpAny _ _ (field (.ref b) 1 >>= _) _ _ s from wpAny_bind (wpAny_field gb db (x:=.int k 0) rfl ?_);refine show wpAny _ _ (seqItems? (.ref t) >>= _) _ _ s from wpAny_bind (wpAny_seqItems gt dt ?_);simp only [hv,aBt];refine wpAny_bind (wpAny_setField gb db (by simp) (wpAny_pure ⟨v,rfl,wpAny_pure (q _ ⟨_,aAU _ gb (Obj.isFreed_of_fields (Obj.data_mapFields db _)),(Obj.cls_mapFields ..).trans cb,?_⟩ (Heap.SameBut.update ..))⟩));rw [Obj.data_mapFields db];simp [rawInt]
theorem fh {b t:Addr} {k:Nat} {its:Array Value} {Q:Value->Shared->Prop} (hh:A.handled=none) (hb:IsTupIter s.heap b t k) (ht:IsTup s.heap t its) (hv:its[k]?=none)
  (q:∀ h' e,Heap.ExtBut b s.heap h'->(∃ o,h'.get? e=some o/\o.cls=.type "StopIteration")->E (.ref e) { s with heap:=h' }):wpAny (model prog w) A (Builtin.SmallTypes.nextOf (.ref b)) Q E s:=by
 obtain ⟨ob,gb,cb,db⟩:=id hb;obtain ⟨ot,gt,_,nt,dt⟩:=ht;unfold Builtin.SmallTypes.nextOf;refine wpAny_bind (wpAny_callSpecial?_slot (name:=Str.ofString "__next__") hb.typeIs slot_tupleiter_next (wpAny_call_entry slot_tupleiter_next hb.typeIs entry_tupleiter_next ?_ (args_tupleiter_next _)));refine show wpAny _ _ (field (.ref b) 0 >>= _) _ _ s from wpAny_bind (wpAny_field gb db (x:=.ref t) rfl ?_);refine show wpAny _ _ (if (Value.ref t == Value.none)=true then _ else _) _ _ s from ?_;rw [if_neg (by exact aAu)];refine show wpAny _ _ (field (.ref b) 1 >>= _) _ _ s from wpAny_bind (wpAny_field gb db (x:=.int k 0) rfl ?_);refine show wpAny _ _ (seqItems? (.ref t) >>= _) _ _ s from wpAny_bind (wpAny_seqItems gt dt ?_);simp only [hv,aBt];refine wpAny_bind (wpAny_rule (wpAny_bind (wpAny_setField gb db (by simp) ?_)));refine show wpAny _ _ (newExc (.type "StopIteration") [] >>= _) _ _ _ from wpAny_bind ?_;simp only [newTuple,newExc];refine wpAny_bind (wpAny_newObj_type (wpAny_bind (m:=firstArgMember _ _) (wpAny_of_eq (a:=Value.none) (by first | rfl | (simp only [firstArgMember];rfl)) (wpAny_newObj_type ?_ (by size_fits)))) (by size_fits));simp only [raiseNew];refine wpAny_bind (wpAny_handled ?_);rw [show A.in1.handled=none from hh];exact wpAny_bind (wpAny_pure (wpAny_throw (q _ _ (((Heap.SameBut.update ..).extBut.push _).push _) ⟨_,aAh _ rfl,rfl⟩)))
theorem sK {z P0 P1 u v l m:Addr} {k:Nat} {xs ys:Array Value} {x y a b:Value} {Q:Option Value->Shared->Prop} (D:ZipApart z P0 P1 u v l m) (Z:IsZip s.heap z P0 P1 .none) (I0:IsPair s.heap P0 (.ref u) (.ref v)) (I1:IsPair s.heap P1 a b)
  (wu:IsTupIter s.heap u l k) (wv:IsTupIter s.heap v m k) (tl:IsTup s.heap l xs) (tm:IsTup s.heap m ys) (ex:xs[k]?=some x) (ey:ys[k]?=some y)
  (q:∀ h',IsZip h' z P0 P1 (rawInt s.heap.objs.size)->IsPair h' P1 x y->IsTupIter h' u l (k+1)->IsTupIter h' v m (k+1)->IsPair h' s.heap.objs.size x y->h'.objs.size=s.heap.objs.size+1 ->
   (∀ c o,c≠z->c≠P1->c≠u->c≠v->s.heap.get? c=some o->h'.get? c=some o)->Q (some (.ref s.heap.objs.size)) { s with heap:=h' }):wpAny (model prog w) A (pyNext (.ref z)) Q E s:=by
 have hT:s.TypeIs (.ref z) "zip" :=⟨_,Z,rfl⟩;unfold pyNext;refine wpAny_bind (wpAny_attempt (wpAny_callSpecial?_slot (name:=Str.ofString "__next__") hT F.slot_zip_next (wpAny_call_entry F.slot_zip_next hT F.entry_zip_next ?_ (F.args_zip_next_1 _))));refine show wpAny _ _ (field (.ref z) 2 >>= _) _ _ _ from wpAny_bind (wpAny_field Z rfl (x:=.bool false) rfl ?_);refine show wpAny _ _ (field (.ref z) 3 >>= _) _ _ _ from wpAny_bind (wpAny_field Z rfl (x:=.ref P0) rfl (wpAny_bind (wpAny_seqItems I0 rfl ?_)));refine show wpAny _ _ (Builtin.SmallTypes.ownedTupleIsFree (.ref z) >>= _) _ _ _ from wpAny_bind ?_;unfold Builtin.SmallTypes.ownedTupleIsFree;refine wpAny_bind (wpAny_field Z rfl (x:=.none) rfl (wpAny_pure ?_));rw [if_pos rfl];refine wpAny_bind (wpAny_rule (wpAny_bind (wpAny_field Z rfl (x:=.ref P1) rfl (wpAny_bind (wpAny_setField_rec Z (by simp) λha Za sa=>?_)))));replace Za:IsZip ha z P0 P1 .ellipsis:=Za;refine wpAny_bind ?_;simp only [aBc,aAS,aBB,aA6];refine wpAny_bind (wpAny_bind (wpAny_onRaise ?_));refine show wpAny _ _ (Builtin.SmallTypes.nextOf (.ref u) >>= _) _ _ _ from wpAny_bind (cf (wu.extBut sa.extBut D.i1z) (tl.extBut sa.extBut D.l1z) ex λhb wb sb=>wpAny_pure ?_);have Ib:IsPair hb P1 a b:=sb.extBut _ _ D.TOi1 (sa.extBut _ _ D.TOz I1);refine wpAny_bind (wpAny_seqItems Ib rfl (wpAny_bind (wpAny_updateSeq_pair Ib λhc Ic sc=>wpAny_bind (wpAny_letGo (wpAny_pure ?_)))));replace Ic:IsPair hc P1 x b:=Ic;refine wpAny_bind (wpAny_bind (wpAny_onRaise ?_));refine show wpAny _ _ (Builtin.SmallTypes.nextOf (.ref v) >>= _) _ _ _ from wpAny_bind (cf (((wv.extBut sa.extBut D.i2z).extBut sb.extBut D.i12.symm).extBut sc.extBut D.TOi2.symm) (((tm.extBut sa.extBut D.l2z).extBut sb.extBut D.l2i1).extBut sc.extBut D.l2TO) ey λhd wd sd=>wpAny_pure ?_);have Id:IsPair hd P1 x b:=sd.extBut _ _ D.TOi2 Ic;refine wpAny_bind (wpAny_seqItems Id rfl (wpAny_bind (wpAny_updateSeq_pair Id λhe Ie se=>wpAny_bind (wpAny_letGo (wpAny_pure (wpAny_pure ?_))))));replace Ie:IsPair he P1 x y:=Ie;refine wpAny_bind (wpAny_seqItems Ie rfl (wpAny_bind (wpAny_newTuple ?_)));have size:he.objs.size=s.heap.objs.size:=by rw [se.1,sd.1,sc.1,sb.1,sa.1]
 have Ze:IsZip he z P0 P1 .ellipsis:=se.extBut _ _ D.TOz.symm (sd.extBut _ _ D.i2z.symm (sc.extBut _ _ D.TOz.symm (sb.extBut _ _ D.i1z.symm Za)));have keep:∀ c o,c≠z->c≠P1->c≠u->c≠v->s.heap.get? c=some o->he.get? c=some o:=λc o n1 n2 n3 n4 e=>se.extBut _ _ n2 (sd.extBut _ _ n4 (sc.extBut _ _ n2 (sb.extBut _ _ n3 (sa.extBut _ _ n1 e))));have we:IsTupIter he u l (k+1):=((wb.extBut sc.extBut D.TOi1.symm).extBut sd.extBut D.i12).extBut se.extBut D.TOi1.symm;have we':IsTupIter he v m (k+1):=wd.extBut se.extBut D.TOi2.symm;have ltz:z < he.objs.size:=aAe Ze;refine show wpAny _ _ (Builtin.SmallTypes.ownedTupleHandOut (.ref z) (.ref he.objs.size) >>= _) _ _ _ from wpAny_bind ?_;unfold Builtin.SmallTypes.ownedTupleHandOut;have Zf:IsZip (he.push { cls:=.type "tuple",data:=.seq #[x,y] }) z P0 P1 .ellipsis:=aAa _ Ze;refine wpAny_bind (wpAny_setField_rec Zf (by simp) λhg Zg sg=>?_);replace Zg:IsZip hg z P0 P1 (rawInt he.objs.size):=Zg;refine wpAny_setField_rec Zg (by simp) λhi Zi si=>?_;replace Zi:IsZip hi z P0 P1 (rawInt he.objs.size):=Zi;have up:∀ c o,c≠z->he.get? c=some o->hi.get? c=some o:=λc o n e=>si.extBut _ _ n (sg.extBut _ _ n (aAa _ e));have Ti:IsPair hi he.objs.size x y:=si.extBut _ _ (aAH ltz) (sg.extBut _ _ (aAH ltz) (aAh _ rfl));have size':hi.objs.size=he.objs.size+1:=by rw [si.1,sg.1,aAC]
 refine wpAny_pure ⟨_,rfl,wpAny_pure ?_⟩;rw [size] at Zi Ti size';have go:=q hi Zi (up _ _ D.TOz Ie) (by obtain ⟨o,e,r⟩:=we;exact ⟨o,up _ o D.i1z e,r⟩) (by obtain ⟨o,e,r⟩:=we';exact ⟨o,up _ o D.i2z e,r⟩) Ti size' λc o n1 n2 n3 n4 e=>up c o n1 (keep c o n1 n2 n3 n4 e);rw [<- size] at go;exact go
theorem uH {z P0 P1 u v l m:Addr} {k:Nat} {xs ys:Array Value} {a b:Value} {Q:Option Value->Shared->Prop} (hh:A.handled=none) (D:ZipApart z P0 P1 u v l m) (Z:IsZip s.heap z P0 P1 .none) (I0:IsPair s.heap P0 (.ref u) (.ref v)) (I1:IsPair s.heap P1 a b)
  (wu:IsTupIter s.heap u l k) (wv:IsTupIter s.heap v m k) (tl:IsTup s.heap l xs) (tm:IsTup s.heap m ys) (no:xs[k]?=none\/ys[k]?=none)
  (q:∀ h',(∀ c o,c≠z->c≠P1->c≠u->c≠v->s.heap.get? c=some o->h'.get? c=some o)->Q none { s with heap:=h' }):wpAny (model prog w) A (pyNext (.ref z)) Q E s:=by
 have hT:s.TypeIs (.ref z) "zip" :=⟨_,Z,rfl⟩;unfold pyNext;refine wpAny_bind (wpAny_attempt (wpAny_callSpecial?_slot (name:=Str.ofString "__next__") hT F.slot_zip_next (wpAny_call_entry F.slot_zip_next hT F.entry_zip_next ?_ (F.args_zip_next_1 _))));refine show wpAny _ _ (field (.ref z) 2 >>= _) _ _ _ from wpAny_bind (wpAny_field Z rfl (x:=.bool false) rfl ?_);refine show wpAny _ _ (field (.ref z) 3 >>= _) _ _ _ from wpAny_bind (wpAny_field Z rfl (x:=.ref P0) rfl (wpAny_bind (wpAny_seqItems I0 rfl ?_)));refine show wpAny _ _ (Builtin.SmallTypes.ownedTupleIsFree (.ref z) >>= _) _ _ _ from wpAny_bind ?_;unfold Builtin.SmallTypes.ownedTupleIsFree;refine wpAny_bind (wpAny_field Z rfl (x:=.none) rfl (wpAny_pure ?_));rw [if_pos rfl];refine wpAny_bind (wpAny_rule (wpAny_bind (wpAny_field Z rfl (x:=.ref P1) rfl (wpAny_bind (wpAny_setField_rec Z (by simp) λha Za sa=>?_)))));replace Za:IsZip ha z P0 P1 .ellipsis:=Za;refine wpAny_bind ?_;simp only [aBc,aAS,aBB,aA6];refine wpAny_bind (wpAny_bind (wpAny_onRaise ?_));have stop:∀ {h':Heap} {e:Addr},(∃ o,h'.get? e=some o/\o.cls=.type "StopIteration")->IsZip h' z P0 P1 .ellipsis->e≠z:=λhe hz c=>by
  obtain ⟨o,ho,hc⟩:=he;subst c;rw [hz] at ho
  cases ho
  simp at hc
 have fin:∀ {h':Heap} {e:Addr},(∃ o,h'.get? e=some o/\o.cls=.type "StopIteration")->(∀ c o,c≠z->c≠P1->c≠u->c≠v->s.heap.get? c=some o->h'.get? c=some o) ->
   wpAny (model prog w) A (do if (<- isInstance (.ref e) (.type "StopIteration")) then pure none else throw (.ref e)) Q E { s with heap:=h' }:=λ{h' e} he hk=>by
  obtain ⟨o,ho,hc⟩:=he;exact wpAny_bind (wpAny_isInstance (T:= "StopIteration") (b:=true) ⟨o,ho,hc⟩ isSubtype_stop (wpAny_pure (q _ hk)))
 cases ex:xs[k]? with
 | none =>
  refine show wpAny _ _ (Builtin.SmallTypes.nextOf (.ref u) >>= _) _ _ _ from wpAny_bind (fh hh (wu.extBut sa.extBut D.i1z) (tl.extBut sa.extBut D.l1z) ex λhb e sb he=>?_);have Zb:IsZip hb z P0 P1 .ellipsis:=sb _ _ D.i1z.symm Za;have ne:=stop he Zb;obtain ⟨o,ho,hc⟩:=he;exact wpAny_setField_rec Zb (by simp) λhd _ sd=>fin ⟨o,sd.extBut _ _ ne ho,hc⟩ λc o n1 _ n3 _ e=>sd.extBut _ _ n1 (sb _ _ n3 (sa.extBut _ _ n1 e))
 | some x =>
  have ey:ys[k]?=none:=no.resolve_left (by rw [ex];simp);refine show wpAny _ _ (Builtin.SmallTypes.nextOf (.ref u) >>= _) _ _ _ from wpAny_bind (cf (wu.extBut sa.extBut D.i1z) (tl.extBut sa.extBut D.l1z) ex λhb wb sb=>wpAny_pure ?_);have Ib:IsPair hb P1 a b:=sb.extBut _ _ D.TOi1 (sa.extBut _ _ D.TOz I1);refine wpAny_bind (wpAny_seqItems Ib rfl (wpAny_bind (wpAny_updateSeq_pair Ib λhc Ic sc=>wpAny_bind (wpAny_letGo (wpAny_pure (wpAny_bind (wpAny_bind (wpAny_onRaise ?_))))))));refine show wpAny _ _ (Builtin.SmallTypes.nextOf (.ref v) >>= _) _ _ _ from wpAny_bind (fh hh (((wv.extBut sa.extBut D.i2z).extBut sb.extBut D.i12.symm).extBut sc.extBut D.TOi2.symm) (((tm.extBut sa.extBut D.l2z).extBut sb.extBut D.l2i1).extBut sc.extBut D.l2TO) ey λhd e sd he=>?_);have Zd:IsZip hd z P0 P1 .ellipsis:=sd _ _ D.i2z.symm (sc.extBut _ _ D.TOz.symm (sb.extBut _ _ D.i1z.symm Za));have ne:=stop he Zd;obtain ⟨o,ho,hcl⟩:=he;exact wpAny_setField_rec Zd (by simp) λhf _ sf=>fin ⟨o,sf.extBut _ _ ne ho,hcl⟩ λc o n1 n2 n3 n4 e=>sf.extBut _ _ n1 (sd _ _ n4 (sc.extBut _ _ n2 (sb.extBut _ _ n3 (sa.extBut _ _ n1 e))))
theorem yn (hh:A.handled=none) (z P0 P1 u v l m:Addr) (D:ZipApart z P0 P1 u v l m) (xs ys:Array Value) :
  WalksT prog w A z [z,P0,P1,u,v,l,m] [z,P1,u,v] (min xs.size ys.size) (λi vals=>∃ x y,xs[i]?=some x/\ys[i]?=some y/\vals=#[x,y])
   (λi h=>IsZip h z P0 P1 .none/\IsPair h P0 (.ref u) (.ref v)/\(∃ a b,IsPair h P1 a b)/\IsTupIter h u l i/\IsTupIter h v m i/\IsTup h l xs/\IsTup h m ys)
   (λi T h=>IsZip h z P0 P1 (rawInt T)/\IsPair h P0 (.ref u) (.ref v)/\(∃ a b,IsPair h P1 a b)/\IsTupIter h u l (i+1)/\IsTupIter h v m (i+1)/\IsTup h l xs/\IsTup h m ys/\T≠z/\T≠P1/\T≠u/\T≠v) where
 sub:=λc hc=>by
  simp only [aAf,aAl,or_false] at hc ⊢;rcases hc with h | h | h | h <;> simp [h]
 frame:=λi h h' st kk=>by
  obtain ⟨Z,I0,⟨a,b,I1⟩,⟨o1,e1,r1⟩,⟨o2,e2,r2⟩,⟨o3,e3,r3⟩,⟨o4,e4,r4⟩⟩:=st;exact ⟨kk z (by simp) _ Z,kk P0 (by simp) _ I0,⟨a,b,kk P1 (by simp) _ I1⟩,⟨o1,kk u (by simp) _ e1,r1⟩,⟨o2,kk v (by simp) _ e2,r2⟩,⟨o3,kk l (by simp) _ e3,r3⟩,⟨o4,kk m (by simp) _ e4,r4⟩⟩
 item:=λi s Q E hi st q=>by
  obtain ⟨Z,I0,⟨a,b,I1⟩,wu,wv,tl,tm⟩:=st;have h1:i < xs.size:=by lia
  have h2:i < ys.size:=by lia
  refine sK D Z I0 I1 wu wv tl tm (aAL h1) (aAL h2) λh' a1 a2 a3 a4 a5 a6 kk=>?_;have far:∀ {c o},s.heap.get? c=some o->s.heap.objs.size≠c:=λe=>aAH (aAe e);obtain ⟨o1,e1,_⟩:=wu;obtain ⟨o2,e2,_⟩:=wv;obtain ⟨o3,e3,r3⟩:=tl;obtain ⟨o4,e4,r4⟩:=tm;refine q s.heap.objs.size #[xs[i],ys[i]] h' s.toks ⟨_,_,aAL h1,aAL h2,rfl⟩ (aAm _) ⟨_,a5,rfl,_,rfl⟩ ⟨a1,kk _ _ D.TIz D.TITO D.TIi1 D.TIi2 I0,⟨_,_,a2⟩,a3,a4,⟨o3,kk _ _ D.l1z D.l1TO D.l1i1 D.l1i2 e3,r3⟩,⟨o4,kk _ _ D.l2z D.l2TO D.l2i1 D.l2i2 e4,r4⟩,far Z,far I1,far e1,far e2⟩ λc o hc e=>?_;simp only [aAf,aAl,or_false,not_or] at hc;exact kk c o hc.1 hc.2.1 hc.2.2.1 hc.2.2.2 e
 go:=λelts k pos i T s Q E st q=>by
  obtain ⟨Z,I0,⟨a,b,I1⟩,wu,wv,tl,tm,_⟩:=st;refine wpAny_letOwnedTupleGo_zip Z λh' Z' s'=>q h' ⟨Z',s'.extBut _ _ D.TIz I0,⟨a,b,s'.extBut _ _ D.TOz I1⟩,wu.extBut s'.extBut D.i1z,wv.extBut s'.extBut D.i2z,tl.extBut s'.extBut D.l1z,tm.extBut s'.extBut D.l2z⟩ λc o hc e=>?_;simp only [aAf,aAl,or_false,not_or] at hc;exact s'.extBut _ _ hc.1 e
 apart:=λi T h st hT=>by
  obtain ⟨_,_,_,_,_,_,_,n1,n2,n3,n4⟩:=st;simp only [aAf,aAl,or_false] at hT;rcases hT with h | h | h | h
  ·exact n1 h
  ·exact n2 h
  ·exact n3 h
  ·exact n4 h
 done:=λs Q E st q=>by
  obtain ⟨Z,I0,⟨a,b,I1⟩,wu,wv,tl,tm⟩:=st;have no:xs[min xs.size ys.size]?=none\/ys[min xs.size ys.size]?=none:=by
   rcases Nat.le_total xs.size ys.size with h | h
   ·exact .inl (aBg (by lia))
   ·exact .inr (aBg (by lia))
  refine uH hh D Z I0 I1 wu wv tl tm no λh' kk=>q h' s.toks λc o hc e=>?_;simp only [aAf,aAl,or_false,not_or] at hc;exact kk c o hc.1 hc.2.1 hc.2.2.1 hc.2.2.2 e
 self:=λi s Q E st q=>wpAny_pyIter_zip st.1 q
abbrev zT1 (h:Heap) (l:Addr):Heap:=h.push { cls:=.type "tuple_iterator",data:=.fields #[.ref l,.int 0 0] }
abbrev zT2 (h:Heap) (l m:Addr):Heap:=(zT1 h l).push { cls:=.type "tuple_iterator",data:=.fields #[.ref m,.int 0 0] }
abbrev zT3 (h:Heap) (l m:Addr):Heap:=(zT2 h l m).push { cls:=.type "tuple",data:=.seq #[.ref h.objs.size,.ref (zT1 h l).objs.size] }
abbrev zT4 (h:Heap) (l m:Addr):Heap:=(zT3 h l m).push { cls:=.type "tuple",data:=.seq #[.none,.none] }
abbrev zT5 (h:Heap) (l m:Addr):Heap:=(zT4 h l m).push { cls:=.type "zip",data:=.fields #[.none,.bool false,.bool false,.ref (zT2 h l m).objs.size,.ref (zT3 h l m).objs.size] }
theorem pP (l m:Addr) (xs ys:Array Value) :
  Meets (Builtin.«zip.__new__» ⟨[.type "zip",.ref l,.ref m],[]⟩) (λ_ R s=>IsTup s.heap l xs/\IsTup s.heap m ys/\R (.ok (.ret (.ref (zT4 s.heap l m).objs.size))) { s with heap:=zT5 s.heap l m }) :=
 .of_wp λprog w A R s h=>by
  obtain ⟨hp,g,d,tk,os⟩:=s;obtain ⟨tl,tm,h⟩:=h;have sub:=sub_zip;have T1:IsTup (Shared.heap ⟨hp,g,d,tk,os⟩) l xs:=tl;have T2:IsTup (Shared.heap ⟨hp.push { cls:=.type "tuple_iterator",data:=.fields #[.ref l,.int 0 0] },g,d,tk,os⟩) m ys:=IsTup.push tm _
  wp_walk using iter_tuple T1,iter_tuple T2
  exact ⟨_,rfl,h⟩
theorem sL {l m:Addr} {xs ys:Array Value} {Q:Value->Shared->Prop} (tl:IsTup s.heap l xs) (tm:IsTup s.heap m ys)
  (q:∀ h',IsZip h' (s.heap.objs.size+4) (s.heap.objs.size+2) (s.heap.objs.size+3) .none->IsPair h' (s.heap.objs.size+2) (.ref s.heap.objs.size) (.ref (s.heap.objs.size+1))->IsPair h' (s.heap.objs.size+3) .none .none ->
   IsTupIter h' s.heap.objs.size l 0->IsTupIter h' (s.heap.objs.size+1) m 0->h'.objs.size=s.heap.objs.size+5->(∀ c o,s.heap.get? c=some o->h'.get? c=some o)->Q (.ref (s.heap.objs.size+4)) { s with heap:=h' }) :
  wpAny (model prog w) A (call (.type "zip") [.ref l,.ref m]) Q E s:=by
 refine callType_new F.called_zip (by decide) (F.typeCall_zip_2 _ _) (F.newCall_zip_2 _ _) (λobj=>F.args_object_init_3 obj _ _) F.entry_zip_new (pP l m xs ys) ⟨tl,tm,?_⟩;have n1:(zT1 s.heap l).objs.size=s.heap.objs.size+1:=aAC ..;have n2:(zT2 s.heap l m).objs.size=s.heap.objs.size+2:=by rw [aAC,n1]
 have n3:(zT3 s.heap l m).objs.size=s.heap.objs.size+3:=by rw [aAC,n2]
 have n4:(zT4 s.heap l m).objs.size=s.heap.objs.size+4:=by rw [aAC,n3]
 have n5:(zT5 s.heap l m).objs.size=s.heap.objs.size+5:=by rw [aAC,n4]
 have e5:(zT5 s.heap l m).get? (zT4 s.heap l m).objs.size=some _:=aAh _ rfl;have e4:(zT5 s.heap l m).get? (zT3 s.heap l m).objs.size=some _:=aAa _ (aAh _ rfl);have e3:(zT5 s.heap l m).get? (zT2 s.heap l m).objs.size=some _:=aAa _ (aAa _ (aAh _ rfl));have e2:(zT5 s.heap l m).get? (zT1 s.heap l).objs.size=some _:=aAa _ (aAa _ (aAa _ (aAh _ rfl)));have e1:(zT5 s.heap l m).get? s.heap.objs.size=some _:=aAa _ (aAa _ (aAa _ (aAa _ (aAh _ rfl))));refine show _/\_ from ?_;rw [n2,n3,n4] at e5;rw [n1,n2] at e3;rw [n3] at e4;rw [n1] at e2;rw [n4];exact ⟨⟨_,e5,rfl⟩,q _ e5 e3 e4 ⟨_,e1,rfl,rfl⟩ ⟨_,e2,rfl,rfl⟩ n5 λc o x=>aAa _ (aAa _ (aAa _ (aAa _ (aAa _ x))))⟩
end
def nX (K:W.Frag) (a b:Addr):It :=
 ⟨λi H=>∃ xs ys x y,SqT K H a xs/\SqT K H b ys/\xs[i]?=some x/\ys[i]?=some y,
  λi H v H'=>∃ T x y,v=.ref T/\H T=none/\H'=upd H T (.tup [x,y])/\(∀ xs,SqT K H a xs->xs[i]?=some x)/\(∀ ys,SqT K H b ys->ys[i]?=some y),
  λi H=>∃ xs ys,SqT K H a xs/\SqT K H b ys/\min xs.length ys.length=i⟩
def zb (z TI TO i1 i2 l1 l2:Addr) (i:Nat) (h:Heap):Prop:=IsZip h z TI TO .none/\IsPair h TI (.ref i1) (.ref i2)/\(∃ a b,IsPair h TO a b)/\IsTupIter h i1 l1 i/\IsTupIter h i2 l2 i
theorem sM {P:Program} {w:World} {K:W.Frag} {elts:List Expr} {k:Nat} {pos:Pos} (z TI TO i1 i2 l1 l2:Addr) (D:ZipApart z TI TO i1 i2 l1 l2) :
  Turn P w K (.Tuple elts k pos) (nX K l1 l2) [z,TI,TO,i1,i2] z (zb z TI TO i1 i2 l1 l2) where
 mem:=by simp
 obj:=λi h st b hb=>by
  obtain ⟨hz,hTI,⟨a,c,hTO⟩,⟨o1,e1,c1,d1⟩,⟨o2,e2,c2,d2⟩⟩:=st;simp only [aAf,aAl,or_false] at hb;rcases hb with rfl | rfl | rfl | rfl | rfl
  ·exact ⟨_,hz,λv q=>by cases q⟩
  ·exact ⟨_,hTI,λv q=>by cases q⟩
  ·exact ⟨_,hTO,λv q=>by cases q⟩
  ·exact ⟨o1,e1,λv q=>by rw [d1] at q;cases q⟩
  ·exact ⟨o2,e2,λv q=>by rw [d2] at q;cases q⟩
 keep:=λi h h' st kk=>by
  obtain ⟨hz,hTI,⟨a,c,hTO⟩,⟨o1,e1,r1⟩,⟨o2,e2,r2⟩⟩:=st;exact ⟨kk z (by simp) _ hz,kk TI (by simp) _ hTI,⟨a,c,kk TO (by simp) _ hTO⟩,⟨o1,kk i1 (by simp) _ e1,r1⟩,⟨o2,kk i2 (by simp) _ e2,r2⟩⟩
 item:=by
  intro X hP hw hK hc i pins s σ H E I hf st hg;subst hP hw hK;obtain ⟨xs,ys,x,y,hx,hy,ex,ey⟩:=hg;obtain ⟨its,rv,p,hz⟩:=I.tuple hx;obtain ⟨its2,rv2,p2,hz2⟩:=I.tuple hy;obtain ⟨s1,s2,s3,s4,s5⟩:=st;have W:=yn (prog:=X.prog) (w:=X.w) (I.ok.hd hc) z TI TO i1 i2 l1 l2 D its.toArray its2.toArray;have li:i < xs.length:=(aAg.mp ex).1;have li2:i < ys.length:=(aAg.mp ey).1;have el:=rv.length;have el2:=rv2.length;have wsub:∀ b∈[z,TO,i1,i2],b∈[z,TI,TO,i1,i2]:=λb hb=>by
   simp only [aAf,aAl,or_false] at hb ⊢;rcases hb with rfl | rfl | rfl | rfl <;> simp
  refine W.item i s _ _ (by simp only [aAi];lia) ⟨s1,s2,s3,s4,s5,p,p2⟩ λT vals h' tk hv hT hTup hm hk=>?_;obtain ⟨u,v,eu,ev,rfl⟩:=hv;obtain ⟨u',eu',ru⟩:=rv.get ex;obtain ⟨v',ev',rv'⟩:=rv2.get ey;have e1:u=u':=by
   have:its[i]?=some u:=by simpa using eu
   rw [eu'] at this;exact (Option.some.inj this).symm
  have e2:v=v':=by
   have:its2[i]?=some v:=by simpa using ev
   rw [ev'] at this;exact (Option.some.inj this).symm
  subst e1 e2;have hTn:H T=none:=I.hok.fresh hT;have I1:Inv X pins σ (upd H T (.tup [x,y])) { s with heap:=h',toks:=tk }:=I.turnedT hk (λb hb=>hf b (wsub b hb)) hT ⟨by show 2<=sizeLine;decide,[u,v],.cons ru (.cons rv' .nil),hTup⟩;have ap:=W.apart i T h' hm;have f1:∀ b∈[z,TO,i1,i2],dQ X pins (upd H T (.tup [x,y])) b:=λb hb=>by
   obtain ⟨f0,f1⟩:=hf b (wsub b hb);exact ⟨by rw [ao (λe:b=T=>ap (by rw [<- e];exact hb))];exact f0,f1⟩
  refine ⟨_,rfl,W.go elts k pos i T _ _ _ hm λh'' st2 hk2=>?_⟩;obtain ⟨t1,t2,t3,t4,t5,_,_⟩:=st2;refine ⟨.ref T,_,Inv.turnedL (s:={ s with heap:=h',toks:=tk }) (t':=tk) I1 hk2 f1,rfl,⟨T,x,y,rfl,hTn,rfl,λzs q=>by rw [I.tuple_inj q hx];exact ex,λzs q=>by rw [I.tuple_inj q hy];exact ey⟩,⟨t1,t2,t3,t4,t5⟩,λb hb=>?_⟩;have fb:=(hf b hb).1
  by_cases e:b=T
  ·subst e;have lti:s.heap.objs.size > TI:=aAe s2;simp only [aAf,aAl,or_false] at hb;rcases hb with rfl | rfl | rfl | rfl | rfl
   ·exact absurd (by simp) ap
   ·exact absurd lti (aBP.mpr hT)
   ·exact absurd (by simp) ap
   ·exact absurd (by simp) ap
   ·exact absurd (by simp) ap
  ·rw [ao e];exact fb
 done:=by
  intro X hP hw hK hc i pins s σ H E I hf st hg;subst hP hw hK;obtain ⟨xs,ys,hx,hy,hi⟩:=hg;obtain ⟨its,rv,p,hz⟩:=I.tuple hx;obtain ⟨its2,rv2,p2,hz2⟩:=I.tuple hy;obtain ⟨s1,s2,s3,s4,s5⟩:=st;have W:=yn (prog:=X.prog) (w:=X.w) (I.ok.hd hc) z TI TO i1 i2 l1 l2 D its.toArray its2.toArray;have el:=rv.length;have el2:=rv2.length;have en:min its.toArray.size its2.toArray.size=i:=by simp only [aAi];lia
  have wsub:∀ b∈[z,TO,i1,i2],b∈[z,TI,TO,i1,i2]:=λb hb=>by
   simp only [aAf,aAl,or_false] at hb ⊢;rcases hb with rfl | rfl | rfl | rfl <;> simp
  refine W.done s _ _ ?_ λh' tk hk=>⟨rfl,I.turnedL hk λb hb=>hf b (wsub b hb)⟩;rw [en];exact ⟨s1,s2,s3,s4,s5,p,p2⟩
 self:=λ_ _ _ _ _ st h=>wpAny_pyIter_zip st.1 h
section
variable {X:Cx} {elts:List Expr} {k:Nat} {tpos:Pos}
def AH (K:W.Frag) (ta:TA):TI:=λσ H R=>ta σ H λvs H1=>∃ a b,vs=[.ref a,.ref b]/\(∃ xs,SqT K H1 a xs)/\(∃ ys,SqT K H1 b ys)/\R (nX K a b) H1
theorem wU {a b:Expr} {ta:TA} {p pos:Pos} (hg:Gl X "zip") (hm:X.mg "zip" = none) (ha:PA X [a,b] ta) (hs:starEach [a,b] X.env=[(false,eval a X.env),(false,eval b X.env)]:=by rfl) (hs2:starEach [b] X.env=[(false,eval b X.env)]:=by rfl) :
  PI X (.Tuple elts k tpos) (.Call (.Name "zip" p) [a,b] [] pos) (AH X.K ta):=by
 intro pins s σ H R I h;refine Call_ (cH I hg hm boot_zip (PyProof.Rows.callWith_type1 (thn (ha pos pins s σ H _ I h) λus s1 ⟨vs,H1,I1,r1,q1⟩=>?_) (by rw [hs,hs2]) (by rw [hs2];rfl)));obtain ⟨l1,l2,e,⟨xs,hx⟩,⟨ys,hy⟩,q⟩:=q1;subst e;obtain ⟨u,v,rfl,ru,rv⟩:=r1.two
 cases ru
 cases rv
 obtain ⟨its,rr,pl,hz⟩:=I1.tuple hx;obtain ⟨its2,rr2,pl2,hz2⟩:=I1.tuple hy;have lt1:l1 < s1.heap.objs.size:=by obtain ⟨o,e,_⟩:=pl;exact aAe e
 have lt2:l2 < s1.heap.objs.size:=by obtain ⟨o,e,_⟩:=pl2;exact aAe e
 refine sL pl pl2 λh' z1 z2 z3 z4 z5 zs kk=>?_;have I2:Inv X pins σ H1 { s1 with heap:=h' }:=I1.kept (t':=s1.toks) kk;refine wpAny_pyIter_zip z1 ?_;refine ⟨_,_,_,_,H1,rfl,I2,sM _ _ _ _ _ l1 l2 ?_,⟨z1,z2,⟨_,_,z3⟩,z4,z5⟩,λb hb=>?_,q⟩
 ·have lt1':s1.heap.objs.size > l1:=lt1;have lt2':s1.heap.objs.size > l2:=lt2
  constructor <;> (show ¬ (@Eq Nat _ _)) <;> lia
 ·have:s1.heap.objs.size<=b:=by
   simp only [aAf,aAl,or_false] at hb;rcases hb with rfl | rfl | rfl | rfl | rfl <;> lia
  exact I1.fpOk this (I1.hok.fresh this)
end
theorem sN {K:W.Frag} {a b l:Addr} {xs ys:List V} {g:TG} {tb:List V->Addr->St->Hp->(List V->St->Hp->Prop)->Prop} {Q:VK} {σ0:St} {H0:Hp} (Pv:Nat->List V->St->Hp->Prop) (h0:Pv 0 [] σ0 H0)
  (hla:∀ i us σ H,Pv i us σ H->SqT K H a xs/\SqT K H b ys)
  (hs:∀ i x y T us σ H (N:List V->St->Hp->Prop),xs[i]?=some x->ys[i]?=some y->H T=none->Pv i us σ H->(∀ us' σ' H',Pv (i+1) us' σ' H'->N us' σ' H')->g (.ref T) σ (upd H T (.tup [x,y])) λσ2 H2=>tb us l σ2 H2 N)
  (hd:∀ us σ H,Pv (min xs.length ys.length) us σ H->Q (.ref l) H) :
  ∃ W:Nat->Nat->List V->St->Hp->Prop,(∃ m,W 0 m [] σ0 H0)/\∀ i m us σ' H',W i m us σ' H'->((nX K a b).stop i H'/\Q (.ref l) H') \/
   ((nX K a b).go i H'/\∀ x H'',(nX K a b).yld i H' x H''->g x σ' H'' λσ2 H2=>tb us l σ2 H2 λus' σ3 H3=>∃ m',m' < m/\W (i+1) m' us' σ3 H3):=by
 refine ⟨λi m us σ H=>m=min xs.length ys.length - i/\i<=min xs.length ys.length/\Pv i us σ H,⟨_,rfl,aAB _,h0⟩,?_⟩;rintro i m us σ H ⟨rfl,hi,p⟩;obtain ⟨sa,sb⟩:=hla i us σ H p
 by_cases hlt:i < min xs.length ys.length
 ·obtain ⟨x,ex⟩:∃ x,xs[i]?=some x:=⟨_,aAj (by lia)⟩;obtain ⟨y,ey⟩:∃ y,ys[i]?=some y:=⟨_,aAj (by lia)⟩;refine .inr ⟨⟨xs,ys,x,y,sa,sb,ex,ey⟩,λv H' q=>?_⟩;obtain ⟨T,x',y',rfl,hT,rfl,q1,q2⟩:=q;have e1:=q1 xs sa;have e2:=q2 ys sb;exact hs i x' y' T us σ H _ e1 e2 hT p λus' σ' H' w=>⟨_,by lia,rfl,hlt,w⟩
 ·have e:i=min xs.length ys.length:=by lia
  subst e;exact .inl ⟨⟨xs,ys,sa,sb,rfl⟩,hd us σ H p⟩
section
variable {X:Cx} {K:W.Frag}
end
section
variable {prog:Program} {w:World} {A:Around} {E:Value->Shared->Prop} {s:Shared}
theorem jO:typeLookup (.type "dict") "__len__" = pure (some (.builtin "dict.__len__")):=by rw [typeLookup_type,builtinLookup_eq_fast];kernel_rfl
theorem nY {d:Addr} {kvs:List (Key×Value)} {Q:List Value->Shared->Prop} (hh:A.handled=none) (hd:(d == sysModules)=false) (hm:s.heap.DictOf (aj prog w) d kvs) (hn:kvs.length<=sizeLine)
  (q:∀ s' acc,(∀ b o,s.heap.get? b=some o->s'.heap.get? b=some o)->s.heap.objs.size < s'.heap.objs.size->s'.gens=s.gens->s'.drawn=s.drawn->s'.os=s.os->ItemsOf (λi v=>∃ k x,kvs[i]?=some (k,x)/\(aj prog w).is k v=true) acc kvs.length->Q acc.toList s') :
  wpAny (model prog w) A (collect (.ref d)) Q E s:=by
 obtain ⟨ep,at0⟩:=hm.dictAt;have hdT:s.TypeIs (.ref d) "dict" :=hm.typeIs;unfold collect;refine wpAny_bind (wpAny_runValue (codeAny_builtin F.entry_proto_collect ?_));rw [Around.under_plainId F.plain_proto_collect _];refine show wpAny _ A.in1 (newList [] >>= λl=>again (.builtin "list.__iadd__" ⟨[l,.ref d],[]⟩)) _ _ s from wpAny_bind (wpAny_newObj_type ?_);refine wpAny_pure ⟨plainId_quiet F.plain_list_iadd _,codeAny_builtin F.entry_list_iadd ?_⟩;rw [Around.under_plainId F.plain_list_iadd _];have ltd:d < s.heap.objs.size:=at0.lt_size;have at1:=at0.push { cls:=.type "list",data:=.seq ([]:List Value).toArray }
 generalize hH:s.heap.push { cls:=.type "list",data:=.seq ([]:List Value).toArray }=G at at1 ⊢
 have hT1:Shared.TypeIs { s with heap:=G } (.ref d) "dict" :=at1.dictOf.typeIs;refine show wpAny _ A.in1 (Builtin.List.listExtendWith (.ref s.heap.objs.size) (.ref d) (.ref s.heap.objs.size)) _ _ _ from ?_;unfold Builtin.List.listExtendWith;refine wpAny_bind (wpAny_typeOf hT1 ?_);have n1:Builtin.List.listSameRef (.ref s.heap.objs.size) (.ref d)=false:=by simp [Builtin.List.listSameRef];exact aAH ltd
 simp only [n1,show (Value.type "dict" == Value.type "list")=false by decide,show (Value.type "dict" == Value.type "tuple")=false by decide,aBL,aAo,if_false];refine wpAny_bind (wpAny_pyIter_dict hd at1 ?_);refine wpAny_bind (wpAny_holding ?_);have at2:=at1.push { cls:=.type "dict_keyiterator",data:=.fields #[.ref d,.int 0 0,.int kvs.length 0,.int ep 0] };have k2:Heap.IsKeyIter (G.push { cls:=.type "dict_keyiterator",data:=.fields #[.ref d,.int 0 0,.int kvs.length 0,.int ep 0] }) G.objs.size d 0 kvs.length ep:=⟨_,aAh _ rfl,rfl,rfl⟩;have S2:(G.push { cls:=.type "dict_keyiterator",data:=.fields #[.ref d,.int 0 0,.int kvs.length 0,.int ep 0] }).get? s.heap.objs.size=some { cls:=.type "list",data:=.seq ([]:List Value).toArray }:=aAa _ (hH ▸ aAh _ rfl);have keep2:∀ b o,s.heap.get? b=some o->(G.push { cls:=.type "dict_keyiterator",data:=.fields #[.ref d,.int 0 0,.int kvs.length 0,.int ep 0] }).get? b=some o:=λb o e=>aAa _ (hH ▸ aAa _ e);have sizeG:G.objs.size=s.heap.objs.size+1:=by rw [<- hH,aAC]
 generalize G.push { cls:=.type "dict_keyiterator",data:=.fields #[.ref d,.int 0 0,.int kvs.length 0,.int ep 0] }=G2 at at2 k2 S2 keep2 ⊢
 have hT2:Shared.TypeIs { s with heap:=G2 } (.ref d) "dict" :=at2.dictOf.typeIs;unfold Builtin.List.listLengthHint;refine wpAny_bind (wpAny_specialOf hT2 jO ?_)
 wp_delta
 refine wpAny_bind (wpAny_isInstance (b:=true) hT2 (by rw [isSubtype_type];kernel_rfl) ?_);refine show wpAny _ A.in1 (typeOf (Value.ref d) >>= _) _ _ _ from wpAny_bind (wpAny_typeOf hT2 (wpAny_pure ?_));rw [if_pos (by decide)];refine wpAny_bind (wpAny_rule (wpAny_bind ?_));refine show wpAny _ A.in1 (updateSeq s.heap.objs.size (·.push .none) >>= λ_=>updateSeq s.heap.objs.size (·.pop)) _ _ _ from wpAny_bind (wpAny_updateSeq S2 rfl ?_);have S3:=aAU (Obj.mapSeq (·.push Value.none)) S2 rfl;refine wpAny_updateSeq (hz:=by seq_fits) S3 rfl ?_;have S4:=aAU (Obj.mapSeq (·.pop)) S3 rfl;have oth:∀ b o,b≠s.heap.objs.size->G2.get? b=some o->((G2.update s.heap.objs.size (Obj.mapSeq (·.push Value.none))).update s.heap.objs.size (Obj.mapSeq (·.pop))).get? b=some o:=λb o n e=>(aAV _ _ (Ne.symm n)).trans ((aAV _ _ (Ne.symm n)).trans e);have nG:G.objs.size≠s.heap.objs.size:=by rw [sizeG];exact Nat.succ_ne_self _
 have nd:d≠G.objs.size:=by rw [sizeG];exact aAk (aAN ltd)
 have Wk:=Walks.dictKeys (prog:=prog) (w:=w) (A:=A.in1) (knd:=aj prog w) hh G.objs.size d nd kvs ep;have hSf:s.heap.objs.size∉[G.objs.size,d]:=by
  simp only [aAf,aAl,or_false,not_or];exact ⟨nG.symm,aAH ltd⟩
 refine wpAny_pure ⟨plainId_quiet F.plain_extend_loop _,codeAny_extend_loopS Wk.toS hn _ hSf _ kvs.length 0 _ _ _ rfl (aAB _) ⟨k2.at λo e=>oth _ o nG e,at2.at' λo e=>oth _ o (aAk ltd) e⟩ S4 (ItemsOf.nil _) λs' acc' c' hmv S5 hacc=>?_⟩;refine show wpAny _ A (load s.heap.objs.size >>= _) _ _ s' from wpAny_bind (wpAny_load S5 (wpAny_pure (q s' acc' (λb o e=>hmv.heap b o (λhb=>?_) (oth b o (aAk (aAe e)) (keep2 b o e))) (aAe S5) hmv.gens hmv.drawn hmv.os hacc)));have hlt:=aAe e;simp only [aAf,aAl,or_false] at hb;rcases hb with h | h
 ·exact absurd hlt (h ▸ aAM _)
 ·rw [h,sizeG] at hlt;exact absurd hlt (aBP.mpr (aBI _))
theorem wV {P:Program} {w:World} {z:Str} {v:Value} (h:(aj P w).is (Sum.inr z) v=true):∃ t,v=.str z t:=by
 rcases aF (show iu (Sum.inr z) v=true from h) with ⟨i,t,e,_⟩ | ⟨x,t,e,rfl⟩
 ·cases e
 ·cases e
  exact ⟨t,rfl⟩
theorem kN {P:Program} {w:World}:∀ {ss:List Str} {us:List Value},us.length=ss.length->(∀ (j:Nat) (v:Value),us[j]?=some v->∃ z,ss[j]?=some z/\(aj P w).is (Sum.inr z) v=true)->StrsAre us ss
 | [],us,hl,_=>by
  cases us with
  | nil=>exact .nil
  | cons u us=>cases hl
 | z :: ss,us,hl,h=>by
  cases us with
  | nil=>cases hl
  | cons u us =>
   obtain ⟨z',e,hz⟩:=h 0 u rfl;obtain rfl:z=z':=Option.some.inj e;obtain ⟨t,rfl⟩:=wV hz;exact .cons z t (kN (Nat.succ.inj hl) λj v hj=>by simpa using h (j+1) v (by simpa using hj))
theorem wX {d:Addr} {kvs:List (Key×Value)} {ss:List Str} {Q:Value->Shared->Prop} (hh:A.handled=none) (hd:(d == sysModules)=false) (hm:s.heap.DictOf (aj prog w) d kvs) (names:kvs.map (·.1)=ss.map Sum.inr) (h64:ss.length < 64)
  (q:∀ (h':Heap) (t':Nat) (a:Addr) (out:Array Value) (ss':List Str) (n:Nat),(∀ b o,s.heap.get? b=some o->h'.get? b=some o)->s.heap.objs.size<=a->h'.get? a=some (seqObj "list" out n)->StrsAre out.toList ss'->ss'.Perm ss->sortedS ss'=true->Q (.ref a) { s with heap:=h',toks:=t' }) :
  wpAny (model prog w) A (call (.builtin "sorted") [.ref d]) Q E s:=by
 have lk:kvs.length=ss.length:=by have:=congrArg List.length names;simpa using this
 refine Calls.call_function_entry kind_sorted plain_sorted entry_sorted (args_sorted1 _) ?_;unfold Builtin.«sorted»;refine wpAny_bind (m:=checkCount "sorted" 1 1 _) (wpAny_pure (wpAny_bind (nY hh hd hm (by rw [lk];exact aAK (aAT h64 (by decide))) λs1 acc kk low g1 d1 o1 items=>?_)));have hS:StrsAre acc.toList ss:=kN (P:=prog) (w:=w) (by rw [aA1,items.1,lk]) λj v hj=>by
  obtain ⟨k,x,e,hk⟩:=items.2 j v (by simpa using hj);have e2:(kvs.map (·.1))[j]?=some k:=by rw [aAc,e];rfl
  rw [names,aAc] at e2;obtain ⟨z,hz,rfl⟩:=aAd.mp e2;exact ⟨z,hz,hk⟩
 have lacc:acc.toList.length < 64:=by
  have:=items.1;simp only [aA1];lia
 refine wpAny_bind (wpAny_newList ?_);have hoL:(s1.heap.push (seqObj "list" acc.toList.toArray 0)).get? s1.heap.objs.size=some (seqObj "list" acc.toList.toArray 0):=aAh _ rfl;refine wpAny_bind (wpAny_holding (wpAny_call_entry slot_list_sort ⟨_,hoL,rfl⟩ entry_list_sort (list_sort_treeK strKind_oneLt hoL hS.keysOf (λv₁ v₂ rest e=>keyKind_strs (by rw [<- e];exact hS)) lacc λst' hp hs=>⟨_,rfl,?_⟩) (args_list_sort _)));obtain ⟨ss',h1,h2,h3⟩:=sorted_out_str hS hp hs;obtain ⟨e,he⟩:=sortedHeap_at (out:=(arrOf st').map (·.2)) hoL;obtain ⟨hp1,g',d',tk',os'⟩:=s1;have e1:g'=s.gens:=g1;have e2:d'=s.drawn:=d1;have e3:os'=s.os:=o1;subst e1 e2 e3;refine wpAny_pure ⟨_,rfl,q _ tk' _ _ ss' e (λb o eb=>?_) (aAK low) he h1 h2 h3⟩;have lt:=aAe (kk b o eb);rw [sortedHeap_old (aAk lt) (by rw [aAC];exact aAN lt)];exact aAa _ (kk b o eb)
end
section
variable {X:Cx}
def DicQ (K:W.Frag) (H:Hp) (p:Addr) (fs:List (Str×Dt)):Prop :=
 ∃ kvs,H p=some (.dK kvs)/\kvs.map (·.1)=fs.map (λp=>(Sum.inr p.1:Key))/\∀ z,(aq fs z=none->aH kvs (Sum.inr z:Key)=none)/\∀ d,aq fs z=some d->∃ v,aH kvs (Sum.inr z:Key)=some v/\IsP K H d v
theorem DicQ.p {K:W.Frag} {H:Hp} {p:Addr} {fs:List (Str×Dt)} (h:DicQ K H p fs):BF K H p fs:=by
 obtain ⟨kvs,e,_,k⟩:=h;exact ⟨kvs,e,k⟩
end
section
variable {prog:Program} {w:World} {A:Around} {E:Value->Shared->Prop} {s:Shared}
theorem AI {a:Addr} {Q:Option Obj->Shared->Prop} (h:Q (s.heap.get? a) s):wpAny (model prog w) A (loadIfAlive a) Q E s:=λΓ p _=>by
 show Sem.wp _ _ (.loadIfAlive a .pure) _ _ _ _;rw [Sem.wp_loadIfAlive];exact h
abbrev enO (f0:Value) (f1:Bool) (b:Addr) (i:Nat) (x:Value):Obj:={ cls:=.type "enumerate",dict:=none,data:=.fields #[f0,.bool f1,.ref b,rawInt i,.none,x],slots:=#[] }
def EnS (h:Heap) (e b:Addr) (i:Nat):Prop:=∃ f0 f1 x,h.get? e=some (enO f0 f1 b i x)/\(f0=.none\/∃ (T:Nat) (o:Obj),f0=rawInt T/\h.get? T=some o/\T≠e/\T≠b)
theorem uI {e b t:Addr} {i:Nat} {its:Array Value} {x:Value} {Q:Value->Shared->Prop} (he:EnS s.heap e b i) (hb:IsTupIter s.heap b t i) (ht:IsTup s.heap t its) (hx:its[i]?=some x) (ne:e≠b)
  (q:∀ (h':Heap) (tk tk':Nat),EnS h' e b (i+1)->IsTupIter h' b t (i+1)->h'.get? s.heap.objs.size=some { cls:=.type "tuple",data:=.seq #[.int i tk,x] }->h'.objs.size=s.heap.objs.size+1 ->
   (∀ c o,c≠e->c≠b->s.heap.get? c=some o->h'.get? c=some o)->Q (.ref s.heap.objs.size) { s with heap:=h',toks:=tk' }) :
  wpAny (model prog w) A (Builtin.«enumerate.__next__» ⟨[.ref e],[]⟩) (λfin s'=>∃ v,fin=.done (.ret v)/\Q v s') E s:=by
 obtain ⟨f0,f1,old,ge,life⟩:=he;obtain ⟨hp,g,d,tk,os⟩:=s;refine show wpAny _ _ (field (.ref e) 2 >>= _) _ _ _ from wpAny_bind (wpAny_field ge rfl (x:=.ref b) rfl ?_);refine wpAny_bind (cf hb ht hx λha wa sa=>?_);replace sa:Heap.SameBut b hp ha:=sa;have ga:ha.get? e=some (enO f0 f1 b i old):=(sa.2 e ne).trans ge;refine show wpAny _ _ (field (.ref e) 3 >>= _) _ _ ⟨ha,g,d,tk,os⟩ from wpAny_bind (wpAny_field ga rfl (x:=rawInt i) rfl ?_);refine show wpAny _ _ (field (.ref e) 4 >>= _) _ _ ⟨ha,g,d,tk,os⟩ from wpAny_bind (wpAny_field ga rfl (x:=.none) rfl ?_);refine show wpAny _ _ (mkInt i >>= _) _ _ ⟨ha,g,d,tk,os⟩ from wpAny_bind (wpAny_mkInt ?_);refine show wpAny _ _ (setField (.ref e) 3 (rawInt ((i:Int)+1)) >>= _) _ _ ⟨ha,g,d,tk+1,os⟩ from wpAny_bind (wpAny_setField_rec ga (by simp) λhb' gb sb=>?_);replace sb:Heap.SameBut e ha hb':=sb;replace gb:hb'.get? e=some (enO f0 f1 b (i+1) old):=gb;refine show wpAny _ _ (setField (.ref e) 4 .none >>= _) _ _ ⟨hb',g,d,tk+1,os⟩ from wpAny_bind (wpAny_setField_rec gb (by simp) λhc gc sc=>?_);replace sc:Heap.SameBut e hb' hc:=sc;replace gc:hc.get? e=some (enO f0 f1 b (i+1) old):=gc;refine show wpAny _ _ (newTuple [.int i tk,x] >>= _) _ _ ⟨hc,g,d,tk+1,os⟩ from wpAny_bind (wpAny_newTuple ?_);have size:hc.objs.size=hp.objs.size:=by rw [sc.1,sb.1,sa.1]
 have lte:e < hp.objs.size:=aAe ge;have gd:(hc.push { cls:=.type "tuple",data:=.seq #[.int i tk,x] }).get? e=some (enO f0 f1 b (i+1) old):=aAa _ gc;have gT:(hc.push { cls:=.type "tuple",data:=.seq #[.int i tk,x] }).get? hp.objs.size=some { cls:=.type "tuple",data:=.seq #[.int i tk,x] }:=by rw [<- size];exact aAh _ rfl
 have sd:(hc.push { cls:=.type "tuple",data:=.seq #[.int i tk,x] }).objs.size=hp.objs.size+1:=by rw [aAC,size]
 have kd:∀ c o,c≠e->c≠b->hp.get? c=some o->(hc.push { cls:=.type "tuple",data:=.seq #[.int i tk,x] }).get? c=some o:=λc o n1 n2 ec=>aAa _ (sc.extBut c o n1 (sb.extBut c o n1 (sa.extBut c o n2 ec)));have wd:IsTupIter (hc.push { cls:=.type "tuple",data:=.seq #[.int i tk,x] }) b t (i+1):=by
  obtain ⟨o,ho,r⟩:=(wa.extBut sb.extBut (Ne.symm ne)).extBut sc.extBut (Ne.symm ne);exact ⟨o,aAa _ ho,r⟩
 refine show wpAny _ _ (Builtin.SmallTypes.ownedTupleIsFree (.ref e) >>= _) _ _ ⟨_,g,d,tk+1,os⟩ from ?_;rw [size]
 generalize hc.push { cls:=.type "tuple",data:=.seq #[.int i tk,x] }=hd at gd gT sd kd wd ⊢
 refine wpAny_bind ?_;unfold Builtin.SmallTypes.ownedTupleIsFree;rcases life with rfl | ⟨T,oT,rfl,eT,nTe,nTb⟩
 ·refine wpAny_bind (wpAny_field gd rfl (x:=.none) rfl (wpAny_pure ?_));rw [if_pos rfl];refine wpAny_bind (wpAny_rule (wpAny_bind (wpAny_field gd rfl (x:=old) rfl (wpAny_bind (wpAny_setField_rec gd (by simp) λhf gf sf=>?_)))));replace sf:Heap.SameBut e hd hf:=sf;replace gf:hf.get? e=some (enO .none f1 b (i+1) x):=gf;refine show wpAny _ _ (Builtin.SmallTypes.ownedTupleHandOut (.ref e) (.ref hp.objs.size) >>= _) _ _ ⟨hf,g,d,tk+1,os⟩ from wpAny_bind ?_;unfold Builtin.SmallTypes.ownedTupleHandOut;refine wpAny_bind (wpAny_setField_rec gf (by simp) λhg gg sg=>?_);replace sg:Heap.SameBut e hf hg:=sg;replace gg:hg.get? e=some (enO (rawInt hp.objs.size) f1 b (i+1) x):=gg;refine wpAny_setField_rec gg (by simp) λhi gi si=>?_;replace si:Heap.SameBut e hg hi:=si;replace gi:hi.get? e=some (enO (rawInt hp.objs.size) false b (i+1) x):=gi;have up:∀ c o,c≠e->hd.get? c=some o->hi.get? c=some o:=λc o n ec=>si.extBut c o n (sg.extBut c o n (sf.extBut c o n ec));have nT:hp.objs.size≠e:=aAH lte;have ltb:b < hp.objs.size:=by
   obtain ⟨o,ho,_⟩:=hb;exact aAe ho
  refine wpAny_bind (wpAny_letGo (wpAny_pure ⟨_,rfl,q hi tk (tk+1) ⟨_,_,_,gi,.inr ⟨hp.objs.size,_,rfl,up _ _ nT gT,nT,aAH ltb⟩⟩ ?_ (up _ _ nT gT) ?_ λc o n1 n2 ec=>up c o n1 (kd c o n1 n2 ec)⟩))
  ·exact ((wd.extBut sf.extBut (Ne.symm ne)).extBut sg.extBut (Ne.symm ne)).extBut si.extBut (Ne.symm ne)
  ·rw [si.1,sg.1,sf.1,sd]
 ·refine wpAny_bind (wpAny_field gd rfl (x:=rawInt T) rfl ?_);have eT':hd.get? T=some oT:=kd T oT nTe nTb eT;refine show wpAny _ _ (loadIfAlive (T:Int).toNat >>= _) _ _ _ from wpAny_bind (AI ?_);rw [aBt];refine show wpAny _ _ (if (hd.get? T).isNone=true then _ else _) _ _ _ from ?_;rw [eT',if_neg (by simp)];refine show wpAny _ _ (field (.ref e) 1 >>= _) _ _ _ from wpAny_bind (wpAny_field gd rfl (x:=.bool f1) rfl ?_);have ends:∀ (hi:Heap) (f:Bool),hi.get? e=some (enO (rawInt T) f b (i+1) old)->(∀ c o,c≠e->hd.get? c=some o->hi.get? c=some o)->hi.objs.size=hd.objs.size->IsTupIter hi b t (i+1)->∃ v,Fin.done (Flow.ret (Value.ref hp.objs.size))=Fin.done (Flow.ret v)/\Q v ⟨hi,g,d,tk+1,os⟩:=λhi f gi up sz wi=>by
   have nT:hp.objs.size≠e:=aAH lte;exact ⟨_,rfl,q hi tk (tk+1) ⟨_,_,_,gi,.inr ⟨T,oT,rfl,up _ _ nTe eT',nTe,nTb⟩⟩ wi (up _ _ nT gT) (by rw [sz,sd]) λc o n1 n2 ec=>up c o n1 (kd c o n1 n2 ec)⟩
  cases f1 with
  | true =>
   refine wpAny_pure ?_;exact wpAny_pure (ends hd true gd (λ_ _ _ e=>e) rfl wd)
  | false =>
   refine show wpAny _ _ (setField (.ref e) 1 (.bool true) >>= _) _ _ _ from wpAny_bind (wpAny_setField_rec gd (by simp) λhf gf sf=>wpAny_pure ?_);replace sf:Heap.SameBut e hd hf:=sf;exact wpAny_pure (ends hf true gf (λc o n ec=>sf.extBut c o n ec) sf.1 (wd.extBut sf.extBut (Ne.symm ne)))
theorem nZ {h:Heap} {e b:Addr} {i:Nat} (he:EnS h e b i):∃ o,h.get? e=some o/\o.cls=.type "enumerate" :=by
 obtain ⟨f0,f1,x,ge,_⟩:=he;exact ⟨_,ge,rfl⟩
theorem wY {e b t:Addr} {i:Nat} {its:Array Value} {x:Value} {Q:Option Value->Shared->Prop} (he:EnS s.heap e b i) (hb:IsTupIter s.heap b t i) (ht:IsTup s.heap t its) (hx:its[i]?=some x) (ne:e≠b)
  (q:∀ (h':Heap) (tk tk':Nat),EnS h' e b (i+1)->IsTupIter h' b t (i+1)->h'.get? s.heap.objs.size=some { cls:=.type "tuple",data:=.seq #[.int i tk,x] }->h'.objs.size=s.heap.objs.size+1 ->
   (∀ c o,c≠e->c≠b->s.heap.get? c=some o->h'.get? c=some o)->Q (some (.ref s.heap.objs.size)) { s with heap:=h',toks:=tk' }):wpAny (model prog w) A (pyNext (.ref e)) Q E s:=by
 have hT:s.TypeIs (.ref e) "enumerate" :=nZ he;unfold pyNext;exact wpAny_bind (wpAny_attempt (wpAny_callSpecial?_slot (name:=Str.ofString "__next__") hT F.slot_enumerate_next (wpAny_call_entry F.slot_enumerate_next hT F.entry_enumerate_next (uI he hb ht hx ne λh' tk tk' a1 a2 a3 a4 a5=>wpAny_pure (q h' tk tk' a1 a2 a3 a4 a5)) (F.args_enumerate_next_1 _))))
theorem wZ {e b t:Addr} {i:Nat} {its:Array Value} {Q:Option Value->Shared->Prop} (hh:A.handled=none) (he:EnS s.heap e b i) (hb:IsTupIter s.heap b t i) (ht:IsTup s.heap t its) (hx:its[i]?=none)
  (q:∀ h',Heap.ExtBut b s.heap h'->Q none { s with heap:=h' }):wpAny (model prog w) A (pyNext (.ref e)) Q E s:=by
 have hT:s.TypeIs (.ref e) "enumerate" :=nZ he;obtain ⟨f0,f1,old,ge,_⟩:=he;unfold pyNext;refine wpAny_bind (wpAny_attempt (wpAny_callSpecial?_slot (name:=Str.ofString "__next__") hT F.slot_enumerate_next (wpAny_call_entry F.slot_enumerate_next hT F.entry_enumerate_next ?_ (F.args_enumerate_next_1 _))));refine show wpAny _ _ (field (.ref e) 2 >>= _) _ _ _ from wpAny_bind (wpAny_field ge rfl (x:=.ref b) rfl (wpAny_bind (fh hh hb ht hx λh' ex sx hex=>?_)));obtain ⟨o,ho,hc⟩:=hex;exact wpAny_bind (wpAny_isInstance (T:= "StopIteration") (b:=true) ⟨o,ho,hc⟩ isSubtype_stop (wpAny_pure (q _ sx)))
structure EnL (h0:Heap) (e b t S:Addr) (its:Array Value) (i:Nat) (acc:Array Value) (h:Heap):Prop where
 en:EnS h e b i
 wk:IsTupIter h b t i
 tp:IsTup h t its
 ls:∃ c,h.get? S=some { cls:=.type "list",dict:=none,data:=.seq acc c,slots:=#[] }
 sz:acc.size=i
 pr:∀ (j:Nat) (v:Value),acc[j]?=some v->∃ (T:Addr) (tk:Nat) (x:Value),v=.ref T/\h0.objs.size<=T/\its[j]?=some x/\h.get? T=some { cls:=.type "tuple",data:=.seq #[.int j tk,x] }
 kp:∀ c o,c≠e->c≠b->c≠S->h0.get? c=some o->h.get? c=some o
 bg:h0.objs.size<=h.objs.size
theorem xf {R:Result->Shared->Prop} {h0:Heap} {e b t S:Addr} {its:Array Value} {res:Value} (hh:A.handled=none) (hn:its.size<=sizeLine) (ne:e≠b) (nS:S≠e) (nb:S≠b) (nt:t≠e) (ntb:t≠b) (ntS:t≠S) (le:e < h0.objs.size) (lb:b < h0.objs.size) (lS:S < h0.objs.size) :
  ∀ (k i:Nat) (s:Shared) (acc:Array Value),its.size - i=k->i<=its.size->EnL h0 e b t S its i acc s.heap ->
  (∀ (h':Heap) (tk:Nat) (acc':Array Value),EnL h0 e b t S its its.size acc' h'\/(∃ c,h'.get? S=some { cls:=.type "list",dict:=none,data:=.seq acc' c,slots:=#[] })/\acc'.size=its.size /\
   (∀ (j:Nat) (v:Value),acc'[j]?=some v->∃ (T:Addr) (tk:Nat) (x:Value),v=.ref T/\h0.objs.size<=T/\its[j]?=some x/\h'.get? T=some { cls:=.type "tuple",data:=.seq #[.int j tk,x] })/\(∀ c o,c≠e->c≠b->c≠S->h0.get? c=some o->h'.get? c=some o)->R (.ok (.ret res)) { s with heap:=h',toks:=tk }) ->
  codeAny (model prog w) A (.builtin "list.extend.loop" ⟨[.ref S,.ref e,res],[]⟩) R s:=by
 intro k
 induction k with
 | zero =>
  intro i s acc hk hi L q;obtain rfl:i=its.size:=by lia
  refine codeAny_builtin F.entry_extend_loop ?_;rw [Around.under_plainId F.plain_extend_loop _];refine show wpAny _ A.in1 (pyNext (.ref e) >>= _) _ _ s from wpAny_bind (wZ hh L.en L.wk L.tp (by simp) λh' sx=>?_);obtain ⟨c,lc⟩:=L.ls;refine wpAny_pure (q h' s.toks acc (.inr ⟨⟨c,sx _ _ nb lc⟩,L.sz,λj v hj=>?_,λc o n1 n2 n3 ec=>sx _ _ n2 (L.kp c o n1 n2 n3 ec)⟩));obtain ⟨T,tk,x,r1,r2,r3,r4⟩:=L.pr j v hj;exact ⟨T,tk,x,r1,r2,r3,sx _ _ (aAH (aAn lb r2)) r4⟩
 | succ k ih =>
  intro i s acc hk hi L q;have lt:i < its.size:=by lia
  refine codeAny_builtin F.entry_extend_loop ?_;rw [Around.under_plainId F.plain_extend_loop _];refine show wpAny _ A.in1 (pyNext (.ref e) >>= _) _ _ s from wpAny_bind (wY L.en L.wk L.tp (aAL lt) ne λh' tk tk' a1 a2 a3 a4 a5=>?_);obtain ⟨c,lc⟩:=L.ls;have lc':=a5 _ _ nS nb lc;have S':=aAU (Obj.mapSeq (·.push (Value.ref s.heap.objs.size))) lc' rfl;have oth:∀ c o,c≠S->h'.get? c=some o->(h'.update S (Obj.mapSeq (·.push (Value.ref s.heap.objs.size)))).get? c=some o:=λc o n ec=>(aAV _ _ (Ne.symm n)).trans ec;have zu:(h'.update S (Obj.mapSeq (·.push (Value.ref s.heap.objs.size)))).objs.size=h'.objs.size:=(Heap.SameBut.update ..).1;have bg:=L.bg;refine show wpAny _ A.in1 (updateSeq S (·.push (.ref s.heap.objs.size)) >>= _) _ _ _ from wpAny_bind ?_;refine wpAny_updateSeq lc' rfl (wpAny_pure ⟨plainId_quiet F.plain_extend_loop _,ih (i+1) _ (acc.push (.ref s.heap.objs.size)) (by lia) lt ?_ λh2 tk2 acc2 r=>q h2 tk2 acc2 r⟩) (by rw [L.sz];lia) (by show (acc.push (Value.ref s.heap.objs.size)).size<=sizeLine+1;rw [Array.size_push,L.sz];lia);show EnL h0 e b t S its (i+1) _ (h'.update S (Obj.mapSeq (·.push (Value.ref s.heap.objs.size))))
  generalize h'.update S (Obj.mapSeq (·.push (Value.ref s.heap.objs.size)))=h2 at S' oth zu ⊢
  refine ⟨?_,?_,?_,⟨_,S'⟩,by rw [Array.size_push,L.sz],λj v hj=>?_,λc' o n1 n2 n3 ec=>oth _ _ n3 (a5 _ _ n1 n2 (L.kp c' o n1 n2 n3 ec)),by rw [zu,a4];exact Nat.le_succ_of_le bg⟩
  ·obtain ⟨f0,f1,x,ge,life⟩:=a1;refine ⟨f0,f1,x,oth _ _ (Ne.symm nS) ge,life.imp_right ?_⟩;rintro ⟨T,o,r1,r2,r3,r4⟩
   by_cases hT:T=S
   ·exact ⟨T,_,r1,hT ▸ S',r3,r4⟩
   ·exact ⟨T,o,r1,oth _ _ hT r2,r3,r4⟩
  ·obtain ⟨o,ho,r⟩:=a2;exact ⟨o,oth _ _ (Ne.symm nb) ho,r⟩
  ·obtain ⟨o,ho,r⟩:=L.tp;exact ⟨o,oth _ _ ntS (a5 _ _ nt ntb ho),r⟩
  ·rw [Array.getElem?_push] at hj
   split at hj
   ·rename_i ej
    rw [L.sz] at ej
    cases hj
    subst ej;refine ⟨_,tk,its[j],rfl,bg,aAL lt,oth _ _ (aAH (aAn lS bg)) a3⟩
   ·obtain ⟨T,tk1,x,r1,r2,r3,r4⟩:=L.pr j v hj;exact ⟨T,tk1,x,r1,r2,r3,oth _ _ (aAH (aAn lS r2)) (a5 _ _ (aAH (aAn le r2)) (aAH (aAn lb r2)) r4)⟩
end
theorem sO:typeLookup (.type "enumerate") "__len__" = pure none:=by rw [typeLookup_type,builtinLookup_eq_fast];kernel_rfl
theorem pQ:typeLookup (.type "enumerate") "__length_hint__" = pure none:=by rw [typeLookup_type,builtinLookup_eq_fast];kernel_rfl
abbrev eT1 (h:Heap) (l:Addr):Heap:=h.push { cls:=.type "tuple_iterator",data:=.fields #[.ref l,.int 0 0] }
abbrev eT2 (h:Heap) (l:Addr):Heap:=(eT1 h l).push { cls:=.type "enumerate",data:=.fields #[.none,.bool false,.ref h.objs.size,rawInt 0,.none,.none] }
theorem n6 (l:Addr) (xs:Array Value) :
  Meets (Builtin.«enumerate.__new__» ⟨[.type "enumerate",.ref l],[]⟩) (λ_ R s=>IsTup s.heap l xs/\R (.ok (.ret (.ref (eT1 s.heap l).objs.size))) { s with heap:=eT2 s.heap l }) :=
 .of_wp λprog w A R s h=>by
  obtain ⟨hp,g,d,tk,os⟩:=s;obtain ⟨tl,h⟩:=h;have sub:=sub_enumerate;have T1:IsTup (Shared.heap ⟨hp,g,d,tk,os⟩) l xs:=tl;obtain ⟨ob,ho,hc,n,hd⟩:=id tl
  wp_walk using wpAny_loadPart' ho
  refine wpAny_stack_any λst=>wpAny_pure ?_
  split
  ·rename_i c _ _ _ _ _
   cases (c == Value.type "enumerate")
   ·wp_walk using wpAny_loadPart' ho,iter_tuple T1
    exact ⟨_,rfl,h⟩
   ·wp_walk using wpAny_loadPart' ho,iter_tuple T1
    exact ⟨_,rfl,h⟩
  ·wp_walk using wpAny_loadPart' ho,iter_tuple T1
   exact ⟨_,rfl,h⟩
section
variable {prog:Program} {w:World} {A:Around} {E:Value->Shared->Prop} {s:Shared}
theorem pR {l:Addr} {xs:Array Value} {Q:Value->Shared->Prop} (tl:IsTup s.heap l xs)
  (q:∀ h',IsEnum h' (s.heap.objs.size+1) s.heap.objs.size 0 .none->IsTupIter h' s.heap.objs.size l 0->h'.objs.size=s.heap.objs.size+2->(∀ c o,s.heap.get? c=some o->h'.get? c=some o)->Q (.ref (s.heap.objs.size+1)) { s with heap:=h' }) :
  wpAny (model prog w) A (call (.type "enumerate") [.ref l]) Q E s:=by
 refine callType_new F.called_enumerate (by decide) (F.typeCall_enumerate_1 _) (F.newCall_enumerate_1 _) (λobj=>F.args_object_init_2 obj _) F.entry_enumerate_new (n6 l xs) ⟨tl,?_⟩;have n1:(eT1 s.heap l).objs.size=s.heap.objs.size+1:=aAC ..;have n2:(eT2 s.heap l).objs.size=s.heap.objs.size+2:=by rw [aAC,n1]
 have e2:(eT2 s.heap l).get? (eT1 s.heap l).objs.size=some _:=aAh _ rfl;have e1:(eT2 s.heap l).get? s.heap.objs.size=some _:=aAa _ (aAh _ rfl);refine show _/\_ from ?_;rw [n1] at e2 ⊢;exact ⟨⟨_,e2,rfl⟩,q _ e2 ⟨_,e1,rfl,rfl⟩ n2 λc o x=>aAa _ (aAa _ x)⟩
def AJ (h0:Heap) (its:Array Value) (acc:Array Value) (h:Heap):Prop:=acc.size=its.size /\
 ∀ (j:Nat) (v:Value),acc[j]?=some v->∃ (T:Addr) (tk:Nat) (x:Value),v=.ref T/\h0.objs.size < T/\its[j]?=some x/\h.get? T=some { cls:=.type "tuple",data:=.seq #[.int j tk,x] }
theorem pS {e b t:Addr} {its:Array Value} {Q:Value->Shared->Prop} (hh:A.handled=none) (hn:its.size<=sizeLine) (he:IsEnum s.heap e b 0 .none) (hb:IsTupIter s.heap b t 0) (ht:IsTup s.heap t its) (ne:e≠b) (nt:t≠e) (ntb:t≠b)
  (q:∀ (h':Heap) (tk:Nat) (acc:Array Value) (c:Nat),(∀ a o,a≠e->a≠b->s.heap.get? a=some o->h'.get? a=some o)->h'.get? s.heap.objs.size=some { cls:=.type "list",dict:=none,data:=.seq acc c,slots:=#[] }->AJ s.heap its acc h'->Q (.ref s.heap.objs.size) { s with heap:=h',toks:=tk }) :
  wpAny (model prog w) A (call (.type "list") [.ref e]) Q E s:=by
 refine callType_codes (Q₁:=λobj s₁=>obj=.ref s.heap.objs.size/\s₁={ s with heap:=s.heap.push { cls:=.type "list",data:=.seq #[] } }) F.called_list (F.typeCall_list_1 _) F.entry_list_init
  (code_list_new _ ⟨rfl,rfl⟩) λobj s₁ h₁=>?_
 obtain ⟨rfl,rfl⟩:=h₁;have hS:(s.heap.push { cls:=.type "list",data:=.seq #[] }).get? s.heap.objs.size=some { cls:=.type "list",data:=.seq #[] }:=aAh _ rfl;refine ⟨⟨_,hS,rfl⟩,F.args_list_init_2 _ _,?_⟩;have le:e < s.heap.objs.size:=aAe he;have lb:b < s.heap.objs.size:=by obtain ⟨o,ho,_⟩:=hb;exact aAe ho
 have lt:t < s.heap.objs.size:=by obtain ⟨o,ho,_⟩:=ht;exact aAe ho
 have k0:∀ c o,s.heap.get? c=some o->(s.heap.push { cls:=.type "list",data:=.seq #[] }).get? c=some o:=λc o e=>aAa _ e;have z0:(s.heap.push { cls:=.type "list",data:=.seq #[] }).objs.size=s.heap.objs.size+1:=aAC ..
 generalize s.heap.push { cls:=.type "list",data:=.seq #[] }=G at hS k0 z0 ⊢
 refine show wpAny _ _ (do let old <- Builtin.List.listItems (.ref s.heap.objs.size);Builtin.List.listUpdate (.ref s.heap.objs.size) (λ_=>#[]);letGo old.toList.reverse;Builtin.List.listExtendWith (.ref s.heap.objs.size) (.ref e) .none) _ _ _ from ?_;refine wpAny_bind ?_;unfold Builtin.List.listItems;refine wpAny_bind (wpAny_seqItems hS rfl (wpAny_pure ?_));refine show wpAny _ _ (updateSeq s.heap.objs.size (λ_=>#[]) >>= λ_=>letGo (#[]:Array Value).toList.reverse >>= λ_=>Builtin.List.listExtendWith (.ref s.heap.objs.size) (.ref e) .none) _ _ _ from ?_;refine wpAny_bind (wpAny_updateSeq hS rfl ?_);have S1:=aAU (Obj.mapSeq (λ_=>(#[]:Array Value))) hS rfl;have o1:∀ c o,c≠s.heap.objs.size->s.heap.get? c=some o->(G.update s.heap.objs.size (Obj.mapSeq (λ_=>(#[]:Array Value)))).get? c=some o:=λc o n ec=>(aAV _ _ (Ne.symm n)).trans (k0 c o ec);have z1:(G.update s.heap.objs.size (Obj.mapSeq (λ_=>(#[]:Array Value)))).objs.size=s.heap.objs.size+1:=((Heap.SameBut.update ..).1).trans z0;refine wpAny_bind (wpAny_letGo ?_);refine show wpAny _ _ _ _ _ { s with heap:=G.update s.heap.objs.size (Obj.mapSeq (λ_=>(#[]:Array Value))) } from ?_
 generalize G.update s.heap.objs.size (Obj.mapSeq (λ_=>(#[]:Array Value)))=G1 at S1 o1 z1 ⊢
 have nS:s.heap.objs.size≠e:=aAH le;have nb:s.heap.objs.size≠b:=aAH lb;have he1:IsEnum G1 e b 0 .none:=o1 _ _ (Ne.symm nS) he;have hT1:Shared.TypeIs { s with heap:=G1 } (.ref e) "enumerate" :=⟨_,he1,rfl⟩;unfold Builtin.List.listExtendWith;refine wpAny_bind (wpAny_typeOf hT1 ?_);have n1:Builtin.List.listSameRef (.ref s.heap.objs.size) (.ref e)=false:=by simp [Builtin.List.listSameRef];exact nS
 simp only [n1,show (Value.type "enumerate" == Value.type "list")=false by decide,show (Value.type "enumerate" == Value.type "tuple")=false by decide,aBL,aAo,if_false];refine wpAny_bind (wpAny_pyIter_enum he1 ?_);refine wpAny_bind (wpAny_holding ?_);unfold Builtin.List.listLengthHint;refine wpAny_bind (wpAny_specialOf hT1 sO ?_);refine show wpAny _ _ (specialOf (Value.ref e) (Str.ofString "__length_hint__") >>= _) _ _ _ from wpAny_bind (wpAny_specialOf hT1 pQ (wpAny_pure ?_));refine show wpAny _ _ (rule "list.extend.makes-room" >>= λ_=>Builtin.List.listTouch (.ref s.heap.objs.size) >>= λ_=>again (.builtin "list.extend.loop" ⟨[.ref s.heap.objs.size,.ref e,.none],[]⟩)) _ _ _ from wpAny_bind (wpAny_rule (wpAny_bind ?_));refine show wpAny _ _ (updateSeq s.heap.objs.size (·.push .none) >>= λ_=>updateSeq s.heap.objs.size (·.pop)) _ _ _ from wpAny_bind (wpAny_updateSeq S1 rfl ?_);have S2:=aAU (Obj.mapSeq (·.push Value.none)) S1 rfl;refine wpAny_updateSeq S2 rfl ?_;have S3:=aAU (Obj.mapSeq (·.pop)) S2 rfl;have o3:∀ c o,c≠s.heap.objs.size->s.heap.get? c=some o->((G1.update s.heap.objs.size (Obj.mapSeq (·.push Value.none))).update s.heap.objs.size (Obj.mapSeq (·.pop))).get? c=some o:=λc o n ec=>(aAV _ _ (Ne.symm n)).trans ((aAV _ _ (Ne.symm n)).trans (o1 c o n ec));have z3:((G1.update s.heap.objs.size (Obj.mapSeq (·.push Value.none))).update s.heap.objs.size (Obj.mapSeq (·.pop))).objs.size=s.heap.objs.size+1:=((Heap.SameBut.update ..).1).trans (((Heap.SameBut.update ..).1).trans z1);refine show wpAny _ _ _ _ _ { s with heap:=(G1.update s.heap.objs.size (Obj.mapSeq (·.push Value.none))).update s.heap.objs.size (Obj.mapSeq (·.pop)) } from ?_
 generalize (G1.update s.heap.objs.size (Obj.mapSeq (·.push Value.none))).update s.heap.objs.size (Obj.mapSeq (·.pop))=G3 at S3 o3 z3 ⊢
 have upT:∀ (c:Addr),c < s.heap.objs.size->c≠s.heap.objs.size:=λc l=>aAk l;refine wpAny_pure ⟨plainId_quiet F.plain_extend_loop _,xf (A:=A.in1) (h0:=G3) hh hn ne nS nb nt ntb (upT t lt) (z3 ▸ aAN le) (z3 ▸ aAN lb) (z3 ▸ aA2 _) its.size 0 _ #[] rfl (aAB _) ?_ λh' tk acc' r=>?_⟩
 ·refine ⟨⟨.none,false,.none,o3 _ _ (upT e le) he,.inl rfl⟩,?_,?_,⟨_,S3⟩,rfl,λj v hj=>by simp at hj,λc o _ _ _ ec=>ec,aAm _⟩
  ·obtain ⟨o,ho,r⟩:=hb;exact ⟨o,o3 _ _ (upT b lb) ho,r⟩
  ·obtain ⟨o,ho,r⟩:=ht;exact ⟨o,o3 _ _ (upT t lt) ho,r⟩
 ·have fin:(∃ c,h'.get? s.heap.objs.size=some { cls:=.type "list",dict:=none,data:=.seq acc' c,slots:=#[] })/\acc'.size=its.size /\
   (∀ (j:Nat) (v:Value),acc'[j]?=some v->∃ (T:Addr) (tk:Nat) (x:Value),v=.ref T/\G3.objs.size<=T/\its[j]?=some x/\h'.get? T=some { cls:=.type "tuple",data:=.seq #[.int j tk,x] })/\(∀ c o,c≠e->c≠b->c≠s.heap.objs.size->G3.get? c=some o->h'.get? c=some o):=by
   rcases r with L | r
   ·exact ⟨L.ls,L.sz,L.pr,L.kp⟩
   ·exact r
  obtain ⟨⟨c,ls⟩,sz,pr,kp⟩:=fin;refine ⟨rfl,q h' tk acc' c (λa o n1 n2 ea=>kp a o n1 n2 (upT a (aAe ea)) (o3 a o (upT a (aAe ea)) ea)) ls ⟨sz,λj v hj=>?_⟩⟩;obtain ⟨T,tk1,x,r1,r2,r3,r4⟩:=pr j v hj;exact ⟨T,tk1,x,r1,by rw [z3] at r2;exact r2,r3,r4⟩
end
def lay (H:Hp):List (Addr×HO)->Hp
 | []=>H
 | p :: r=>lay (upd H p.1 p.2) r
theorem lR:∀ {r:List (Addr×HO)} {H:Hp} {b:Addr} {o:HO},lay H r b=some o->H b=some o\/(b,o)∈r
 | [],_,_,_,h=>.inl h
 | p :: r,H,b,o,h=>by
  rcases lR (r:=r) h with h | h
  ·by_cases hb:b=p.1
   ·subst hb;rw [aa] at h;obtain rfl:=Option.some.inj h;exact .inr aAq
   ·rw [ao hb] at h;exact .inl h
  ·exact .inr (aAr _ h)
theorem lT:∀ {r:List (Addr×HO)} {H:Hp},(∀ p∈r,H p.1=none)->(r.map (·.1)).Nodup->Same H (lay H r)
 | [],H,_,_=>Same.refl H
 | p :: r,H,f,n=>by
  have n':=aAR.mp (show (p.1 :: r.map (·.1)).Nodup from n);refine (ae (f p aAq) p.2).trans (lT (λq hq=>?_) n'.2);rw [ao (show q.1≠p.1 from λe=>n'.1 (aAF.mpr ⟨q,hq,e⟩))];exact f q (aAr _ hq)
theorem uJ:∀ {r:List (Addr×HO)} {H:Hp},(∀ p∈r,H p.1=none)->(r.map (·.1)).Nodup->∀ p∈r,lay H r p.1=some p.2
 | [],H,_,_=>λp hp=>by cases hp
 | p :: r,H,f,n=>λq hq=>by
  have n':=aAR.mp (show (p.1 :: r.map (·.1)).Nodup from n);have f':∀ q∈r,upd H p.1 p.2 q.1=none:=λq hq=>by
   rw [ao (show q.1≠p.1 from λe=>n'.1 (aAF.mpr ⟨q,hq,e⟩))];exact f q (aAr _ hq)
  rcases aAf.mp hq with rfl | hq
  ·exact lT f' n'.2 _ _ aa
  ·exact uJ f' n'.2 q hq
section
variable {X:Cx} {pins:List (Addr×Obj)} {σ:St} {H H':Hp} {s:Shared} {h':Heap}
theorem Inv.many {t':Nat} (I:Inv X pins σ H s) (k:∀ b u,s.heap.get? b=some u->h'.get? b=some u) (old:Same H H') (new:∀ b o,H' b=some o->H b=some o\/s.heap.objs.size<=b/\ObjOk X.prog X.w H' h' b o):Inv X pins σ H' { s with heap:=h',toks:=t' }:=by
 refine I.un ⟨λb u q _ _ _=>k b u q,λb u q _ _ _=>⟨u.slots,k b u q⟩,λb u q n _=>?_,λb u q _=>⟨u,k b u q⟩,λb xs q=>old _ _ q,λb u xs q=>old _ _ q,λb ps q=>⟨#[],by rw [old _ _ q];simp⟩⟩ λb o e=>?_
 ·cases e:H' b with
  | none=>rfl
  | some o =>
   rcases new b o e with e' | ⟨l,_⟩
   ·rw [n] at e';cases e'
   ·exact absurd (aAe q) (aBP.mpr l)
 ·rcases new b o e with e' | ⟨_,ok⟩
  ·exact (I.hok b o e').stay (λc v _ q=>k c v q) (λc q=>old _ _ q) λc xs q=>old _ _ q
  ·exact ok
end
def enD:Nat->List Dt->List Dt
 | _,[]=>[]
 | j,d :: l=>.tup [.int j,d] :: enD (j+1) l
abbrev qU (j tk:Nat) (x:Value):Obj:={ cls:=.type "tuple",data:=.seq #[.int j tk,x] }
inductive Rws (h:Heap) (lo:Nat):Nat->List V->List (Addr×HO)->Prop
 | nil {j:Nat}:Rws h lo j [] []
 | cons {j T tk:Nat} {x:Value} {v:V} {vs:List V} {r:List (Addr×HO)}:lo < T->RelV v x->h.get? T=some (qU j tk x)->Rws h lo (j+1) vs r->Rws h lo j (v :: vs) ((T,plO [.int j,v] [.int j tk,x]) :: r)
theorem Rws.num {h:Heap} {lo:Nat}:∀ {j:Nat} {vs:List V} {r:List (Addr×HO)},Rws h lo j vs r->∀ p∈r,lo < p.1/\∃ i tk x,j<=i/\h.get? p.1=some (qU i tk x)
 | _,_,_,.nil=>λp hp=>by cases hp
 | j,_,_,.cons (tk:=tk) (x:=x) l _ e r=>λp hp=>by
  rcases aAf.mp hp with rfl | hp
  ·exact ⟨l,j,tk,x,aAm _,e⟩
  ·obtain ⟨a,i,tk,x,le,e⟩:=r.num p hp;exact ⟨a,i,tk,x,Nat.le_of_succ_le le,e⟩
theorem Rws.nodup {h:Heap} {lo:Nat}:∀ {j:Nat} {vs:List V} {r:List (Addr×HO)},Rws h lo j vs r->(r.map (·.1)).Nodup
 | _,_,_,.nil=>List.nodup_nil
 | j,_,_,.cons (T:=T) (tk:=tk) (x:=x) l _ e r=>by
  refine aAR.mpr ⟨λhm=>?_,r.nodup⟩;obtain ⟨p,hp,ep⟩:=aAF.mp hm;obtain ⟨_,i,tk',x',le,e'⟩:=r.num p hp;rw [show p.1=T from ep,e] at e';have:=Option.some.inj e';simp only [qU,Obj.mk.injEq,Data.seq.injEq,Array.mk.injEq,List.cons.injEq,Value.int.injEq] at this;lia
theorem Rws.ok {P:Program} {w:World} {h:Heap} {lo:Nat} {H':Hp}:∀ {j:Nat} {vs:List V} {r:List (Addr×HO)},Rws h lo j vs r->∀ p∈r,ObjOk P w H' h p.1 p.2
 | _,_,_,.nil=>λp hp=>by cases hp
 | j,_,_,.cons (tk:=tk) (x:=x) l rv e r=>λp hp=>by
  rcases aAf.mp hp with rfl | hp
  ·exact ⟨e,by simp [sizeLine],_,.cons ⟨_,rfl⟩ (.cons rv .nil),⟨_,e,rfl,_,rfl⟩⟩
  ·exact r.ok p hp
theorem Rws.isPs {K:W.Frag} {h:Heap} {lo:Nat} {H H':Hp} (sm:Same H H'):∀ {j:Nat} {vs:List V} {r:List (Addr×HO)} {l:List Dt},Rws h lo j vs r->IsPs K H l vs->(∀ p∈r,H' p.1=some p.2)->IsPs K H' (enD j l) (r.map λp=>V.ref p.1)
 | _,_,_,_,.nil,.nil,_=>.nil
 | j,_,_,_,.cons (T:=T) l rv e r,.cons d ds,f=>by
  refine .cons (.tup (.inl (.inr ⟨_,f _ aAq⟩)) ⟨_,_,f _ aAq,rfl⟩ (.cons .int (.cons (d.same sm) .nil))) (r.isPs sm ds λp hp=>f p (aAr _ hp))
theorem Rws.of {h:Heap} {lo:Nat}:∀ {xs:List V} {its us:List Value} {j:Nat},Vals xs its->us.length=its.length->(∀ (i:Nat) (v:Value),us[i]?=some v->∃ (T:Addr) (tk:Nat) (x:Value),v=.ref T/\lo < T/\its[i]?=some x/\h.get? T=some (qU (j+i) tk x))->∃ r,Rws h lo j xs r/\us=r.map λp=>Value.ref p.1
 | _,_,us,j,.nil,hl,_=>by
  obtain rfl:=aBr.mp hl;exact ⟨[],.nil,rfl⟩
 | _,_,us,j,.cons (a:=v) (b:=x) rv rs,hl,f=>by
  cases us with
  | nil=>cases hl
  | cons u us =>
   obtain ⟨T,tk,x',rfl,lt,e1,e2⟩:=f 0 u rfl;obtain rfl:x=x':=by simpa using e1
   obtain ⟨r,h1,h2⟩:=Rws.of (j:=j+1) rs (Nat.succ.inj hl) λi v hi=>by
    obtain ⟨T,tk,x,a,b,c,d⟩:=f (i+1) v (by simpa using hi);exact ⟨T,tk,x,a,b,by simpa using c,by rw [show j+1+i=j+(i+1) by lia];exact d⟩
   exact ⟨_,.cons lt rv e2 h1,by rw [h2];rfl⟩
theorem kO:∀ (r:List (Addr×HO)),Vals (r.map λp=>V.ref p.1) (r.map λp=>Value.ref p.1)
 | []=>.nil
 | p :: r=>.cons rfl (kO r)
theorem Rws.length {h:Heap} {lo:Nat}:∀ {j:Nat} {vs:List V} {r:List (Addr×HO)},Rws h lo j vs r->r.length=vs.length
 | _,_,_,.nil=>rfl
 | _,_,_,.cons _ _ _ r=>by rw [aAx,aAx,r.length]
section
variable {X:Cx}
def xj (K:W.Frag) (te:TE):TE:=λσ H Q=>te σ H λv H1=>∃ a xs l,v=.ref a/\SqT K H1 a xs/\IsPs K H1 l xs/\∀ p vs H',Same H1 H'->H1 p=none->H' p=some (.lst vs)->IsPs K H' (enD 0 l) vs->Q (.ref p) H'
theorem sP {e:Expr} {te:TE} {p1 p2 pos1 pos2:Pos} (hc:X.calm=true) (hg1:Gl X "list") (hm1:X.mg "list" = none) (hg2:Gl X "enumerate") (hm2:X.mg "enumerate" = none) (he:PE X e te) (hs:starEach [e] X.env=[(false,eval e X.env)]:=by rfl) :
  PE X (.Call (.Name "list" p1) [.Call (.Name "enumerate" p2) [e] [] pos2] [] pos1) (xj X.K te):=by
 intro pins s σ H Q I h;refine wpAny_Call_Name_kw (cH I hg1 hm1 (u:=.type "list") rfl ?_);refine PyProof.Rows.callWith_type1 ?_ rfl rfl;refine show wpAny _ _ (spliced ((false,eval (.Call (.Name "enumerate" p2) [e] [] pos2) X.env) :: backTo pos1 (starEach [] X.env))) _ _ s from Calls.spliced_cons ?_;refine wpAny_Call_Name_kw (cH I hg2 hm2 (u:=.type "enumerate") rfl ?_);refine PyProof.Rows.callWith_type1 ?_ (by rw [hs];rfl) rfl;rw [hs];refine show wpAny _ _ (spliced ((false,eval e X.env) :: backTo pos2 [])) _ _ s from Calls.spliced_cons (thn (he pins s σ H _ I h) λu s1 ⟨v,H1,I1,r1,a,xs,l,e1,hx,hl,q⟩=>Calls.spliced_nil ?_);subst e1
 cases r1
 obtain ⟨its,rr,pl,hz⟩:=I1.tuple hx;have lta:a < s1.heap.objs.size:=pl.lt;refine pR pl λh1 en1 wk1 sz1 kk1=>Calls.spliced_nil ?_;have pl1:IsTup h1 a its.toArray:=by obtain ⟨o,ho,r⟩:=pl;exact ⟨o,kk1 _ _ ho,r⟩
 have lx:its.length=xs.length:=rr.length.symm;refine pS (its:=its.toArray) (I1.ok.hd hc) (by rw [aAi,lx];exact hz) en1 wk1 pl1 (Nat.succ_ne_self _) (aAk (aAN lta)) (aAk lta) λh2 tk acc c kk2 ls out=>?_;obtain ⟨o1,o2⟩:=out;obtain ⟨r,rw1,us⟩:=Rws.of (h:=h2) (lo:=h1.objs.size) (us:=acc.toList) (j:=0) rr (by rw [aA1,o1,aAi]) λi v hi=>by
  obtain ⟨T,tk,x,a,b,c,d⟩:=o2 i v (by simpa using hi);exact ⟨T,tk,x,a,b,by simpa using c,by rw [aB9];exact d⟩
 have kk:∀ b o,s1.heap.get? b=some o->h2.get? b=some o:=λb o e=>kk2 b o (aAk (aAN (aAe e))) (aAk (aAe e)) (kk1 b o e);have big:∀ p∈r,s1.heap.objs.size<=p.1:=λp hp=>by have:=(rw1.num p hp).1;rw [sz1] at this;lia
 have fr:∀ p∈r,H1 p.1=none:=λp hp=>I1.hok.fresh (big p hp);have frS:H1 h1.objs.size=none:=I1.hok.fresh (by rw [sz1];exact aBk _ _);have frL:lay H1 r h1.objs.size=none:=by
  cases e:lay H1 r h1.objs.size with
  | none=>rfl
  | some o =>
   rcases lR e with e | e
   ·rw [frS] at e;cases e
   ·exact absurd (rw1.num _ e).1 (aAM _)
 have sm:Same H1 (upd (lay H1 r) h1.objs.size (.lst (r.map λp=>V.ref p.1))):=(lT fr rw1.nodup).trans (ae frL _);have at':∀ p∈r,upd (lay H1 r) h1.objs.size (.lst (r.map λp=>V.ref p.1)) p.1=some p.2:=λp hp=>ae frL _ _ _ (uJ fr rw1.nodup p hp);refine ⟨.ref h1.objs.size,_,I1.many (t':=tk) kk sm λb o eb=>?_,rfl,q _ _ _ sm frS aa (rw1.isPs sm hl at')⟩
 by_cases hb:b=h1.objs.size
 ·subst hb;rw [aa] at eb;obtain rfl:=Option.some.inj eb;refine .inr ⟨by rw [sz1];exact aBk _ _,by rw [aAb,rw1.length];exact hz,acc.toList,c,us ▸ kO r,?_⟩;rw [aBC];exact ls
 ·rw [ao hb] at eb;rcases lR eb with e | e
  ·exact .inl e
  ·exact .inr ⟨big _ e,rw1.ok _ e⟩
end
theorem xl {P:Program} {w:World} {i:Int} {v:Value} (h:(aj P w).is (Sum.inl i) v=true):∃ t,v=.int i t:=by
 rcases aF (show iu (Sum.inl i) v=true from h) with ⟨j,t,e,rfl⟩ | ⟨x,t,e,rfl⟩
 ·cases e
  exact ⟨t,rfl⟩
 ·cases e
theorem kP {P:Program} {w:World}:∀ {ns:List Int} {us:List Value},us.length=ns.length->(∀ (j:Nat) (v:Value),us[j]?=some v->∃ z,ns[j]?=some z/\(aj P w).is (Sum.inl z) v=true)->IntsAre us ns
 | [],us,hl,_=>by
  cases us with
  | nil=>exact .nil
  | cons u us=>cases hl
 | z :: ns,us,hl,h=>by
  cases us with
  | nil=>cases hl
  | cons u us =>
   obtain ⟨z',e,hz⟩:=h 0 u rfl;obtain rfl:z=z':=Option.some.inj e;obtain ⟨t,rfl⟩:=xl hz;exact .cons z t (kP (Nat.succ.inj hl) λj v hj=>by simpa using h (j+1) v (by simpa using hj))
theorem yo:∀ {us:List Value} {ns:List Int},IntsAre us ns->Vals (ns.map V.int) us
 | _,_,.nil=>.nil
 | _,_,.cons _ t r=>.cons ⟨t,rfl⟩ (yo r)
section
variable {prog:Program} {w:World} {A:Around} {E:Value->Shared->Prop} {s:Shared}
theorem uK {d:Addr} {kvs:List (Key×Value)} {ns:List Int} {Q:Value->Shared->Prop} (hh:A.handled=none) (hd:(d == sysModules)=false) (hm:s.heap.DictOf (aj prog w) d kvs) (names:kvs.map (·.1)=ns.map Sum.inl) (h64:ns.length < 64)
  (q:∀ (h':Heap) (t':Nat) (a:Addr) (out:Array Value) (ns':List Int) (n:Nat),(∀ b o,s.heap.get? b=some o->h'.get? b=some o)->s.heap.objs.size<=a->h'.get? a=some (seqObj "list" out n)->IntsAre out.toList ns'->ns'.Perm ns->ns'.Pairwise (·<=·)->Q (.ref a) { s with heap:=h',toks:=t' }) :
  wpAny (model prog w) A (call (.builtin "sorted") [.ref d]) Q E s:=by
 have lk:kvs.length=ns.length:=by have:=congrArg List.length names;simpa using this
 refine Calls.call_function_entry kind_sorted plain_sorted entry_sorted (args_sorted1 _) ?_;unfold Builtin.«sorted»;refine wpAny_bind (m:=checkCount "sorted" 1 1 _) (wpAny_pure (wpAny_bind (nY hh hd hm (by rw [lk];exact aAK (aAT h64 (by decide))) λs1 acc kk low g1 d1 o1 items=>?_)));have hI:IntsAre acc.toList ns:=kP (P:=prog) (w:=w) (by rw [aA1,items.1,lk]) λj v hj=>by
  obtain ⟨k,x,e,hk⟩:=items.2 j v (by simpa using hj);have e2:(kvs.map (·.1))[j]?=some k:=by rw [aAc,e];rfl
  rw [names,aAc] at e2;obtain ⟨z,hz,rfl⟩:=aAd.mp e2;exact ⟨z,hz,hk⟩
 have lacc:acc.toList.length < 64:=by
  have:=items.1;simp only [aA1];lia
 refine wpAny_bind (wpAny_newList ?_);have hoL:(s1.heap.push (seqObj "list" acc.toList.toArray 0)).get? s1.heap.objs.size=some (seqObj "list" acc.toList.toArray 0):=aAh _ rfl;refine wpAny_bind (wpAny_holding (wpAny_call_entry slot_list_sort ⟨_,hoL,rfl⟩ entry_list_sort (list_sort_tree hoL hI lacc λout ns' h1 h2 h3=>⟨_,rfl,?_⟩) (args_list_sort _)));obtain ⟨e,he⟩:=sortedHeap_at (out:=out) hoL;obtain ⟨hp1,g',d',tk',os'⟩:=s1;have e1:g'=s.gens:=g1;have e2:d'=s.drawn:=d1;have e3:os'=s.os:=o1;subst e1 e2 e3;refine wpAny_pure ⟨_,rfl,q _ tk' _ _ ns' e (λb o eb=>?_) (aAK low) he h1 h2 h3⟩;have lt:=aAe (kk b o eb);rw [sortedHeap_old (aAk lt) (by rw [aAC];exact aAN lt)];exact aAa _ (kk b o eb)
end
section
variable {X:Cx}
theorem n9 (hc:X.calm=true):aP X (.builtin "sorted") (λxs H Q=>∃ (p:Addr) (kvs:List (Key×V)) (ns:List Int),xs=[.ref p]/\H p=some (.dK kvs)/\kvs.map (·.1)=ns.map Sum.inl/\ns.length < 64/\∀ (a:Addr) (ns':List Int),H a=none->ns'.Perm ns->ns'.Pairwise (·<=·)->Q (.ref a) (upd H a (.lst (ns'.map V.int)))):=by
 intro pins s σ H xs us Q I r h;obtain ⟨p,kvs,ns,rfl,hp,names,hl,q⟩:=h;obtain ⟨u,rfl,rx⟩:=bE r
 cases rx
 obtain ⟨hz,hd,vs,kv,dof⟩:=qO I.hok hp;refine uK (ns:=ns) (I.ok.hd hc) hd dof (by rw [<- kv.keys];exact names) hl λh' t' a out ns' n kk low ea h1 h2 h3=>?_;have hn:H a=none:=I.hok.fresh low;refine ⟨.ref a,_,I.laid (t':=t') (o:=.lst (ns'.map V.int)) kk low ?_,rfl,q a ns' hn h2 h3⟩;have e2:seqObj "list" out n=seqObj "list" out.toList.toArray n:=by rw [aBC]
 refine ⟨?_,out.toList,n,yo h1,?_⟩
 ·rw [aAb,h2.length_eq];exact aAK (aAT hl (by decide))
 ·rw [ea,e2]
end
section
variable {X:Cx} {tg:Expr} {pins:List (Addr×Obj)} {σ:St} {H:Hp} {s:Shared}
end
section
variable {X:Cx}
theorem pT (hc:X.calm=true):aP X (.type "dict") (λxs H Q=>∃ x fs,xs=[x]/\IsP X.K H (.tup (fs.map prD)) x/\(fs.map (·.1)).Nodup/\fs.length<=1000/\∀ p H',H p=none->Same H H'->DicQ X.K H' p fs->Q (.ref p) H'):=by
 intro pins s σ H xs us Q I r h;obtain ⟨x,fs,rfl,dx,nd,hz,q⟩:=h;obtain ⟨u,rfl,rx⟩:=bE r;obtain ⟨a,ys,rfl,ha,⟨o,ho,eo,dn⟩,ra⟩:=dx.unref
 cases rx
 obtain ⟨its,r',⟨o',e',c',n',d'⟩,_⟩:=I.tuple ha;have e0:s.heap.get? a=some o:=(I.hok a _ eo).1;rw [e0] at e';obtain rfl:=Option.some.inj e';obtain ⟨kvs,vs,k1,k2,k3,k4,k5,k6⟩:=uz I ra r';have hl:vs.length=fs.length:=by rw [<- k1.length,k3]
 have big:=I.big;refine iK (knd:=aj X.prog X.w) (kvs:=vs) (I.ok.hd hc) e0 c' d' dn ⟨by rw [aAi];exact k5,λi kv z=>?_⟩ (aAE (Nat.add_le_add (hl ▸ hz) (hl ▸ hz)) (by decide)) λh' tk dd kp=>?_
 ·obtain ⟨b,key,z1,z2,z3⟩:=k6 i kv z;exact ⟨b,key,by simpa using z1,z2,z3⟩
 ·have ndv:(vs.map (·.1)).Nodup:=by
   rw [<- k1.keys,k2];have z:fs.map (λp=>(Sum.inr p.1:Key))=(fs.map (·.1)).map Sum.inr:=by rw [aAv];rfl
   rw [z];exact List.Pairwise.map _ (λa b n q=>n (Sum.inr.inj q)) nd
  rw [merged_nil_of_nodup vs ndv] at dd;have hf:=I.hok.fresh (aAm s.heap.objs.size);have I2:Inv X pins σ (upd H s.heap.objs.size (.dK kvs)) { s with heap:=h',toks:=tk }:=I.laid (t':=tk) kp (aAm _)
   (pN (by rw [k3];exact aAK (ai hz)) (by simp;exact aAH big) k1 dd)
  refine ⟨.ref s.heap.objs.size,_,I2,rfl,q _ _ hf (ae hf _) ⟨kvs,aa,k2,λz=>⟨(k4 z).1,λd l=>?_⟩⟩⟩;obtain ⟨v,l1,l2⟩:=(k4 z).2 d l;exact ⟨v,l1,l2.same (ae hf _)⟩
theorem oe (hc:X.calm=true):aP X (.builtin "sorted") (λxs H Q=>∃ (p:Addr) (kvs:List (Key×V)) (ss:List Str),xs=[.ref p]/\Rd H p (.dK kvs)/\kvs.map (·.1)=ss.map Sum.inr/\ss.length < 64/\∀ (a:Addr) (ss':List Str),H a=none->ss'.Perm ss->sortedS ss'=true->Q (.ref a) (upd H a (.lst (ss'.map V.str)))):=by
 intro pins s σ H xs us Q I r h;obtain ⟨p,kvs,ss,rfl,hp,names,hl,q⟩:=h;obtain ⟨u,rfl,rx⟩:=bE r
 cases rx
 obtain ⟨hz,hd,vs,kv,dof⟩:=kK I.hok hp;refine wX (ss:=ss) (I.ok.hd hc) hd dof (by rw [<- kv.keys];exact names) hl λh' t' a out ss' n kk low ea h1 h2 h3=>?_;have hn:H a=none:=I.hok.fresh low;refine ⟨.ref a,_,I.laid (t':=t') (o:=.lst (ss'.map V.str)) kk low ?_,rfl,q a ss' hn h2 h3⟩;have e2:seqObj "list" out n=seqObj "list" out.toList.toArray n:=by rw [aBC]
 refine ⟨?_,out.toList,n,hG h1,?_⟩
 ·rw [aAb,h2.length_eq];exact aAK (aAT hl (by decide))
 ·rw [ea,e2]
end
section
variable {a:Addr} {ob:Obj} {kvs:List (Key×V)} {g:TG} {l:Addr} {σ0:St} {H0:Hp} {R:Hp->Prop} {tb:List V->Addr->St->Hp->(List V->St->Hp->Prop)->Prop}
end
section
variable {X:Cx}
end
section
variable {prog:Program} {w:World} {A:Around} {E:Value->Shared->Prop} {s:Shared}
end
section
variable {X:Cx}
end
section
variable {X:Cx} {K:W.Frag}
end
section
variable {X:Cx} {K:W.Frag}
inductive JSlP (K:W.Frag) (x:V) (lo hi:Option Int) (H:Hp) (Q:VK):Prop
 | mk (l:List Dt):(IsP K H (.tup l) x)->(∀ v H',Same H H'->IsP K H' (.tup (sC l lo hi)) v->Q v H')->JSlP K x lo hi H Q
def BI (K:W.Frag):V->Option Int->Option Int->Hp->VK->Prop:=λx lo hi H Q=>JSlP K x lo hi H Q
inductive JLenS (K:W.Frag) (xs:List V) (H:Hp) (Q:VK):Prop
 | mk (p:Addr) (ys:List V):(xs=[.ref p])->((SqL K H p ys\/SqT K H p ys))->(Q (.int ys.length) H)->JLenS K xs H Q
def AK (K:W.Frag):List V->Hp->VK->Prop:=λxs H Q=>JLenS K xs H Q
def xn (K:W.Frag):List V->Hp->VK->Prop:=λxs H Q=>∃ p ys,xs=[.ref p]/\(SqL K H p ys\/SqT K H p ys)/\∀ l,H l=none->Q (.ref l) (upd H l (.lst ys))
def BJ (K:W.Frag):List V->Hp->VK->Prop:=λxs H Q=>∃ p ys,xs=[.ref p]/\true=true/\SqL K H p (bls ys)/\Q (.bl (ys.all id)) H
def zc (K:W.Frag):List V->Hp->VK->Prop:=λxs H Q=>∃ x fs,xs=[x]/\IsP K H (.tup (fs.map prD)) x/\(fs.map (·.1)).Nodup/\fs.length<=1000/\∀ p H',H p=none->Same H H'->DicQ K H' p fs->Q (.ref p) H'
theorem cg (hK:X.K=K):SlR X (BI K):=by
 subst hK;intro pins s σ H x v vl vu lo hi sl Q I rx hs pl pu h;obtain ⟨l,a,q⟩:=h;exact wM _ _ _ _ _ _ _ _ _ _ _ _ I rx hs pl pu ⟨l,a,q⟩
theorem uL (hK:X.K=K):SlR X (Ap K):=by subst hK;exact wB
theorem uM (hK:X.K=K):OpR X (binaryOp .Add) (ym K):=by subst hK;exact wR
theorem call_len_seqN (hK:X.K=K):aP X (.builtin "len") (AK K):=by
 subst hK;intro pins s σ H xs us Q I r h;obtain ⟨x,l,a,b,q⟩:=h;exact f7 _ _ _ _ _ _ _ I r ⟨x,l,a,b,q⟩
theorem jP (hK:X.K=K):aP X (.type "list") (xn K):=by subst hK;exact lH
theorem call_allN (hK:X.K=K) (hc:X.calm=true):aP X (.builtin "all") (BJ K):=by
 subst hK;intro pins s σ H xs us Q I r h;obtain ⟨p,ys,rfl,_,hs,q⟩:=h;exact um _ _ _ _ _ _ _ I r ⟨p,ys,rfl,hc,hs,q⟩
theorem aT (hK:X.K=K) (hc:X.calm=true):aP X (.type "dict") (zc K):=by subst hK;exact pT hc
end
section
variable {K:W.Frag} {a b l:Addr} {xs ys:List V} {g:TG} {tb:List V->Addr->St->Hp->(List V->St->Hp->Prop)->Prop} {R:Hp->Prop} {σ0:St} {H0:Hp}
theorem pU (Pv:Nat->List V->St->Hp->Prop) (h0:Pv 0 [] σ0 H0) (hla:∀ i us σ H,Pv i us σ H->SqT K H a xs/\SqT K H b ys)
  (hs:∀ i x y T us σ H (N:List V->St->Hp->Prop),xs[i]?=some x->ys[i]?=some y->H T=none->Pv i us σ H->(∀ us' σ' H',Pv (i+1) us' σ' H'->N us' σ' H')->g (.ref T) σ (upd H T (.tup [x,y])) λσ2 H2=>tb us l σ2 H2 N)
  (hd:∀ us σ H,Pv (min xs.length ys.length) us σ H->R H) :
  ∃ W:Nat->Nat->List V->St->Hp->Prop,(∃ m,W 0 m [] σ0 H0)/\∀ i m us σ' H',W i m us σ' H'->((nX K a b).stop i H'/\R H') \/
   ((nX K a b).go i H'/\∀ x H'',(nX K a b).yld i H' x H''->g x σ' H'' λσ2 H2=>tb us l σ2 H2 λus' σ3 H3=>∃ m',m' < m/\W (i+1) m' us' σ3 H3):=sN (Q:=λ_ H=>R H) Pv h0 hla hs hd
end
section
variable {X:Cx} {K:W.Frag}
theorem sQ:MtM X "list.insert" (λx vs H Q=>∃ l xs i y,x=.ref l/\vs=[.int i,y]/\H l=some (.lst xs)/\0<=i/\i<=(xs.length:Int)/\xs.length<=1000/\Q .non (upd H l (.lst (xs.take i.toNat++y :: xs.drop i.toNat)))):=by
 intro pins s σ H x vs v us Q I rx rv h;obtain ⟨l,xs,i,y,rfl,rfl,hH,h0,h1,hz,q⟩:=h
 cases rx
 obtain ⟨u1,u,rfl,r1,ru⟩:=rv.two;obtain ⟨t,rfl⟩:=r1;obtain ⟨z,its,n,r,hl,e⟩:=I.lstM hH;have lx:its.length=xs.length:=r.length.symm;refine call_meets F.slot_list_insert ⟨_,e,rfl⟩ F.entry_list_insert (F.args_list_insert_3 _ _ _) (PySem.AutoSeq1.list_insert_list_int_val_1 l its.toArray n i t u ?_ (by rw [aAi];exact aAE (show its.length<=1000 by lia) (by decide))) ⟨e,?_⟩
 ·unfold Builtin.List.listFitsIndex;simp;lia
 ·refine ⟨.non,_,I.lset (its':=its.take i.toNat++u :: its.drop i.toNat) hH e ?_ (Vals.append (r.take _) (.cons ru (r.drop _))) ?_,rfl,q⟩
  ·have hi:min i.toNat its.toArray.size=i.toNat:=by rw [aAi];lia
   have hneg:¬ i < 0:=by lia
   simp only [hneg,if_false,hi];apply Array.ext';simp;exact aBu (by rw [aBb];lia)
  ·rw [aAP,aAx,aAp,aBb];have:1001<=sizeLine:=by decide
   lia
end
end L2
namespace PySem
open Sem (wp)
namespace F
theorem miss_keys_list:typeLookup (.type "list") "keys" = pure none:=by rw [typeLookup_type,builtinLookup_eq_fast];kernel_rfl
end F
theorem jc {prog:Program} {w:World} {A:Around} {E:Value->Shared->Prop} {s:Shared} {a:Addr} {o:Obj} {xs:Array Value} {k:Nat} {Q:Option Value->Shared->Prop}
  (hx:s.heap.get? a=some o) (hc:o.cls=.type "list") (hdat:o.data=.seq xs k) (hd:o.dict=none) (hA:A.handled=none)
  (h:∀ h' tk e,Heap.NewExcOf s.heap h' e "AttributeError" ->Q none { s with heap:=h',toks:=tk }) :
  wpAny (model prog w) A (getAttr? (.ref a) "keys") Q E s:=by
 obtain ⟨c,dct,dat,sl⟩:=o;simp only at hc hdat hd;subst hc hdat hd;obtain ⟨hp,g,d,tk,os⟩:=s;have hT:∀ tk',(⟨hp,g,d,tk',os⟩:Shared).TypeIs (.ref a) "list" :=λ_=>⟨_,hx,rfl⟩;have f1:=sub_AttributeError;have f3:=F.slot_list_getattribute.lookup;have f4:=F.slot_list_getattribute.bind (.ref a);have f5:=am_list_getattr_none;unfold getAttr? getAttrBy? getAttrBy
 repeat (any_goals (first | assumption | exact hT _ | ((with_reducible show wpAny _ _ (call (Value.builtin "list.__getattribute__") _ _) _ _ _);refine call_meets F.slot_list_getattribute (hT _) am_entry_list_getattribute (F.args_list_getattribute_2 _ _) (meets_getattribute_miss_list a xs k sl "keys" _ F.miss_keys_list (by decide)) ⟨hx,hA,λh' tk' e hx'=>?_⟩) | wp_step))
 obtain ⟨t',u',he⟩:=hx'.there;show wpAny _ _ (getattributeRaised _ _ _ _ _ _ _) _ _ _;unfold getattributeRaised
 repeat (any_goals (first | assumption | wp_step))
 all_goals exact h _ _ _ hx'.of
section
variable {prog:Program} {w:World} {K:Type} [DecidableEq K] {kd:KeyKind prog w K} {A:Around} {E:Value->Shared->Prop}
theorem aU {h h':Heap} {ks:List K} {a:Addr} (x:IsTupleKey kd h ks a) (k:∀ o,h.get? a=some o->h'.get? a=some o):IsTupleKey kd h' ks a:=by
 obtain ⟨o,its,n,e,r⟩:=x;exact ⟨o,its,n,k o e,r⟩
theorem jd {h h':Heap} {d:Addr} {xs:List (List K×Addr×Value)} (x:h.DictOfH (tupleKind kd) d xs) (hd:∀ o,h.get? d=some o->h'.get? d=some o) (k:∀ y∈xs,∀ o,h.get? y.2.1=some o->h'.get? y.2.1=some o):h'.DictOfH (tupleKind kd) d xs:=by
 obtain ⟨o,es,ep,e,c,dt,he,his,nd⟩:=x;exact ⟨o,es,ep,hd o e,c,dt,he,λy hy=>aU (his y hy) (k y hy),nd⟩
def Heap.PairItemsT (h:Heap) (kd:KeyKind prog w K) (items:Array Value) (kvs:List (List K×Addr×Value)):Prop :=
 items.size=kvs.length/\∀ (i:Nat) (kv:List K×Addr×Value),kvs[i]?=some kv->∃ a:Addr,items[i]?=some (.ref a)/\h.IsTuple a #[.ref kv.2.1,kv.2.2]/\IsTupleKey kd h kv.1 kv.2.1
theorem fM {t it d:Addr} {items:Array Value} {kvs:List (List K×Addr×Value)} {R:Result->Shared->Prop} (hh:A.handled=none) (hu:A.in1.units < cLine) (hdt:t≠d) (hit:t≠it) (hdi:d≠it) (hav:∀ (i:Nat) (a:Addr),items[i]?=some (.ref a)->a≠d/\a≠it)
  (hak:∀ y∈kvs,y.2.1≠d/\y.2.1≠it) (hsz:kvs.length+kvs.length<=sizeLine) (nd:(kvs.map (·.1)).Nodup) :
  ∀ (n i:Nat) (s:Shared),kvs.length - i=n->i<=kvs.length->s.heap.IsList t items->s.heap.PairItemsT kd items kvs->s.heap.IsListIter it t i->s.heap.DictOfH (tupleKind kd) d (kvs.take i) ->
   (∀ h' tk,h'.DictOfH (tupleKind kd) d kvs->(∀ b o,b≠d->b≠it->s.heap.get? b=some o->h'.get? b=some o)->R (.ok (.ret .none)) { s with heap:=h',toks:=tk }) ->
   codeAny (model prog w) A (.builtin "dict.update.loop" ⟨[.ref d,.ref it,rawInt i,.none],[]⟩) R s:=by
 intro n
 induction n with
 | zero =>
  intro i s hn hi ht hp hs hd hR;have e:i=kvs.length:=by lia
  refine codeAny_builtin F.entry_dict_update_loop ?_;rw [Around.under_plainId F.plain_dict_update_loop _];show wpAny _ A.in1 (pyNext (.ref it) >>= _) _ _ s;refine wpAny_bind (wpAny_pyNext_list_end (by first | exact hh | simpa using hh) hs ht (by rw [e,<- hp.1];simp) λh' eb=>?_);show wpAny _ _ (Builtin.Dict.addKeywords d [] >>= _) _ _ _;have hd':h'.DictOfH (tupleKind kd) d kvs:=by
   rw [e,aAt] at hd;exact jd hd (λo z=>eb d o hdi z) λy hy o z=>eb _ o (hak y hy).2 z
  have q:=hR h' s.toks hd' λb o _ hb z=>eb b o hb z;exact wpAny_bind (wpAny_pure (wpAny_pure q))
 | succ n ih =>
  intro i s hn hi ht hp hs hd hR;have hlt:i < kvs.length:=by lia
  obtain ⟨kv,hkv⟩:∃ kv,kvs[i]?=some kv:=⟨_,aAj hlt⟩;obtain ⟨a,hx,hpair,hkey⟩:=hp.2 i kv hkv;refine codeAny_builtin F.entry_dict_update_loop ?_;rw [Around.under_plainId F.plain_dict_update_loop _];show wpAny _ A.in1 (pyNext (.ref it) >>= _) _ _ s;refine wpAny_bind (wpAny_pyNext_list_item hs ht hx λh1 hs1 sb=>?_);obtain ⟨av1,av2⟩:=hav i a hx;have kmem:kv∈kvs:=aAs hkv;obtain ⟨ak1,ak2⟩:=hak kv kmem;have keep1:∀ b o,b≠it->s.heap.get? b=some o->h1.get? b=some o:=λb o hb z=>(sb.2 b hb).trans z;obtain ⟨po,pe,pc,pn,pd⟩:=hpair;have pe1:=keep1 a po av2 pe;have hd1:h1.DictOfH (tupleKind kd) d (kvs.take i):=jd hd (λo z=>keep1 d o hdi z) λy hy o z=>keep1 _ o (hak y (List.mem_of_mem_take hy)).2 z;have hkey1:IsTupleKey kd h1 kv.1 kv.2.1:=aU hkey λo z=>keep1 _ o ak2 z;refine wpAny_bind (wpAny_holding ?_);refine wpAny_bind (wpAny_tryCatch ?_);unfold Builtin.Dict.pairItems;refine wpAny_bind (wpAny_typeOf (T:= "tuple") ⟨_,pe1,pc⟩ ?_);rw [if_pos (by decide)];refine wpAny_bind (wpAny_seqItems pe1 pd ?_);refine wpAny_pure ?_;show wpAny _ _ (holding [.ref kv.2.1,kv.2.2] (dictSet d (.ref kv.2.1) kv.2.2)) _ _ _;have len1:(kvs.take i).length<=sizeLine:=by rw [aAp];lia
  refine wpAny_holding (wpAny_dictSet_heap (knd:=tupleKind kd) (s:={ s with heap:=h1 }) (by exact hu) hkey1 hd1 (λh2 hd2 sb2=>?_) len1);refine wpAny_pure ⟨plainId_quiet F.plain_dict_update_loop _,?_⟩;have keep2:∀ b o,b≠d->b≠it->s.heap.get? b=some o->h2.get? b=some o:=λb o hb hb' z=>(sb2.2 b hb).trans (keep1 b o hb' z);have enew:storedH (kvs.take i) kv.1 kv.2.1 kv.2.2=kvs.take (i+1):=by
   rw [aAw,hkv];refine storedH_new (atKey_none_of_get λj p z=>?_) _ _;rw [List.getElem?_take] at z
   split at z
   ·rename_i hj
    have hj2:j < kvs.length:=aAT hj hlt;have e1:kvs[j]=(kv.1,p):=Option.some.inj ((aAj hj2).symm.trans z);have e2:kvs[i]=kv:=Option.some.inj ((aAj hlt).symm.trans hkv);have n1:=(aBQ.mp nd) j i (by rw [aAb];exact hj2) (by rw [aAb];exact hlt) hj;rw [aBx,aBx,e1,e2] at n1;exact n1 rfl
   ·cases z
  rw [enew] at hd2;have ht2:h2.IsList t items:=by
   obtain ⟨o,ho,r⟩:=ht;exact ⟨o,keep2 t o hdt hit ho,r⟩
  have hs2:h2.IsListIter it t (i+1):=by
   obtain ⟨o,ho,r⟩:=hs1;exact ⟨o,(sb2.2 it (Ne.symm hdi)).trans ho,r⟩
  have hp2:h2.PairItemsT kd items kvs:=⟨hp.1,λj y e=>by
   obtain ⟨b,e1,⟨o,e2,r⟩,e3⟩:=hp.2 j y e;have k1:=hak y (aAs e);exact ⟨b,e1,⟨o,keep2 b o (hav j b e1).1 (hav j b e1).2 e2,r⟩,aU e3 λo z=>keep2 _ o k1.1 k1.2 z⟩⟩
  have e:rawInt ((i:Int)+1)=rawInt ((i+1:Nat):Int):=by rw [Int.natCast_add];rfl
  show codeAny _ _ (.builtin "dict.update.loop" ⟨[.ref d,.ref it,rawInt ((i:Int)+1),.none],[]⟩) _ _;rw [e];exact ih (i+1) { s with heap:=h2,toks:=_ } (by lia) hlt ht2 hp2 hs2 hd2 λh' tk hd' k'=>hR h' tk hd' λb o hb hb' z=>k' b o hb hb' (keep2 b o hb hb' z)
theorem hJ {s:Shared} {t:Addr} {o:Obj} {items:Array Value} {n:Nat} {kvs:List (List K×Addr×Value)} {Q:Value->Shared->Prop} (hh:A.handled=none) (hu:A.in1.in1.units < cLine) (ho:s.heap.get? t=some o) (hc:o.cls=.type "list") (hdat:o.data=.seq items n) (hd:o.dict=none)
  (hp:s.heap.PairItemsT kd items kvs) (hsz:kvs.length+kvs.length<=sizeLine) (nd:(kvs.map (·.1)).Nodup)
  (h:∀ h' tk,h'.DictOfH (tupleKind kd) s.heap.objs.size kvs->(∀ b o,s.heap.get? b=some o->h'.get? b=some o)->Q (.ref s.heap.objs.size) { s with heap:=h',toks:=tk }) :
  wpAny (model prog w) A (call (.type "dict") [.ref t]) Q E s:=by
 refine callType_codes (Q₁:=λobj s₁=>obj=.ref s.heap.objs.size/\s₁={ s with heap:=s.heap.push { cls:=.type "dict",data:=.dict #[] } }) F.kt_called_dict (F.kt_typeCall_dict_1 _) F.entry_dict_init (kt_code_dict_new _ ⟨rfl,rfl⟩) ?_;rintro obj s₁ ⟨rfl,rfl⟩;have hnew:(s.heap.push { cls:=.type "dict",data:=.dict #[] }).DictOfH (tupleKind kd) s.heap.objs.size []:=Heap.DictOfH.new s.heap;have ho1:(s.heap.push { cls:=.type "dict",data:=.dict #[] }).get? t=some o:=aAa _ ho;have htl:t < s.heap.objs.size:=aAe ho;refine ⟨hnew.typeIs,F.args_dict_init_2 _ _,?_⟩;unfold Builtin.«dict.__init__»;refine wpAny_bind ?_;unfold Builtin.Dict.selfAndRest;refine wpAny_bind (wpAny_notOrdered_dict hnew.typeIs ?_);show wpAny _ _ (pure (s.heap.objs.size,[Value.ref t])) _ _ _;refine wpAny_pure ?_;show wpAny _ _ (Builtin.Dict.updateFrom "dict.__init__" s.heap.objs.size (.ref t) [] .none) _ _ _;unfold Builtin.Dict.updateFrom;refine wpAny_bind (wpAny_typeOf (T:= "list") ⟨_,ho1,hc⟩ ?_);rw [if_pos (by decide)];refine wpAny_bind (jc ho1 hc hdat hd (by first | exact hh | simpa using hh) λh1 tk1 e hx=>?_);rw [if_pos (by rfl)];refine wpAny_bind (wpAny_rule ?_);have kp1:∀ b o,(s.heap.push { cls:=.type "dict",data:=.dict #[] }).get? b=some o->h1.get? b=some o:=λb o z=>hx.keeps b o z;have ht1:h1.IsList t items:=⟨o,kp1 t o ho1,hc,n,hdat⟩;refine wpAny_bind (wpAny_pyIter_list ht1 ?_);have hit:s.heap.objs.size < h1.objs.size:=by
  obtain ⟨o2,es,ep,ho2,_⟩:=hnew;exact aAe (kp1 _ _ ho2)
 have kp0:∀ b o,s.heap.get? b=some o->h1.get? b=some o:=λb o z=>kp1 b o (aAa _ z);have kpi:∀ b o,s.heap.get? b=some o->(h1.push { cls:=.type "list_iterator",data:=.fields #[.ref t,.int 0 0] }).get? b=some o:=λb o z=>aAa _ (kp0 b o z);refine wpAny_pure ⟨plainId_quiet F.plain_dict_update_loop _,?_⟩;have lowK:∀ y∈kvs,y.2.1 < s.heap.objs.size:=λy hy=>by
  obtain ⟨i,hi⟩:=aBD hy;obtain ⟨b,_,_,⟨ok,_,_,e2,_⟩⟩:=hp.2 i y hi;exact aAe e2
 refine fM (kd:=kd) (t:=t) (items:=items) (kvs:=kvs) (by first | exact hh | simpa using hh) ?_ (aAk htl) (aAk (aAT htl hit)) (aAk hit) (λi a z=>?_) (λy hy=>⟨aAk (lowK y hy),aAk (aAT (lowK y hy) hit)⟩) hsz nd kvs.length 0 _ (by lia) (aAB _)
  ⟨o,aAa _ (kp1 t o ho1),hc,n,hdat⟩ ⟨hp.1,λi y z=>?_⟩ ⟨_,aAh _ rfl,rfl,rfl⟩ ?_ λh' tk hd' k'=>⟨rfl,?_⟩
 ·exact hu
 ·have hi:i < kvs.length:=by
   rw [<- hp.1];exact (aBK.mp z).1
  obtain ⟨b,e1,⟨ob,e2,_⟩,_⟩:=hp.2 i _ (aAj hi);rw [z] at e1;have e3:a=b:=by injection (Option.some.inj e1)
  subst e3;have:=aAe e2;exact ⟨aAk this,aAk (aAT this hit)⟩
 ·obtain ⟨b,e1,⟨ob,e2,r⟩,e3⟩:=hp.2 i y z;exact ⟨b,e1,⟨ob,kpi b ob e2,r⟩,aU e3 λo z=>kpi _ o z⟩
 ·rw [aB4];obtain ⟨o2,es,ep,ho2,r⟩:=hnew;exact ⟨o2,es,ep,aAa _ (kp1 _ _ ho2),r.1,r.2.1,r.2.2.1,λx hx=>by simp at hx,List.nodup_nil⟩
 ·refine h h' tk hd' λb ob z=>k' b ob (aAk (aAe z)) (aAk (aAT (aAe z) hit)) (kpi b ob z)
end
end PySem
namespace L2
open PySem PySem.Spec PyProof.Rows
def kDt:Key->Dt
 | .inl i=>.int i
 | .inr z=>.str z
theorem gv {K:W.Frag} {H:Hp} {k:Key} {v:V} (h:IsP K H (kDt k) v):v=kV k:=by
 cases k <;> (cases h;rfl)
theorem kQ {K:W.Frag} {H:Hp}:∀ {ks:List Key} {xs:List V},IsPs K H (ks.map kDt) xs->xs=ks.map kV
 | [],_,h=>by cases h;rfl
 | k :: ks,_,h=>by
  cases h with
  | cons h r=>rw [gv h,kQ r];rfl
def je (P:Program) (w:World) (p:Addr) (xs:List (List Key×Addr×Value)) (h:Heap):Prop :=
 ∃ o es ep,h.get? p=some o/\o.ExactDict/\o.data=.dict es ep/\es.toList=xs.map (entryOfKey (tupleKind (aj P w)))/\(xs.map (·.1)).Nodup
def DicT (P:Program) (w:World) (K:W.Frag) (H:Hp) (p:Addr) (kvs:List (List Key×Dt)):Prop :=
 (p == sysModules)=false/\∃ xs:List (List Key×Addr×Value),H p=some (.ext (je P w p xs)) /\
  Paired (λ(a:List Key×Dt) (b:List Key×Addr×Value)=>a.1=b.1/\IsP K H (.tup (a.1.map kDt)) (.ref b.2.1)/\∃ v,RelV v b.2.2/\IsP K H a.2 v) kvs xs
section
variable {X:Cx} {pins:List (Addr×Obj)} {σ:St} {H:Hp} {s:Shared}
theorem bX (I:Inv X pins σ H s) {ks:List Key} {a:Addr} (h:IsP X.K H (.tup (ks.map kDt)) (.ref a)):IsTupleKey (aj X.prog X.w) s.heap ks a:=by
 obtain ⟨b,ys,e,ha,_,ra⟩:=h.unref
 cases e
 obtain ⟨its,r,⟨o,h1,h2,n,h3⟩,_⟩:=I.tuple ha;rw [kQ ra] at r;exact ⟨o,its.toArray,n,h1,h2,h3,by simpa using gY r⟩
theorem DicT.dict {p:Addr} {kvs:List (List Key×Dt)} (I:Inv X pins σ H s) (h:DicT X.prog X.w X.K H p kvs):(p == sysModules)=false/\∃ xs:List (List Key×Addr×Value),s.heap.DictOfH (tupleKind (aj X.prog X.w)) p xs /\
  Paired (λ(a:List Key×Dt) (b:List Key×Addr×Value)=>a.1=b.1/\IsP X.K H (.tup (a.1.map kDt)) (.ref b.2.1)/\∃ v,RelV v b.2.2/\IsP X.K H a.2 v) kvs xs:=by
 obtain ⟨e0,xs,e,r⟩:=h;obtain ⟨⟨o,es,ep,h1,h2,h3,h4,h5⟩,_⟩:=(show ObjOk X.prog X.w H s.heap p (.ext (je X.prog X.w p xs)) from I.hok p _ e);refine ⟨e0,xs,⟨o,es,ep,h1,h2,h3,h4,λy hy=>?_,h5⟩,r⟩;have all:∀ {l:List (List Key×Dt)} {m:List (List Key×Addr×Value)},Paired (λ(a:List Key×Dt) (b:List Key×Addr×Value)=>a.1=b.1/\IsP X.K H (.tup (a.1.map kDt)) (.ref b.2.1)/\∃ v,RelV v b.2.2/\IsP X.K H a.2 v) l m->∀ y∈m,IsTupleKey (aj X.prog X.w) s.heap y.1 y.2.1:=by
  intro l m q
  induction q with
  | nil=>intro y hy;exact nomatch hy
  | @cons p q ps qs hq t ih =>
   intro y hy;rcases aAf.mp hy with rfl | hy
   ·rw [<- hq.1];exact bX I hq.2.1
   ·exact ih y hy
 exact all r y hy
def bY (kvs:List (List Key×Dt)) (k:List Key):Option Dt:=(kvs.find? λp=>decide (p.1=k)).map (·.2)
theorem cW {K:W.Frag} {k:List Key}:∀ {kvs:List (List Key×Dt)} {xs:List (List Key×Addr×Value)},
  Paired (λ(a:List Key×Dt) (b:List Key×Addr×Value)=>a.1=b.1/\IsP K H (.tup (a.1.map kDt)) (.ref b.2.1)/\∃ v,RelV v b.2.2/\IsP K H a.2 v) kvs xs ->
  (bY kvs k=none/\atKey xs k=none)\/∃ d p v,bY kvs k=some d/\atKey xs k=some p/\RelV v p.2/\IsP K H d v
 | _,_,.nil=>.inl ⟨rfl,rfl⟩
 | _,_,.cons (a:=p) (b:=q) hq t=>by
  by_cases e:p.1=k
  ·obtain ⟨e1,_,v,r,i⟩:=hq;exact .inr ⟨p.2,q.2,v,by simp [bY,e],by simp [atKey,<- e1,e],r,i⟩
  ·have e2:¬ q.1=k:=λz=>e (hq.1.trans z);have z1:∀ l,bY (p :: l) k=bY l k:=λl=>by simp [bY,e]
   have z2:∀ l,atKey (q :: l) k=atKey l k:=λl=>by simp [atKey,e2]
   rw [z1,z2];exact cW t
end
end L2
namespace PySem
open Sem (wp)
section
variable {prog:Program} {w:World} {K:Type} [DecidableEq K] {knd:HeapKind prog w K} {A:Around} {E:Value->Shared->Prop} {s:Shared}
end
end PySem
namespace L2
open PySem PySem.Spec PyProof.Rows
section
variable {X:Cx} {pins:List (Addr×Obj)} {σ:St} {H:Hp} {s:Shared}
end
theorem DicT.same {P:Program} {w:World} {K:W.Frag} {H H':Hp} {p:Addr} {kvs:List (List Key×Dt)} (g:Same H H') (h:DicT P w K H p kvs):DicT P w K H' p kvs:=by
 obtain ⟨e0,xs,e,r⟩:=h;exact ⟨e0,xs,g _ _ e,L2.Paired.mapP r λa b ⟨z1,z2,v,z3,z4⟩=>⟨z1,z2.same g,v,z3,z4.same g⟩⟩
theorem u2 {A:Around} (h:A.units+64 < cLine):A.units+2 < cLine:=by lia
section
variable {X:Cx} {o e f:Expr} {apos cpos:Pos} {td ty tx:TE}
theorem sR {pins:List (Addr×Obj)} {σ:St} {H:Hp} {s:Shared} (I:Inv X pins σ H s):∀ {kvs:List (List Key×Dt)} {xs:List V} {its:List Value},IsPs X.K H (kvs.map λp=>.tup [.tup (p.1.map kDt),p.2]) xs->Vals xs its ->
  ∃ es:List (List Key×Addr×Value),Paired (λ(a:List Key×Dt) (b:List Key×Addr×Value)=>a.1=b.1/\IsP X.K H (.tup (a.1.map kDt)) (.ref b.2.1)/\∃ v,RelV v b.2.2/\IsP X.K H a.2 v) kvs es/\its.length=es.length/\es.map (·.1)=kvs.map (·.1) /\
   ∀ (i:Nat) (kv:List Key×Addr×Value),es[i]?=some kv->∃ a:Addr,its[i]?=some (.ref a)/\s.heap.IsTuple a #[.ref kv.2.1,kv.2.2]/\IsTupleKey (aj X.prog X.w) s.heap kv.1 kv.2.1:=by
 intro kvs
 induction kvs with
 | nil =>
  intro xs its h r
  cases h
  cases r
  exact ⟨[],.nil,rfl,rfl,λi kv q=>by simp at q⟩
 | cons f fs ih =>
  intro xs its h r
  cases h with
  | cons h1 h2 =>
   cases r with
   | cons r1 r2 =>
    obtain ⟨es,e1,e2,e3,e4⟩:=ih h2 r2;obtain ⟨a,ys,rfl,ha,pa,ra⟩:=h1.unref
    cases r1
    obtain ⟨its',r',p',_⟩:=I.tuple ha
    cases ra with
    | cons d1 ra =>
     cases ra with
     | @cons _ _ v _ d2 ra =>
      cases ra
      have d1':=d1;obtain ⟨b,zs,rfl,hb,pb,rb⟩:=d1.unref
      cases r' with
      | cons q1 r' =>
       cases r' with
       | @cons _ u _ _ q2 r' =>
        cases r'
        cases q1
        refine ⟨(f.1,b,u) :: es,.cons ⟨rfl,d1',v,q2,d2⟩ e1,by simp [e2],by simp [e3],λi kv q=>?_⟩
        cases i with
        | zero =>
         simp at q;subst q;exact ⟨a,rfl,p',bX I d1'⟩
        | succ i=>exact e4 i kv (by simpa using q)
theorem pV (hc:X.calm=true) (hu:X.A.units+2 < cLine):aP X (.type "dict") (λxs H Q=>∃ l zs kvs,xs=[.ref l]/\H l=some (.lst zs)/\IsPs X.K H (kvs.map λp=>.tup [.tup (p.1.map kDt),p.2]) zs/\(kvs.map (·.1)).Nodup/\kvs.length<=400000 /\
  ∀ p H',Same H H'->H p=none->DicT X.prog X.w X.K H' p kvs->Q (.ref p) H'):=by
 intro pins s σ H xs us Q I r h;obtain ⟨l,zs,kvs,rfl,hl,hp,nd,hz,q⟩:=h;obtain ⟨u,rfl,rx⟩:=bE r
 cases rx
 obtain ⟨_,its,n,r',e0⟩:=(show ObjOk X.prog X.w H s.heap l (.lst zs) from I.hok l _ hl);obtain ⟨es,k1,k2,k3,k4⟩:=sR I hp r';have hle:es.length=kvs.length:=by have:=congrArg List.length k3;simpa using this
 have big:=I.big;refine hJ (kd:=aj X.prog X.w) (kvs:=es) (I.ok.hd hc) hu e0 rfl rfl rfl ⟨by rw [aAi];exact k2,λi kv z=>?_⟩ (aAE (Nat.add_le_add (hle ▸ hz) (hle ▸ hz)) (by decide)) (by rw [k3];exact nd) λh' tk dd kp=>?_
 ·obtain ⟨b,z1,z2,z3⟩:=k4 i kv z;exact ⟨b,by simpa using z1,z2,z3⟩
 ·have hf:=I.hok.fresh (aAm s.heap.objs.size);have sm:Same H (upd H s.heap.objs.size (.ext (je X.prog X.w s.heap.objs.size es))):=ae hf _;obtain ⟨o,ens,ep,h1,h2,h3,h4,h5,h6⟩:=dd;have I2:Inv X pins σ (upd H s.heap.objs.size (.ext (je X.prog X.w s.heap.objs.size es))) { s with heap:=h',toks:=tk }:=I.laid (t':=tk) kp (aAm _)
   ⟨⟨o,ens,ep,h1,h2,h3,h4,h6⟩,⟨o,h1⟩,λx1 x2 ⟨o',es',ep',g1,g⟩ k=>⟨o',es',ep',k o' g1,g⟩⟩
  refine ⟨.ref s.heap.objs.size,_,I2,rfl,q _ _ sm hf ⟨by simp;exact aAH big,es,aa,L2.Paired.mapP k1 λa b ⟨z1,z2,v,z3,z4⟩=>⟨z1,z2.same sm,v,z3,z4.same sm⟩⟩⟩
end
end L2
namespace PySem
open Sem (wp)
open PyProof.Rows
section
variable {prog:Program} {w:World} {A:Around} {E:Value->Shared->Prop} {s:Shared} {δ:Type} {R:δ->Value->Prop} {h₀:Heap} {a:Addr} {D:List (Str×δ)} {k:Str} {tk:Tok}
theorem og {Q:Option Value->Shared->Prop} (T:KTD.TabOf R h₀ a D) (kp:∀ b o,h₀.get? b=some o->s.heap.get? b=some o) (q1:∀ d v,KTD.datumAt k D=some d->R d v->Q (some v) { s with toks:=s.toks+1 })
  (q2:KTD.datumAt k D=none->Q none { s with toks:=s.toks+1 }):wpAny (model prog w) A (dictGet a (.str k tk)) Q E s:=by
 obtain ⟨_,o,es,ep,ho0,hc,hd,hr⟩:=T;have ho:=kp _ _ ho0;obtain ⟨l⟩:=es;unfold dictGet
 try with_reducible refine wpAny_holding ?_
 refine wpAny_bind (wpAny_pyHash_str (wpAny_bind (KTD.kt_dictFind_strs (s:={ s with toks:=s.toks+1 }) ho hd (by simpa using hr.exact) ?_)));have hq:Q (findBy (λk v=>v.isStr k) (Array.mk l) k) { s with toks:=s.toks+1 }:=by
  rw [show findBy (λk v=>v.isStr k) (Array.mk l) k=(l.find? λe=>e.key.isStr k).map (·.val) by simp [findBy]]
  cases hat:KTD.datumAt k D with
  | none=>rw [show (l.find? λe=>e.key.isStr k).map (·.val)=none by have:=hr.find_none hat;simpa using this];exact q2 hat
  | some d =>
   obtain ⟨v,hv,rv⟩:=hr.find_some hat;rw [show (l.find? λe=>e.key.isStr k).map (·.val)=some v from hv];exact q1 d v hat rv
 rw [findBy_of_findIdx?] at hq
 cases hi:(Array.mk l).findIdx? λe=>e.key.isStr k with
 | some i=>rw [hi] at hq;exact wpAny_bind (wpAny_dictEntries (s:={ s with toks:=s.toks+1 }) ho hd (wpAny_pure hq))
 | none=>rw [hi] at hq;exact wpAny_pure hq
end
end PySem
namespace L2
open PySem PySem.Spec PyProof.Rows
def lU (K:W.Frag) (a:Addr) (D:List (Str×Addr)):Prop:=∀ h,K.In h->KTD.TabOf (λb v=>v=Value.ref b) h a D
theorem zW {K:W.Frag} {a:Addr} {D:List (Str×Addr)} (e:KTD.tabLook (λb v=>v == Value.ref b) (λb=>K.lookup b) a D=true):lU K a D :=
 λ_ X=>KTD.tab_of_look (L:=λb v=>v == Value.ref b) (R:=λb v=>v=Value.ref b) (λ_ _ z=>eq_of_beq z) (λb o q=>X b o q) e
def lV (K:W.Frag) (b:Addr) (ws:List Str):Bool:=match K.lookup b with
 | some o=>o.cls == .type "tuple" && (match o.data with | .seq vs _=>KTD.strsLook vs.toList ws && decide (vs.size<=1000) | _=>false)
 | none=>false
def uN (K:W.Frag) (D:List (Addr×List Str)):Bool:=D.all λp=>lV K p.1 p.2
def uO (K:W.Frag) (D:List (Addr×List Str)):Prop:=∀ p∈D,∀ H:Hp,SqT K H p.1 (p.2.map V.str)
theorem AL {K:W.Frag} {D:List (Addr×List Str)} (e:uN K D=true):uO K D:=by
 intro p hp H;have e1:lV K p.1 p.2=true:=aAO.mp e p hp;unfold lV at e1
 split at e1
 ·rename_i o ho
  simp only [aAA] at e1;obtain ⟨e2,e3⟩:=e1
  split at e3
  ·rename_i vs n hd
   simp only [aAA] at e3;exact .inr ⟨o,vs,n,ho,eq_of_beq e2,hd,aAK (ai (of_decide_eq_true e3.2)),hG (KTD.strs_of_look e3.1)⟩
  ·cases e3
 ·cases e1
def kR (k:Str):List (Str×Addr)->Option Addr
 | []=>none
 | (x,b) :: D=>if k=x then some b else kR k D
theorem jf {k:Str}:∀ D:List (Str×Addr),KTD.datumAt k D=kR k D
 | []=>rfl
 | (x,b) :: D=>by
  show (if decide (k=x)=true then some b else KTD.datumAt k D)=_
  by_cases h:k=x
  ·simp [kR,h]
  ·simp [kR,h,jf D]
section
variable {X:Cx}
end
section
variable {prog:Program} {w:World} {A:Around} {E:Value->Shared->Prop} {s:Shared}
end
section
variable {prog:Program} {w:World} {A:Around} {E:Value->Shared->Prop} {s:Shared}
end
section
variable {prog:Program} {w:World} {K:Type} [DecidableEq K] {knd:KeyKind prog w K} {A:Around} {E:Value->Shared->Prop}
end
section
variable {prog:Program} {w:World} {K:Type} [DecidableEq K] {knd:KeyKind prog w K} {A:Around} {E:Value->Shared->Prop}
end
section
variable {X:Cx}
end
section
variable {X:Cx}
theorem ps_tryN {body:List Stmt} {h0:ExceptHandler} {hs:List ExceptHandler} {pos:Pos} {t:TS} (hb:PSs X.nox body t):PS X.nox (.Try body (h0 :: hs) [] [] pos) t:=by
 intro pins s σ H D I h;refine wpAny_Try_except (wpAny_mono (hb pins s σ H D I h) (λf s1 q=>?_) (λe s1 q=>q.elim))
 cases f with
 | next=>exact wpAny_execs_nil q
 | ret u=>exact q
 | brk=>exact q
 | cont=>exact q
end
open AutoSeq1 (wpAny_loadPart')
structure ZOut (lo:Nat) (xs ys acc:Array Value) (h:Heap):Prop where
 pr:∀ (j:Nat) (e:Value),acc[j]?=some e->∃ (T:Addr) (x y:Value),e=.ref T/\lo<=T/\xs[j]?=some x/\ys[j]?=some y/\IsPair h T x y
 ij:∀ (j k:Nat) (e:Value),acc[j]?=some e->acc[k]?=some e->j=k
theorem ZOut.keep {lo:Nat} {xs ys acc:Array Value} {h h':Heap} (Z:ZOut lo xs ys acc h) (k:∀ T x y,lo<=T->IsPair h T x y->IsPair h' T x y):ZOut lo xs ys acc h' :=
 ⟨λj e hj=>by obtain ⟨T,x,y,a,b,c,d,f⟩:=Z.pr j e hj;exact ⟨T,x,y,a,b,c,d,k T x y b f⟩,Z.ij⟩
section
variable {prog:Program} {w:World} {A:Around} {E:Value->Shared->Prop} {s:Shared}
end
section
variable {prog:Program} {w:World} {A:Around} {E:Value->Shared->Prop} {s:Shared}
end
abbrev AM (x y:Value):Obj:={ cls:=.type "tuple",data:=.seq #[x,y] }
inductive RwZ (h:Heap) (lo:Nat):List V->List V->List (Addr×HO)->Prop
 | nil:RwZ h lo [] [] []
 | cons {T:Nat} {x y:Value} {v u:V} {vs us:List V} {r:List (Addr×HO)}:lo<=T->RelV v x->RelV u y->h.get? T=some (AM x y)->RwZ h lo vs us r->RwZ h lo (v :: vs) (u :: us) ((T,plO [v,u] [x,y]) :: r)
theorem RwZ.length {h:Heap} {lo:Nat} {vs us:List V} {r:List (Addr×HO)} (R:RwZ h lo vs us r):r.length=vs.length:=by
 induction R with
 | nil=>rfl
 | cons _ _ _ _ _ ih=>rw [aAx,aAx,ih]
section
variable {X:Cx}
end
end L2
namespace L2
open PySem PySem.Spec PyProof.Rows
open AutoSeq1 (wpAny_loadPart')
section
variable {prog:Program} {w:World} {A:Around} {E:Value->Shared->Prop} {s:Shared}
end
section
variable {X:Cx}
end
end L2
namespace L2
open PySem PySem.Spec PyProof.Rows
section
variable {X:Cx} {o e:Expr} {es:List Expr} {to:TE} {t:TA} {name:Str} {apos cpos:Pos} {T id:String} {r:V->List V->Hp->VK->Prop}
end
section
variable {P:Program} {w:World} {A:Around} {E:Value->Shared->Prop} {s:Shared}
end
section
variable {P:Program} {w:World} {A:Around} {R:Result->Shared->Prop} {it:Addr} {fp wr:List Addr} {G:Array GenState->Array GenState->Prop} {n:Nat} {Pt:Nat->Value->Prop} {St:Nat->Shared->Prop}
end
section
variable {P:Program} {w:World} {A:Around} {E:Value->Shared->Prop} {s:Shared}
theorem uP (a:Value) {Q₁:Value->Shared->Prop} (h:Q₁ (.ref s.heap.objs.size) { s with heap:=s.heap.push (df (!w.params.followText "set-order")) }) :
  codeAny (model P w) A (.call (.builtin "set.__new__") ⟨[.type "set",a],[]⟩) (wants Q₁ E) s:=by
 refine codeAny_of_tree ?_;show wpAny _ A.in1 (do checkBuiltinCall "set.__new__" ⟨[.type "set",a],[]⟩;again (.builtin "set.__new__" ⟨[.type "set",a],[]⟩)) _ _ s;refine wpAny_bind (wpAny_of_eq (PySem.F.newCall_set_1 a) (wpAny_pure ⟨plainId_quiet PySem.F.plain_set_new _,codeAny_builtin PySem.F.entry_set_new ?_⟩));rw [Around.under_plainId PySem.F.plain_set_new _];unfold Builtin.«set.__new__» Builtin.Frozenset.newClass;have hsub:=sub_set_self;obtain ⟨hp,g,d,tk,os⟩:=s;dsimp only
 wp_walk
 refine wpAny_askSetting (wpAny_pure ?_);dsimp only;simp only [newObj];exact wpAny_bind (wpAny_alloc (wpAny_pure (wpAny_pure h)))
end
section
variable {P:Program} {w:World} {A:Around} {E:Value->Shared->Prop} {s:Shared}
def SIt (h:Heap) (I a:Addr) (first:Value) (i n ep:Nat):Prop:=∃ o,h.get? I=some o/\o.cls=.type "set_iterator" /\o.data=.fields #[first,.int i 0,.ref a,.int n 0,.int ep 0]
theorem SIt.type {I a:Addr} {first:Value} {i n ep:Nat} (x:SIt s.heap I a first i n ep):s.TypeIs (.ref I) "set_iterator" :=let ⟨o,ho,hc,_⟩:=x;⟨o,ho,hc⟩
theorem SIt.at {h h':Heap} {I a:Addr} {first:Value} {i n ep:Nat} (x:SIt h I a first i n ep) (e:∀ o,h.get? I=some o->h'.get? I=some o):SIt h' I a first i n ep:=let ⟨o,ho,r⟩:=x;⟨o,e _ ho,r⟩
end
section
variable {P:Program} {w:World} {A:Around} {E:Value->Shared->Prop} {s:Shared}
end
section
variable {P:Program} {w:World} {A:Around} {E:Value->Shared->Prop} {s:Shared}
end
section
variable {P:Program} {w:World} {A:Around} {E:Value->Shared->Prop} {s:Shared}
end
section
variable {P:Program} {w:World} {A:Around} {E:Value->Shared->Prop} {s:Shared}
end
section
variable {P:Program} {w:World} {A:Around} {E:Value->Shared->Prop} {s:Shared}
end
section
variable {X:Cx}
end
def SqE:Bool->W.Frag->Hp->Addr->List V->Prop
 | true=>SqT
 | false=>SqL
theorem SqE.same {t:Bool} {K:W.Frag} {H H':Hp} {a:Addr} {xs:List V} (e:Same H H') (h:SqE t K H a xs):SqE t K H' a xs:=by
 cases t
 ·exact e.seq h
 ·exact e.tup h
theorem SqE.butD {t:Bool} {K:W.Frag} {H H':Hp} {a p:Addr} {xs:List V} {kvs:List (Key×V)} (hp:H p=some (.dK kvs)) (e:But p H H') (h:SqE t K H a xs):SqE t K H' a xs:=by
 cases t
 ·rcases h with (h | ⟨o,h⟩) | h
  ·exact .inl (.inl (e _ _ (ne_of h hp (by intro z;cases z)) h))
  ·exact .inl (.inr ⟨o,e _ _ (ne_of h hp (by intro z;cases z)) h⟩)
  ·exact .inr h
 ·rcases h with (h | ⟨o,h⟩) | h
  ·exact .inl (.inl (e _ _ (ne_of h hp (by intro z;cases z)) h))
  ·exact .inl (.inr ⟨o,e _ _ (ne_of h hp (by intro z;cases z)) h⟩)
  ·exact .inr h
section
variable {X:Cx} {elts:List Expr} {k:Nat} {tpos:Pos}
end
def DicN (K:W.Frag) (H:Hp) (p:Addr) (ns:List Str) (f:Str->Dt):Prop :=
 ∃ kvs,H p=some (.dK kvs)/\kvs.map (·.1)=ns.map (Sum.inr:Str->Key)/\∀ z∈ns,∃ v,aH kvs (Sum.inr z:Key)=some v/\IsP K H (f z) v
theorem sS (kvs:List (Key×V)) (ns:List Str) (z:Str) (v:V) (h:kvs.map (·.1)=ns.map (Sum.inr:Str->Key)):(bc kvs (Sum.inr z:Key) v).map (·.1)=(if z∈ns then ns else ns++[z]).map (Sum.inr:Str->Key):=by
 have ha:(kvs.any λkv=>decide (kv.1=(Sum.inr z:Key)))=decide (z∈ns):=by
  have e:(kvs.any λkv=>decide (kv.1=(Sum.inr z:Key)))=(kvs.map (·.1)).any λk=>decide (k=(Sum.inr z:Key)):=by rw [aBE];rfl
  rw [e,h,aBE,aAQ];simp
 unfold bc;rw [ha]
 by_cases hz:z∈ns
 ·rw [if_pos (by simpa using hz),if_pos hz,aAv,<- h];refine aBn λkv _=>?_;show (if kv.1=Sum.inr z then (kv.1,v) else kv).1=kv.1
  split <;> rfl
 ·rw [if_neg (by simpa using hz),if_neg hz,aAy,h,aAy]
  rfl
def zd (td ty tx:TE):TE:=λσ H Q=>td σ H λx H1=>∃ a,x=.ref a/\pO H1 a/\ty σ H1 λy H2=>tx σ H2 λz H3=>∃ kvs k,H3 a=some (.dK kvs)/\y=kV k/\kvs.length < sizeLine /\
 (∀ v,aH kvs k=some v->Q v H3)/\(aH kvs k=none->Q z (upd H3 a (.dK (bc kvs k z))))
section
variable {X:Cx} {o e f:Expr} {apos cpos:Pos} {td ty tx:TE}
theorem uQ (ho:PE X o td) (he:PE X e ty) (hf:PE X f tx) (m:M2 X o "setdefault" apos e f cpos):PE X (.Call (.Attribute o "setdefault" apos) [e,f] [] cpos) (zd td ty tx):=by
 intro pins s σ H Q I h;refine wpAny_Call_method m.base m.few m.line PySem.F.plainAttrs_dict PySem.F.slot_dict_setdefault PySem.F.type_dict_setdefault (thn (ho pins s σ H _ I h) λu s1 ⟨x,H1,I1,rx,a,ex,d,q1⟩=>?_);subst ex;obtain rfl:u=Value.ref a:=rx;obtain ⟨t1,t2,_⟩:=kL I1 d;refine ⟨t1,t2,?_⟩;rw [m.trees];refine Calls.callWith_builtin rfl (Calls.evalArgs_plain (Calls.spliced_cons (thn (he pins s1 σ H1 _ I1 q1) λiv s2 ⟨y,H2,I2,ry,q2⟩ =>
  Calls.spliced_cons (thn (hf pins s2 σ H2 _ I2 q2) λfv s3 ⟨z,H3,I3,rz,kvs,k,ea,ey,hl,q3,q4⟩=>Calls.spliced_nil ?_))))
 subst ey;obtain ⟨hz,hd,vs,rel,dd⟩:=qO I3.hok ea;have hz2:vs.length<=sizeLine:=by rw [<- rel.length];exact hz
 refine call_meetsIn PySem.F.slot_dict_setdefault dd.typeIs PySem.F.entry_dict_setdefault (PySem.F.args_dict_setdefault_3 _ _ _) (kt_meets_setdefault (aj X.prog X.w) a (iz ry) hd fv) ⟨vs,dd,hz2,λv hv=>?_,λhn h' dd' hs=>?_⟩
 ·have rk:=rel.val k;rw [hv] at rk
  cases hk:aH kvs k with
  | none=>rw [hk] at rk;cases rk
  | some v0 =>
   rw [hk] at rk;exact ⟨v0,H3,I3.tok _,rk,q3 v0 hk⟩
 ·have rk:=rel.val k;rw [hn] at rk
  cases hk:aH kvs k with
  | some v0=>rw [hk] at rk;cases rk
  | none =>
   have he:∃ q,h'.get? a=some q:=let ⟨q,_,_,hq,_⟩:=dd';⟨q,hq⟩;have hl2:(bc kvs k z).length<=sizeLine:=by have:=cC kvs k z;lia
   exact ⟨z,_,iY (t':=s3.toks+1) I3 (by rw [ea];exact True.intro) hs he (pN hl2 hd (rel.put k rz) dd'),rz,q4 hk⟩
def AN (P:Program) (w:World) (K:W.Frag) (ty td:TE):TE:=λσ H Q=>ty σ H λy H1=>td σ H1 λx H2=>∃ a b kvs k,x=.ref a/\y=.ref b/\DicT P w K H2 a kvs/\IsP K H2 (.tup (k.map kDt)) (.ref b)/\Q (.bl (bY kvs k).isSome) H2
theorem xp {P:Program} {w:World} {K:W.Frag} {i o:Expr} {td ty:TE} (hP:X.prog=P) (hw:X.w=w) (hK:X.K=K) (hu:X.A.units+1 < cLine) (hi:PE X i ty) (ho:PE X o td):PC X .In i o (AN P w K ty td):=by
 subst hP hw hK;intro pins s σ H Q I h;refine thn (hi pins s σ H _ I h) λiv s1 ⟨y,H1,I1,ry,q1⟩=>thn (ho pins s1 σ H1 _ I1 q1) λu s2 ⟨x,H2,I2,rx,a,b,kvs,k,ex,ey,g,hk,q2⟩=>?_;subst ex ey;obtain rfl:u=Value.ref a:=rx;obtain rfl:iv=Value.ref b:=ry;obtain ⟨hd,xs,dd,rel⟩:=g.dict I2;refine wpAny_in_heap (tupleKind_room_in1 hu) (bX I2 hk) hd dd ?_;rcases cW (k:=k) rel with ⟨e1,e2⟩ | ⟨z,p,v,e1,e2,rv,iv⟩
 ·rw [e2];exact ⟨.bl (bY kvs k).isSome,H2,I2.tok _,(by rw [e1];rfl),q2⟩
 ·rw [e2];exact ⟨.bl (bY kvs k).isSome,H2,I2.tok _,(by rw [e1];rfl),q2⟩
end
section
variable {X:Cx} {e st:Expr} {te tst:TE} {p2 pos:Pos}
end
end L2
namespace PySem
open Sem (wp)
section
variable {M:Model} {A:Around} {E:Value->Shared->Prop} {s:Shared}
end
end PySem
namespace PySem
open Sem (wp)
section
variable {prog:Program} {w:World} {A:Around} {E:Value->Shared->Prop} {s:Shared} {env:Env}
variable {nm q:Str} {C N:Addr} {bs bm bmB:List Value} {hdct:Bool} {sn:List Str} {sub:List Value} {ab:Bool} {col:Option Bool} {dd:Option Addr} {k0 k1 k2 k3 k5:Option Value} {B newId initId:String}
end
end PySem
namespace L2
open PySem PySem.Spec PyProof.Rows
section
variable {X:Cx} {pins:List (Addr×Obj)} {σ:St} {H:Hp} {s:Shared}
end
end L2
namespace PySem
open Sem (wp)
section
variable {prog:Program} {w:World} {A:Around} {E:Value->Shared->Prop} {s:Shared} {env:Env}
variable {nm q:Str} {C N:Addr} {bs bm bmB:List Value} {hdct:Bool} {sn:List Str} {sub:List Value} {ab:Bool} {col:Option Bool} {dd:Option Addr} {k0 k1 k2 k3 k5:Option Value} {B newId initId:String}
end
end PySem
namespace L2
open PySem PySem.Spec PyProof.Rows
section
variable {X:Cx} {pins:List (Addr×Obj)} {σ:St} {H:Hp} {s:Shared}
end
end L2
namespace PySem
open Sem (wp)
section
variable {prog:Program} {w:World} {K:Type} [DecidableEq K] {kd:KeyKind prog w K} {k0:K} {A:Around} {E:Value->Shared->Prop} {s:Shared}
def IsBoxKey (kd:KeyKind prog w K) (k0:K) (h:Heap) (k:K) (a:Addr):Prop :=
 ∃ o u b n,h.get? a=some o/\o.cls=.type "tuple" /\o.data=.seq #[u,.ref b] n/\kd.is k0 u=true/\IsTupleKey kd h [k] b
theorem IsBoxKey.tuple {k:K} {a:Addr} (x:IsBoxKey kd k0 s.heap k a):s.TypeIs (.ref a) "tuple" :=let ⟨o,_,_,_,q,c,_⟩:=x;⟨o,q,c⟩
theorem IsBoxKey.one {h:Heap} {a:Addr} {x y:K} (p:IsBoxKey kd k0 h x a) (q:IsBoxKey kd k0 h y a):x=y:=by
 obtain ⟨o,u,b,n,p1,p2,p3,p4,p5⟩:=p;obtain ⟨o',u',b',n',q1,q2,q3,q4,q5⟩:=q;obtain rfl:o=o':=Option.some.inj (p1.symm.trans q1);rw [p3] at q3;injection q3 with e _
 have e2:u=u'/\b=b':=by simpa using e
 obtain ⟨rfl,rfl⟩:=e2;exact List.cons.inj (p5.inj q5) |>.1
theorem IsBoxKey.stay {h h':Heap} {k:K} {a d:Addr} {o:Obj} {es ep} (x:IsBoxKey kd k0 h k a) (q:h.get? d=some o) (qd:o.data=.dict es ep) (sb:Heap.SameBut d h h'):IsBoxKey kd k0 h' k a:=by
 obtain ⟨o',u,b,n,p1,p2,p3,p4,p5⟩:=x;have ne:a≠d:=by
  rintro rfl;obtain rfl:o'=o:=Option.some.inj (p1.symm.trans q);rw [qd] at p3;exact nomatch p3
 exact ⟨o',u,b,n,(sb.2 a ne).trans p1,p2,p3,p4,p5.keeps q qd sb⟩
def lW (kd:KeyKind prog w K) (k0 k:K):Int:=reduceHash (Builtin.Tuple.tupleHashOf [kd.hash k0,tupleKeyHash kd [k]])
theorem uR {k:K} {a:Addr} {Q:Int->Shared->Prop} (hu:A.units+1 < cLine) (x:IsBoxKey kd k0 s.heap k a) (z:Q (lW kd k0 k) { s with toks:=s.toks+4 }) :
  wpAny (model prog w) A (pyHash (.ref a)) Q E s:=by
 have ty:=x.tuple;obtain ⟨o,u,b,n,p1,_,p3,p4,p5⟩:=x;unfold pyHash
 first | unfold pyHashByItsType | skip
 first | refine wpAny_bind (wpAny_cRoomFor_or (.inr (aAT (aA2 _) hu)) ?_) | skip
 refine wpAny_bind (wpAny_specialOf ty F.slot_tuple_hash.lookup ?_);show wpAny _ _ (if (some (Value.builtin "tuple.__hash__") == some Value.none)=true then _ else _) Q E s;rw [if_neg (by rw [beq_builtin_none];exact aAu)];refine wpAny_bind (wpAny_specialOf ty F.slot_tuple_hash.lookup ?_);show wpAny _ _ (callSpecialIfBoundUnlessNone? (.ref a) "__hash__" _ >>= _) Q E s;refine wpAny_bind (wpAny_callSpecialIfBoundUnlessNone?_slot ty F.slot_tuple_hash (wpAny_call_entry F.slot_tuple_hash ty F.entry_tuple_hash ?_ (F.args_tuple_hash_1 _)));show wpAny _ _ (Builtin.Tuple.tupleItemsOf (.ref a) >>= _) _ _ s;refine wpAny_bind (wpAny_tupleItemsOf p1 p3 ?_);refine wpAny_bind ?_;rw [<- aBe];show wpAny _ _ (forIn [u,Value.ref b] _ _) _ _ _;rw [aAS];refine wpAny_bind (wpAny_bind (kd.pyHash p4 ?_))
 first | refine wpAny_pure ?_ | refine wpAny_bind (wpAny_pure (wpAny_pure ?_))
 show wpAny _ _ (forIn [Value.ref b] _ _) _ _ _;rw [aAS];refine wpAny_bind (wpAny_bind (wpAny_pyHash_tuple (knd:=kd) (ks:=[k]) (by exact hu) (by exact p5) ?_))
 first | refine wpAny_pure ?_ | refine wpAny_bind (wpAny_pure (wpAny_pure ?_))
 show wpAny _ _ (forIn ([]:List Value) _ _) _ _ _;rw [aA6];refine wpAny_pure ?_;show wpAny _ _ (retInt (Builtin.Tuple.tupleHashOf [kd.hash k0,tupleKeyHash kd [k]])) _ _ _;refine wpAny_ret_mkInt ?_;show wpAny _ _ (if (decide (-(2:Int) ^ 63<=Builtin.Tuple.tupleHashOf [kd.hash k0,tupleKeyHash kd [k]]) && decide (Builtin.Tuple.tupleHashOf [kd.hash k0,tupleKeyHash kd [k]] < 2 ^ 63))=true then _ else _) Q E _;unfold lW reduceHash at z
 split
 ·rename_i q
  rw [if_pos q] at z;exact wpAny_pure z
 ·rename_i q
  rw [if_neg q] at z;exact wpAny_bind (wpAny_rule (wpAny_pure z))
theorem uS {x y:K} {a b:Addr} {P:Fin->Shared->Prop} (hu:A.units+1 < cLine) (p:IsBoxKey kd k0 s.heap x a) (q:IsBoxKey kd k0 s.heap y b) (z:P (.done (.ret (.bool (decide (x=y))))) s) :
  wpAny (model prog w) A (Builtin.«tuple.__eq__» ⟨[.ref a,.ref b],[]⟩) P E s:=by
 have ty:=q.tuple;obtain ⟨oa,ua,ba,na,a1,_,a3,a4,a5⟩:=p;obtain ⟨ob,ub,bb,nb,b1,_,b3,b4,b5⟩:=q;show wpAny _ _ (isInstance (.ref b) (.type "tuple") >>= _) _ _ s;refine wpAny_bind (wpAny_isInstance ty isSubtype_tuple_tuple ?_);simp only [aAZ,aAo,if_false];refine wpAny_bind (wpAny_tupleItemsOf a1 a3 ?_);refine wpAny_bind (wpAny_tupleItemsOf b1 b3 ?_);refine wpAny_bind ?_;show wpAny _ _ (forIn [(ua,ub),(Value.ref ba,Value.ref bb)] _ _) _ _ _;rw [aAS];refine wpAny_bind (wpAny_bind (kd.eqBool (a:=k0) (b:=k0) a4 b4 ?_));rw [decide_eq_true rfl];simp only [aAZ,aAo,if_false];refine wpAny_pure ?_;show wpAny _ _ (forIn [(Value.ref ba,Value.ref bb)] _ _) _ _ _;rw [aAS];refine wpAny_bind (wpAny_bind (wpAny_eqBool_tuple (knd:=kd) (x:=[x]) (y:=[y]) (by lia) a5 b5 ?_))
 by_cases e:x=y
 ·subst e;rw [decide_eq_true rfl];rw [decide_eq_true rfl] at z;simp only [aAZ,aAo,if_false];refine wpAny_pure ?_;show wpAny _ _ (forIn ([]:List (Value×Value)) _ _) _ _ _;rw [aA6];exact wpAny_pure (wpAny_pure z)
 ·have e':¬ [x]=[y]:=λc=>e (List.cons.inj c).1;rw [decide_eq_false e'];rw [decide_eq_false e] at z;simp only [Bool.not_false,if_true];exact wpAny_bind (wpAny_pure (wpAny_pure (wpAny_pure (wpAny_pure z))))
theorem zf {x y:K} {a b:Addr} {Q:Bool->Shared->Prop} (hu:A.units+2 < cLine) (p:IsBoxKey kd k0 s.heap x a) (q:IsBoxKey kd k0 s.heap y b) (z:Q (decide (x=y)) s) :
  wpAny (model prog w) A (eqBool (.ref a) (.ref b)) Q E s:=by
 unfold eqBool
 try with_reducible refine wpAny_holding ?_
 show wpAny _ _ (if (Value.ref a == Value.ref b)=true then _ else _) Q E s
 by_cases ab:(Value.ref a == Value.ref b)=true
 ·rw [if_pos ab];have e:a=b:=by have:=eq_of_beq ab;injection this
  subst e;obtain rfl:=p.one q;exact wpAny_bind (wpAny_rule (wpAny_pure (by simpa using z)))
 ·rw [if_neg ab];exact wpAny_bind (wpAny_richCompare_same_room (op:=.Eq) p.tuple q.tuple F.slot_tuple_eq
   (wpAny_call_entry F.slot_tuple_eq p.tuple F.entry_tuple_eq (uS (by exact hu) p q ⟨_,rfl,(λe=>nomatch e),wpAny_truthy_bool z⟩) (F.args_tuple_eq_2 _ _)) (by lia))
theorem oh (m:Nat) {ks:List K} {a:Addr} {Q:Bool->Shared->Prop} (x:IsTupleKey kd s.heap ks a) (z:Q true s):wpAny (model prog w) A (eqIsQuiet (m+1) (.ref a)) Q E s:=by
 have ty:=x.typeIs;obtain ⟨o,its,n,p1,_,p3,p4⟩:=x;unfold eqIsQuiet;refine wpAny_bind (wpAny_specialOf ty F.slot_tuple_eq.lookup ?_);show wpAny _ _ (isInstance (.ref a) (.type "tuple") >>= _) _ _ s;refine wpAny_bind (wpAny_isInstance ty isSubtype_tuple_tuple ?_);simp only [aAZ,aAo,if_false];refine wpAny_bind (wpAny_seqItems p1 p3 ?_);refine wpAny_bind ?_;show wpAny _ _ (forIn its _ _) _ _ s;rw [<- aBe];refine wpAny_forIn_list _ (λrest r s'=>r.1=none/\s'=s/\∀ v∈rest,carriedByValue v=true) _ ?_ ?_ _ _ ⟨rfl,rfl,p4.byValue⟩
 ·rintro v rest r s' ⟨hr,rfl,al⟩;rw [eqIsQuiet_byValue _ (al v aAq)];refine wpAny_bind (wpAny_pure ?_);simp only [aAZ,aAo,if_false];exact wpAny_pure ⟨rfl,rfl,λu hu'=>al u (aAr _ hu')⟩
 ·rintro ⟨r1,r2⟩ s' ⟨hr,rfl,_⟩;simp only at hr;subst hr;exact wpAny_pure z
theorem sT {k:K} {a:Addr} {Q:Bool->Shared->Prop} (x:IsBoxKey kd k0 s.heap k a) (z:Q true s):wpAny (model prog w) A (eqIsQuiet 8 (.ref a)) Q E s:=by
 have ty:=x.tuple;obtain ⟨o,u,b,n,p1,_,p3,p4,p5⟩:=x;unfold eqIsQuiet;refine wpAny_bind (wpAny_specialOf ty F.slot_tuple_eq.lookup ?_);show wpAny _ _ (isInstance (.ref a) (.type "tuple") >>= _) _ _ s;refine wpAny_bind (wpAny_isInstance ty isSubtype_tuple_tuple ?_);simp only [aAZ,aAo,if_false];refine wpAny_bind (wpAny_seqItems p1 p3 ?_);refine wpAny_bind ?_;show wpAny _ _ (forIn #[u,Value.ref b] _ _) _ _ s;rw [<- aBe];show wpAny _ _ (forIn [u,Value.ref b] _ _) _ _ s;rw [aAS,eqIsQuiet_byValue _ (kd.byValue _ _ p4)];refine wpAny_bind (wpAny_bind (wpAny_pure ?_));simp only [aAZ,aAo,if_false];refine wpAny_pure ?_;show wpAny _ _ (forIn [Value.ref b] _ _) _ _ s;rw [aAS];refine wpAny_bind (wpAny_bind (oh _ p5 ?_));simp only [aAZ,aAo,if_false];refine wpAny_pure ?_;show wpAny _ _ (forIn ([]:List Value) _ _) _ _ s;rw [aA6];exact wpAny_pure (wpAny_pure z)
end
def xr {prog:Program} {w:World} {K:Type} [DecidableEq K] (kd:KeyKind prog w K) (k0:K):HeapKind prog w K where
 is:=IsBoxKey kd k0
 hash:=lW kd k0
 draws:=λ_=>4
 room:=λA=>A.units+2 < cLine
 inj:=λp q=>p.one q
 keeps:=λx q qd sb=>x.stay q qd sb
 pyHash:=λhu x z=>uR (aAT (aA2 _) hu) x z
 eqBool:=λhu p q z=>zf hu p q z
 quiet:=λx z=>sT x z
section
variable {prog:Program} {w:World} {K:Type} [DecidableEq K] {knd:HeapKind prog w K} {A:Around} {E:Value->Shared->Prop} {s:Shared}
end
end PySem
namespace L2
open PySem PySem.Spec PyProof.Rows
theorem kS {α β:Type} {F:α->β->Prop}:∀ {l:List α} {m:List β},Paired F l m->∀ {i:Nat} {p:α} {q:β},l[i]?=some p->m[i]?=some q->F p q
 | _,_,.nil,i,p,q,h,_=>by simp at h
 | _,_,.cons r t,0,p,q,h,g=>by
  obtain rfl:_=p:=by simpa using h
  obtain rfl:_=q:=by simpa using g
  exact r
 | _,_,.cons r t,i+1,p,q,h,g=>kS t (by simpa using h) (by simpa using g)
theorem uT {H:Hp} {a p:Addr} {o:Obj} {u:HO} (mu:Mut (H p)) (e:H a=some (.frz o u)):a≠p:=by
 intro c;subst c;rw [e] at mu;exact mu
mutual
theorem gw {K:W.Frag} {H H':Hp} {p:Addr} (mu:Mut (H p)) (g:But p H H'):∀ {d:Dt} {v:V},IsP K H d v->IsP K H' d v
 | _,_,.non=>.non
 | _,_,.bl=>.bl
 | _,_,.int=>.int
 | _,_,.str=>.str
 | _,_,.tup h pl q=>.tup (g.tup (by obtain ⟨o,u,e,dn⟩:=pl;exact uT mu e) h) (by
   obtain ⟨o,u,e,dn⟩:=pl;exact ⟨o,u,g _ _ (uT mu e) e,dn⟩) (jg mu g q)
theorem jg {K:W.Frag} {H H':Hp} {p:Addr} (mu:Mut (H p)) (g:But p H H'):∀ {l:List Dt} {xs:List V},IsPs K H l xs->IsPs K H' l xs
 | _,_,.nil=>.nil
 | _,_,.cons h q=>.cons (gw mu g h) (jg mu g q)
end
def zg (k:Key):Dt:=.tup [.str "list",.tup [kDt k]]
abbrev qV (P:Program) (w:World):HeapKind P w Key:=xr (aj P w) (Sum.inr ("list" : Str))
def lX (P:Program) (w:World) (p:Addr) (ob:Obj) (xs:List (Key×Addr×Value)) (h:Heap):Prop :=
 h.get? p=some ob/\ob.ExactDict/\∃ es ep,ob.data=.dict es ep/\es.toList=xs.map (entryOfKey (qV P w))/\(xs.map (·.1)).Nodup
def DicO (P:Program) (w:World) (K:W.Frag) (H:Hp) (a:Addr) (ob:Obj) (kvs:List (Key×V)):Prop:=(a == sysModules)=false/\kvs.length<=sizeLine/\∃ xs,H a=some (.ext (lX P w a ob xs)) /\
 Paired (λ(p:Key×V) (q:Key×Addr×Value)=>p.1=q.1/\IsP K H (zg p.1) (.ref q.2.1)/\RelV p.2 q.2.2) kvs xs
def DicE (P:Program) (w:World) (m:Bool) (K:W.Frag) (H:Hp) (a:Addr) (kvs:List (Key×V)):Prop:=match m with
 | false=>H a=some (.dK kvs)
 | true=>(∃ ob,DicO P w K H a ob kvs)\/(kvs=[]/\H a=some (.dK []))
section
variable {P:Program} {w:World} {K:W.Frag} {m:Bool} {H H':Hp} {a:Addr} {ob:Obj} {kvs:List (Key×V)}
theorem DicE.ne {r:Addr} {ys:List V} (h:DicE P w m K H a kvs) (hr:H r=some (.lst ys)):r≠a:=by
 intro c;subst c
 cases m with
 | false=>rw [show H r=some (.dK kvs) from h] at hr;cases hr
 | true =>
  rcases h with ⟨ob,_,_,_,e,_⟩ | ⟨_,e⟩
  ·rw [e] at hr;cases hr
  ·rw [e] at hr;cases hr
end
section
variable {X:Cx} {pins:List (Addr×Obj)} {σ:St} {H:Hp} {s:Shared}
theorem zh (I:Inv X pins σ H s) {k:Key} {a:Addr} (h:IsP X.K H (zg k) (.ref a)):IsBoxKey (aj X.prog X.w) (Sum.inr ("list" : Str)) s.heap k a:=by
 obtain ⟨b,ys,e,ha,_,ra⟩:=IsP.unref h
 cases e
 obtain ⟨its,r,⟨o,h1,h2,n,h3⟩,_⟩:=I.tuple ha
 cases ra with
 | cons d1 ra =>
  cases ra with
  | cons d2 ra =>
   cases ra
   cases d1
   obtain ⟨c,zs,rfl,hc,pc,rc⟩:=IsP.unref d2
   cases r with
   | cons q1 r =>
    cases r with
    | cons q2 r =>
     cases r
     cases q2
     exact ⟨o,_,c,n,h1,h2,h3,iz (k:=Sum.inr ("list" : Str)) q1,bX I (ks:=[k]) (show IsP X.K H (.tup ([k].map kDt)) (.ref c) from d2)⟩
theorem DicO.dict {a:Addr} {ob:Obj} {kvs:List (Key×V)} (I:Inv X pins σ H s) (h:DicO X.prog X.w X.K H a ob kvs):(a == sysModules)=false/\kvs.length<=sizeLine/\∃ xs,s.heap.DictOfH (qV X.prog X.w) a xs/\lX X.prog X.w a ob xs s.heap/\H a=some (.ext (lX X.prog X.w a ob xs)) /\
  Paired (λ(p:Key×V) (q:Key×Addr×Value)=>p.1=q.1/\IsP X.K H (zg p.1) (.ref q.2.1)/\RelV p.2 q.2.2) kvs xs:=by
 obtain ⟨e0,e1,xs,e,r⟩:=h;obtain ⟨oo,_⟩:=(show ObjOk X.prog X.w H s.heap a (.ext (lX X.prog X.w a ob xs)) from I.hok a _ e);obtain ⟨h1,h2,es,ep,h3,h4,h5⟩:=id oo;refine ⟨e0,e1,xs,⟨ob,es,ep,h1,h2,h3,h4,λy hy=>?_,h5⟩,oo,e,r⟩;obtain ⟨i,hi⟩:=aBD hy;have hl:i < kvs.length:=by rw [Paired.length r];exact (aAg.mp hi).1
 have q:=kS r (aAj hl) hi;rw [<- q.1];exact zh I q.2.1
end
section
variable {X:Cx} {P:Program} {w:World} {K:W.Frag} {o e f:Expr} {apos cpos pos:Pos} {td ty tx:TE}
end
section
variable {X:Cx} {tg:Expr} {P:Program} {w:World} {K:W.Frag}
end
section
variable {prog:Program} {w:World} {A:Around} {E:Value->Shared->Prop} {s:Shared}
end
section
variable {X:Cx} {K:W.Frag}
end
end L2
namespace PySem
open PyProof.Rows PySem.Spec
section
variable {prog:Program} {w:World} {h₀:Heap} {k:Str} {tk:Tok} {a:Addr} {α:Type} {R:α->Value->Prop} {D:List (Str×α)}
theorem oi:MeetsIn prog w (Builtin.«dict.get» ⟨[.ref a,.str k tk],[]⟩) (λ_ Rr s=>KTD.TabOf R h₀ a D/\(∀ b o,h₀.get? b=some o->s.heap.get? b=some o)/\(∀ d v,KTD.datumAt k D=some d->R d v->Rr (.ok (.ret v)) { s with toks:=s.toks+1 }) /\
  (KTD.datumAt k D=none->Rr (.ok (.ret .none)) { s with toks:=s.toks+1 })) :=
 .of_wp λA Rr s ⟨T,kp,h1,h2⟩=>by
  show wpAny _ _ (dictGet a (.str k tk) >>= _) _ _ s;refine wpAny_bind (og T kp (λd v ha hv=>wpAny_pure ⟨v,rfl,h1 d v ha hv⟩) λhn=>wpAny_bind (m:=Builtin.Dict.missed a (.str k tk)) (wpAny_missed_other T.1 (wpAny_pure ⟨.none,rfl,h2 hn⟩)))
end
end PySem
namespace L2
open PySem PySem.Spec PyProof.Rows
section
variable {X:Cx}
def zi (D:List (Str×Addr)) (t:TA):TE:=λσ H Q=>t σ H λvs H1=>∃ k,vs=[.str k]/\Q (match kR k D with | some b=>.ref b | none=>.non) H1
theorem pe_kget1 {x:Str} {ad:Addr} {D:List (Str×Addr)} {e:Expr} {t:TA} {p apos cpos:Pos} (hD:lU X.K ad D) (hg:Gl X x) (hm:X.mg x=some (.ref ad)) (ha:PA X [e] t) (hdb:(x == ("__debug__" : Str))=false:=by decide)
  (hbase:attributeBase (.Name x p) "get" X.env (eval (.Name x p) X.env)=eval (.Name x p) X.env:=by rfl)
  (hfew:((backTo cpos (starEach [e] X.env)).all (λx=>!x.1) && (backToKw cpos (keywordEach [] X.env)).all (λx=>x.1.isSome)
   && decide (([e]:List Expr).length+([]:List Keyword).length+(if ([]:List Keyword).isEmpty then 0 else 1) < 30))=true:=by rfl)
  (hline:(apos.endLine == cpos.line)=true:=by rfl) (hs:starEach [e] X.env=(false,eval e X.env) :: starEach [] X.env:=by rfl) :
  PE X (.Call (.Attribute (.Name x p) "get" apos) [e] [] cpos) (zi D t):=by
 intro pins s σ H Q I h;have T:∀ {s':Shared} {σ':St} {H':Hp} {pins':List (Addr×Obj)},Inv X pins' σ' H' s'->KTD.TabOf (λb v=>v=Value.ref b) X.base ad D:=λJ=>hD _ J.ok.mod.kin;have ty0:∀ {s':Shared} {σ':St} {H':Hp} {pins':List (Addr×Obj)},Inv X pins' σ' H' s'->s'.TypeIs (.ref ad) "dict" /\(∀ b,Value.ref ad=.ref b->∃ ob,s'.heap.get? b=some ob/\ob.dict=none):=λ{s' σ' H' pins'} J=>by
  obtain ⟨_,o,_,_,ho,hc,_⟩:=T J;refine ⟨⟨o,J.bk _ _ ho,hc.1⟩,λb q=>?_⟩;injection q with q
  subst q;exact ⟨o,J.bk _ _ ho,hc.2.1⟩
 refine wpAny_Call_method_late hbase hfew hline rfl (fX I hg hm ?_ hdb);refine ⟨"dict","dict.get",PySem.F.plainAttrs_dict,PySem.F.slot_dict_get,PySem.F.type_dict_get,(ty0 I).1,(ty0 I).2,?_⟩;have hA:=ha cpos pins s σ H _ I h;rw [hs] at hA ⊢;refine Calls.callWith_builtin (by rfl) (Calls.evalArgs_plain ?_);refine thn hA λus s2 ⟨vs,H2,I2,r2,k,e2,q2⟩=>?_;subst e2;obtain ⟨u,rfl,ru⟩:=bE r2;obtain ⟨tk,rfl⟩:=ru;refine call_meetsIn PySem.F.slot_dict_get (ty0 I2).1 PySem.F.entry_dict_get (PySem.F.args_dict_get_2 _ _) (oi (h₀:=X.base) (D:=D) (R:=λb v=>v=Value.ref b)) ⟨T I2,λb o z=>I2.bk b o z,λb v hb hv=>?_,λhn=>?_⟩
 ·subst hv;rw [<- jf,hb] at q2;exact ⟨.ref b,H2,I2.tok _,rfl,q2⟩
 ·rw [<- jf,hn] at q2;exact ⟨.non,H2,I2.tok _,rfl,q2⟩
end
section
variable {X:Cx} {K:W.Frag}
end
end L2
namespace PySem
namespace StrLaws
open Builtin Builtin.Str
end StrLaws
end PySem
namespace L2
open PySem PySem.Spec PyProof.Rows
section
variable {X:Cx}
end
section
variable {X:Cx}
def BK (K:W.Frag):R2:=λx y H Q=>∃ (p:Addr) (as:List Addr) (ds:List Dt) (d:Dt),y=.ref p/\SqL K H p (as.map V.ref)/\as.Nodup/\IsDs K H ds (as.map V.ref)/\IsD K H d x/\depS ds<=60/\Q (.bl (ds.any λe=>eqD e d)) H
theorem qW:∀ {as:List Addr} {us:List Value},Vals (as.map V.ref) us->us=as.map Value.ref
 | [],_,h=>by cases h;rfl
 | a :: as,_,h=>by
  cases h with
  | cons r t =>
   cases r
   rw [qW t]
   rfl
theorem zj {K:W.Frag} (hK:X.K=K) (hu:X.A.units+64 < cLine):OpR X (compareOp .In) (BK K):=by
 subst hK;intro pins s σ H x y v u Q I rx ry h;obtain ⟨p,as,ds,d,rfl,hq,nd,hds,hd,hdep,q⟩:=h
 cases ry
 obtain ⟨its,r,pl,hz⟩:=I.list hq;have eu:=qW r;subst eu;have ld:ds.length=as.length:=by rw [hds.length,aAb]
 let f:Value->Bool:=λw=>match w with
  | .ref a=>((as.zip ds).find? λp=>p.1 == a).any λp=>eqD p.2 d
  | _=>false
 have key:∀ (as:List Addr) (ds:List Dt),as.Nodup->ds.length=as.length->∀ (i:Nat) (a:Addr) (e:Dt),as[i]?=some a->ds[i]?=some e->(as.zip ds).find? (λp=>p.1 == a)=some (a,e):=by
  intro as
  induction as with
  | nil=>intro ds _ _ i a e h;simp at h
  | cons b as ih =>
   intro ds nd l i a e h1 h2
   cases ds with
   | nil=>simp at l
   | cons g ds =>
    rw [List.zip_cons_cons,aAY]
    cases i with
    | zero=>cases h1;cases h2;simp
    | succ i =>
     have hm:a∈as:=aAs h1;have nb:(b == a)=false:=by
      rw [beq_eq_false_iff_ne];rintro rfl;exact (aAR.mp nd).1 hm
     dsimp only;rw [nb];exact ih ds (aAR.mp nd).2 (Nat.succ.inj l) i a e h1 h2
 have fa:∀ (i:Nat) (a:Addr) (e:Dt),as[i]?=some a->ds[i]?=some e->f (.ref a)=eqD e d:=λi a e h1 h2=>by
  show ((as.zip ds).find? λp=>p.1 == a).any _=_;rw [key as ds nd ld i a e h1 h2]
  rfl
 refine SeqAt.in_listAt f pl.isList (λw hw=>?_) ⟨.bl _,H,I,rfl,?_⟩
 ·have hw':w∈as.map Value.ref:=by simpa using hw
  obtain ⟨i,hi⟩:=aBD hw';rw [aAc] at hi;obtain ⟨a,ha,rfl⟩:=aAd.mp hi;have il:=(aAg.mp ha).1;obtain ⟨e,he⟩:∃ e,ds[i]?=some e:=⟨_,aAj (by lia)⟩;rw [fa i a e ha he];obtain ⟨x1,ex,dx⟩:=hds.get he;rw [aAc,ha] at ex
  cases ex
  have j1:i < ds.length:=(aAg.mp he).1;have dep1:e.dep<=60:=by
   have:=gj (l:=ds) j1;have e2:ds.getD i .non=e:=by rw [aAI,he];rfl
   rw [e2] at this;lia
  exact (sy I 60 e d (.ref a) x (.ref a) v X.A.in1 dep1 dx hd rfl rx (by rw [cV];lia)).1
 ·have e1:(as.map Value.ref).toArray.any f=ds.any λe=>eqD e d:=by
   rw [show (as.map Value.ref).toArray.any f=(as.map Value.ref).any f by simp,aBE];have:∀ (as':List Addr) (ds':List Dt),ds'.length=as'.length->(∀ (i:Nat) (a:Addr) (e:Dt),as'[i]?=some a->ds'[i]?=some e->f (.ref a)=eqD e d)->as'.any (f ∘ Value.ref)=ds'.any λe=>eqD e d:=by
    intro as'
    induction as' with
    | nil=>intro ds' l _;cases ds' with
     | nil=>rfl
     | cons g t=>simp at l
    | cons b as' ih =>
     intro ds' l h
     cases ds' with
     | nil=>simp at l
     | cons g ds' =>
      rw [aAX,aAX,ih ds' (Nat.succ.inj l) λi a e h1 h2=>h (i+1) a e h1 h2];rw [show (f ∘ Value.ref) b=eqD g d from h 0 b g rfl rfl]
   exact this as ds ld fa
  rw [e1];exact q
end
section
variable {X:Cx}
end
section
variable {X:Cx}
end
section
variable {X:Cx}
end
section
variable {X:Cx} {K:W.Frag}
end
end L2
namespace PySem
open Sem (wp)
section
variable {prog:Program} {w:World} {A:Around} {E:Value->Shared->Prop} {s:Shared}
end
end PySem
namespace L2
open PySem PySem.Spec PyProof.Rows
section
variable {X:Cx} {pins:List (Addr×Obj)} {σ:St} {H:Hp} {s:Shared} {ea C:Addr} {K:W.Frag}
end
section
variable {X:Cx}
end
section
variable {X:Cx}
end
section
variable {X:Cx} {E:XK}
variable {pins:List (Addr×Obj)} {σ:St} {H:Hp} {s:Shared}
end
section
variable {X:Cx} {pins:List (Addr×Obj)} {σ:St} {H:Hp} {s:Shared}
end
abbrev smT (pl:Array Nat) (fg mv:Nat) (l p:Bool):SetTable:={ mask:=7,place:=pl,dummies:=#[],finger:=fg,led:=l,moves:=mv,plain:=p }
abbrev pbA (j pt:Nat):SetTable.Probe:=⟨j,0,j,pt,none⟩
theorem AO {j fg mv:Nat} {l p:Bool}:(smT #[] fg mv l p).slot j=.empty:=by
 simp [SetTable.slot,SetTable.below,SetTable.below.go,SetTable.has]
theorem oj {q j fg mv:Nat} {l p:Bool}:(smT #[q] fg mv l p).slot j=if q=j then .live 0 else .empty:=by
 by_cases c:q < j
 ·have n:¬ q=j:=by lia
  simp [SetTable.slot,SetTable.below,SetTable.below.go,SetTable.has,c,n]
 ·by_cases e:q=j
  ·subst e;simp [SetTable.slot,SetTable.below,SetTable.below.go,SetTable.has]
  ·simp [SetTable.slot,SetTable.below,SetTable.below.go,SetTable.has,c,e]
theorem AQ {pl:Array Nat} {fg mv:Nat} {l p:Bool} {j pt:Nat}:(smT pl fg mv l p).advance (pbA j pt)=pbA ((j*5+1+pt / 32) % 8) (pt / 32):=by
 have e:¬ (j*5+1+pt / 32) % 8+9<=7:=by lia
 simp [SetTable.advance,SetTable.leap,SetTable.runEnd,e]
theorem pW {pl:Array Nat} {fg mv:Nat} {l p:Bool} {h:Int}:(smT pl fg mv l p).probeStart h=pbA (SetTable.bits h % 8) (SetTable.bits h):=by
 have e:¬ SetTable.bits h % 8+9<=7:=by lia
 simp [SetTable.probeStart,SetTable.runEnd,e]
theorem uU (h:Int):SetTable.bits h < 32 ^ 13:=by
 unfold SetTable.bits;have:=aBp h (show (0:Int) < 2 ^ 64 by decide);have:=aBF h (show (2 ^ 64:Int)≠0 by decide);lia
theorem ol {q fg mv:Nat} {l p:Bool} {hs:Nat->Int} {h:Int} (ne:(hs 0 == h)=false):∀ (n f j pt:Nat),pt < 32 ^ n->n+2<=f->∃ j',SetTable.probe.go (smT #[q] fg mv l p) hs h f (pbA j pt)=some (.empty j' none)
 | n,0,_,_,_,z=>by lia
 | n,f+1,j,pt,hp,hf=>by
  unfold SetTable.probe.go;rw [oj]
  by_cases e:q=j
  ·subst e;rw [if_pos rfl];dsimp only;rw [ne,AQ]
   cases n with
   | zero =>
    have e0:pt=0:=by lia
    subst e0;obtain ⟨f,rfl⟩:∃ g,f=g+1:=⟨f - 1,by lia⟩;have e2:¬ q=(q*5+1+0 / 32) % 8:=by lia
    exact ⟨_,by unfold SetTable.probe.go;rw [oj,if_neg e2];rfl⟩
   | succ n =>
    exact ol ne n f _ _ (by rw [Nat.pow_succ] at hp;lia) (by lia)
  ·rw [if_neg e];exact ⟨j,rfl⟩
section
variable {P:Program} {w:World} {K:Type} [DecidableEq K] {kd:KeyKind P w K} {A:Around} {E:Value->Shared->Prop} {s:Shared}
theorem xu (n:Nat) {v:Value} (h:carriedByValue v=true):∃ b,hashByValue n v=pure b:=by
 cases v with
 | ref a=>simp [carriedByValue] at h
 | _=>first | exact ⟨_,rfl⟩ | (cases n <;> exact ⟨_,rfl⟩) | exact ⟨_,by unfold hashByValue;rfl⟩
theorem sU {ks:List K} {a:Addr} {Q:Bool->Shared->Prop} (hk:IsTupleKey kd s.heap ks a) (h:∀ b,Q b s):wpAny (model P w) A (hashByValue 8 (.ref a)) Q E s:=by
 have hT:=hk.typeIs;obtain ⟨o,items,n,ho,_,hd,hi⟩:=hk;unfold hashByValue;refine wpAny_bind (wpAny_specialOf hT F.slot_tuple_hash.lookup ?_);dsimp only;refine wpAny_bind (wpAny_seqItems ho hd ?_);refine wpAny_bind ?_;show wpAny _ _ (forIn items _ _) _ _ s;rw [<- aBe];refine wpAny_forIn_list _ (λrest r s'=>r.1=none/\s'=s/\∀ v∈rest,carriedByValue v=true) _ ?_ ?_ _ _ ⟨rfl,rfl,hi.byValue⟩
 ·rintro v rest r s' ⟨hr,rfl,hall⟩;obtain ⟨b,e⟩:=xu 7 (hall v aAq);rw [e];refine wpAny_bind (wpAny_pure ?_)
  cases b
  ·simp only [Bool.not_false,if_true];refine wpAny_pure ?_;exact wpAny_pure (h false)
  ·simp only [aAZ,aAo,if_false];exact wpAny_pure ⟨rfl,rfl,λu hu'=>hall u (aAr _ hu')⟩
 ·rintro ⟨r1,r2⟩ s' ⟨hr,rfl,_⟩;simp only at hr;subst hr;exact wpAny_pure (h true)
theorem xw (n:Nat) {v:Value} (h:carriedByValue v=true):ofAClassStatement n v=pure false:=by
 cases v with
 | ref a=>simp [carriedByValue] at h
 | _=>first | rfl | (unfold ofAClassStatement;rfl)
theorem kT {ks:List K} {a:Addr} {Q:Bool->Shared->Prop} (hk:IsTupleKey kd s.heap ks a) (h:Q false s):wpAny (model P w) A (ofAClassStatement 8 (.ref a)) Q E s:=by
 have hT:=hk.typeIs;obtain ⟨o,items,n,ho,_,hd,hi⟩:=hk;unfold ofAClassStatement;refine wpAny_bind (wpAny_typeOf hT ?_);dsimp only;rw [if_pos (by decide)];refine wpAny_bind (wpAny_pure ?_);simp only [aAZ,aAo,if_false];refine wpAny_bind (wpAny_seqItems ho hd ?_);dsimp only;refine wpAny_bind ?_;show wpAny _ _ (forIn items _ _) _ _ s;rw [<- aBe];refine wpAny_forIn_list _ (λrest r s'=>r.1=none/\s'=s/\∀ v∈rest,carriedByValue v=true) _ ?_ ?_ _ _ ⟨rfl,rfl,hi.byValue⟩
 ·rintro v rest r s' ⟨hr,rfl,hall⟩;rw [xw 7 (hall v aAq)];refine wpAny_bind (wpAny_pure ?_);simp only [aAo,if_false];exact wpAny_pure ⟨rfl,rfl,λu hu'=>hall u (aAr _ hu')⟩
 ·rintro ⟨r1,r2⟩ s' ⟨hr,rfl,_⟩;simp only at hr;subst hr;exact wpAny_pure h
theorem gx {kx ky:List K} {x y:Addr} {Q:Bool->Shared->Prop} (hx:IsTupleKey kd s.heap kx x) (hy:IsTupleKey kd s.heap ky y) (h:Q false s):wpAny (model P w) A (searchCouldBeSeen (.ref x) [.ref y]) Q E s:=by
 unfold searchCouldBeSeen;simp only [aAS,aA6,carriedByValue,aBa,aBL]
 by_cases e:(x == y)=true
 ·simp only [e,if_true];exact wpAny_bind (wpAny_bind (wpAny_pure (wpAny_pure (wpAny_pure h))))
 ·simp only [e,if_false];refine wpAny_bind (wpAny_bind (wpAny_bind (wpAny_eqIsQuiet_tuple hx ?_)));simp only [aAZ,aAo,if_false];refine wpAny_bind (wpAny_eqIsQuiet_tuple hy ?_);simp only [aAZ,aAo,if_false];refine wpAny_bind (kT hx ?_);simp only [aAo,if_false];refine wpAny_bind (kT hy ?_);simp only [aAo,if_false];exact wpAny_pure (wpAny_pure (wpAny_pure h))
theorem uV {fg mv:Nat} {l p:Bool} {hs:Nat->Int} {h:Int} {f:Nat} {j pt:Nat}:SetTable.probe.go (smT #[] fg mv l p) hs h (f+1) (pbA j pt)=some (.empty j none):=by
 unfold SetTable.probe.go;rw [AO]
theorem uW {q fg mv:Nat} {l p:Bool} {h0 h:Int} (e0:(h0 == h)=false) {n j pt:Nat} (hp:pt < 32 ^ n) (h13:n<=13) {hs:Nat->Int} {M:Option SetTable.Met} (hg:(smT #[q] fg mv l p).probe hs h (pbA j pt)=M) (e1:hs 0=h0):∃ j',M=some (.empty j' none):=by
 obtain ⟨j',e⟩:=ol (q:=q) (fg:=fg) (mv:=mv) (l:=l) (p:=p) (hs:=hs) (h:=h) (by rw [e1];exact e0) n (10*SetTable.turns 7) j pt hp (by show n+2<=220;lia);exact ⟨j',hg.symm.trans e⟩
theorem om {q fg mv:Nat} {l p:Bool} {h0 h:Int} (e0:(h0 == h)=true) {j pt:Nat} {hs:Nat->Int} (e1:hs 0=h0):(smT #[q] fg mv l p).probe hs h (pbA j pt)=if q=j then some (.candidate j 0 (pbA ((j*5+1+pt / 32) % 8) (pt / 32))) else some (.empty j none):=by
 show SetTable.probe.go (smT #[q] fg mv l p) _ h (219+1) (pbA j pt)=_;unfold SetTable.probe.go;rw [oj]
 by_cases e:q=j
 ·subst e;rw [if_pos rfl,if_pos rfl,AQ];dsimp only;rw [e1,if_pos e0]
 ·rw [if_neg e,if_neg e]
theorem sV {q fg mv:Nat} {l p:Bool} {h:Int} {j pt:Nat} {hs:Nat->Int} (ne:¬ q=j):(smT #[q] fg mv l p).probe hs h (pbA j pt)=some (.empty j none):=by
 show SetTable.probe.go (smT #[q] fg mv l p) _ h (219+1) (pbA j pt)=_;unfold SetTable.probe.go;rw [oj,if_neg ne]
theorem pX {a:Addr} {x y:Value} {o:Obj} {q ep fg mv f j pt:Nat} {l p:Bool} {h0 h:Int} {Q:SetFound->Shared->Prop} (ho:s.heap.get? a=some o) (hd:o.data=.set #[(h0,y)] ep (smT #[q] fg mv l p)) (ne:¬ q=j) (hQ:Q (.free j false) s):wpAny (model P w) A (setSearchFrom a x h true (f+1) (some (pbA j pt))) Q E s:=by
 unfold setSearchFrom;refine wpAny_bind (wpAny_setState_of ho hd (by rfl) ?_);dsimp only;rw [show SetTable.gaveWay (smT #[q] fg mv l p)=false by simp [SetTable.gaveWay]];simp only [aAo,if_false];rw [aBU,sV ne];exact wpAny_pure hQ
theorem qX {a x y:Addr} {o:Obj} {q ep fg mv:Nat} {l p:Bool} {h0 h:Int} {kx ky:List K} {Q:SetFound->Shared->Prop} (ho:s.heap.get? a=some o) (hd:o.data=.set #[(h0,.ref y)] ep (smT #[q] fg mv l p)) (hx:IsTupleKey kd s.heap kx x) (hy:IsTupleKey kd s.heap ky y) (ne:kx≠ky) (hu:A.units < cLine)
  (hQ:∀ j,Q (.free j false) s):∀ (n f j pt:Nat) (st:Option SetTable.Probe),st.getD ((smT #[q] fg mv l p).probeStart h)=pbA j pt->pt < 32 ^ n->n<=13->n+2<=f->wpAny (model P w) A (setSearchFrom a (.ref x) h true f st) Q E s
 | n,0,_,_,_,_,_,_,z=>by lia
 | n,f+1,j,pt,st,es,hp,h13,hf=>by
  unfold setSearchFrom;refine wpAny_bind (wpAny_setState_of ho hd (by rfl) ?_);dsimp only;rw [show SetTable.gaveWay (smT #[q] fg mv l p)=false by simp [SetTable.gaveWay],es];simp only [aAo,if_false]
  by_cases e0:(h0 == h)=true
  rotate_left
  ·generalize hg:SetTable.probe _ _ _ _=M
   obtain ⟨j',rfl⟩:=uW (h0:=h0) (aBh.mpr e0) hp h13 hg rfl;exact wpAny_pure (hQ j')
  rw [om e0 rfl]
  by_cases e:q=j
  rotate_left
  ·rw [if_neg e];exact wpAny_pure (hQ j)
  subst e;rw [if_pos rfl];dsimp only;have ef:(List.map (λx=>x.2) ((#[(h0,Value.ref y)]:Array (Int×Value)).filter λx=>x.1 == h).toList)=[Value.ref y]:=by
   simp [e0]
  rw [ef];have rest:∀ Q':Bool->Shared->Prop,Q' false s->wpAny (model P w) A (holding [Value.ref y] (eqBool (.ref y) (.ref x))) Q' E s:=by
   intro Q' hq;refine wpAny_holding (wpAny_eqBool_tuple hu hy hx ?_);rw [decide_eq_false λz=>ne z.symm];exact hq
  have f2:∀ (R:Sem SetFound),wpAny (model P w) A R Q E s->wpAny (model P w) A (if (!l)=true then do
    let d <- searchCouldBeSeen (Value.ref x) [Value.ref y]
    if d=true then do
     unsupported "set:the-search-would-show-the-table"
     R
    else R
    else R) Q E s:=by
   intro R hR
   split
   ·refine wpAny_bind (gx hx hy ?_);simp only [aAo,if_false];exact hR
   ·exact hR
  refine f2 _ ?_;simp only [aBy,aBs];refine wpAny_bind (rest _ ?_);refine wpAny_bind (wpAny_setState_of ho hd (by rfl) ?_);simp only [aBa,aAo,if_false];rw [show (smT #[q] fg mv l p).sameMemory mv 7=some true by simp [SetTable.sameMemory]];dsimp only;rw [if_pos rfl,oj,if_pos rfl];simp only [aBy,aBs];refine wpAny_bind (wpAny_isSame_ref_self ?_);refine wpAny_bind (wpAny_pure ?_);simp only [if_true]
  cases n with
  | zero =>
   have e0:pt=0:=by lia
   subst e0;obtain ⟨f,rfl⟩:∃ g,f=g+1:=⟨f - 1,by lia⟩;exact pX ho hd (by lia) (hQ _)
  | succ n=>exact qX ho hd hx hy ne hu hQ n f _ _ (some _) rfl (by rw [Nat.pow_succ] at hp;lia) (by lia) (by lia)
def oq (h:Heap) (S:Addr) (n:Nat):Prop:=∃ o es ep t,h.get? S=some o/\o.ExactSet/\o.data=.set es ep t/\t.fits es.size=true/\es.size=n
theorem ou {S x:Addr} {o:Obj} {es es':Array (Int×Value)} {t0:SetTable} {pl:Array Nat} {fg mv ep:Nat} {l p:Bool} {kx:List K} {Q:Bool->Shared->Prop} {G:Sem Bool} (ho:s.heap.get? S=some o) (hd:o.data=.set es ep t0) (hx:IsTupleKey kd s.heap kx x) (hz:es'.size<=2) (hp:pl.size<=2)
  (hQ:∀ h' p',Heap.SameBut S s.heap h'->h'.get? S=some { o with data:=.set es' (ep+1) (smT pl fg mv l p') }->Q true { s with heap:=h' }) :
  wpAny (model P w) A (if p=true then do
    let byValue <- hashByValue 8 (Value.ref x)
    storeSet S es' (if byValue=true then smT pl fg mv l p else smT pl fg mv l false)
    if (!false && (if byValue=true then smT pl fg mv l p else smT pl fg mv l false).tooFull)=true then G else pure true
   else do
    let byValue <- pure true
    storeSet S es' (if byValue=true then smT pl fg mv l p else smT pl fg mv l false)
    if (!false && (if byValue=true then smT pl fg mv l p else smT pl fg mv l false).tooFull)=true then G else pure true) Q E s:=by
 have sz:es'.size<=sizeLine:=aAE hz (by decide);have tf:∀ b:Bool,wpAny (model P w) A (do
   storeSet S es' (if b=true then smT pl fg mv l p else smT pl fg mv l false)
   if (!false && (if b=true then smT pl fg mv l p else smT pl fg mv l false).tooFull)=true then G else pure true) Q E s:=by
  intro b;obtain ⟨p',e⟩:∃ p',(if b=true then smT pl fg mv l p else smT pl fg mv l false)=smT pl fg mv l p':=by
   cases b
   ·exact ⟨false,rfl⟩
   ·exact ⟨p,rfl⟩
  rw [e];refine wpAny_bind (wpAny_storeSet_of ho hd ?_ sz);have e2:(smT pl fg mv l p').tooFull=false:=by
   simp only [SetTable.tooFull,SetTable.fill];refine decide_eq_false ?_;show ¬ (pl.size+0)*5≥7*3;lia
  rw [e2];refine wpAny_pure (hQ _ p' (Heap.SameBut.update _ _ _) ?_);have:=aAU (Obj.putSet es' (smT pl fg mv l p')) ho (by rw [putSet_of es' _ hd];rfl);rw [putSet_of es' _ hd] at this;exact this
 split
 ·exact wpAny_bind (sU hx λb=>tf b)
 ·exact wpAny_bind (wpAny_pure (tf true))
theorem BM {S x y:Addr} {o:Obj} {q fg mv ep:Nat} {l p:Bool} {h0 h:Int} {kx ky:List K} {Q:Bool->Shared->Prop} (ho:s.heap.get? S=some o) (he:o.ExactSet) (hd:o.data=.set #[(h0,.ref y)] ep (smT #[q] fg mv l p)) (hx:IsTupleKey kd s.heap kx x) (hy:IsTupleKey kd s.heap ky y) (ne:kx≠ky) (hu:A.units < cLine)
  (hQ:∀ h',Heap.SameBut S s.heap h'->oq h' S 2->Q true { s with heap:=h' }):wpAny (model P w) A (setAddHashed S (.ref x) h) Q E s:=by
 unfold setAddHashed;refine wpAny_holding ?_;show wpAny _ _ (setAddHashedIn S (.ref x) h (99999+1)) Q E s;unfold setAddHashedIn;refine wpAny_bind (wpAny_setState_of ho hd (by rfl) ?_);dsimp only;rw [show byScan (.ref x) #[(h0,.ref y)]=false by simp [byScan,Value.scannable]];simp only [aAo,if_false];unfold setSearch;refine wpAny_bind (qX ho hd hx hy ne hu (λj=>?_) 13 100000 _ _ none pW (uU h) (by lia) (by lia));dsimp only;refine wpAny_bind (wpAny_setState_of ho hd (by rfl) ?_);dsimp only;obtain ⟨r,pl,e1,hr,hpl⟩:∃ r pl,SetTable.put (smT #[q] fg mv l p) j=(smT pl fg mv l p,r)/\r<=1/\pl.size=2:=by
  by_cases c:q < j
  ·exact ⟨1,#[q,j],by simp [SetTable.put,SetTable.below,SetTable.below.go,SetTable.insertAt,SetTable.has,c],by lia,rfl⟩
  ·exact ⟨0,#[j,q],by simp [SetTable.put,SetTable.below,SetTable.below.go,SetTable.insertAt,SetTable.has,c],by lia,rfl⟩
 rw [e1];dsimp only;have e2:(SetTable.insertAt (#[(h0,.ref y)]:Array (Int×Value)) r (h,Value.ref x)).size=2:=by
  obtain rfl | rfl:r=0\/r=1:=by lia
  ·simp [SetTable.insertAt]
  ·simp [SetTable.insertAt]
 refine ou ho hd hx (by rw [e2];decide) (by rw [hpl];decide) λh' p' sb e=>hQ h' sb ⟨_,_,_,_,e,he,rfl,?_,e2⟩;rw [e2];simp [SetTable.fits,SetTable.fill,hpl]
end
section
variable {P:Program} {w:World} {A:Around} {R:Result->Shared->Prop} {it:Addr} {fp wr:List Addr} {G:Array GenState->Array GenState->Prop} {n:Nat} {Pt:Nat->Value->Prop} {St:Nat->Shared->Prop}
end
section
variable {P:Program} {w:World} {A:Around} {E:Value->Shared->Prop} {s:Shared}
end
section
variable {X:Cx}
end
def zk (t:Bool):String:=if t then "tuple_iterator" else "list_iterator"
def BN (t:Bool):String:=if t then "tuple" else "list"
def ItXe (t:Bool) (h:Heap) (a l:Addr) (i:Nat):Prop:=∃ o,h.get? a=some o/\o.cls=.type (zk t)/\o.data=.fields #[.ref l,.int i 0]
def TsXe (t:Bool) (h:Heap) (a:Addr) (items:Array Value):Prop:=∃ o,h.get? a=some o/\o.cls=.type (BN t)/\∃ n,o.data=.seq items n
theorem ItXe.extBut {t:Bool} {h h':Heap} {a b l:Addr} {i:Nat} (x:ItXe t h a l i) (hs:Heap.ExtBut b h h') (hab:a≠b):ItXe t h' a l i:=let ⟨o,ho,r⟩:=x;⟨o,hs a o hab ho,r⟩
theorem TsXe.extBut {t:Bool} {h h':Heap} {a b:Addr} {items:Array Value} (x:TsXe t h a items) (hs:Heap.ExtBut b h h') (hab:a≠b):TsXe t h' a items:=let ⟨o,ho,r⟩:=x;⟨o,hs a o hab ho,r⟩
section
variable {prog:Program} {w:World} {A:Around} {E:Value->Shared->Prop} {s:Shared}
theorem dY {t':Bool} {b t:Addr} {k:Nat} {its:Array Value} {v:Value} {Q:Value->Shared->Prop} (hb:ItXe t' s.heap b t k) (ht:TsXe t' s.heap t its) (hv:its[k]?=some v)
  (q:∀ h',ItXe t' h' b t (k+1)->Heap.SameBut b s.heap h'->Q v { s with heap:=h' }):wpAny (model prog w) A (Builtin.SmallTypes.nextOf (.ref b)) Q E s:=by
 cases t'
 ·exact wpAny_nextOf_list_item hb ht hv q
 ·exact cf hb ht hv q
theorem jh {t':Bool} {b t:Addr} {k:Nat} {its:Array Value} {Q:Value->Shared->Prop} (hh:A.handled=none) (hb:ItXe t' s.heap b t k) (ht:TsXe t' s.heap t its) (hv:its[k]?=none)
  (q:∀ h' e,Heap.ExtBut b s.heap h'->(∃ o,h'.get? e=some o/\o.cls=.type "StopIteration")->E (.ref e) { s with heap:=h' }):wpAny (model prog w) A (Builtin.SmallTypes.nextOf (.ref b)) Q E s:=by
 cases t'
 ·exact wpAny_nextOf_list_end hh hb ht hv q
 ·exact fh hh hb ht hv q
end
section
variable {X:Cx} {pins:List (Addr×Obj)} {σ:St} {H:Hp} {s:Shared}
theorem Inv.seqE {t:Bool} {a:Addr} {xs:List V} (I:Inv X pins σ H s) (h:SqE t X.K H a xs):∃ its:List Value,Vals xs its/\TsXe t s.heap a its.toArray/\xs.length<=sizeLine:=by
 cases t
 ·obtain ⟨its,r,p,z⟩:=I.list h;exact ⟨its,r,p.isList,z⟩
 ·exact I.tuple h
theorem Inv.seqE_inj {t:Bool} {a:Addr} {xs ys:List V} (I:Inv X pins σ H s) (h:SqE t X.K H a xs) (h':SqE t X.K H a ys):xs=ys:=by
 cases t
 ·exact I.list_inj h h'
 ·exact I.tuple_inj h h'
end
section
variable {prog:Program} {w:World} {A:Around} {E:Value->Shared->Prop} {s:Shared}
theorem pY {ta tb:Bool} {z P0 P1 u v l m:Addr} {k:Nat} {xs ys:Array Value} {x y a b:Value} {Q:Option Value->Shared->Prop} (D:ZipApart z P0 P1 u v l m) (Z:IsZip s.heap z P0 P1 .none) (I0:IsPair s.heap P0 (.ref u) (.ref v)) (I1:IsPair s.heap P1 a b)
  (wu:ItXe ta s.heap u l k) (wv:ItXe tb s.heap v m k) (tl:TsXe ta s.heap l xs) (tm:TsXe tb s.heap m ys) (ex:xs[k]?=some x) (ey:ys[k]?=some y)
  (q:∀ h',IsZip h' z P0 P1 (rawInt s.heap.objs.size)->IsPair h' P1 x y->ItXe ta h' u l (k+1)->ItXe tb h' v m (k+1)->IsPair h' s.heap.objs.size x y->h'.objs.size=s.heap.objs.size+1 ->
   (∀ c o,c≠z->c≠P1->c≠u->c≠v->s.heap.get? c=some o->h'.get? c=some o)->Q (some (.ref s.heap.objs.size)) { s with heap:=h' }):wpAny (model prog w) A (pyNext (.ref z)) Q E s:=by
 have hT:s.TypeIs (.ref z) "zip" :=⟨_,Z,rfl⟩;unfold pyNext;refine wpAny_bind (wpAny_attempt (wpAny_callSpecial?_slot (name:=Str.ofString "__next__") hT F.slot_zip_next (wpAny_call_entry F.slot_zip_next hT F.entry_zip_next ?_ (F.args_zip_next_1 _))));refine show wpAny _ _ (field (.ref z) 2 >>= _) _ _ _ from wpAny_bind (wpAny_field Z rfl (x:=.bool false) rfl ?_);refine show wpAny _ _ (field (.ref z) 3 >>= _) _ _ _ from wpAny_bind (wpAny_field Z rfl (x:=.ref P0) rfl (wpAny_bind (wpAny_seqItems I0 rfl ?_)));refine show wpAny _ _ (Builtin.SmallTypes.ownedTupleIsFree (.ref z) >>= _) _ _ _ from wpAny_bind ?_;unfold Builtin.SmallTypes.ownedTupleIsFree;refine wpAny_bind (wpAny_field Z rfl (x:=.none) rfl (wpAny_pure ?_));rw [if_pos rfl];refine wpAny_bind (wpAny_rule (wpAny_bind (wpAny_field Z rfl (x:=.ref P1) rfl (wpAny_bind (wpAny_setField_rec Z (by simp) λha Za sa=>?_)))));replace Za:IsZip ha z P0 P1 .ellipsis:=Za;refine wpAny_bind ?_;simp only [aBc,aAS,aBB,aA6];refine wpAny_bind (wpAny_bind (wpAny_onRaise ?_));refine show wpAny _ _ (Builtin.SmallTypes.nextOf (.ref u) >>= _) _ _ _ from wpAny_bind (dY (wu.extBut sa.extBut D.i1z) (tl.extBut sa.extBut D.l1z) ex λhb wb sb=>wpAny_pure ?_);have Ib:IsPair hb P1 a b:=sb.extBut _ _ D.TOi1 (sa.extBut _ _ D.TOz I1);refine wpAny_bind (wpAny_seqItems Ib rfl (wpAny_bind (wpAny_updateSeq_pair Ib λhc Ic sc=>wpAny_bind (wpAny_letGo (wpAny_pure ?_)))));replace Ic:IsPair hc P1 x b:=Ic;refine wpAny_bind (wpAny_bind (wpAny_onRaise ?_));refine show wpAny _ _ (Builtin.SmallTypes.nextOf (.ref v) >>= _) _ _ _ from wpAny_bind (dY (((wv.extBut sa.extBut D.i2z).extBut sb.extBut D.i12.symm).extBut sc.extBut D.TOi2.symm) (((tm.extBut sa.extBut D.l2z).extBut sb.extBut D.l2i1).extBut sc.extBut D.l2TO) ey λhd wd sd=>wpAny_pure ?_);have Id:IsPair hd P1 x b:=sd.extBut _ _ D.TOi2 Ic;refine wpAny_bind (wpAny_seqItems Id rfl (wpAny_bind (wpAny_updateSeq_pair Id λhe Ie se=>wpAny_bind (wpAny_letGo (wpAny_pure (wpAny_pure ?_))))));replace Ie:IsPair he P1 x y:=Ie;refine wpAny_bind (wpAny_seqItems Ie rfl (wpAny_bind (wpAny_newTuple ?_)));have size:he.objs.size=s.heap.objs.size:=by rw [se.1,sd.1,sc.1,sb.1,sa.1]
 have Ze:IsZip he z P0 P1 .ellipsis:=se.extBut _ _ D.TOz.symm (sd.extBut _ _ D.i2z.symm (sc.extBut _ _ D.TOz.symm (sb.extBut _ _ D.i1z.symm Za)));have keep:∀ c o,c≠z->c≠P1->c≠u->c≠v->s.heap.get? c=some o->he.get? c=some o:=λc o n1 n2 n3 n4 e=>se.extBut _ _ n2 (sd.extBut _ _ n4 (sc.extBut _ _ n2 (sb.extBut _ _ n3 (sa.extBut _ _ n1 e))));have we:ItXe ta he u l (k+1):=((wb.extBut sc.extBut D.TOi1.symm).extBut sd.extBut D.i12).extBut se.extBut D.TOi1.symm;have we':ItXe tb he v m (k+1):=wd.extBut se.extBut D.TOi2.symm;have ltz:z < he.objs.size:=aAe Ze;refine show wpAny _ _ (Builtin.SmallTypes.ownedTupleHandOut (.ref z) (.ref he.objs.size) >>= _) _ _ _ from wpAny_bind ?_;unfold Builtin.SmallTypes.ownedTupleHandOut;have Zf:IsZip (he.push { cls:=.type "tuple",data:=.seq #[x,y] }) z P0 P1 .ellipsis:=aAa _ Ze;refine wpAny_bind (wpAny_setField_rec Zf (by simp) λhg Zg sg=>?_);replace Zg:IsZip hg z P0 P1 (rawInt he.objs.size):=Zg;refine wpAny_setField_rec Zg (by simp) λhi Zi si=>?_;replace Zi:IsZip hi z P0 P1 (rawInt he.objs.size):=Zi;have up:∀ c o,c≠z->he.get? c=some o->hi.get? c=some o:=λc o n e=>si.extBut _ _ n (sg.extBut _ _ n (aAa _ e));have Ti:IsPair hi he.objs.size x y:=si.extBut _ _ (aAH ltz) (sg.extBut _ _ (aAH ltz) (aAh _ rfl));have size':hi.objs.size=he.objs.size+1:=by rw [si.1,sg.1,aAC]
 refine wpAny_pure ⟨_,rfl,wpAny_pure ?_⟩;rw [size] at Zi Ti size';have go:=q hi Zi (up _ _ D.TOz Ie) (by obtain ⟨o,e,r⟩:=we;exact ⟨o,up _ o D.i1z e,r⟩) (by obtain ⟨o,e,r⟩:=we';exact ⟨o,up _ o D.i2z e,r⟩) Ti size' λc o n1 n2 n3 n4 e=>up c o n1 (keep c o n1 n2 n3 n4 e);rw [<- size] at go;exact go
theorem sW {ta tb:Bool} {z P0 P1 u v l m:Addr} {k:Nat} {xs ys:Array Value} {a b:Value} {Q:Option Value->Shared->Prop} (hh:A.handled=none) (D:ZipApart z P0 P1 u v l m) (Z:IsZip s.heap z P0 P1 .none) (I0:IsPair s.heap P0 (.ref u) (.ref v)) (I1:IsPair s.heap P1 a b)
  (wu:ItXe ta s.heap u l k) (wv:ItXe tb s.heap v m k) (tl:TsXe ta s.heap l xs) (tm:TsXe tb s.heap m ys) (no:xs[k]?=none\/ys[k]?=none)
  (q:∀ h',(∀ c o,c≠z->c≠P1->c≠u->c≠v->s.heap.get? c=some o->h'.get? c=some o)->Q none { s with heap:=h' }):wpAny (model prog w) A (pyNext (.ref z)) Q E s:=by
 have hT:s.TypeIs (.ref z) "zip" :=⟨_,Z,rfl⟩;unfold pyNext;refine wpAny_bind (wpAny_attempt (wpAny_callSpecial?_slot (name:=Str.ofString "__next__") hT F.slot_zip_next (wpAny_call_entry F.slot_zip_next hT F.entry_zip_next ?_ (F.args_zip_next_1 _))));refine show wpAny _ _ (field (.ref z) 2 >>= _) _ _ _ from wpAny_bind (wpAny_field Z rfl (x:=.bool false) rfl ?_);refine show wpAny _ _ (field (.ref z) 3 >>= _) _ _ _ from wpAny_bind (wpAny_field Z rfl (x:=.ref P0) rfl (wpAny_bind (wpAny_seqItems I0 rfl ?_)));refine show wpAny _ _ (Builtin.SmallTypes.ownedTupleIsFree (.ref z) >>= _) _ _ _ from wpAny_bind ?_;unfold Builtin.SmallTypes.ownedTupleIsFree;refine wpAny_bind (wpAny_field Z rfl (x:=.none) rfl (wpAny_pure ?_));rw [if_pos rfl];refine wpAny_bind (wpAny_rule (wpAny_bind (wpAny_field Z rfl (x:=.ref P1) rfl (wpAny_bind (wpAny_setField_rec Z (by simp) λha Za sa=>?_)))));replace Za:IsZip ha z P0 P1 .ellipsis:=Za;refine wpAny_bind ?_;simp only [aBc,aAS,aBB,aA6];refine wpAny_bind (wpAny_bind (wpAny_onRaise ?_));have stop:∀ {h':Heap} {e:Addr},(∃ o,h'.get? e=some o/\o.cls=.type "StopIteration")->IsZip h' z P0 P1 .ellipsis->e≠z:=λhe hz c=>by
  obtain ⟨o,ho,hc⟩:=he;subst c;rw [hz] at ho
  cases ho
  simp at hc
 have fin:∀ {h':Heap} {e:Addr},(∃ o,h'.get? e=some o/\o.cls=.type "StopIteration")->(∀ c o,c≠z->c≠P1->c≠u->c≠v->s.heap.get? c=some o->h'.get? c=some o) ->
   wpAny (model prog w) A (do if (<- isInstance (.ref e) (.type "StopIteration")) then pure none else throw (.ref e)) Q E { s with heap:=h' }:=λ{h' e} he hk=>by
  obtain ⟨o,ho,hc⟩:=he;exact wpAny_bind (wpAny_isInstance (T:= "StopIteration") (b:=true) ⟨o,ho,hc⟩ isSubtype_stop (wpAny_pure (q _ hk)))
 cases ex:xs[k]? with
 | none =>
  refine show wpAny _ _ (Builtin.SmallTypes.nextOf (.ref u) >>= _) _ _ _ from wpAny_bind (jh hh (wu.extBut sa.extBut D.i1z) (tl.extBut sa.extBut D.l1z) ex λhb e sb he=>?_);have Zb:IsZip hb z P0 P1 .ellipsis:=sb _ _ D.i1z.symm Za;have ne:=stop he Zb;obtain ⟨o,ho,hc⟩:=he;exact wpAny_setField_rec Zb (by simp) λhd _ sd=>fin ⟨o,sd.extBut _ _ ne ho,hc⟩ λc o n1 _ n3 _ e=>sd.extBut _ _ n1 (sb _ _ n3 (sa.extBut _ _ n1 e))
 | some x =>
  have ey:ys[k]?=none:=no.resolve_left (by rw [ex];simp);refine show wpAny _ _ (Builtin.SmallTypes.nextOf (.ref u) >>= _) _ _ _ from wpAny_bind (dY (wu.extBut sa.extBut D.i1z) (tl.extBut sa.extBut D.l1z) ex λhb wb sb=>wpAny_pure ?_);have Ib:IsPair hb P1 a b:=sb.extBut _ _ D.TOi1 (sa.extBut _ _ D.TOz I1);refine wpAny_bind (wpAny_seqItems Ib rfl (wpAny_bind (wpAny_updateSeq_pair Ib λhc Ic sc=>wpAny_bind (wpAny_letGo (wpAny_pure (wpAny_bind (wpAny_bind (wpAny_onRaise ?_))))))));refine show wpAny _ _ (Builtin.SmallTypes.nextOf (.ref v) >>= _) _ _ _ from wpAny_bind (jh hh (((wv.extBut sa.extBut D.i2z).extBut sb.extBut D.i12.symm).extBut sc.extBut D.TOi2.symm) (((tm.extBut sa.extBut D.l2z).extBut sb.extBut D.l2i1).extBut sc.extBut D.l2TO) ey λhd e sd he=>?_);have Zd:IsZip hd z P0 P1 .ellipsis:=sd _ _ D.i2z.symm (sc.extBut _ _ D.TOz.symm (sb.extBut _ _ D.i1z.symm Za));have ne:=stop he Zd;obtain ⟨o,ho,hcl⟩:=he;exact wpAny_setField_rec Zd (by simp) λhf _ sf=>fin ⟨o,sf.extBut _ _ ne ho,hcl⟩ λc o n1 n2 n3 n4 e=>sf.extBut _ _ n1 (sd _ _ n4 (sc.extBut _ _ n2 (sb.extBut _ _ n3 (sa.extBut _ _ n1 e))))
theorem uX {ta tb:Bool} (hh:A.handled=none) (z P0 P1 u v l m:Addr) (D:ZipApart z P0 P1 u v l m) (xs ys:Array Value) :
  WalksT prog w A z [z,P0,P1,u,v,l,m] [z,P1,u,v] (min xs.size ys.size) (λi vals=>∃ x y,xs[i]?=some x/\ys[i]?=some y/\vals=#[x,y])
   (λi h=>IsZip h z P0 P1 .none/\IsPair h P0 (.ref u) (.ref v)/\(∃ a b,IsPair h P1 a b)/\ItXe ta h u l i/\ItXe tb h v m i/\TsXe ta h l xs/\TsXe tb h m ys)
   (λi T h=>IsZip h z P0 P1 (rawInt T)/\IsPair h P0 (.ref u) (.ref v)/\(∃ a b,IsPair h P1 a b)/\ItXe ta h u l (i+1)/\ItXe tb h v m (i+1)/\TsXe ta h l xs/\TsXe tb h m ys/\T≠z/\T≠P1/\T≠u/\T≠v) where
 sub:=λc hc=>by
  simp only [aAf,aAl,or_false] at hc ⊢;rcases hc with h | h | h | h <;> simp [h]
 frame:=λi h h' st kk=>by
  obtain ⟨Z,I0,⟨a,b,I1⟩,⟨o1,e1,r1⟩,⟨o2,e2,r2⟩,⟨o3,e3,r3⟩,⟨o4,e4,r4⟩⟩:=st;exact ⟨kk z (by simp) _ Z,kk P0 (by simp) _ I0,⟨a,b,kk P1 (by simp) _ I1⟩,⟨o1,kk u (by simp) _ e1,r1⟩,⟨o2,kk v (by simp) _ e2,r2⟩,⟨o3,kk l (by simp) _ e3,r3⟩,⟨o4,kk m (by simp) _ e4,r4⟩⟩
 item:=λi s Q E hi st q=>by
  obtain ⟨Z,I0,⟨a,b,I1⟩,wu,wv,tl,tm⟩:=st;have h1:i < xs.size:=by lia
  have h2:i < ys.size:=by lia
  refine pY D Z I0 I1 wu wv tl tm (aAL h1) (aAL h2) λh' a1 a2 a3 a4 a5 a6 kk=>?_;have far:∀ {c o},s.heap.get? c=some o->s.heap.objs.size≠c:=λe=>aAH (aAe e);obtain ⟨o1,e1,_⟩:=wu;obtain ⟨o2,e2,_⟩:=wv;obtain ⟨o3,e3,r3⟩:=tl;obtain ⟨o4,e4,r4⟩:=tm;refine q s.heap.objs.size #[xs[i],ys[i]] h' s.toks ⟨_,_,aAL h1,aAL h2,rfl⟩ (aAm _) ⟨_,a5,rfl,_,rfl⟩ ⟨a1,kk _ _ D.TIz D.TITO D.TIi1 D.TIi2 I0,⟨_,_,a2⟩,a3,a4,⟨o3,kk _ _ D.l1z D.l1TO D.l1i1 D.l1i2 e3,r3⟩,⟨o4,kk _ _ D.l2z D.l2TO D.l2i1 D.l2i2 e4,r4⟩,far Z,far I1,far e1,far e2⟩ λc o hc e=>?_;simp only [aAf,aAl,or_false,not_or] at hc;exact kk c o hc.1 hc.2.1 hc.2.2.1 hc.2.2.2 e
 go:=λelts k pos i T s Q E st q=>by
  obtain ⟨Z,I0,⟨a,b,I1⟩,wu,wv,tl,tm,_⟩:=st;refine wpAny_letOwnedTupleGo_zip Z λh' Z' s'=>q h' ⟨Z',s'.extBut _ _ D.TIz I0,⟨a,b,s'.extBut _ _ D.TOz I1⟩,wu.extBut s'.extBut D.i1z,wv.extBut s'.extBut D.i2z,tl.extBut s'.extBut D.l1z,tm.extBut s'.extBut D.l2z⟩ λc o hc e=>?_;simp only [aAf,aAl,or_false,not_or] at hc;exact s'.extBut _ _ hc.1 e
 apart:=λi T h st hT=>by
  obtain ⟨_,_,_,_,_,_,_,n1,n2,n3,n4⟩:=st;simp only [aAf,aAl,or_false] at hT;rcases hT with h | h | h | h
  ·exact n1 h
  ·exact n2 h
  ·exact n3 h
  ·exact n4 h
 done:=λs Q E st q=>by
  obtain ⟨Z,I0,⟨a,b,I1⟩,wu,wv,tl,tm⟩:=st;have no:xs[min xs.size ys.size]?=none\/ys[min xs.size ys.size]?=none:=by
   rcases Nat.le_total xs.size ys.size with h | h
   ·exact .inl (aBg (by lia))
   ·exact .inr (aBg (by lia))
  refine sW hh D Z I0 I1 wu wv tl tm no λh' kk=>q h' s.toks λc o hc e=>?_;simp only [aAf,aAl,or_false,not_or] at hc;exact kk c o hc.1 hc.2.1 hc.2.2.1 hc.2.2.2 e
 self:=λi s Q E st q=>wpAny_pyIter_zip st.1 q
abbrev xx (ta:Bool) (h:Heap) (l:Addr):Heap:=h.push { cls:=.type (zk ta),data:=.fields #[.ref l,.int 0 0] }
abbrev xz (ta tb:Bool) (h:Heap) (l m:Addr):Heap:=(xx ta h l).push { cls:=.type (zk tb),data:=.fields #[.ref m,.int 0 0] }
abbrev xA (ta tb:Bool) (h:Heap) (l m:Addr):Heap:=(xz ta tb h l m).push { cls:=.type "tuple",data:=.seq #[.ref h.objs.size,.ref (xx ta h l).objs.size] }
abbrev ow (ta tb:Bool) (h:Heap) (l m:Addr):Heap:=(xA ta tb h l m).push { cls:=.type "tuple",data:=.seq #[.none,.none] }
abbrev ji (ta tb:Bool) (h:Heap) (l m:Addr):Heap:=(ow ta tb h l m).push { cls:=.type "zip",data:=.fields #[.none,.bool false,.bool false,.ref (xz ta tb h l m).objs.size,.ref (xA ta tb h l m).objs.size] }
set_option maxHeartbeats 2000000 in
theorem AR (l m:Addr) (xs ys:Array Value) :
  Meets (Builtin.«zip.__new__» ⟨[.type "zip",.ref l,.ref m],[]⟩) (λ_ R s=>TsXe false s.heap l xs/\TsXe false s.heap m ys/\R (.ok (.ret (.ref (ow false false s.heap l m).objs.size))) { s with heap:=ji false false s.heap l m }) :=
 .of_wp λprog w A R s h=>by
  obtain ⟨hp,g,d,tk,os⟩:=s;obtain ⟨tl,tm,h⟩:=h;have sub:=sub_zip;have T1:Heap.IsList (Shared.heap ⟨hp,g,d,tk,os⟩) l xs:=tl;have T2:Heap.IsList (Shared.heap ⟨hp.push { cls:=.type "list_iterator",data:=.fields #[.ref l,.int 0 0] },g,d,tk,os⟩) m ys:=Heap.IsList.push tm _
  wp_walk using wpAny_pyIter_list T1,wpAny_pyIter_list T2
  exact ⟨_,rfl,h⟩
set_option maxHeartbeats 2000000 in
theorem AS (l m:Addr) (xs ys:Array Value) :
  Meets (Builtin.«zip.__new__» ⟨[.type "zip",.ref l,.ref m],[]⟩) (λ_ R s=>TsXe false s.heap l xs/\TsXe true s.heap m ys/\R (.ok (.ret (.ref (ow false true s.heap l m).objs.size))) { s with heap:=ji false true s.heap l m }) :=
 .of_wp λprog w A R s h=>by
  obtain ⟨hp,g,d,tk,os⟩:=s;obtain ⟨tl,tm,h⟩:=h;have sub:=sub_zip;have T1:Heap.IsList (Shared.heap ⟨hp,g,d,tk,os⟩) l xs:=tl;have T2:IsTup (Shared.heap ⟨hp.push { cls:=.type "list_iterator",data:=.fields #[.ref l,.int 0 0] },g,d,tk,os⟩) m ys:=IsTup.push tm _
  wp_walk using wpAny_pyIter_list T1,iter_tuple T2
  exact ⟨_,rfl,h⟩
set_option maxHeartbeats 2000000 in
theorem AT (l m:Addr) (xs ys:Array Value) :
  Meets (Builtin.«zip.__new__» ⟨[.type "zip",.ref l,.ref m],[]⟩) (λ_ R s=>TsXe true s.heap l xs/\TsXe false s.heap m ys/\R (.ok (.ret (.ref (ow true false s.heap l m).objs.size))) { s with heap:=ji true false s.heap l m }) :=
 .of_wp λprog w A R s h=>by
  obtain ⟨hp,g,d,tk,os⟩:=s;obtain ⟨tl,tm,h⟩:=h;have sub:=sub_zip;have T1:IsTup (Shared.heap ⟨hp,g,d,tk,os⟩) l xs:=tl;have T2:Heap.IsList (Shared.heap ⟨hp.push { cls:=.type "tuple_iterator",data:=.fields #[.ref l,.int 0 0] },g,d,tk,os⟩) m ys:=Heap.IsList.push tm _
  wp_walk using iter_tuple T1,wpAny_pyIter_list T2
  exact ⟨_,rfl,h⟩
set_option maxHeartbeats 2000000 in
theorem AU (l m:Addr) (xs ys:Array Value) :
  Meets (Builtin.«zip.__new__» ⟨[.type "zip",.ref l,.ref m],[]⟩) (λ_ R s=>TsXe true s.heap l xs/\TsXe true s.heap m ys/\R (.ok (.ret (.ref (ow true true s.heap l m).objs.size))) { s with heap:=ji true true s.heap l m }) :=
 .of_wp λprog w A R s h=>by
  obtain ⟨hp,g,d,tk,os⟩:=s;obtain ⟨tl,tm,h⟩:=h;have sub:=sub_zip;have T1:IsTup (Shared.heap ⟨hp,g,d,tk,os⟩) l xs:=tl;have T2:IsTup (Shared.heap ⟨hp.push { cls:=.type "tuple_iterator",data:=.fields #[.ref l,.int 0 0] },g,d,tk,os⟩) m ys:=IsTup.push tm _
  wp_walk using iter_tuple T1,iter_tuple T2
  exact ⟨_,rfl,h⟩
theorem ox (ta tb:Bool) (l m:Addr) (xs ys:Array Value) :
  Meets (Builtin.«zip.__new__» ⟨[.type "zip",.ref l,.ref m],[]⟩) (λ_ R s=>TsXe ta s.heap l xs/\TsXe tb s.heap m ys/\R (.ok (.ret (.ref (ow ta tb s.heap l m).objs.size))) { s with heap:=ji ta tb s.heap l m }):=by
 cases ta <;> cases tb
 ·exact AR l m xs ys
 ·exact AS l m xs ys
 ·exact AT l m xs ys
 ·exact AU l m xs ys
theorem pZ {ta tb:Bool} {l m:Addr} {xs ys:Array Value} {Q:Value->Shared->Prop} (tl:TsXe ta s.heap l xs) (tm:TsXe tb s.heap m ys)
  (q:∀ h',IsZip h' (s.heap.objs.size+4) (s.heap.objs.size+2) (s.heap.objs.size+3) .none->IsPair h' (s.heap.objs.size+2) (.ref s.heap.objs.size) (.ref (s.heap.objs.size+1))->IsPair h' (s.heap.objs.size+3) .none .none ->
   ItXe ta h' s.heap.objs.size l 0->ItXe tb h' (s.heap.objs.size+1) m 0->h'.objs.size=s.heap.objs.size+5->(∀ c o,s.heap.get? c=some o->h'.get? c=some o)->Q (.ref (s.heap.objs.size+4)) { s with heap:=h' }) :
  wpAny (model prog w) A (call (.type "zip") [.ref l,.ref m]) Q E s:=by
 refine callType_new F.called_zip (by decide) (F.typeCall_zip_2 _ _) (F.newCall_zip_2 _ _) (λobj=>F.args_object_init_3 obj _ _) F.entry_zip_new (ox ta tb l m xs ys) ⟨tl,tm,?_⟩;have n1:(xx ta s.heap l).objs.size=s.heap.objs.size+1:=aAC ..;have n2:(xz ta tb s.heap l m).objs.size=s.heap.objs.size+2:=by rw [aAC,n1]
 have n3:(xA ta tb s.heap l m).objs.size=s.heap.objs.size+3:=by rw [aAC,n2]
 have n4:(ow ta tb s.heap l m).objs.size=s.heap.objs.size+4:=by rw [aAC,n3]
 have n5:(ji ta tb s.heap l m).objs.size=s.heap.objs.size+5:=by rw [aAC,n4]
 have e5:(ji ta tb s.heap l m).get? (ow ta tb s.heap l m).objs.size=some _:=aAh _ rfl;have e4:(ji ta tb s.heap l m).get? (xA ta tb s.heap l m).objs.size=some _:=aAa _ (aAh _ rfl);have e3:(ji ta tb s.heap l m).get? (xz ta tb s.heap l m).objs.size=some _:=aAa _ (aAa _ (aAh _ rfl));have e2:(ji ta tb s.heap l m).get? (xx ta s.heap l).objs.size=some _:=aAa _ (aAa _ (aAa _ (aAh _ rfl)));have e1:(ji ta tb s.heap l m).get? s.heap.objs.size=some _:=aAa _ (aAa _ (aAa _ (aAa _ (aAh _ rfl))));refine show _/\_ from ?_;rw [n2,n3,n4] at e5;rw [n1,n2] at e3;rw [n3] at e4;rw [n1] at e2;rw [n4];exact ⟨⟨_,e5,rfl⟩,q _ e5 e3 e4 ⟨_,e1,rfl,rfl⟩ ⟨_,e2,rfl,rfl⟩ n5 λc o x=>aAa _ (aAa _ (aAa _ (aAa _ (aAa _ x))))⟩
end
def oy (ta tb:Bool) (K:W.Frag) (a b:Addr):It :=
 ⟨λi H=>∃ xs ys x y,SqE ta K H a xs/\SqE tb K H b ys/\xs[i]?=some x/\ys[i]?=some y,
  λi H v H'=>∃ T x y,v=.ref T/\H T=none/\H'=upd H T (.tup [x,y])/\(∀ xs,SqE ta K H a xs->xs[i]?=some x)/\(∀ ys,SqE tb K H b ys->ys[i]?=some y),
  λi H=>∃ xs ys,SqE ta K H a xs/\SqE tb K H b ys/\min xs.length ys.length=i⟩
def xB (ta tb:Bool) (z TI TO i1 i2 l1 l2:Addr) (i:Nat) (h:Heap):Prop:=IsZip h z TI TO .none/\IsPair h TI (.ref i1) (.ref i2)/\(∃ a b,IsPair h TO a b)/\ItXe ta h i1 l1 i/\ItXe tb h i2 l2 i
theorem p7 {ta tb:Bool} {P:Program} {w:World} {K:W.Frag} {elts:List Expr} {k:Nat} {pos:Pos} (z TI TO i1 i2 l1 l2:Addr) (D:ZipApart z TI TO i1 i2 l1 l2) :
  Turn P w K (.Tuple elts k pos) (oy ta tb K l1 l2) [z,TI,TO,i1,i2] z (xB ta tb z TI TO i1 i2 l1 l2) where
 mem:=by simp
 obj:=λi h st b hb=>by
  obtain ⟨hz,hTI,⟨a,c,hTO⟩,⟨o1,e1,c1,d1⟩,⟨o2,e2,c2,d2⟩⟩:=st;simp only [aAf,aAl,or_false] at hb;rcases hb with rfl | rfl | rfl | rfl | rfl
  ·exact ⟨_,hz,λv q=>by cases q⟩
  ·exact ⟨_,hTI,λv q=>by cases q⟩
  ·exact ⟨_,hTO,λv q=>by cases q⟩
  ·exact ⟨o1,e1,λv q=>by rw [d1] at q;cases q⟩
  ·exact ⟨o2,e2,λv q=>by rw [d2] at q;cases q⟩
 keep:=λi h h' st kk=>by
  obtain ⟨hz,hTI,⟨a,c,hTO⟩,⟨o1,e1,r1⟩,⟨o2,e2,r2⟩⟩:=st;exact ⟨kk z (by simp) _ hz,kk TI (by simp) _ hTI,⟨a,c,kk TO (by simp) _ hTO⟩,⟨o1,kk i1 (by simp) _ e1,r1⟩,⟨o2,kk i2 (by simp) _ e2,r2⟩⟩
 item:=by
  intro X hP hw hK hc i pins s σ H E I hf st hg;subst hP hw hK;obtain ⟨xs,ys,x,y,hx,hy,ex,ey⟩:=hg;obtain ⟨its,rv,p,hz⟩:=I.seqE hx;obtain ⟨its2,rv2,p2,hz2⟩:=I.seqE hy;obtain ⟨s1,s2,s3,s4,s5⟩:=st;have W:=uX (ta:=ta) (tb:=tb) (prog:=X.prog) (w:=X.w) (I.ok.hd hc) z TI TO i1 i2 l1 l2 D its.toArray its2.toArray;have li:i < xs.length:=(aAg.mp ex).1;have li2:i < ys.length:=(aAg.mp ey).1;have el:=rv.length;have el2:=rv2.length;have wsub:∀ b∈[z,TO,i1,i2],b∈[z,TI,TO,i1,i2]:=λb hb=>by
   simp only [aAf,aAl,or_false] at hb ⊢;rcases hb with rfl | rfl | rfl | rfl <;> simp
  refine W.item i s _ _ (by simp only [aAi];lia) ⟨s1,s2,s3,s4,s5,p,p2⟩ λT vals h' tk hv hT hTup hm hk=>?_;obtain ⟨u,v,eu,ev,rfl⟩:=hv;obtain ⟨u',eu',ru⟩:=rv.get ex;obtain ⟨v',ev',rv'⟩:=rv2.get ey;have e1:u=u':=by
   have:its[i]?=some u:=by simpa using eu
   rw [eu'] at this;exact (Option.some.inj this).symm
  have e2:v=v':=by
   have:its2[i]?=some v:=by simpa using ev
   rw [ev'] at this;exact (Option.some.inj this).symm
  subst e1 e2;have hTn:H T=none:=I.hok.fresh hT;have I1:Inv X pins σ (upd H T (.tup [x,y])) { s with heap:=h',toks:=tk }:=I.turnedT hk (λb hb=>hf b (wsub b hb)) hT ⟨by show 2<=sizeLine;decide,[u,v],.cons ru (.cons rv' .nil),hTup⟩;have ap:=W.apart i T h' hm;have f1:∀ b∈[z,TO,i1,i2],dQ X pins (upd H T (.tup [x,y])) b:=λb hb=>by
   obtain ⟨f0,f1⟩:=hf b (wsub b hb);exact ⟨by rw [ao (λe:b=T=>ap (by rw [<- e];exact hb))];exact f0,f1⟩
  refine ⟨_,rfl,W.go elts k pos i T _ _ _ hm λh'' st2 hk2=>?_⟩;obtain ⟨t1,t2,t3,t4,t5,_,_⟩:=st2;refine ⟨.ref T,_,Inv.turnedL (s:={ s with heap:=h',toks:=tk }) (t':=tk) I1 hk2 f1,rfl,⟨T,x,y,rfl,hTn,rfl,λzs q=>by rw [I.seqE_inj q hx];exact ex,λzs q=>by rw [I.seqE_inj q hy];exact ey⟩,⟨t1,t2,t3,t4,t5⟩,λb hb=>?_⟩;have fb:=(hf b hb).1
  by_cases e:b=T
  ·subst e;have lti:s.heap.objs.size > TI:=aAe s2;simp only [aAf,aAl,or_false] at hb;rcases hb with rfl | rfl | rfl | rfl | rfl
   ·exact absurd (by simp) ap
   ·exact absurd lti (aBP.mpr hT)
   ·exact absurd (by simp) ap
   ·exact absurd (by simp) ap
   ·exact absurd (by simp) ap
  ·rw [ao e];exact fb
 done:=by
  intro X hP hw hK hc i pins s σ H E I hf st hg;subst hP hw hK;obtain ⟨xs,ys,hx,hy,hi⟩:=hg;obtain ⟨its,rv,p,hz⟩:=I.seqE hx;obtain ⟨its2,rv2,p2,hz2⟩:=I.seqE hy;obtain ⟨s1,s2,s3,s4,s5⟩:=st;have W:=uX (ta:=ta) (tb:=tb) (prog:=X.prog) (w:=X.w) (I.ok.hd hc) z TI TO i1 i2 l1 l2 D its.toArray its2.toArray;have el:=rv.length;have el2:=rv2.length;have en:min its.toArray.size its2.toArray.size=i:=by simp only [aAi];lia
  have wsub:∀ b∈[z,TO,i1,i2],b∈[z,TI,TO,i1,i2]:=λb hb=>by
   simp only [aAf,aAl,or_false] at hb ⊢;rcases hb with rfl | rfl | rfl | rfl <;> simp
  refine W.done s _ _ ?_ λh' tk hk=>⟨rfl,I.turnedL hk λb hb=>hf b (wsub b hb)⟩;rw [en];exact ⟨s1,s2,s3,s4,s5,p,p2⟩
 self:=λ_ _ _ _ _ st h=>wpAny_pyIter_zip st.1 h
section
variable {X:Cx} {elts:List Expr} {k:Nat} {tpos:Pos}
def zl (K:W.Frag) (te:TA):TI:=λσ H R=>te σ H λvs H1=>∃ (ta tb:Bool) (a b:Addr),vs=[.ref a,.ref b]/\(∃ xs,SqE ta K H1 a xs)/\(∃ ys,SqE tb K H1 b ys)/\R (oy ta tb K a b) H1
theorem oz {a b:Expr} {te:TA} {p pos:Pos} (hg:Gl X "zip") (hm:X.mg "zip" = none) (ha:PA X [a,b] te) (hs:starEach [a,b] X.env=[(false,eval a X.env),(false,eval b X.env)]:=by rfl) (hs2:starEach [b] X.env=[(false,eval b X.env)]:=by rfl) :
  PI X (.Tuple elts k tpos) (.Call (.Name "zip" p) [a,b] [] pos) (zl X.K te):=by
 intro pins s σ H R I h;refine Call_ (cH I hg hm boot_zip (PyProof.Rows.callWith_type1 (thn (ha pos pins s σ H _ I h) λus s1 ⟨vs,H1,I1,r1,q1⟩=>?_) (by rw [hs,hs2]) (by rw [hs2];rfl)));obtain ⟨ta,tb,l1,l2,e,⟨xs,hx⟩,⟨ys,hy⟩,q⟩:=q1;subst e;obtain ⟨u,v,rfl,ru,rv⟩:=r1.two
 cases ru
 cases rv
 obtain ⟨its,rr,pl,hz⟩:=I1.seqE hx;obtain ⟨its2,rr2,pl2,hz2⟩:=I1.seqE hy;have lt1:l1 < s1.heap.objs.size:=by obtain ⟨o,e,_⟩:=pl;exact aAe e
 have lt2:l2 < s1.heap.objs.size:=by obtain ⟨o,e,_⟩:=pl2;exact aAe e
 refine pZ pl pl2 λh' z1 z2 z3 z4 z5 zs kk=>?_;have I2:Inv X pins σ H1 { s1 with heap:=h' }:=I1.kept (t':=s1.toks) kk;refine wpAny_pyIter_zip z1 ?_;refine ⟨_,_,_,_,H1,rfl,I2,p7 _ _ _ _ _ l1 l2 ?_,⟨z1,z2,⟨_,_,z3⟩,z4,z5⟩,λb hb=>?_,q⟩
 ·have lt1':s1.heap.objs.size > l1:=lt1;have lt2':s1.heap.objs.size > l2:=lt2
  constructor <;> (show ¬ (@Eq Nat _ _)) <;> lia
 ·have:s1.heap.objs.size<=b:=by
   simp only [aAf,aAl,or_false] at hb;rcases hb with rfl | rfl | rfl | rfl | rfl <;> lia
  exact I1.fpOk this (I1.hok.fresh this)
end
theorem jj {K:W.Frag} {tp tq:Bool} {a b:Addr} {xs ys:List V} {g:TG} {tb:TS} {D:Ends} {σ:St} {H:Hp} (Pv:Nat->St->Hp->Prop) (h0:Pv 0 σ H) (hl:∀ i σ H,Pv i σ H->SqE tp K H a xs/\SqE tq K H b ys)
  (hs:∀ i x y T σ H,xs[i]?=some x->ys[i]?=some y->H T=none->Pv i σ H->g (.ref T) σ (upd H T (.tup [x,y])) λσ2 H2=>tb { D with nx:=Pv (i+1),ct:=Pv (i+1),bk:=D.nx } σ2 H2) (hd:∀ σ H,Pv (min xs.length ys.length) σ H->D.nx σ H) :
  ∃ W:Nat->Nat->St->Hp->Prop,(∃ m,W 0 m σ H)/\∀ i m σ H,W i m σ H ->
   ((oy tp tq K a b).stop i H/\D.nx σ H)\/((oy tp tq K a b).go i H/\∃ N:St->Hp->Prop,(∀ σ' H',N σ' H'->∃ m',m' < m/\W (i+1) m' σ' H')/\∀ x H',(oy tp tq K a b).yld i H x H'->g x σ H' λσ2 H2=>tb { D with nx:=N,ct:=N,bk:=D.nx } σ2 H2):=by
 refine ⟨λi m σ H=>m=min xs.length ys.length - i/\i<=min xs.length ys.length/\Pv i σ H,⟨_,rfl,aAB _,h0⟩,?_⟩;rintro i m σ H ⟨rfl,hi,p⟩;obtain ⟨sa,sb⟩:=hl i σ H p
 by_cases hlt:i < min xs.length ys.length
 ·obtain ⟨x,ex⟩:∃ x,xs[i]?=some x:=⟨_,aAj (by lia)⟩;obtain ⟨y,ey⟩:∃ y,ys[i]?=some y:=⟨_,aAj (by lia)⟩;refine .inr ⟨⟨xs,ys,x,y,sa,sb,ex,ey⟩,Pv (i+1),λσ' H' p'=>⟨min xs.length ys.length - (i+1),by lia,rfl,by lia,p'⟩,λv H' q=>?_⟩;obtain ⟨T,x',y',rfl,hT,rfl,q1,q2⟩:=q;have e1:=q1 xs sa;have e2:=q2 ys sb;rw [ex] at e1;rw [ey] at e2
  cases e1
  cases e2
  exact hs i x y T σ H ex ey hT p
 ·have e:i=min xs.length ys.length:=by lia
  subst e;exact .inl ⟨⟨xs,ys,sa,sb,rfl⟩,hd σ H p⟩
section
variable {X:Cx}
end
section
variable {X:Cx}
end
def DicG (P:Program) (w:World) (K:W.Frag) (H:Hp) (a:Addr) (kvs:List (List Key×Dt)):Prop:=DicT P w K H a kvs\/(kvs=[]/\H a=some (.dK []))
section
variable {X:Cx} {pins:List (Addr×Obj)} {σ:St} {H:Hp} {s:Shared}
theorem qa {a:Addr} (I:Inv X pins σ H s) (e:H a=some (.dK [])):(a == sysModules)=false/\s.heap.DictOfH (tupleKind (aj X.prog X.w)) a []:=by
 obtain ⟨_,hd,vs,rel,⟨ob,es,ep,h1,h2,h3,h4,h5,h6⟩⟩:=qO I.hok e
 cases rel
 refine ⟨hd,ob,es,ep,h1,h2,h3,?_,λx hx=>by simp at hx,by simp⟩;have:=h5.length
 simpa using this
theorem DicG.dict {a:Addr} {kvs:List (List Key×Dt)} (I:Inv X pins σ H s) (h:DicG X.prog X.w X.K H a kvs):(a == sysModules)=false/\Mut (H a)/\∃ xs:List (List Key×Addr×Value),s.heap.DictOfH (tupleKind (aj X.prog X.w)) a xs /\
  Paired (λ(a:List Key×Dt) (b:List Key×Addr×Value)=>a.1=b.1/\IsP X.K H (.tup (a.1.map kDt)) (.ref b.2.1)/\∃ v,RelV v b.2.2/\IsP X.K H a.2 v) kvs xs:=by
 rcases h with g | ⟨rfl,g⟩
 ·obtain ⟨hd,xs,dd,r⟩:=g.dict I;obtain ⟨_,xs',e,_⟩:=g;exact ⟨hd,by rw [e];exact True.intro,xs,dd,r⟩
 ·obtain ⟨hd,dd⟩:=qa I g;exact ⟨hd,by rw [g];exact True.intro,[],dd,.nil⟩
end
section
variable {X:Cx}
def AV (P:Program) (w:World) (K:W.Frag) (ty td:TE):TE:=λσ H Q=>ty σ H λy H1=>td σ H1 λx H2=>∃ a b kvs k,x=.ref a/\y=.ref b/\DicG P w K H2 a kvs/\IsP K H2 (.tup (k.map kDt)) (.ref b)/\Q (.bl (bY kvs k).isSome) H2
theorem xC {P:Program} {w:World} {K:W.Frag} {i o:Expr} {td ty:TE} (hP:X.prog=P) (hw:X.w=w) (hK:X.K=K) (hu:X.A.units+1 < cLine) (hi:PE X i ty) (ho:PE X o td):PC X .In i o (AV P w K ty td):=by
 subst hP hw hK;intro pins s σ H Q I h;refine thn (hi pins s σ H _ I h) λiv s1 ⟨y,H1,I1,ry,q1⟩=>thn (ho pins s1 σ H1 _ I1 q1) λu s2 ⟨x,H2,I2,rx,a,b,kvs,k,ex,ey,g,hk,q2⟩=>?_;subst ex ey;obtain rfl:u=Value.ref a:=rx;obtain rfl:iv=Value.ref b:=ry;obtain ⟨hd,_,xs,dd,rel⟩:=g.dict I2;refine wpAny_in_heap (tupleKind_room_in1 hu) (bX I2 hk) hd dd ?_;rcases cW (k:=k) rel with ⟨e1,e2⟩ | ⟨z,p,v,e1,e2,rv,iv⟩
 ·rw [e2];exact ⟨.bl (bY kvs k).isSome,H2,I2.tok _,(by rw [e1];rfl),q2⟩
 ·rw [e2];exact ⟨.bl (bY kvs k).isSome,H2,I2.tok _,(by rw [e1];rfl),q2⟩
def zm (P:Program) (w:World) (K:W.Frag) (td ty tv:TE):TS:=λD σ H=>tv σ H λv H1=>td σ H1 λx H2=>ty σ H2 λy H3=>∃ a b kvs k d,x=.ref a/\y=.ref b/\DicG P w K H3 a kvs/\IsP K H3 (.tup (k.map kDt)) (.ref b)/\IsP K H3 d v/\bY kvs k=none/\kvs.length<=1000 /\
 ∀ H4,But a H3 H4->Mut (H3 a)->DicG P w K H4 a (kvs++[(k,d)])->D.nx σ H4
theorem ps_dputG {P:Program} {w:World} {K:W.Frag} {o i value:Expr} {pos pos':Pos} {td ty tv:TE} (hP:X.prog=P) (hw:X.w=w) (hK:X.K=K) (hu:X.A.units+1 < cLine) (ho:PE X o td) (hi:PE X i ty) (hv:PE X value tv) (hs:swapsWith value (some (.Subscript o i pos')) pos.line X.env=pure false) :
  PS X (.Assign [.Subscript o i pos'] value pos) (zm P w K td ty tv):=by
 subst hP hw hK;intro pins s σ H D I h;refine wpAny_Assign_Subscript (thn (hv pins s σ H _ I h) λr s1 ⟨v,H1,I1,rv,q1⟩=>thn (ho pins s1 σ H1 _ I1 q1) λu s2 ⟨x,H2,I2,rx,q2⟩=>thn (hi pins s2 σ H2 _ I2 q2) λiv s3 ⟨y,H3,I3,ry,a,b,kvs,k,d,ex,ey,g,hk,hdv,nk,hl,q3⟩=>?_) hs;subst ex ey;obtain rfl:u=Value.ref a:=rx;obtain rfl:iv=Value.ref b:=ry;obtain ⟨hd,mu,xs,dd,rel⟩:=g.dict I3;have lx:=Paired.length rel;have e2:atKey xs k=none:=by
  rcases cW (k:=k) rel with ⟨_,e2⟩ | ⟨z,p,v,e1,_⟩
  ·exact e2
  ·rw [nk] at e1;cases e1
 refine wpAny_setItem_heap (knd:=tupleKind (aj X.prog X.w)) (tupleKind_room_in1 hu) (bX I3 hk) dd (λh' dd' hs=>?_) (aAE (show xs.length<=1000 by lia) (by decide));rw [storedH_new e2] at dd';obtain ⟨ob,es,ep,m1,m2,m3,m4,m5,m6⟩:=dd';have notT:∀ {d:Dt} {v:V},IsP X.K H3 d v->IsP X.K (upd H3 a (.ext (je X.prog X.w a (xs++[(k,b,r)])))) d v:=λh=>gw mu But.put h;refine ⟨σ,upd H3 a (.ext (je X.prog X.w a (xs++[(k,b,r)]))),?_,q3 _ But.put mu (.inl ⟨hd,xs++[(k,b,r)],aa,Paired.snoc (L2.Paired.mapP rel λp q ⟨z1,z2,v,z3,z4⟩=>⟨z1,notT z2,v,z3,notT z4⟩) ⟨rfl,notT hk,v,rv,notT hdv⟩⟩)⟩;exact iY (ob:=.ext (je X.prog X.w a (xs++[(k,b,r)]))) I3 mu hs ⟨ob,m1⟩ ⟨⟨ob,es,ep,m1,m2,m3,m4,m6⟩,⟨ob,m1⟩,λx1 x2 ⟨o',es',ep',g1,g⟩ kk=>⟨o',es',ep',kk o' g1,g⟩⟩
end
section
variable {P:Program} {w:World} {A:Around} {E:Value->Shared->Prop} {s:Shared}
end
section
variable {X:Cx}
end
section
variable {P:Program} {w:World} {A:Around} {R:Result->Shared->Prop} {it:Addr} {fp wr:List Addr} {G:Array GenState->Array GenState->Prop} {n:Nat} {Pt:Nat->Value->Prop} {St:Nat->Shared->Prop}
theorem sX (W:WalksS P w A.in1 it fp wr G n Pt St) (S:Addr) (hS0:S∉fp) (SI:Nat->Heap->Prop) (kept:∀ i h h',SI i h->(∀ b o,b∉wr->h.get? b=some o->h'.get? b=some o)->SI i h')
  (add:∀ i v (s:Shared) (Q:Bool->Shared->Prop) (E:Value->Shared->Prop),i < n->Pt i v->SI i s.heap->(∀ r h' tk,s.toks<=tk->Heap.SameBut S s.heap h'->SI (i+1) h'->Q r { s with heap:=h',toks:=tk })->wpAny (model P w) A.in1 (setAdd S v) Q E s) :
  ∀ (d i:Nat) (s:Shared),n - i=d->i<=n->St i s->SI i s.heap ->
   (∀ s',Moved (S :: wr) G s s'->SI n s'.heap->R (.ok (.ret .none)) s')->codeAny (model P w) A (.builtin "set.update.loop" ⟨[.ref S,.ref it],[]⟩) R s:=by
 have nw:S∉wr:=λz=>hS0 (W.sub _ z);have up:∀ b∈wr,b∈S :: wr:=λb z=>aAr _ z;intro d
 induction d with
 | zero =>
  intro i s e1 e2 st hS hR;obtain rfl:i=n:=by lia
  refine codeAny_builtin PyProof.Rows.F.entry_set_update_loop (by
   rw [Around.under_plainId PyProof.Rows.F.plain_set_update_loop _];show wpAny _ A.in1 (pyNext (.ref it) >>= _) _ _ s;refine wpAny_bind (W.done s _ _ st λs' mv=>?_);exact wpAny_pure (hR s' (mv.mono up) (kept _ _ _ hS λb o hb q=>mv.heap b o hb q)))
 | succ d ih =>
  intro i s e1 e2 st hS hR;have lt:i < n:=by lia
  refine codeAny_builtin PyProof.Rows.F.entry_set_update_loop (by
   rw [Around.under_plainId PyProof.Rows.F.plain_set_update_loop _];show wpAny _ A.in1 (pyNext (.ref it) >>= _) _ _ s;refine wpAny_bind (W.item i s _ _ lt st λv s' pv st' mv=>?_);have hS':=kept _ _ s'.heap hS λb o hb q=>mv.heap b o hb q;show wpAny _ A.in1 (holding [v] (setAdd S v) >>= _) _ _ s';refine wpAny_bind (wpAny_holding (add i v s' _ _ lt pv hS' λr h2 tk htk sb hS3=>?_));refine wpAny_pure ⟨plainId_quiet PyProof.Rows.F.plain_set_update_loop _,ih (i+1) _ (by lia) lt (W.frame _ s' _ _ st' htk λb hb o q=>?_) hS3 λs3 mv3 hS4=>?_⟩
   ·rw [sb.2 b (λz:b=S=>hS0 (by rw [<- z];exact hb))];exact q
   ·refine hR s3 (Moved.trans W.gtrans ((mv.mono up).then_heap htk λb o hb q=>?_) mv3) hS4;rw [sb.2 b (λz:b=S=>hb (by rw [z];exact aAq))];exact q)
end
section
variable {P:Program} {w:World} {K:Type} [DecidableEq K] {kd:KeyKind P w K} {A:Around} {E:Value->Shared->Prop} {s:Shared}
theorem uY {a:Addr} {x:Value} {o:Obj} {ep fg mv f:Nat} {l p:Bool} {h:Int} {Q:SetFound->Shared->Prop} (ho:s.heap.get? a=some o) (hd:o.data=.set #[] ep (smT #[] fg mv l p)) (hQ:Q (.free (SetTable.bits h % 8) false) s):wpAny (model P w) A (setSearchFrom a x h true (f+1) none) Q E s:=by
 unfold setSearchFrom;refine wpAny_bind (wpAny_setState_of ho hd (by rfl) ?_);dsimp only;rw [show SetTable.gaveWay (smT #[] fg mv l p)=false by simp [SetTable.gaveWay]];simp only [aAo,if_false];rw [aBw,pW]
 generalize hg:SetTable.probe _ _ _ _=M
 have e:M=some (.empty (SetTable.bits h % 8) none):=by
  rw [<- hg];exact uV (f:=219)
 rw [e];exact wpAny_pure hQ
theorem AW {S x:Addr} {o:Obj} {fg mv ep:Nat} {l p:Bool} {h:Int} {kx:List K} {Q:Bool->Shared->Prop} (ho:s.heap.get? S=some o) (hd:o.data=.set #[] ep (smT #[] fg mv l p)) (hx:IsTupleKey kd s.heap kx x)
  (hQ:∀ h' p',Heap.SameBut S s.heap h'->h'.get? S=some { o with data:=.set #[(h,.ref x)] (ep+1) (smT #[SetTable.bits h % 8] fg mv l p') }->Q true { s with heap:=h' }):wpAny (model P w) A (setAddHashed S (.ref x) h) Q E s:=by
 unfold setAddHashed;refine wpAny_holding ?_;show wpAny _ _ (setAddHashedIn S (.ref x) h (99999+1)) Q E s;unfold setAddHashedIn;refine wpAny_bind (wpAny_setState_of ho hd (by rfl) ?_);dsimp only;rw [show byScan (.ref x) #[]=false by simp [byScan,Value.scannable]];simp only [aAo,if_false];refine wpAny_bind (uY (f:=99999) ho hd ?_);dsimp only;refine wpAny_bind (wpAny_setState_of ho hd (by rfl) ?_);dsimp only
 generalize SetTable.bits h % 8=j at hQ ⊢
 rw [show SetTable.put (smT #[] fg mv l p) j=(smT #[j] fg mv l p,0) by simp [SetTable.put,SetTable.below,SetTable.below.go,SetTable.insertAt,SetTable.has]];dsimp only;rw [show SetTable.insertAt (#[]:Array (Int×Value)) 0 (h,Value.ref x)=#[(h,Value.ref x)] by simp [SetTable.insertAt]];exact ou ho hd hx (by show 1<=2;decide) (by show 1<=2;decide) λh' p' sb e=>hQ h' p' sb e
theorem AX {S x y:Addr} {o:Obj} {fg mv ep:Nat} {l p:Bool} {h:Int} {kx:List K} {Q:Bool->Shared->Prop} (ho:s.heap.get? S=some o) (hd:o.data=.set #[(h,.ref y)] ep (smT #[SetTable.bits h % 8] fg mv l p)) (hx:IsTupleKey kd s.heap kx x) (hy:IsTupleKey kd s.heap kx y) (hu:A.units < cLine)
  (hQ:Q false s):wpAny (model P w) A (setAddHashed S (.ref x) h) Q E s:=by
 unfold setAddHashed;refine wpAny_holding ?_;show wpAny _ _ (setAddHashedIn S (.ref x) h (99999+1)) Q E s;unfold setAddHashedIn;refine wpAny_bind (wpAny_setState_of ho hd (by rfl) ?_);dsimp only;rw [show byScan (.ref x) #[(h,.ref y)]=false by simp [byScan,Value.scannable]];simp only [aAo,if_false];unfold setSearch;refine wpAny_bind ?_;show wpAny _ _ (setSearchFrom S (.ref x) h true (99999+1) none) _ E s;unfold setSearchFrom;refine wpAny_bind (wpAny_setState_of ho hd (by rfl) ?_);dsimp only;rw [show SetTable.gaveWay (smT #[SetTable.bits h % 8] fg mv l p)=false by simp [SetTable.gaveWay]];simp only [aAo,if_false];rw [aBw,pW,om (h0:=h) (by simp) rfl,if_pos rfl];dsimp only;have ef:(List.map (λx=>x.2) ((#[(h,Value.ref y)]:Array (Int×Value)).filter λx=>x.1 == h).toList)=[Value.ref y]:=by simp
 rw [ef];have f2:∀ (Q:SetFound->Shared->Prop) (R:Sem SetFound),wpAny (model P w) A R Q E s->wpAny (model P w) A (if (!l)=true then do
   let d <- searchCouldBeSeen (Value.ref x) [Value.ref y]
   if d=true then do
    unsupported "set:the-search-would-show-the-table"
    R
   else R
   else R) Q E s:=by
  intro Q R hR
  split
  ·refine wpAny_bind (gx hx hy ?_);simp only [aAo,if_false];exact hR
  ·exact hR
 refine f2 _ _ ?_;simp only [aBy,aBs];refine wpAny_bind (wpAny_holding (wpAny_eqBool_tuple hu hy hx ?_));rw [decide_eq_true rfl];refine wpAny_bind (wpAny_setState_of ho hd (by rfl) ?_);simp only [Bool.and_self,if_true];exact wpAny_pure (wpAny_pure hQ)
end
def gy (xs:List (Addr×List Key)):Nat:=match xs with
 | [x,y]=>if x.2=y.2 then 1 else 2
 | xs=>xs.length
section
variable {P:Program} {w:World} {A:Around} {E:Value->Shared->Prop} {s:Shared}
def yI (P:Program) (w:World) (xs:List (Addr×List Key)) (S:Addr) (b:Bool) (i:Nat) (h:Heap):Prop :=
 (∀ p∈xs,IsTupleKey (aj P w) h p.2 p.1)/\match i with
  | 0=>∃ o,h.get? S=some o/\o.ExactSet/\o.data=.set #[] 0 (smT #[] 0 0 b true)
  | 1=>∃ o x ep p,h.get? S=some o/\o.ExactSet/\xs[0]?=some x/\o.data=.set #[(tupleKeyHash (aj P w) x.2,.ref x.1)] ep (smT #[SetTable.bits (tupleKeyHash (aj P w) x.2) % 8] 0 0 b p)
  | _=>oq h S (gy xs)
theorem BO {xs:List (Addr×List Key)} {S:Addr} {b:Bool} {h:Heap} (hl:xs.length<=2) (z:yI P w xs S b xs.length h):oq h S (gy xs):=by
 cases xs with
 | nil =>
  obtain ⟨_,o,e,x,d⟩:=z;exact ⟨o,_,_,_,e,x,d,rfl,rfl⟩
 | cons x1 xs =>
  cases xs with
  | nil =>
   obtain ⟨_,o,x,ep,p,e,ex,_,d⟩:=z;exact ⟨o,_,_,_,e,ex,d,rfl,rfl⟩
  | cons x2 xs =>
   cases xs with
   | nil=>exact z.2
   | cons _ _=>simp at hl
theorem xD {xs:List (Addr×List Key)} {S:Addr} {b:Bool} {i:Nat} {h h':Heap} (z:yI P w xs S b i h) (k:∀ c o,(c=S\/∃ p∈xs,c=p.1)->h.get? c=some o->h'.get? c=some o):yI P w xs S b i h':=by
 obtain ⟨ks,z⟩:=z;refine ⟨λp hp=>aU (ks p hp) λo e=>k _ o (.inr ⟨p,hp,rfl⟩) e,?_⟩
 match i,z with
 | 0,⟨o,e,x,d⟩=>exact ⟨o,k _ _ (.inl rfl) e,x,d⟩
 | 1,⟨o,x,ep,p,e,r⟩=>exact ⟨o,x,ep,p,k _ _ (.inl rfl) e,r⟩
 | i+2,⟨o,es,ep,t,e,r⟩=>exact ⟨o,es,ep,t,k _ _ (.inl rfl) e,r⟩
theorem zn {xs:List (Addr×List Key)} {S:Addr} {b:Bool} {i:Nat} {v:Value} {Q:Bool->Shared->Prop} (hl:xs.length<=2) (hi:i < xs.length) (hv:∃ x,xs[i]?=some x/\v=.ref x.1) (hS:∀ x∈xs,x.1≠S) (hu:A.units < cLine) (z:yI P w xs S b i s.heap)
  (hQ:∀ r h' tk,s.toks<=tk->Heap.SameBut S s.heap h'->yI P w xs S b (i+1) h'->Q r { s with heap:=h',toks:=tk }):wpAny (model P w) A (setAdd S v) Q E s:=by
 obtain ⟨x,ex,rfl⟩:=hv;obtain ⟨ks,z⟩:=z;have kx:=ks x (aAs ex);have keep:∀ {h':Heap},Heap.SameBut S s.heap h'->∀ p∈xs,IsTupleKey (aj P w) h' p.2 p.1:=λsb p hp=>aU (ks p hp) λo e=>(sb.2 _ (hS p hp)).trans e;unfold setAdd;refine wpAny_holding (wpAny_bind (wpAny_pyHash_tuple hu kx ?_))
 match i,z,hi,ex with
 | 0,⟨o,e,xs',d⟩,hi,ex =>
  exact AW (kd:=aj P w) (s:={ s with toks:=s.toks+(x.2.length+1) }) e d kx λh' p' sb e'=>hQ _ h' _ (aBk _ _) sb ⟨keep sb,_,x,_,p',e',xs',ex,rfl⟩
 | 1,⟨o,y,ep,p,e,xs',ey,d⟩,hi,ex =>
  have ky:=ks y (aAs ey);have em:gy xs=if y.2=x.2 then 1 else 2:=by
   match xs,ex,ey with
   | [_,_],rfl,rfl=>rfl
   | _ :: _ :: _ :: _,_,_=>simp at hl
  by_cases eq:y.2=x.2
  ·rw [if_pos eq] at em;rw [eq] at d ky;refine AX (kd:=aj P w) (s:={ s with toks:=s.toks+(x.2.length+1) }) e d kx ky hu (hQ _ s.heap _ (aBk _ _) (Heap.SameBut.refl _ _) ⟨ks,?_⟩);show oq s.heap S (gy xs);rw [em];exact ⟨o,_,_,_,e,xs',d,rfl,rfl⟩
  ·rw [if_neg eq] at em;refine BM (kd:=aj P w) (s:={ s with toks:=s.toks+(x.2.length+1) }) e xs' d kx ky (λq=>eq q.symm) hu λh' sb e'=>hQ _ h' _ (aBk _ _) sb ⟨keep sb,?_⟩;show oq h' S (gy xs);rw [em];exact e'
 | i+2,_,hi,_=>lia
set_option maxHeartbeats 3200000 in
theorem lY {t:Addr} {its:Array Value} {xs:List (Addr×List Key)} {Q:Value->Shared->Prop} (hh:A.handled=none) (ht:s.heap.IsList t its) (hits:its=(xs.map λx=>Value.ref x.1).toArray) (hl:xs.length<=2) (hk:∀ p∈xs,IsTupleKey (aj P w) s.heap p.2 p.1) (hu:A.units+8 < cLine)
  (h:∀ (h':Heap) (tk:Nat),oq h' s.heap.objs.size (gy xs)->(∀ b o,s.heap.get? b=some o->h'.get? b=some o)->Q (.ref s.heap.objs.size) { s with heap:=h',toks:=tk }) :
  wpAny (model P w) A (call (.type "set") [.ref t]) Q E s:=by
 obtain ⟨c0,tl,hmro⟩:=PySem.F.called_set.mro;have k1:=PySem.F.called_set.made;have k2:=PySem.F.called_set.sub;refine wpAny_call (codeAny_of_tree (by
  show wpAny _ _ (callAny (.type "set") _) _ _ _;refine wpAny_pure ⟨Code.quiet_builtin _ (by decide +kernel),codeAny_builtin PySem.F.entry_type_call ?_⟩;rw [Around.under_plain (weight_type_call_type "set" [.ref t] []) rfl];have k3:=PySem.F.called_set.notType;have k4:=PySem.F.called_set.canCreate;have k5:=PySem.F.typeCall_set_1 (.ref t)
  repeat (any_goals (first | assumption | wp_step))
  refine codeAny_mono (uP (.ref t) (E:=E) (Q₁:=λob s1=>∃ b:Bool,b=(!w.params.followText "set-order")/\ob=.ref s.heap.objs.size/\s1={ s with heap:=s.heap.push (df b) }) ⟨_,rfl,rfl,rfl⟩) λr s1 hr=>?_
  cases r with
  | error e=>exact hr
  | ok fl =>
   cases fl with
   | ret ob =>
    obtain ⟨b,eb,rfl,rfl⟩:=hr;have g1:(s.heap.push (df b)).get? s.heap.objs.size=some (df b):=aAh _ rfl;have tS:Shared.TypeIs { s with heap:=s.heap.push (df b) } (.ref s.heap.objs.size) "set" :=⟨_,g1,rfl⟩;have k6:=PySem.F.called_set.init.lookup;have k7:=PySem.F.called_set.init.bind (.ref s.heap.objs.size)
    repeat (any_goals (first | assumption | wp_step))
    refine codeAny_mono (codeAny_call_builtin (R:=wants (λr s2=>r=.none/\∃ h' tk,s2={ s with heap:=h',toks:=tk }/\oq h' s.heap.objs.size (gy xs)/\(∀ b o,s.heap.get? b=some o->h'.get? b=some o)) E)
     PySem.F.called_set.init.plain PySem.F.entry_set_init (check_set_init_1 tS ?_)) λr2 s2 hr2=>?_
    ·obtain ⟨⟨oc,od,oa,osl⟩,ho,hcl,nl,hdt⟩:=id ht;simp only at hcl hdt;subst hcl hdt;have ht1:(s.heap.push (df b)).IsList t its:=⟨_,aAa _ ho,rfl,nl,rfl⟩;have ho1:(s.heap.push (df b)).get? t=some { cls:=.type "list",dict:=od,data:=.seq its nl,slots:=osl }:=aAa _ ho;have k8:=(cJ "list" "set");have k9:=(cJ "list" "frozenset");have ka:(Value.type "list" == Value.type "dict")=false:=by decide
     unfold Builtin.«set.__init__» noKeywords Builtin.Frozenset.updateFrom
     generalize hPI:pyIter=PI
     wp_walk
     subst hPI;refine wpAny_pyIter_list ht1 ?_;refine wpAny_bind (wpAny_runValue ?_);have lt:s.heap.objs.size > t:=aAe ho;have hh3:A.in1.in1.in1.handled=none:=by simp [hh]
     have sz:(s.heap.push (df b)).objs.size=s.heap.objs.size+1:=aAC ..;have ne1:t≠(s.heap.push (df b)).objs.size:=by rw [sz];exact aAk (aAN lt)
     have nS:s.heap.objs.size∉[(s.heap.push (df b)).objs.size,t]:=by
      rw [sz];intro z;rcases aAf.mp z with z | z
      ·exact absurd z (aAk (aA2 _))
      ·exact absurd (aAD.mp z) (aAH lt)
     have hsz:its.size=xs.length:=by rw [hits];simp
     have lowK:∀ p∈xs,p.1 < s.heap.objs.size:=λp hp=>by
      obtain ⟨o,_,_,e,_⟩:=hk p hp;exact aAe e
     refine sX ((Walks.list hh3 _ t ne1 its).toS) s.heap.objs.size nS (yI P w xs s.heap.objs.size b) ?_ ?_ (its.size - 0) 0 _ rfl (aAB _) ⟨⟨_,aAh _ rfl,rfl,rfl⟩,ht1.push _⟩ ?_ ?_
     ·intro i h1 h2 z k;refine xD z λc o hc e=>k c o ?_ e;rw [sz];intro zz;rcases hc with rfl | ⟨p,hp,rfl⟩
      ·exact absurd (aAD.mp zz) (aAk (aA2 _))
      ·exact absurd (aAD.mp zz) (aAk (aAN (lowK p hp)))
     ·intro i v s1 Q1 E1 hi pv z hq;refine zn hl (by rw [<- hsz];exact hi) ?_ (λx hx=>aAk (lowK x hx)) ?_ z hq
      ·obtain ⟨x,hx⟩:∃ x,xs[i]?=some x:=⟨_,aAj (by rw [<- hsz];exact hi)⟩;refine ⟨x,hx,?_⟩;rw [hits] at pv;simp [hx] at pv;exact pv.symm
      ·first | (show A.units+1 < cLine;lia) | (show A.units+2 < cLine;lia) | (show A.units+3 < cLine;lia) | (show A.units+4 < cLine;lia)  | (show A.units+5 < cLine;lia)
     ·exact ⟨λp hp=>aU (hk p hp) λo e=>aAa _ (aAa _ e),_,aAa _ g1,⟨rfl,rfl,rfl⟩,rfl⟩
     ·intro s3 mv hS3;obtain ⟨h3,g3,d3,t3,o3⟩:=s3
      cases (mv.gens:g3=s.gens)
      cases (mv.drawn:d3=s.drawn)
      cases (mv.os:o3=s.os)
      refine wpAny_pure (wpAny_pure ⟨rfl,h3,t3,rfl,(by rw [hsz] at hS3;exact BO hl hS3),λc o q=>?_⟩);have lc:s.heap.objs.size > c:=aAe q;refine mv.heap c o ?_ (aAa _ (aAa _ q));intro z;rcases aAf.mp z with z | z
      ·exact absurd z (aAk lc)
      ·exact absurd ((aAD.mp z).trans sz) (aAk (aAN lc))
    ·cases r2 with
     | error e=>exact hr2
     | ok fl2 =>
      cases fl2 with
      | ret r =>
       obtain ⟨rfl,h',tk,rfl,q1,q2⟩:=hr2
       repeat (any_goals (first | assumption | wp_step))
       exact h _ _ q1 q2
      | _=>exact hr2.elim
   | _=>exact hr.elim))
end
section
variable {X:Cx}
def kU (p:Addr) (n:Nat):HO:=.ext λh=>oq h p n
def jk (ts:List (List Key)):Nat:=match ts with
 | [x,y]=>if x=y then 1 else 2
 | ts=>ts.length
theorem uZ:∀ xs:List (Addr×List Key),gy xs=jk (xs.map (·.2))
 | []=>rfl
 | [_]=>rfl
 | [_,_]=>rfl
 | _ :: _ :: _ :: r=>by simp [gy,jk]
theorem jl {K:W.Frag} {H:Hp}:∀ {ts:List (List Key)} {vs:List V},IsPs K H (ts.map λt=>.tup (t.map kDt)) vs->∃ xs:List (Addr×List Key),vs=xs.map (λx=>V.ref x.1)/\ts=xs.map (·.2)/\∀ x∈xs,IsP K H (.tup (x.2.map kDt)) (.ref x.1)
 | [],_,h=>by cases h;exact ⟨[],rfl,rfl,λx hx=>nomatch hx⟩
 | t :: ts,_,h=>by
  cases h with
  | @cons _ v _ vs h r =>
   obtain ⟨a,ys,rfl,_⟩:=id h.unref;obtain ⟨xs,rfl,rfl,hx⟩:=jl r;exact ⟨(a,t) :: xs,rfl,rfl,λx m=>by
    rcases aAf.mp m with rfl | m
    ·exact h
    ·exact hx x m⟩
theorem kW {K:W.Frag} (hK:X.K=K) (hc:X.calm=true) (hu:X.A.units+64 < cLine):aP X (.type "set") (λxs H Q=>∃ (a:Addr) (ts:List (List Key)) (vs:List V),xs=[.ref a]/\SqL K H a vs/\IsPs K H (ts.map λt=>.tup (t.map kDt)) vs/\ts.length<=2/\∀ p,H p=none->Q (.ref p) (upd H p (kU p (jk ts)))):=by
 subst hK;intro pins s σ H xs us Q I r h;obtain ⟨a,ts,vs,rfl,ha,hp,hl,q⟩:=h;obtain ⟨u,rfl,rx⟩:=bE r
 cases rx
 obtain ⟨its,rv,ht,hz⟩:=I.list ha;obtain ⟨xs,rfl,rfl,hx⟩:=jl hp;obtain ⟨o,n,ho,hcl,hdn,hdt⟩:=ht;have e1:its=xs.map λx=>Value.ref x.1:=by
  clear ha hp hx hl q hdt hz
  induction xs generalizing its with
  | nil=>cases rv;rfl
  | cons x xs ih =>
   cases rv with
   | cons h r =>
    cases h
    rw [ih _ r];rfl
 refine lY (xs:=xs) (I.ok.hd hc) (show s.heap.IsList a its.toArray from ⟨o,ho,hcl,n,hdt⟩) (by rw [e1]) (by simpa using hl) (λp hp=>bX I (hx p hp)) (by lia) λh' tk hS kk=>?_;refine ⟨.ref s.heap.objs.size,_,I.laid (a:=s.heap.objs.size) (o:=kU s.heap.objs.size (jk (xs.map (·.2)))) kk (aAm _) ?_,rfl,q _ (I.hok.fresh (aAm _))⟩;rw [<- uZ];obtain ⟨o,es,ep,t,ho,r⟩:=id hS;exact ⟨hS,⟨o,ho⟩,λh1 h2 ⟨o,es,ep,t,e,r⟩ k=>⟨o,es,ep,t,k o e,r⟩⟩
theorem kX:aP X (.builtin "len") (λxs H Q=>∃ p n,xs=[.ref p]/\H p=some (kU p n)/\n<=2/\Q (.int n) H):=by
 intro pins s σ H xs us Q I r h;obtain ⟨p,n,rfl,e,h2,q⟩:=h;obtain ⟨u,rfl,rx⟩:=bE r
 cases rx
 obtain ⟨hS,_,_⟩:=I.hok p _ e;obtain ⟨o,es,ep,tb,ho,hex,hd,hf,hn⟩:=hS;exact call_len_set ho hex hd hf (by lia) ⟨.int n,H,I.tok _,⟨_,by rw [hn]⟩,q⟩
end
def IsO (K:W.Frag) (H:Hp) (o:Option Dt) (v:V):Prop:=match o with
 | none=>v=.non
 | some d=>IsP K H d v
inductive IsOs (K:W.Frag) (H:Hp):List (Option Dt)->List V->Prop
 | nil:IsOs K H [] []
 | cons {o:Option Dt} {v:V} {os:List (Option Dt)} {vs:List V}:IsO K H o v->IsOs K H os vs->IsOs K H (o :: os) (v :: vs)
def AY (o:Option Dt):Prop:=∀ d,o=some d->∃ l,d=.tup l/\d.dep<=60
section
variable {X:Cx}
def BP (K:W.Frag):R2:=λx y H Q=>x=.non/\∃ (p:Addr) (os:List (Option Dt)) (vs:List V),y=.ref p/\SqL K H p vs/\IsOs K H os vs/\(∀ o∈os,AY o)/\Q (.bl (os.any Option.isNone)) H
theorem zo {K:W.Frag} (hK:X.K=K) (hu:X.A.units+64 < cLine):OpR X (compareOp .In) (BP K):=by
 subst hK;intro pins s σ H x y v u Q I rx ry h;obtain ⟨rfl,p,os,vs,rfl,hq,hos,ht,q⟩:=h
 cases ry
 obtain ⟨its,r,pl,hz⟩:=I.list hq
 let f:Value->Bool:=λw=>match w with
  | .none=>true
  | _=>false
 have key:∀ {os:List (Option Dt)} {vs:List V} {its:List Value},IsOs X.K H os vs->Vals vs its->(∀ o∈os,AY o)->(∀ w∈its,SeqAt.EqAt X.A.in1 s w v (f w))/\its.any f=os.any Option.isNone:=by
  intro os vs its h
  induction h generalizing its with
  | nil=>intro r _;cases r;exact ⟨(λw hw=>nomatch hw),rfl⟩
  | @cons o v0 os vs h0 hr ih =>
   intro r ht
   cases r with
   | @cons _ u0 _ us r0 r =>
    obtain ⟨i1,i2⟩:=ih r λo ho=>ht o (aAr _ ho);have e0:SeqAt.EqAt X.A.in1 s u0 v (f u0)/\f u0=o.isNone:=by
     cases o with
     | none =>
      obtain rfl:v0=.non:=h0;obtain rfl:u0=Value.none:=r0;exact ⟨(sy I 60 .non .non .non .non .none v X.A.in1 (aAB _) .non .non rfl rx (by rw [cV];lia)).1,rfl⟩
     | some d =>
      obtain ⟨l,rfl,dl⟩:=ht (some d) aAq d rfl;obtain ⟨a,xs,rfl,_⟩:=id (IsP.unref (show IsP X.K H (.tup l) v0 from h0));obtain rfl:u0=Value.ref a:=r0;exact ⟨(sy I 60 (.tup l) .non (.ref a) .non (.ref a) v X.A.in1 dl (IsP.d (show IsP X.K H (.tup l) (.ref a) from h0)) .non rfl rx (by rw [cV];lia)).1,rfl⟩
    refine ⟨λw hw=>?_,by rw [aAX,aAX,i2,e0.2]⟩;rcases aAf.mp hw with rfl | hw
    ·exact e0.1
    ·exact i1 w hw
 obtain ⟨k1,k2⟩:=key hos r ht;refine SeqAt.in_listAt f pl.isList (λw hw=>k1 w (by simpa using hw)) ⟨.bl _,H,I,rfl,?_⟩;rw [show its.toArray.any f=its.any f by simp,k2];exact q
end
section
variable {X:Cx}
end
theorem DicG.same {P:Program} {w:World} {K:W.Frag} {H H':Hp} {p:Addr} {kvs:List (List Key×Dt)} (g:Same H H') (h:DicG P w K H p kvs):DicG P w K H' p kvs :=
 h.imp (DicT.same g) λ⟨a,b⟩=>⟨a,g _ _ b⟩
def zp (P:Program) (w:World) (K:W.Frag) (td ty tx:TE):TE:=λσ H Q=>td σ H λx H1=>∃ a kvs,x=.ref a/\DicG P w K H1 a kvs/\ty σ H1 λy H2=>tx σ H2 λz H3=>∃ b k,y=.ref b/\DicG P w K H3 a kvs/\IsP K H3 (.tup (k.map kDt)) (.ref b) /\
 ∀ v,(match bY kvs k with | some d=>IsP K H3 d v | none=>v=z)->Q v H3
def AZ (P:Program) (w:World) (K:W.Frag) (td ty:TE):TE:=λσ H Q=>td σ H λx H1=>ty σ H1 λy H2=>∃ a b kvs k d,x=.ref a/\y=.ref b/\DicG P w K H2 a kvs/\IsP K H2 (.tup (k.map kDt)) (.ref b)/\bY kvs k=some d/\∀ v,IsP K H2 d v->Q v H2
section
variable {X:Cx} {o e f:Expr} {apos cpos pos:Pos} {td ty tx:TE} {P:Program} {w:World} {K:W.Frag}
theorem u4 (hP:X.prog=P) (hw:X.w=w) (hK:X.K=K) (hu:X.A.units+1 < cLine) (ho:PE X o td) (he:PE X e ty) (hf:PE X f tx) (m:M2 X o "get" apos e f cpos):PE X (.Call (.Attribute o "get" apos) [e,f] [] cpos) (zp P w K td ty tx):=by
 subst hP hw hK;intro pins s σ H Q I h;refine wpAny_Call_method m.base m.few m.line PySem.F.plainAttrs_dict PySem.F.slot_dict_get PySem.F.type_dict_get (thn (ho pins s σ H _ I h) λu s1 ⟨x,H1,I1,rx,a,kvs,ex,d,q1⟩=>?_);subst ex;obtain rfl:u=Value.ref a:=rx;obtain ⟨hd1,_,xs1,dd1,_⟩:=d.dict I1;refine ⟨dd1.typeIs,λb q=>?_,?_⟩
 ·cases q
  obtain ⟨ob,_,_,h1,h2,_⟩:=dd1;exact ⟨ob,h1,h2.2.1⟩
 rw [m.trees];refine Calls.callWith_builtin rfl (Calls.evalArgs_plain (Calls.spliced_cons (thn (he pins s1 σ H1 _ I1 q1) λiv s2 ⟨y,H2,I2,ry,q2⟩ =>
  Calls.spliced_cons (thn (hf pins s2 σ H2 _ I2 q2) λfv s3 ⟨z,H3,I3,rz,b,k,ey,g,hk,q3⟩=>Calls.spliced_nil ?_))))
 subst ey;obtain rfl:iv=Value.ref b:=ry;obtain ⟨hd,_,xs,dd,rel⟩:=g.dict I3;refine call_meetsIn PySem.F.slot_dict_get dd.typeIs PySem.F.entry_dict_get (PySem.F.args_dict_get_3 _ _ _) (meetsH_dict_get_default (tupleKind (aj X.prog X.w)) a b hd fv) ⟨tupleKind_room_in1 hu,k,xs,bX I3 hk,dd,?_⟩;rcases cW (k:=k) rel with ⟨e1,e2⟩ | ⟨z',p,v,e1,e2,rv,iv⟩
 ·rw [e2];exact ⟨z,H3,I3.tok _,rz,q3 z (by rw [e1])⟩
 ·rw [e2];exact ⟨v,H3,I3.tok _,rv,q3 v (by rw [e1];exact iv)⟩
theorem qY (hP:X.prog=P) (hw:X.w=w) (hK:X.K=K) (hu:X.A.units+1 < cLine) (ho:PE X o td) (hi:PE X e ty) (hs:y3 e):PE X (.Subscript o e pos) (AZ P w K td ty):=by
 subst hP hw hK;intro pins s σ H Q I h;refine qP PySem.F.slot_dict_getitem.lookup hs (thn (ho pins s σ H _ I h) λu s1 ⟨x,H1,I1,rx,q1⟩=>thn (hi pins s1 σ H1 _ I1 q1) λiv s2 ⟨y,H2,I2,ry,a,b,kvs,k,d,ex,ey,g,hk,hv,q2⟩=>?_);subst ex ey;obtain rfl:u=Value.ref a:=rx;obtain rfl:iv=Value.ref b:=ry;obtain ⟨hd,_,xs,dd,rel⟩:=g.dict I2;rcases cW (k:=k) rel with ⟨e1,_⟩ | ⟨z',p,v,e1,e2,rv,iv⟩
 ·rw [hv] at e1;cases e1
 ·rw [hv] at e1;obtain rfl:=Option.some.inj e1;exact ⟨dd.typeIs,wpAny_getItem_heap (knd:=tupleKind (aj X.prog X.w)) (tupleKind_room_in1 hu) (bX I2 hk) dd e2 ⟨v,H2,I2.tok _,rv,q2 v iv⟩⟩
end
end L2
namespace K41
open PySem L2 PyProof.Rows
abbrev ii:Stmt:=top 17
abbrev fR:Stmt:=top 18
abbrev bz:Stmt:=top 19
abbrev eB:Stmt:=top 20
abbrev br:Stmt:=top 21
abbrev eC:Stmt:=top 22
abbrev dA:Stmt:=top 23
abbrev eD:Stmt:=top 24
abbrev aX:Stmt:=top 25
abbrev cp:Stmt:=top 26
abbrev cq:Stmt:=top 27
abbrev dB:Stmt:=top 28
abbrev eE:Stmt:=top 29
abbrev cr:Stmt:=top 30
abbrev cE:Stmt:=top 31
abbrev tK:Stmt:=top 34
abbrev mO:Stmt:=top 35
abbrev mP:Stmt:=top 36
abbrev kg:Stmt:=top 37
abbrev kh:Stmt:=top 38
abbrev jE:Stmt:=top 39
abbrev mQ:Stmt:=top 40
abbrev o5:Stmt:=top 41
abbrev ki:Stmt:=top 42
abbrev fS:Stmt:=top 43
abbrev cF:Stmt:=top 44
abbrev cL:Stmt:=top 45
abbrev aY:Stmt:=top 46
abbrev mR:Stmt:=top 53
abbrev o6:Stmt:=top 54
abbrev tL:Stmt:=top 55
abbrev o7:Stmt:=top 56
abbrev kj:Stmt:=top 57
abbrev mS:Stmt:=top 58
abbrev ik:Stmt:=top 59
abbrev jF:Stmt:=top 60
abbrev iV:Stmt:=top 61
abbrev jG:Stmt:=top 62
abbrev qA:Stmt:=top 63
abbrev mT:Stmt:=top 64
abbrev o8:Stmt:=top 65
abbrev vY:Stmt:=top 66
abbrev o9:Stmt:=top 67
abbrev km:Stmt:=top 68
abbrev cM:Stmt:=top 71
abbrev dC:Stmt:=top 72
abbrev bT:Stmt:=top 73
abbrev bJ:Stmt:=top 74
abbrev im:Stmt:=top 75
abbrev dD:Stmt:=top 76
abbrev eF:Stmt:=top 77
abbrev cN:Stmt:=top 78
abbrev io:Stmt:=top 79
abbrev jH:Stmt:=top 80
abbrev mU:Stmt:=top 81
abbrev dE:Stmt:=top 82
abbrev dF:Stmt:=top 83
abbrev ip:Stmt:=top 84
abbrev cO:Stmt:=top 85
abbrev b7:Stmt:=top 86
abbrev b8:Stmt:=top 87
abbrev dG:Stmt:=top 88
abbrev cP:Stmt:=top 89
abbrev vZ:Stmt:=top 90
abbrev wc:Stmt:=top 91
abbrev fT:Stmt:=top 92
abbrev bU:Stmt:=top 93
abbrev cu:Stmt:=top 94
abbrev eG:Stmt:=top 95
abbrev iq:Stmt:=top 98
abbrev dH:Stmt:=top 99
abbrev ir:Stmt:=top 100
abbrev eI:Stmt:=top 101
abbrev cv:Stmt:=top 102
abbrev cw:Stmt:=top 104
abbrev cx:Stmt:=top 105
abbrev eJ:Stmt:=top 106
abbrev eK:Stmt:=top 107
abbrev fq:Stmt:=top 109
abbrev dI:Stmt:=top 110
abbrev jI:Stmt:=top 111
abbrev mV:Stmt:=top 112
abbrev eM:Stmt:=top 113
abbrev bN:Stmt:=top 114
abbrev wf:Stmt:=top 116
abbrev fU:Stmt:=top 117
abbrev dJ:Stmt:=top 121
abbrev qB:Stmt:=top 122
abbrev ca:Stmt:=top 123
abbrev cQ:Stmt:=top 124
abbrev bA:Stmt:=top 125
abbrev eO:Stmt:=top 127
abbrev dM:Stmt:=top 128
abbrev eP:Stmt:=top 129
abbrev cG:Stmt:=top 130
abbrev fV:Stmt:=top 131
abbrev rH:Stmt:=top 132
theorem qC:FnScope ["text"] ["text"] (ac ii):=by constructor <;> first | rfl | decide +kernel
theorem pf:FnScope ["thing"] ["thing"] (ac fR):=by constructor <;> first | rfl | decide +kernel
theorem fW:FnScope ["thing","low","high"] ["thing","low","high"] (ac bz):=by constructor <;> first | rfl | decide +kernel
theorem mW:FnScope ["kind"] ["kind"] (ac eB):=by constructor <;> first | rfl | decide +kernel
theorem sc_is_formed:FnScope ["thing","room","word"] ["thing","room"] (ac br):=by constructor <;> first | rfl | decide +kernel
theorem mX:FnScope ["thing"] ["thing"] (ac eC):=by constructor <;> first | rfl | decide +kernel
theorem kn:FnScope ["low","high"] ["low","high"] (ac dA):=by constructor <;> first | rfl | decide +kernel
theorem mY:FnScope ["words"] ["words"] (ac eD):=by constructor <;> first | rfl | decide +kernel
theorem fG:FnScope ["fields","room","names"] ["fields","room"] (ac aX):=by constructor <;> first | rfl | decide +kernel
theorem pj:FnScope ["field","room"] ["field","room"] (ac cp):=by constructor <;> first | rfl | decide +kernel
theorem sc_are_rows:FnScope ["key","items","room","key_kind"] ["key","items","room"] (ac cq):=by constructor <;> first | rfl | decide +kernel
theorem cR:FnScope ["kind","name","own","inner"] ["kind","name"] (ac dB):=by constructor <;> first | rfl | decide +kernel
theorem mZ:FnScope ["kind"] ["kind"] (ac eE):=by constructor <;> first | rfl | decide +kernel
theorem dO:FnScope ["kind","inner"] ["kind"] (ac cr):=by constructor <;> first | rfl | decide +kernel
theorem m7:FnScope ["kind"] ["kind"] (ac cE):=by constructor <;> first | rfl | decide +kernel
theorem pq:FnScope ["value","kind","word"] ["value","kind"] (ac mO):=by constructor <;> first | rfl | decide +kernel
theorem eQ:FnScope ["record","name","own","value"] ["record","name"] (ac fS):=by constructor <;> first | rfl | decide +kernel
theorem m8:FnScope ["fields"] ["fields"] (ac cF):=by constructor <;> first | rfl | decide +kernel
theorem bB:FnScope ["record","names","values","fields","name","value"] ["record","names","values"] (ac cL):=by constructor <;> first | rfl | decide +kernel
theorem gM:FnScope ["record","names"] ["record","names"] (ac aY):=by constructor <;> first | rfl | decide +kernel
theorem eR:FnScope ["piece","word"] ["piece"] (ac cM):=by constructor <;> first | rfl | decide +kernel
theorem fH:FnScope ["piece","word"] ["piece"] (ac dC):=by constructor <;> first | rfl | decide +kernel
theorem sc_record_behind:FnScope ["piece","kind","kinds"] ["piece","kind"] (ac bT):=by constructor <;> first | rfl | decide +kernel
theorem sc_has_piece_form:FnScope ["piece","form"] ["piece"] (ac bJ):=by constructor <;> first | rfl | decide +kernel
theorem qD:FnScope ["part","sort"] ["part","sort"] (ac im):=by constructor <;> first | rfl | decide +kernel
theorem eS:FnScope ["piece","kind","paths","kinds"] ["piece","kind"] (ac dD):=by constructor <;> first | rfl | decide +kernel
theorem cc:FnScope ["kind","path","here","name"] ["kind","path"] (ac eF):=by constructor <;> first | rfl | decide +kernel
theorem eU:FnScope ["piece","kinds","word"] ["piece","kinds"] (ac cN):=by constructor <;> first | rfl | decide +kernel
theorem qE:FnScope ["thing"] ["thing"] (ac io):=by constructor <;> first | rfl | decide +kernel
theorem fI:FnScope ["piece","kinds","word"] ["piece","kinds"] (ac dE):=by constructor <;> first | rfl | decide +kernel
theorem eV:FnScope ["piece","kind","paths","rest"] ["piece","kind"] (ac dF):=by constructor <;> first | rfl | decide +kernel
theorem jJ:FnScope ["kind","path","outer"] ["kind","path"] (ac ip):=by constructor <;> first | rfl | decide +kernel
theorem eX:FnScope ["piece","kind","word","elder"] ["piece","kind"] (ac cO):=by constructor <;> first | rfl | decide +kernel
theorem ko:FnScope ["piece","record"] ["piece","record"] (ac b7):=by constructor <;> first | rfl | decide +kernel
theorem kq:FnScope ["piece","record"] ["piece","record"] (ac b8):=by constructor <;> first | rfl | decide +kernel
theorem bO:FnScope ["record","path","here","name"] ["record","path"] (ac dG):=by constructor <;> first | rfl | decide +kernel
theorem eY:FnScope ["piece","kind","values","word"] ["piece","kind","values"] (ac cP):=by constructor <;> first | rfl | decide +kernel
theorem bR:FnScope ["piece","kind","record","values","told","path","value"] ["piece","kind","record","values"] (ac fT):=by constructor <;> first | rfl | decide +kernel
theorem aZ:FnScope ["piece","record","rest","path"] ["piece","record"] (ac bU):=by constructor <;> first | rfl | decide +kernel
theorem iW:FnScope ["record","path","box"] ["record","path"] (ac cu):=by constructor <;> first | rfl | decide +kernel
theorem m9:FnScope ["record","path","value","box"] ["record","path","value"] (ac eG):=by constructor <;> first | rfl | decide +kernel
theorem qF:FnScope ["path"] ["path"] (ac iq):=by constructor <;> first | rfl | decide +kernel
theorem kr:FnScope ["kind","step"] ["kind","step"] (ac dH):=by constructor <;> first | rfl | decide +kernel
theorem sc_kind_at:FnScope ["kind","path","here","step"] ["kind","path"] (ac ir):=by constructor <;> first | rfl | decide +kernel
theorem ng:FnScope ["kind","path","other"] ["kind","path","other"] (ac eI):=by constructor <;> first | rfl | decide +kernel
theorem iF:FnScope ["kind","path","other","inner"] ["kind","path","other"] (ac cv):=by constructor <;> first | rfl | decide +kernel
theorem bV:FnScope ["change","shape","elder","behind"] ["change","shape"] (ac cw):=by constructor <;> first | rfl | decide +kernel
theorem iX:FnScope ["change","shape"] ["change","shape"] (ac cx):=by constructor <;> first | rfl | decide +kernel
theorem gN:FnScope ["change","shape","kind"] ["change","shape"] (ac eJ):=by constructor <;> first | rfl | decide +kernel
theorem gO:FnScope ["change","shape","outer"] ["change","shape"] (ac eK):=by constructor <;> first | rfl | decide +kernel
theorem qG:FnScope ["kind","value"] ["kind","value"] (ac fq):=by constructor <;> first | rfl | decide +kernel
theorem kt:FnScope ["kind","entry"] ["kind","entry"] (ac dI):=by constructor <;> first | rfl | decide +kernel
theorem tM:FnScope ["kind","value","path"] ["kind","value","path"] (ac jI):=by constructor <;> first | rfl | decide +kernel
theorem wg:FnScope ["kind","record","path"] ["kind","record","path"] (ac mV):=by constructor <;> first | rfl | decide +kernel
theorem c6:FnScope ["kind","value","path","found","entry","inner","behind"] ["kind","value","path"] (ac eM):=by constructor <;> first | rfl | decide +kernel
theorem aJ:FnScope ["kind","value","some","within","where","other","told","entry","inner"] ["kind","value","some"] (ac bN):=by constructor <;> first | rfl | decide +kernel
theorem zV:FnScope ["change","shape","record"] ["change","shape","record"] (ac wf):=by constructor <;> first | rfl | decide +kernel
theorem aW:FnScope ["change","shape","record","some","piece","kind","done","where","inner","made"] ["change","shape","record","some"] (ac fU):=by constructor <;> first | rfl | decide +kernel
theorem ku:FnScope ["piece","kind","old","new"] ["piece","kind","old","new"] (ac dJ):=by constructor <;> first | rfl | decide +kernel
theorem yf:FnScope ["change","shape","record","memory"] ["change","shape","record","memory"] (ac qB):=by constructor <;> first | rfl | decide +kernel
theorem fJ:FnScope ["change","shape","record","memory","kept"] ["change","shape","record","memory"] (ac ca):=by constructor <;> first | rfl | decide +kernel
theorem aK:FnScope ["change","shape","record","memory","piece","kind","theirs","kept","where","inner"] ["change","shape","record","memory"] (ac cQ):=by constructor <;> first | rfl | decide +kernel
theorem dP:FnScope ["change","shape","record","found"] ["change","shape","record"] (ac bA):=by constructor <;> first | rfl | decide +kernel
theorem gP:FnScope ["cell","k","stir"] ["cell","k"] (ac eO):=by constructor <;> first | rfl | decide +kernel
theorem aN:FnScope ["script","k","cell","j","found"] ["script","k"] (ac dM):=by constructor <;> first | rfl | decide +kernel
theorem gQ:FnScope ["row","many","digit"] ["row","many"] (ac eP):=by constructor <;> first | rfl | decide +kernel
theorem bC:FnScope ["row","named","items","k","key","pairs"] ["row","named"] (ac cG):=by constructor <;> first | rfl | decide +kernel
theorem iG:FnScope ["items","memory","word","at","least","item"] ["items","memory","word","at","least"] (ac fV):=by constructor <;> first | rfl | decide +kernel
theorem aO:FnScope ["script","item","k","row","word","inner","shape","least","change","held","memory","items","record","due","words","at","there","found","about","behind"] ["script"] (ac rH):=by constructor <;> first | rfl | decide +kernel
theorem pi1 {K:W.Frag} {X:Cx} {a:Expr} {ta:TE} {i j pos pos'} (hK:X.K=K) (ha:PE X a ta):PE X (.Subscript a (.Constant (.int i) j pos) pos') (tOp (AD K) ta (tC (.int i))):=cU (jb hK) ha pe_int λ_ _=>rfl
theorem isS {K : W.Frag} {H : Hp} {z : Str} {Q : V -> Prop} (h : Q (.str z)) : ∀ v, IsP K H (.str z) v -> Q v := λv hv => by cases hv; exact h
theorem sz2 : 2 <= sizeLine := by decide
theorem sz3 : 3 <= sizeLine := by decide
theorem pcl {X:Cx} {x:Str} {st:Stmt} {ps:List Str} {f:Addr} {fd:FuncData} {k:Nat} {sp:Sp} {e:Expr} {es:List Expr} {t:TA} {p pos:Pos} (D:Gn X.K X.mg x st ps f fd) (F:FnOk X.prog X.w X.K X.mg X.base CX0 k f fd ps sp) (hr:Room k X.A) (hg:Gl X x) (ha:PA X (e :: es) t) (hdb:(x == ("__debug__" : Str))=false:=by decide) (he:starEach (e :: es) X.env=(false,eval e X.env) :: starEach es X.env:=by rfl) (hpl:(backTo pos (starEach es X.env)).any (·.1)=false:=by rfl):PE X (.Call (.Name x p) (e :: es) [] pos) (yj sp [] E0 t):=pe_call F hr hg D.m D.F.kp D.b .nil Ar ha hdb he hpl
theorem pa1 {X:Cx} {e:Expr} {te:TE} (ha:PE X e te) (hs:starEach [e] X.env=(false,eval e X.env) :: starEach [] X.env):PA X [e] (fw te rX):=pa_cons ha a9 hs
theorem pa2 {X:Cx} {e f:Expr} {te tf:TE} (ha:PE X e te) (hb:PE X f tf) (hs:starEach [e,f] X.env=(false,eval e X.env) :: starEach [f] X.env) (ht:starEach [f] X.env=(false,eval f X.env) :: starEach [] X.env):PA X [e,f] (fw te (fw tf rX)):=pa_cons ha (pa_cons hb a9 ht) hs
theorem pa3 {X:Cx} {e f g:Expr} {te tf tg:TE} (ha:PE X e te) (hb:PE X f tf) (hc:PE X g tg) (hs:starEach [e,f,g] X.env=(false,eval e X.env) :: starEach [f,g] X.env) (ht:starEach [f,g] X.env=(false,eval f X.env) :: starEach [g] X.env) (hu:starEach [g] X.env=(false,eval g X.env) :: starEach [] X.env):PA X [e,f,g] (fw te (fw tf (fw tg rX))):=pa_cons ha (pa_cons hb (pa_cons hc a9 hu) ht) hs
theorem sz1:1<=sizeLine:=by decide
structure Ads where
 HandError:Addr
 BadKind:Addr
 BadPath:Addr
 BadTurn:Addr
 BadPiece:Addr
structure Tx (K:W.Frag) (mg:Str->Option Value) (ad:Ads):Prop where
 is_name:∃ f fd,Gn K mg "is_name" ii ["text"] f fd
 is_whole:∃ f fd,Gn K mg "is_whole" fR ["thing"] f fd
 is_whole_within:∃ f fd,Gn K mg "is_whole_within" bz ["thing","low","high"] f fd
 made_kind:∃ f fd,Gn K mg "made_kind" eB ["kind"] f fd
 is_formed:∃ f fd,Gn K mg "is_formed" br ["thing","room"] f fd
 has_parts:∃ f fd,Gn K mg "has_parts" eC ["thing"] f fd
 are_bounds:∃ f fd,Gn K mg "are_bounds" dA ["low","high"] f fd
 are_words:∃ f fd,Gn K mg "are_words" eD ["words"] f fd
 are_fields:∃ f fd,Gn K mg "are_fields" aX ["fields","room"] f fd
 is_field:∃ f fd,Gn K mg "is_field" cp ["field","room"] f fd
 are_rows:∃ f fd,Gn K mg "are_rows" cq ["key","items","room"] f fd
 field_kind:∃ f fd,Gn K mg "field_kind" dB ["kind","name"] f fd
 item_kind:∃ f fd,Gn K mg "item_kind" eE ["kind"] f fd
 kinds_within:∃ f fd,Gn K mg "kinds_within" cr ["kind"] f fd
 kind_many:∃ f fd,Gn K mg "kind_many" cE ["kind"] f fd
 is_sign:∃ f fd,Gn K mg "is_sign" tK ["letter"] f fd
 is_of:∃ f fd,Gn K mg "is_of" mO ["value","kind"] f fd
 is_text_of:∃ f fd,Gn K mg "is_text_of" mP ["value","most"] f fd
 holds_tuple:∃ f fd,Gn K mg "holds_tuple" kg ["value","word"] f fd
 holds_items:∃ f fd,Gn K mg "holds_items" kh ["value","word","kind","most"] f fd
 is_record_of:∃ f fd,Gn K mg "is_record_of" jE ["value","fields"] f fd
 is_pair_of:∃ f fd,Gn K mg "is_pair_of" mQ ["pair","field"] f fd
 are_keyed:∃ f fd,Gn K mg "are_keyed" o5 ["items","key"] f fd
 least_value:∃ f fd,Gn K mg "least_value" ki ["kind"] f fd
 field_of:∃ f fd,Gn K mg "field_of" fS ["record","name"] f fd
 record_of:∃ f fd,Gn K mg "record_of" cF ["fields"] f fd
 with_fields:∃ f fd,Gn K mg "with_fields" cL ["record","names","values"] f fd
 without_fields:∃ f fd,Gn K mg "without_fields" aY ["record","names"] f fd
 figures_of:∃ f fd,Gn K mg "figures_of" mR ["number"] f fd
 number_of:∃ f fd,Gn K mg "number_of" o6 ["text"] f fd
 nearest:∃ f fd,Gn K mg "nearest" tL ["number","low","high"] f fd
 is_factor:∃ f fd,Gn K mg "is_factor" o7 ["thing"] f fd
 kind_behind:∃ f fd,Gn K mg "kind_behind" kj ["turn","kind"] f fd
 is_turn_of:∃ f fd,Gn K mg "is_turn_of" mS ["turn","kind"] f fd
 has_turn_parts:∃ f fd,Gn K mg "has_turn_parts" ik ["thing"] f fd
 most_figures:∃ f fd,Gn K mg "most_figures" jF ["low","high"] f fd
 are_led_words:∃ f fd,Gn K mg "are_led_words" iV ["forth","back","elder"] f fd
 words_behind:∃ f fd,Gn K mg "words_behind" jG ["back"] f fd
 led_kind:∃ f fd,Gn K mg "led_kind" qA ["turn","kind"] f fd
 turn_about:∃ f fd,Gn K mg "turn_about" mT ["turn","kind"] f fd
 led_about:∃ f fd,Gn K mg "led_about" o8 ["turn","kind"] f fd
 turned:∃ f fd,Gn K mg "turned" vY ["turn","kind","value"] f fd
 led_value:∃ f fd,Gn K mg "led_value" o9 ["turn","kind","value"] f fd
 read_number:∃ f fd,Gn K mg "read_number" km ["text","kind"] f fd
 taken_paths:∃ f fd,Gn K mg "taken_paths" cM ["piece"] f fd
 made_paths:∃ f fd,Gn K mg "made_paths" dC ["piece"] f fd
 record_behind:∃ f fd,Gn K mg "record_behind" bT ["piece","kind"] f fd
 has_piece_form:∃ f fd,Gn K mg "has_piece_form" bJ ["piece"] f fd
 is_part:∃ f fd,Gn K mg "is_part" im ["part","sort"] f fd
 can_take:∃ f fd,Gn K mg "can_take" dD ["piece","kind"] f fd
 kind_down:∃ f fd,Gn K mg "kind_down" eF ["kind","path"] f fd
 takes_kinds:∃ f fd,Gn K mg "takes_kinds" cN ["piece","kinds"] f fd
 is_kind:∃ f fd,Gn K mg "is_kind" io ["thing"] f fd
 is_separator:∃ f fd,Gn K mg "is_separator" jH ["text"] f fd
 part_kinds:∃ f fd,Gn K mg "part_kinds" mU ["low","high","factor"] f fd
 made_kinds:∃ f fd,Gn K mg "made_kinds" dE ["piece","kinds"] f fd
 can_make:∃ f fd,Gn K mg "can_make" dF ["piece","kind"] f fd
 is_free:∃ f fd,Gn K mg "is_free" ip ["kind","path"] f fd
 piece_about:∃ f fd,Gn K mg "piece_about" cO ["piece","kind"] f fd
 old_values:∃ f fd,Gn K mg "old_values" b7 ["piece","record"] f fd
 new_values:∃ f fd,Gn K mg "new_values" b8 ["piece","record"] f fd
 value_down:∃ f fd,Gn K mg "value_down" dG ["record","path"] f fd
 made_values:∃ f fd,Gn K mg "made_values" cP ["piece","kind","values"] f fd
 halves:∃ f fd,Gn K mg "halves" vZ ["text","separator"] f fd
 joined:∃ f fd,Gn K mg "joined" wc ["one","two","separator","most"] f fd
 with_new:∃ f fd,Gn K mg "with_new" fT ["piece","kind","record","values"] f fd
 without_taken:∃ f fd,Gn K mg "without_taken" bU ["piece","record"] f fd
 without_down:∃ f fd,Gn K mg "without_down" cu ["record","path"] f fd
 with_down:∃ f fd,Gn K mg "with_down" eG ["record","path","value"] f fd
 is_path:∃ f fd,Gn K mg "is_path" iq ["path"] f fd
 kind_along:∃ f fd,Gn K mg "kind_along" dH ["kind","step"] f fd
 kind_at:∃ f fd,Gn K mg "kind_at" ir ["kind","path"] f fd
 kind_with:∃ f fd,Gn K mg "kind_with" eI ["kind","path","other"] f fd
 kind_put:∃ f fd,Gn K mg "kind_put" cv ["kind","path","other"] f fd
 shape_behind:∃ f fd,Gn K mg "shape_behind" cw ["change","shape"] f fd
 change_about:∃ f fd,Gn K mg "change_about" cx ["change","shape"] f fd
 spot_kind:∃ f fd,Gn K mg "spot_kind" eJ ["change","shape"] f fd
 moves_key:∃ f fd,Gn K mg "moves_key" eK ["change","shape"] f fd
 entries:∃ f fd,Gn K mg "entries" fq ["kind","value"] f fd
 inner_kind:∃ f fd,Gn K mg "inner_kind" dI ["kind","entry"] f fd
 wheres:∃ f fd,Gn K mg "wheres" jI ["kind","value","path"] f fd
 spots:∃ f fd,Gn K mg "spots" mV ["kind","record","path"] f fd
 places:∃ f fd,Gn K mg "places" eM ["kind","value","path"] f fd
 with_values:∃ f fd,Gn K mg "with_values" bN ["kind","value","some"] f fd
 led:∃ f fd,Gn K mg "led" wf ["change","shape","record"] f fd
 led_with:∃ f fd,Gn K mg "led_with" fU ["change","shape","record","some"] f fd
 values_fit:∃ f fd,Gn K mg "values_fit" dJ ["piece","kind","old","new"] f fd
 step:∃ f fd,Gn K mg "step" qB ["change","shape","record","memory"] f fd
 step_paper:∃ f fd,Gn K mg "step_paper" ca ["change","shape","record","memory"] f fd
 kept_values:∃ f fd,Gn K mg "kept_values" cQ ["change","shape","record","memory"] f fd
 new_by_where:∃ f fd,Gn K mg "new_by_where" bA ["change","shape","record"] f fd
 law_mixed:∃ f fd,Gn K mg "_law_mixed" eO ["cell","k"] f fd
 law_stream:∃ f fd,Gn K mg "_law_stream" dM ["script","k"] f fd
 law_digit:∃ f fd,Gn K mg "_law_digit" eP ["row","many"] f fd
 law_items:∃ f fd,Gn K mg "_law_items" cG ["row","named"] f fd
 law_kept:∃ f fd,Gn K mg "_law_kept" fV ["items","memory","word","at","least"] f fd
 law:∃ f fd,Gn K mg "law" rH ["script"] f fd
 x_HandError:ExC K mg "HandError" ad.HandError
 x_BadKind:ExC K mg "BadKind" ad.BadKind
 x_BadPath:ExC K mg "BadPath" ad.BadPath
 x_BadTurn:ExC K mg "BadTurn" ad.BadTurn
 x_BadPiece:ExC K mg "BadPiece" ad.BadPiece
 LETTERS:∃ t,mg "LETTERS" = some (.str "abcdefghijklmnopqrstuvwxyz" t)
 LONGEST_NAME:∃ t,mg "LONGEST_NAME" = some (.int 8 t)
 EACH:∃ t,mg "EACH" = some (.str "each" t)
 MOST_SIGNS:∃ t,mg "MOST_SIGNS" = some (.int 60 t)
 MOST_WORDS:∃ t,mg "MOST_WORDS" = some (.int 8 t)
 MOST_FIELDS:∃ t,mg "MOST_FIELDS" = some (.int 8 t)
 MOST_ITEMS:∃ t,mg "MOST_ITEMS" = some (.int 8 t)
 MOST_KINDS:∃ t,mg "MOST_KINDS" = some (.int 40 t)
 DEEPEST:∃ t,mg "DEEPEST" = some (.int 5 t)
 PART_COUNTS:∃ a,mg "PART_COUNTS" = some (.ref a)/\nO K a [("number",3),("text",2),("choice",2),("list",3),("record",2),("rows",4)]
 PERCENT:∃ t,mg "PERCENT" = some (.int 37 t)
 FIGURES:∃ t,mg "FIGURES" = some (.str "0123456789" t)
 LEAST_FACTOR:∃ t,mg "LEAST_FACTOR" = some (.int 2 t)
 GREATEST_FACTOR:∃ t,mg "GREATEST_FACTOR" = some (.int 1000 t)
 TURN_COUNTS:∃ a,mg "TURN_COUNTS" = some (.ref a)/\nO K a [("bounds",3),("scale",2),("shrink",2),("figures",2),("number",3),("words",3),("cut",2),("first",2),("one",2),("out",1),("items",2)]
 TURN_SORTS:mg "TURN_SORTS" = some (.ref 250)/\lU K 250 [("bounds",251),("scale",252),("shrink",253),("figures",254),("number",255),("words",256),("cut",257),("first",258),("out",259),("items",260)]/\uO K [(251,["number"]),(252,["number"]),(253,["number"]),(254,["number"]),(255,["text"]),(256,["choice"]),(257,["text"]),(258,["list","rows"]),(259,["list"]),(260,["list"])]
 PIECE_FORMS:mg "PIECE_FORMS" = some (.ref 363)/\lU K 363 [("put",364),("drop",365),("name",366),("sink",367),("lift",368),("turn",369),("split",370),("join",371),("part",372),("whole",373)]/\uO K [(364,["text","tuple","any"]),(365,["text","any"]),(366,["text","text"]),(367,["text","text"]),(368,["text","text"]),(369,["text","tuple"]),(370,["text","text","text","text"]),(371,["text","text","text","text"]),(372,["text","number","text","text"]),(373,["text","text","number","text","number","number"])]
 LONGEST_PATH:∃ t,mg "LONGEST_PATH" = some (.int 8 t)
 KEPT:∃ t,mg "KEPT" = some (.str "kept" t)
 MADE:∃ t,mg "MADE" = some (.str "made" t)
 z_all:mg "all" = none
 z_bool:mg "bool" = none
 z_dict:mg "dict" = none
 z_divmod:mg "divmod" = none
 z_enumerate:mg "enumerate" = none
 z_int:mg "int" = none
 z_isinstance:mg "isinstance" = none
 z_len:mg "len" = none
 z_list:mg "list" = none
 z_max:mg "max" = none
 z_min:mg "min" = none
 z_ord:mg "ord" = none
 z_range:mg "range" = none
 z_set:mg "set" = none
 z_sorted:mg "sorted" = none
 z_str:mg "str" = none
 z_sum:mg "sum" = none
 z_tuple:mg "tuple" = none
 z_zip:mg "zip" = none
abbrev depth:Nat:=60
abbrev letters:Str:= "abcdefghijklmnopqrstuvwxyz"
def inB (c:Nat):Bool:=!(Builtin.Str.occurrences letters ⟨#[c]⟩ 0 letters.length 1).isEmpty
def bu (z:Str):Bool:=decide (1<=z.length) && decide (z.length<=8) && !decide (z= "each") && z.cps.toList.all inB
def ltS (a b:Str):Prop:=a.cps.toList < b.cps.toList
instance (a b:Str):Decidable (ltS a b):=inferInstanceAs (Decidable (a.cps.toList < b.cps.toList))
def qb (ws:List Str):Bool:=decide (1<=ws.length) && decide (ws.length<=8) && ws.all bu && decide ws.Nodup
abbrev G4:=Str×Dt×Nat×Nat
abbrev nk (g:G4):Str×Dt:=(g.1,g.2.1)
abbrev prG (g:G4):Dt:=.tup [.str g.1,g.2.1]
def sumN:List Nat->Nat
 | []=>0
 | n :: r=>n+sumN r
def jQ:List Nat->Nat
 | []=>0
 | n :: r=>max n (jQ r)
def oA (l:List Dt) (z:Str):Prop:=∃ w r,Dt.tup [.str z,.tup (.str w :: r)]∈l/\(w= "number" \/w= "text")
inductive FK:Nat->Nat->Dt->Prop
 | text (i:Int):0<=i->i<=60->FK 1 1 (.tup [.str "text",.int i])
 | choice (ws:List Str):qb ws=true->FK 1 1 (.tup [.str "choice",.tup (ws.map Dt.str)])
 | number (i j:Int):-1000000000000000000000000000000<=i->i<=j->j<=1000000000000000000000000000000->FK 1 1 (.tup [.str "number",.int i,.int j])
 | list {a c:Nat} {k:Dt} {i:Int}:FK a c k->0<=i->i<=8->FK (a+1) (c+1) (.tup [.str "list",k,.int i])
 | rows {a c:Nat} {z:Str} {l:List Dt} {i:Int}:FK a c (.tup [.str "record",.tup l])->oA l z->0<=i->i<=8->FK (a+1) (c+1) (.tup [.str "rows",.str z,.tup [.str "record",.tup l],.int i])
 | rcd {gs:List G4}:(∀ g∈gs,FK g.2.2.1 g.2.2.2 g.2.1)->(gs.map (·.1)).Pairwise ltS->(∀ g∈gs,bu g.1=true)->gs.length<=8->FK (jQ (gs.map (·.2.2.1))+1) (sumN (gs.map (·.2.2.2))+1) (.tup [.str "record",.tup (gs.map prG)])
theorem FK.pos {a c:Nat} {d:Dt} (h:FK a c d):1<=a:=by cases h <;> lia
theorem qc {n:Nat}:∀ {l:List Nat},n∈l->n<=jQ l
 | m :: l,h=>by
  show n<=max m (jQ l);rcases aAf.mp h with rfl | h
  ·exact Nat.le_max_left _ _
  ·exact aAE (qc h) (Nat.le_max_right _ _)
theorem max_le {b:Nat}:∀ {l:List Nat},(∀ n∈l,n<=b)->jQ l<=b
 | [],_=>aAB _
 | m :: l,h=>by
  show max m (jQ l)<=b;exact Nat.max_le.mpr ⟨h m aAq,max_le λn hn=>h n (aAr _ hn)⟩
def yp (d:Dt):Option Dt:=match d with
 | .tup [.str w,k,_]=>if w= "list" then some k else none
 | .tup [.str w,_,k,_]=>if w= "rows" then some k else none
 | _=>none
def xE (K:W.Frag) (H:Hp) (r:Option Dt) (Q:VK):Prop:=match r with
 | none=>Q .non H
 | some e=>∀ v,IsP K H e v->Q v H
mutual
def okD:Dt->Bool
 | .int _=>true
 | .str z=>decide (z.length<=1000)
 | .tup l=>lZ l
 | _=>false
def lZ:List Dt->Bool
 | []=>true
 | d :: l=>okD d && lZ l
end
theorem aV:∀ {l:List Dt},lZ l=true->∀ d∈l,okD d=true
 | e :: l,h,d,hd=>by
  rw [lZ,aAA] at h;rcases aAf.mp hd with rfl | hd
  ·exact h.1
  ·exact aV h.2 d hd
theorem qe:∀ {l:List Dt},(∀ d∈l,okD d=true)->lZ l=true
 | [],_=>rfl
 | e :: l,h=>by rw [lZ,h e aAq,qe λd hd=>h d (aAr _ hd)];rfl
def a7:Dt->Bool
 | .str z=>bu z
 | _=>false
def zq:Dt->Bool
 | .int _=>true
 | _=>false
def bZ (d:Dt) (j k:Int):Bool:=match d with
 | .int i=>decide (j<=i) && decide (i<=k)
 | _=>false
def qZ (d e:Dt):Bool:=match d,e with
 | .int i,.int j=>decide (-1000000000000000000000000000000<=i) && decide (i<=j) && decide (j<=1000000000000000000000000000000)
 | _,_=>false
abbrev q8:List (Str×Int):=[("number",3),("text",2),("choice",2),("list",3),("record",2),("rows",4)]
def ci:Dt->Bool
 | .tup (.str u :: l)=>decide (bQ u q8=.int ((l.length+1:Nat):Int))
 | _=>false
def sY:Dt->Str
 | .str z=>z
 | _=> ""
def oB (ws:List Str):Nat:=(L2.gZ (ws.map (Sum.inr:Str->Key)) (ws.map (Sum.inr:Str->Key)).length).length
def u5:Dt->Bool
 | .tup ws=>decide (1<=ws.length) && decide (ws.length<=8) && ws.all a7 && decide (oB (ws.map sY)=ws.length)
 | _=>false
def aM (f:Dt->Bool):Dt->Bool
 | .tup [a,b]=>a7 a && f b
 | _=>false
def nmD:Dt->Str
 | .tup [.str z,_]=>z
 | _=> ""
def sZ (ns:List Str):Bool:=(ns.zip (ns.drop 1)).all λp=>decide (ltS p.1 p.2)
def l5 (f:Dt->Bool):Dt->Bool
 | .tup fs=>decide (fs.length<=8) && fs.all (aM f) && sZ (fs.map nmD)
 | _=>false
def jm (key:Dt):Dt->Bool
 | .tup [o,_]=>eqD o key
 | _=>false
def a8 (fs:List Dt) (key:Dt):Option Dt:=match fs.find? (jm key) with
 | some (.tup [_,k])=>some k
 | _=>none
def q9:Option Dt->Bool
 | some (.tup (.str u :: _))=>decide (u= "number") || decide (u= "text")
 | _=>false
def fB (f:Dt->Bool) (key items:Dt):Bool:=f items && (match items with
 | .tup [.str u,.tup fs]=>decide (u= "record") && q9 (a8 fs key)
 | _=>false)
def au:Nat->Dt->Bool
 | 0,_=>false
 | n+1,.tup [.str u,a]=>if u= "text" then bZ a 0 60 else if u= "choice" then u5 a else if u= "record" then l5 (au n) a else false
 | n+1,.tup [.str u,a,b]=>if u= "number" then qZ a b else if u= "list" then au n a && bZ b 0 8 else false
 | n+1,.tup [.str u,a,b,c]=>if u= "rows" then fB (au n) a b && bZ c 0 8 else false
 | _,_=>false
def qf (K:W.Frag) (_:Ads):Sp:=λvs H Q _=>∃ (d:Dt) (x:V),vs=[x]/\IsP K H d x/\okD d=true/\∀ H',Same H H'->Q (.bl (a7 d)) H'
def oC (K:W.Frag) (_:Ads):Sp:=λvs H Q _=>∃ (d:Dt) (x:V),vs=[x]/\IsP K H d x/\okD d=true/\Q (.bl (zq d)) H
def fN (K:W.Frag) (_:Ads):Sp:=λvs H Q _=>∃ (d:Dt) (x:V) (j k:Int),vs=[x,.int j,.int k]/\IsP K H d x/\okD d=true/\Q (.bl (bZ d j k)) H
def jR (K:W.Frag) (_:Ads):Sp:=λvs H Q _=>∃ (d e:Dt) (x y:V),vs=[x,y]/\IsP K H d x/\IsP K H e y/\okD d=true/\okD e=true/\Q (.bl (qZ d e)) H
def l6 (K:W.Frag) (_:Ads):Sp:=λvs H Q _=>∃ (d:Dt) (x:V),vs=[x]/\IsP K H d x/\okD d=true/\Q (.bl (ci d)) H
def ma (K:W.Frag) (_:Ads):Sp:=λvs H Q _=>∃ (d:Dt) (x:V),vs=[x]/\IsP K H d x/\okD d=true/\∀ H',Same H H'->Q (.bl (u5 d)) H'
def md (K:W.Frag) (_:Ads):Sp:=λvs H Q _=>∃ (a c:Nat) (d:Dt) (x:V),vs=[x]/\IsP K H d x/\FK a c d/\xE K H (yp d) Q
def me (_:W.Frag) (_:Ads):Sp:=λvs H Q _=>∃ i k:Int,vs=[.int i,.int k]/\∀ c,Q (.int c) H
def gz (_:W.Frag) (_:Ads):Sp:=λvs H Q _=>∃ (r:Addr) (n m:Int),vs=[.ref r,.int m]/\H r=some (.lst [.int n])/\0 < m/\m < 10000000000000000000000000000000000000000000000000000000000000/\Q (.int (n % m)) (upd H r (.lst [.int (n / m)]))
def A0 (K:W.Frag):Sp:=λvs H Q _=>∃ (a:Addr) (ns:List Int),vs=[.ref a]/\SqL K H a (ns.map V.int)/\ns.length<=63/\∀ H',Q (.bl true) H'
abbrev zr (K:W.Frag) (_:Ads):Sp:=A0 K
theorem small {n:Nat} (h:n<=1000):n<=sizeLine:=aAK (ai h)
theorem ce {α β:Type} {xs:List α} {i:Nat} {x:α} (f:α->β) (h:xs[i]?=some x):(xs.take i).map f++[f x]=(xs.take (i+1)).map f:=by
 rw [aAw,h,aAy];rfl
theorem dZ {l:List Str} (h:l.Pairwise ltS):l.Nodup:=List.Pairwise.imp (λ{a b} hab e=>by
 subst e;exact absurd hab (aB5 _)) h
section
variable {P:Program} {w:World} {K:W.Frag} {mg:Str->Option Value} {base:Heap} {ad:Ads}
theorem zt {K:W.Frag} {H:Hp} {l:Addr} {z:Str} {Q:VK} {nm:L2.St} (hl:H l=none) (hz:z.length<=sizeLine) (q:∀ H',Same H H'->Q (.bl (z.cps.toList.all inB)) H')
  (hn:nm=[none]):∃ W:Nat->Nat->List V->L2.St->Hp->Prop,(∃ m,W 0 m [] nm (upd H l (.lst [])))/\∀ i m ys σ' H',W i m ys σ' H'->((Its z).stop i H'/\(λ(v:V) (H':Hp)=>∃ p ys,[v]=[V.ref p]/\true=true/\SqL K H' p (bls ys)/\Q (.bl (ys.all id)) H') (.ref l) H') \/
   ((Its z).go i H'/\∀ x H'',(Its z).yld i H' x H''->i0 0 x σ' H'' λσ2 H2=>cEl (tOp (λx y H Q=>∃ i j,x=.str i/\y=.str j/\Q (.bl (!(Builtin.Str.occurrences j i 0 j.length 1).isEmpty)) H) (rN 0) (tC (.str letters))) ys l σ2 H2 λys' σ3 H3=>∃ m',m' < m/\W (i+1) m' ys' σ3 H3):=by
 subst hn;refine uq (Q:=λ(v:V) (H':Hp)=>∃ p ys,[v]=[V.ref p]/\true=true/\SqL K H' p (bls ys)/\Q (.bl (ys.all id)) H') (λi ys σ H'=>ys=bls ((z.cps.toList.take i).map inB)/\H'=upd H l (.lst ys)/\σ.length=1) ⟨rfl,rfl,rfl⟩ ?_ ?_
 ·rintro i c ys σ H1 N hc ⟨rfl,rfl,hσ⟩ next;have hc':z.cps.toList[i]?=some c:=by rw [aB3];exact hc
  have hi:i < z.cps.toList.length:=(aAg.mp hc').1;have hlen:(bls ((z.cps.toList.take i).map inB)).length < sizeLine:=by
   have:z.length=z.cps.toList.length:=by simp [Str.length]
   simp only [bls,aAb,aAp];lia
  match σ,hσ with
  | [_],_ =>
   refine ⟨.str ⟨#[c]⟩,rfl,_,_,rfl,rfl,aa,hlen,next _ _ _ ⟨?_,wm,rfl⟩⟩;show bls ((z.cps.toList.take i).map inB)++[V.bl (inB c)]=bls ((z.cps.toList.take (i+1)).map inB);unfold bls;rw [aAv,aAv];exact ce (V.bl ∘ inB) hc'
 ·rintro ys σ H1 ⟨rfl,rfl,hσ⟩;refine ⟨l,(z.cps.toList).map inB,rfl,rfl,SqL.of ?_,?_⟩
  ·rw [aa];have:z.cps.toList.take z.cps.size=z.cps.toList:=aBu (by simp);rw [this]
  ·rw [aA8];exact q _ (ae hl _)
theorem dj (T:Tx K mg ad) {f:Addr} {fd:FuncData} (F:Gn K mg "is_name" ii ["text"] f fd):FnOk P w K mg base CX0 1 f fd ["text"] (qf K ad):=by
 obtain ⟨t_LONGEST_NAME,c_LONGEST_NAME⟩:=T.LONGEST_NAME;obtain ⟨t_EACH,c_EACH⟩:=T.EACH;obtain ⟨t_LETTERS,c_LETTERS⟩:=T.LETTERS;refine F.F.ok qC (λvs H Q E h=>?_) (λcdv A outer s H vs Q E hr h=>?_)
 ·obtain ⟨d,x,rfl,_⟩:=h
  rfl
 obtain ⟨d,x,rfl,hd,ok,q⟩:=h;refine ⟨_,(@pss_cons _ _ _ _ _ (@ps_if _ _ _ _ _ _ _ _ (PW.pt (@pw_or _ _ _ _ _ _ _ (@pt_not _ _ _ _ (@pt_val _ _ _ (pe_callB (aE (K:=K) rfl) rfl T.z_isinstance boot_isinstance (@pa2 _ _ _ _ _ (pv 0) (bH rfl T.z_str boot_str) (by rfl) (by rfl))) (by intro _;rfl))) (@pw_or1 _ _ _ _ (@pt_not _ _ _ _ (pt_chain op_le op_le pe_int (pe_callB call_len_str rfl T.z_len PySem.boot_len (@pa1 _ _ _ (pv 0) (by rfl))) (pe_gint rfl c_LONGEST_NAME)))))) (@pss_one _ _ _ (@ps_ret _ _ _ _ pe_bl)) pss_nil) (@pss_one _ _ _ (@ps_ret _ _ _ _ (pe_and (pe_cmpR op_ne (pv 0) (pe_gstr rfl c_EACH) (nomark _)) (pe_one (pe_callB (call_allN (K:=K) rfl rfl) rfl T.z_all boot_all (@pa1 _ _ _ (aC rfl (cs0 (NL:=["letter"]) rfl (by decide +kernel) (by decide +kernel)) (yT (pv 0)) (λ_ _ _ _=>(ag (i:=0) (show List.Nodup (α:=Str) ["letter"] by decide +kernel) rfl (Or.inl rfl))) (λ_ _ _ _=>(pe_cmpR rW (pv 0) (pe_gstr rfl c_LETTERS) rfl))) (by rfl)))))))),?_⟩
 cases hd with
 | non=>cases ok
 | bl=>cases ok
 | int=>exact ⟨_,rfl,_,_,_,rfl,.int_str,_,rfl,aG (aG (q H (Same.refl H)))⟩
 | tup ht _ _=>exact ⟨_,rfl,_,_,_,rfl,.tup_str ht,_,rfl,aG (aG (q H (Same.refl H)))⟩
 | @str z =>
  have hz:z.length<=sizeLine:=small (of_decide_eq_true ok);replace q:∀ H',Same H H'->Q (.bl (bu z)) H':=q;refine ⟨_,rfl,_,_,_,rfl,.str_str,_,rfl,aL ?_⟩;refine ⟨_,rfl,z,rfl,hz,_,_,rfl,rfl,_,rfl,?_⟩;refine dS (λc1=>?_) (λc1=>?_)
  ·refine ⟨_,_,rfl,rfl,_,rfl,?_⟩;refine dS (λc2=>?_) (λc2=>?_)
   ·have e:bu z=false:=by
     have c2':¬ ((z.length:Int)<=8):=by simpa using c2
     have:¬ z.length<=8:=by lia
     simp [bu,this]
    rw [<- e];exact q H (Same.refl H)
   ·have l1:1<=z.length:=by
     have:(1:Int)<=z.length:=of_decide_eq_true c1;lia
    have l2:z.length<=8:=by
     have:((z.length:Int)<=8):=by simpa using c2
     lia
    refine ⟨_,rfl,rfl,_,rfl,?_⟩;refine dS (λc3=>?_) (λc3=>?_)
    ·refine ⟨_,rfl,z,rfl,λl hl=>zt (K:=K) hl hz (λH' g=>?_) rfl⟩;have n3:¬ (z= "each"):=by simpa using c3
     have e:bu z=z.cps.toList.all inB:=by simp [bu,l1,l2,n3]
     rw [<- e];exact q H' g
    ·have n3:z= "each" :=by simpa using c3
     have e:bu z=false:=by simp [bu,n3]
     rw [<- e];exact q H (Same.refl H)
  ·refine ⟨_,rfl,aG ?_⟩;have e:bu z=false:=by
    have:¬ (1:Int)<=z.length:=by simpa using c1
    have:¬ 1<=z.length:=by lia
    simp [bu,this]
   rw [<- e];exact q H (Same.refl H)
theorem bi {K:W.Frag} {H:Hp} {w:Str} {v:V} (h:IsP K H (.str w) v):v=.str w:=by cases h;rfl
theorem aQ {A B:Prop} {x:V} (h:A):if decide (x=x)=true then A else B:=by rw [if_pos (decide_eq_true rfl)];exact h
theorem iteN {A B:Prop} {x y:V} (n:x≠y) (h:B):if decide (x=y)=true then A else B:=by rw [if_neg (λc=>n (of_decide_eq_true c))];exact h
theorem yq {A B:Prop} {x y:V} (n:x≠y) (h:A):if (!decide (x=y))=true then A else B:=by rw [if_pos (by rw [decide_eq_false n];rfl)];exact h
theorem jn {A B:Prop} {x:V} (h:B):if (!decide (x=x))=true then A else B:=by rw [if_neg (by rw [decide_eq_true rfl];decide)];exact h
theorem aD {a b:Str} (h:a≠b):V.str a≠V.str b:=λe=>h (V.str.inj e)
theorem du (T:Tx K mg ad) {f:Addr} {fd:FuncData} (F:Gn K mg "item_kind" eE ["kind"] f fd):FnOk P w K mg base CX0 1 f fd ["kind"] (md K ad):=by
 refine F.F.ok mZ (λvs H Q E h=>?_) (λcdv A outer s H vs Q E hr h=>?_)
 ·obtain ⟨a,c,d,x,rfl,_⟩:=h
  rfl
 obtain ⟨a,c,d,x,rfl,hd,gk,q⟩:=h;refine ⟨_,(@pss_cons _ _ _ _ _ (@ps_if _ _ _ _ _ _ _ _ (pt_cmpR op_eq (@pi1 K _ _ _ _ _ _ _ rfl (pv 0)) pe_str (nomark _)) (@pss_one _ _ _ (@ps_ret _ _ _ _ (@pi1 K _ _ _ _ _ _ _ rfl (pv 0)))) pss_nil) (@pss_cons _ _ _ _ _ (@ps_if _ _ _ _ _ _ _ _ (pt_cmpR op_eq (@pi1 K _ _ _ _ _ _ _ rfl (pv 0)) pe_str (nomark _)) (@pss_one _ _ _ (@ps_ret _ _ _ _ (@pi1 K _ _ _ _ _ _ _ rfl (pv 0)))) pss_nil) (@pss_one _ _ _ (@ps_ret _ _ _ _ pe_non)))),?_⟩
 cases gk with
 | list g =>
  refine ⟨_,rfl,_,_,_,hd,rfl,rfl,isS ?_⟩;refine ⟨rfl,_,rfl,aQ ⟨_,rfl,_,_,_,hd,rfl,rfl,λv hv=>?_⟩⟩;exact q v hv
 | rows g =>
  refine ⟨_,rfl,_,_,_,hd,rfl,rfl,isS ?_⟩;refine ⟨rfl,_,rfl,iteN (aD (by decide)) ⟨_,rfl,_,_,_,hd,rfl,rfl,λv hv=>?_⟩⟩;obtain rfl:=bi hv;refine ⟨rfl,_,rfl,aQ ⟨_,rfl,_,_,_,hd,rfl,rfl,λv hv=>?_⟩⟩;exact q v hv
 | _ =>
  refine ⟨_,rfl,_,_,_,hd,rfl,rfl,isS ?_⟩;refine ⟨rfl,_,rfl,iteN (aD (by decide)) ⟨_,rfl,_,_,_,hd,rfl,rfl,λv hv=>?_⟩⟩;obtain rfl:=bi hv;exact ⟨rfl,_,rfl,iteN (aD (by decide)) q⟩
theorem d7 (T:Tx K mg ad) {f:Addr} {fd:FuncData} (F:Gn K mg "is_whole" fR ["thing"] f fd):FnOk P w K mg base CX0 1 f fd ["thing"] (oC K ad):=by
 refine F.F.ok pf (λvs H Q E h=>?_) (λcdv A outer s H vs Q E hr h=>?_)
 ·obtain ⟨d,x,rfl,_⟩:=h
  rfl
 obtain ⟨d,x,rfl,hd,ok,q⟩:=h;refine ⟨_,(@pss_one _ _ _ (@ps_ret _ _ _ _ (pe_and (pe_callB (aE (K:=K) rfl) rfl T.z_isinstance boot_isinstance (@pa2 _ _ _ _ _ (pv 0) (bH rfl T.z_int boot_int) (by rfl) (by rfl))) (pe_one (yD (pe_callB (aE (K:=K) rfl) rfl T.z_isinstance boot_isinstance (@pa2 _ _ _ _ _ (pv 0) (bH rfl T.z_bool boot_bool) (by rfl) (by rfl)))))))),?_⟩
 cases hd with
 | non=>cases ok
 | bl=>cases ok
 | int=>exact ⟨_,rfl,_,_,_,rfl,.int_int,_,rfl,aG ⟨_,rfl,_,_,_,rfl,.int_bool,_,rfl,q⟩⟩
 | str=>exact ⟨_,rfl,_,_,_,rfl,.str_int,_,rfl,aL q⟩
 | tup ht _ _=>exact ⟨_,rfl,_,_,_,rfl,.tup_int ht,_,rfl,aL q⟩
theorem cj (T:Tx K mg ad) {f:Addr} {fd:FuncData} (F:Gn K mg "is_whole_within" bz ["thing","low","high"] f fd):FnOk P w K mg base CX0 2 f fd ["thing","low","high"] (fN K ad):=by
 obtain ⟨_,_,Cj⟩:=T.is_whole;have CD:=d7 (P:=P) (w:=w) (base:=base) T Cj;refine F.F.ok fW (λvs H Q E h=>?_) (λcdv A outer s H vs Q E hr h=>?_)
 ·obtain ⟨d,x,j,k,rfl,_⟩:=h
  rfl
 obtain ⟨d,x,j,k,rfl,hd,ok,q⟩:=h;refine ⟨_,(@pss_one _ _ _ (@ps_ret _ _ _ _ (pe_and (0,Cj,CD,@pa1 _ _ _ (pv 0) (by rfl)) (pe_one (tZ op_le op_le (pv 1) (pv 0) (pv 2)))))),?_⟩;refine ⟨_,rfl,d,x,rfl,hd,ok,?_⟩
 cases hd with
 | non=>cases ok
 | bl=>cases ok
 | str=>exact ⟨_,rfl,aL q⟩
 | tup ht _ _=>exact ⟨_,rfl,aL q⟩
 | @int i =>
  replace q:Q (.bl (decide (j<=i) && decide (i<=k))) H:=q;refine ⟨_,rfl,aG ?_⟩;refine ⟨_,rfl,_,rfl,_,_,rfl,rfl,_,rfl,?_⟩;refine dS (λc=>⟨_,rfl,_,_,rfl,rfl,?_⟩) (λc=>?_)
  ·show Q (.bl (decide (i<=k))) H;rw [c,aA0] at q;exact q
  ·rw [aBh.mpr c,aAJ] at q;exact q
theorem at0 {α:Type} (c:α) (r:List α):atI (c :: r) 0=some c:=by
 have e:atI (c :: r) ((0:Nat):Int)=some c:=fc (by rfl);exact e
theorem yr:(10:Int) ^ (30:Int).toNat=1000000000000000000000000000000:=by decide +kernel
theorem jS (T:Tx K mg ad) {f:Addr} {fd:FuncData} (F:Gn K mg "are_bounds" dA ["low","high"] f fd):FnOk P w K mg base CX0 2 f fd ["low","high"] (jR K ad):=by
 obtain ⟨_,_,Cj⟩:=T.is_whole;have CD:=d7 (P:=P) (w:=w) (base:=base) T Cj;refine F.F.ok kn (λvs H Q E h=>?_) (λcdv A outer s H vs Q E hr h=>?_)
 ·obtain ⟨d,e,x,y,rfl,_⟩:=h
  rfl
 obtain ⟨d,e,x,y,rfl,hd,he,ok,ok',q⟩:=h;refine ⟨_,(@pss_cons _ _ _ _ _ (@ps_if _ _ _ _ _ _ _ _ (PW.pt (@pw_or _ _ _ _ _ _ _ (@pt_not _ _ _ _ (@pt_val _ _ _ (0,Cj,CD,@pa1 _ _ _ (pv 0) (by rfl)) (by intro _;rfl))) (@pw_or1 _ _ _ _ (@pt_not _ _ _ _ (@pt_val _ _ _ (0,Cj,CD,@pa1 _ _ _ (pv 1) (by rfl)) (by intro _;rfl)))))) (@pss_one _ _ _ (@ps_ret _ _ _ _ pe_bl)) pss_nil) (@pss_one _ _ _ (@ps_ret _ _ _ _ (pe_chain3 op_le op_le op_le (@pe_un _ _ _ _ _ _ un_neg (@pe_op _ _ _ _ _ _ _ _ op_pow pe_int pe_int)) (pv 0) (pv 1) (@pe_op _ _ _ _ _ _ _ _ op_pow pe_int pe_int))))),?_⟩;refine ⟨_,rfl,d,x,rfl,hd,ok,_,rfl,?_⟩
 cases hd with
 | non=>cases ok
 | bl=>cases ok
 | str=>exact aG (aG q)
 | tup ht _ _=>exact aG (aG q)
 | @int i =>
  refine aL ⟨_,rfl,e,y,rfl,he,ok',_,rfl,?_⟩
  cases he with
  | non=>cases ok'
  | bl=>cases ok'
  | str=>exact aG q
  | tup ht _ _=>exact aG q
  | @int j =>
   replace q:Q (.bl (decide (-1000000000000000000000000000000<=i) && decide (i<=j) && decide (j<=1000000000000000000000000000000))) H:=q;refine aL ?_;refine ⟨_,_,rfl,rfl,⟨by decide,by decide,by decide⟩,_,rfl,_,rfl,_,_,rfl,rfl,_,rfl,?_⟩;rw [yr];refine dS (λc=>⟨_,rfl,_,_,rfl,rfl,_,rfl,?_⟩) (λc=>?_)
   ·replace c:decide (-1000000000000000000000000000000<=i)=true:=c;rw [c,aA0] at q;refine dS (λc=>?_) (λc=>?_)
    ·refine ⟨_,_,rfl,rfl,⟨by decide,by decide,by decide⟩,_,_,rfl,rfl,?_⟩;rw [yr];replace c:decide (i<=j)=true:=c;rw [c,aA0] at q;exact q
    ·replace c:¬ decide (i<=j)=true:=c;rw [aBh.mpr c,aAJ] at q;exact q
   ·replace c:¬ decide (-1000000000000000000000000000000<=i)=true:=c;rw [aBh.mpr c,aAJ,aAJ] at q;exact q
theorem kY (u:Str) (n:Int):∀ l:List (Str×Int),yK (bQ u l) (.int n)=true
 | []=>rfl
 | (x,i) :: D=>by
  unfold bQ
  split
  ·rfl
  ·exact kY u n D
theorem mf (T:Tx K mg ad) {f:Addr} {fd:FuncData} (F:Gn K mg "has_parts" eC ["thing"] f fd):FnOk P w K mg base CX0 1 f fd ["thing"] (l6 K ad):=by
 obtain ⟨t_PART_COUNTS,c_PART_COUNTS,d_PART_COUNTS⟩:=T.PART_COUNTS;refine F.F.ok mX (λvs H Q E h=>?_) (λcdv A outer s H vs Q E hr h=>?_)
 ·obtain ⟨d,x,rfl,_⟩:=h
  rfl
 obtain ⟨d,x,rfl,hd,ok,q⟩:=h;refine ⟨_,(@pss_cons _ _ _ _ _ (@ps_if _ _ _ _ _ _ _ _ (PW.pt (@pw_or _ _ _ _ _ _ _ (@pt_not _ _ _ _ (@pt_val _ _ _ (pe_callB (aE (K:=K) rfl) rfl T.z_isinstance boot_isinstance (@pa2 _ _ _ _ _ (pv 0) (bH rfl T.z_tuple boot_tuple) (by rfl) (by rfl))) (by intro _;rfl))) (@pw_or _ _ _ _ _ _ _ (pt_cmpR op_eq (pe_callB (call_lenDN (K:=K) rfl) rfl T.z_len PySem.boot_len (@pa1 _ _ _ (pv 0) (by rfl))) pe_int (nomark _)) (@pw_or1 _ _ _ _ (@pt_not _ _ _ _ (@pt_val _ _ _ (pe_callB (aE (K:=K) rfl) rfl T.z_isinstance boot_isinstance (@pa2 _ _ _ _ _ (@pi1 K _ _ _ _ _ _ _ rfl (pv 0)) (bH rfl T.z_str boot_str) (by rfl) (by rfl))) (by intro _;rfl))))))) (@pss_one _ _ _ (@ps_ret _ _ _ _ pe_bl)) pss_nil) (@pss_one _ _ _ (@ps_ret _ _ _ _ (pe_cmpR op_eq (pe_kget d_PART_COUNTS rfl c_PART_COUNTS (@pa1 _ _ _ (@pi1 K _ _ _ _ _ _ _ rfl (pv 0)) (by rfl))) (pe_callB (call_lenDN (K:=K) rfl) rfl T.z_len PySem.boot_len (@pa1 _ _ _ (pv 0) (by rfl))) (nomark _))))),?_⟩
 cases d with
 | non=>cases ok
 | bl=>cases ok
 | int i =>
  cases hd
  exact ⟨_,rfl,_,_,_,rfl,.int_tuple,_,rfl,aG (aG q)⟩
 | str z =>
  cases hd
  exact ⟨_,rfl,_,_,_,rfl,.str_tuple,_,rfl,aG (aG q)⟩
 | tup l =>
  obtain ⟨a,xs,rfl,ha,pa,ra⟩:=id hd.unref;refine ⟨_,rfl,_,_,_,rfl,.tup_tuple ha,_,rfl,aL ?_⟩;refine ⟨_,rfl,_,_,rfl,hd.d,rfl,_,rfl,?_⟩
  cases l with
  | nil=>exact aQ (aG q)
  | cons e l =>
   refine iteN (λz=>?_) ?_
   ·injection z with z
    rw [aAx] at z;lia
   have oke:=aV ok e aAq;refine ⟨_,rfl,_,_,_,hd,rfl,at0 _ _,λv hv=>?_⟩
   cases e with
   | non=>cases oke
   | bl=>cases oke
   | int i =>
    cases hv
    exact ⟨_,_,_,rfl,.int_str,_,rfl,aG q⟩
   | tup l =>
    obtain ⟨a1,xs1,rfl,ha1,_,_⟩:=id hv.unref;exact ⟨_,_,_,rfl,.tup_str ha1,_,rfl,aG q⟩
   | str u =>
    obtain rfl:=bi hv;refine ⟨_,_,_,rfl,.str_str,_,rfl,aL ?_⟩;refine ⟨_,rfl,_,_,_,hd,rfl,at0 _ _,isS ?_⟩;refine ⟨_,rfl,_,rfl,_,_,rfl,hd.d,kY u _ _,q⟩
theorem jo:∀ {l:List Dt},l.all a7=true->l=(l.map sY).map Dt.str
 | [],_=>rfl
 | d :: l,h=>by
  rw [aBv,aAA] at h;rw [aAz,aAz,<- jo h.2]
  cases d with
  | str z=>rfl
  | _=>exact absurd h.1 aAu
theorem fO {K:W.Frag} {H:Hp}:∀ {ws:List Str} {xs:List V},IsPs K H (ws.map Dt.str) xs->xs=ws.map V.str
 | [],xs,h=>by cases h;rfl
 | w :: ws,xs,h=>by
  cases h with
  | cons h1 h2=>rw [bi h1,fO h2];rfl
theorem xF (m n:Nat):decide (V.int (m:Int)=V.int (n:Int))=decide (m=n):=by
 rw [aAQ];simp;lia
theorem mh (T:Tx K mg ad) {f:Addr} {fd:FuncData} (F:Gn K mg "are_words" eD ["words"] f fd):FnOk P w K mg base CX0 2 f fd ["words"] (ma K ad):=by
 obtain ⟨_,_,Cg⟩:=T.is_name;have CC:=dj (P:=P) (w:=w) (base:=base) T Cg;obtain ⟨t_MOST_WORDS,c_MOST_WORDS⟩:=T.MOST_WORDS;refine F.F.ok mY (λvs H Q E h=>?_) (λcdv A outer s H vs Q E hr h=>?_)
 ·obtain ⟨d,x,rfl,_⟩:=h
  rfl
 obtain ⟨d,x,rfl,hd,ok,q⟩:=h;refine ⟨_,(@pss_cons _ _ _ _ _ (@ps_if _ _ _ _ _ _ _ _ (PW.pt (@pw_or _ _ _ _ _ _ _ (@pt_not _ _ _ _ (@pt_val _ _ _ (pe_callB (aE (K:=K) rfl) rfl T.z_isinstance boot_isinstance (@pa2 _ _ _ _ _ (pv 0) (bH rfl T.z_tuple boot_tuple) (by rfl) (by rfl))) (by intro _;rfl))) (@pw_or1 _ _ _ _ (@pt_not _ _ _ _ (pt_chain op_le op_le pe_int (pe_callB (call_lenDN (K:=K) rfl) rfl T.z_len PySem.boot_len (@pa1 _ _ _ (pv 0) (by rfl))) (pe_gint rfl c_MOST_WORDS)))))) (@pss_one _ _ _ (@ps_ret _ _ _ _ pe_bl)) pss_nil) (@pss_one _ _ _ (@ps_ret _ _ _ _ (pe_and (pe_callB (call_allN (K:=K) rfl rfl) rfl T.z_all boot_all (@pa1 _ _ _ (aC rfl (cs0 (NL:=["word"]) rfl (by decide +kernel) (by decide +kernel)) (pi_tupN (K:=K) rfl (pv 0)) (λ_ _ _ _=>(ag (i:=0) (show List.Nodup (α:=Str) ["word"] by decide +kernel) rfl (Or.inl rfl))) (λ_ _ _ _=>(0,Cg,CC,@pa1 _ _ _ (pv 0) (by rfl)))) (by rfl))) (pe_one (pe_cmpR op_eq (pe_callB sI rfl T.z_len PySem.boot_len (@pa1 _ _ _ (pe_callTy (sH rfl) rfl T.z_set boot_set (@pa1 _ _ _ (pv 0) (by rfl))) (by rfl))) (pe_callB (call_lenDN (K:=K) rfl) rfl T.z_len PySem.boot_len (@pa1 _ _ _ (pv 0) (by rfl))) (nomark _))))))),?_⟩
 cases d with
 | non=>cases ok
 | bl=>cases ok
 | int i =>
  cases hd
  exact ⟨_,rfl,_,_,_,rfl,.int_tuple,_,rfl,aG (aG (q H (Same.refl H)))⟩
 | str z =>
  cases hd
  exact ⟨_,rfl,_,_,_,rfl,.str_tuple,_,rfl,aG (aG (q H (Same.refl H)))⟩
 | tup ds =>
  obtain ⟨a,xs,rfl,hT,pa,ra⟩:=id hd.unref;have el:=ra.length;replace q:∀ H',Same H H'->Q (.bl (decide (1<=ds.length) && decide (ds.length<=8) && ds.all a7 && decide (oB (ds.map sY)=ds.length))) H':=q;refine ⟨_,rfl,_,_,_,rfl,.tup_tuple hT,_,rfl,aL ?_⟩;refine ⟨_,rfl,_,_,rfl,hd.d,_,_,rfl,rfl,_,rfl,dS (λc1=>?_) (λc1=>?_)⟩
  ·have l1:1<=ds.length:=by
    have:(1:Int)<=ds.length:=of_decide_eq_true c1;lia
   refine ⟨_,_,rfl,rfl,_,rfl,dS (λc2=>?_) (λc2=>?_)⟩
   ·have l2:¬ ds.length<=8:=by
     have c2':¬ ((ds.length:Int)<=8):=by simpa using c2
     lia
    rw [decide_eq_false l2,aBa,aAJ,aAJ] at q;exact q H (Same.refl H)
   ·have l2:ds.length<=8:=by
     have:((ds.length:Int)<=8):=by simpa using c2
     lia
    rw [decide_eq_true l1,decide_eq_true l2,aA0,aA0] at q;refine ⟨_,rfl,a,rfl,⟨_,hT⟩,λl hln=>?_⟩;refine bn (K:=K) (xs:=xs) (λi ys σ H'=>ys=bls ((ds.take i).map a7)/\Same H H'/\H' l=some (.lst ys)/\σ.length=1) ⟨rfl,ae hln _,aa,rfl⟩ (λi ys σ H' _ r=>r.2.1.tup hT) ?_ ?_
    ·rintro i y ys σ H1 N hy ⟨rfl,g,e1,hσ⟩ next;obtain ⟨d,hdi,hp⟩:=ra.get' hy;have nx:bls ((ds.take i).map a7)++[V.bl (a7 d)]=bls ((ds.take (i+1)).map a7):=by
      show List.map V.bl _++[V.bl (a7 d)]=List.map V.bl _;rw [aAv,aAv];exact ce (V.bl ∘ a7) hdi
     have hlen:(bls ((ds.take i).map a7)).length < sizeLine:=by
      simp only [bls,aAb,aAp];exact ai (by lia)
     match σ,hσ with
     | [_],_=>exact ⟨_,rfl,d,y,rfl,hp.same g,aV ok d (aAs hdi),λH2 g2=>⟨g2 _ _ e1,hlen,next _ _ _ ⟨nx,ar hln (g.trans g2),aa,rfl⟩⟩⟩
    ·rintro ys σ H1 ⟨rfl,g,e1,_⟩;rw [<- el,aAt] at e1;refine ⟨l,ds.map a7,rfl,rfl,SqL.of e1,_,rfl,?_⟩;have ea:(ds.map a7).all id=ds.all a7:=by rw [aA8];rfl
     rw [ea]
     cases hb:ds.all a7 with
     | false =>
      rw [hb,aAJ] at q;exact aL (q H1 g)
     | true =>
      rw [hb,aA0] at q;have es:=jo hb;rw [es] at ra;have ex:=fO ra;subst ex;refine aG ?_;refine ⟨_,rfl,a,(ds.map sY).map Sum.inr,rfl,by rw [aAv];exact g.tup hT,by rw [aAb,aAb];lia,λp hp=>?_⟩;refine ⟨p,_,rfl,aa,?_⟩;refine ⟨_,rfl,_,_,rfl,((hd.same g).same (ae hp _)).d,rfl,?_⟩;rw [xF];exact q _ (g.trans (ae hp _))
  ·have l1:¬ 1<=ds.length:=by
    have:¬ (1:Int)<=ds.length:=by simpa using c1
    lia
   refine ⟨_,rfl,aG ?_⟩;rw [decide_eq_false l1,aAJ,aAJ,aAJ] at q;exact q H (Same.refl H)
def oD (K:W.Frag) (n:Nat):Sp:=λvs H Q _=>∃ (r:Nat) (d:Dt) (x:V),r < n/\vs=[x,.int r]/\IsP K H d x/\okD d=true/\∀ H',Same H H'->Q (.bl (au r d)) H'
def u6 (K:W.Frag) (n:Nat):Sp:=λvs H Q _=>∃ (r:Nat) (d:Dt) (x:V),r < n/\vs=[x,.int r]/\IsP K H d x/\okD d=true/\∀ H',Same H H'->Q (.bl (aM (au r) d)) H'
def re (K:W.Frag) (n:Nat):Sp:=λvs H Q _=>∃ (r:Nat) (d:Dt) (x:V),r < n/\vs=[x,.int r]/\IsP K H d x/\okD d=true/\∀ H',Same H H'->Q (.bl (l5 (au r) d)) H'
def u7 (K:W.Frag) (n:Nat):Sp:=λvs H Q _=>∃ (r:Nat) (d e:Dt) (x y:V),r < n/\vs=[x,y,.int r]/\IsP K H d x/\IsP K H e y/\okD d=true/\okD e=true/\∀ H',Same H H'->Q (.bl (fB (au r) d e)) H'
theorem oE (T:Tx K mg ad) {f ff:Addr} {fd fdf:FuncData} (n:Nat) (F:Gn K mg "is_field" cp ["field","room"] f fd) (Ce:Gn K mg "is_formed" br ["thing","room"] ff fdf)
  (Cp:FnOk P w K mg base CX0 (3*n+3) ff fdf ["thing","room"] (oD K n)):FnOk P w K mg base CX0 (3*n+3+1) f fd ["field","room"] (u6 K n):=by
 obtain ⟨_,_,Cg⟩:=T.is_name;have CC:=dj (P:=P) (w:=w) (base:=base) T Cg;refine F.F.ok pj (λvs H Q E h=>?_) (λcdv A outer s H vs Q E hr h=>?_)
 ·obtain ⟨r,d,x,_,rfl,_⟩:=h
  rfl
 obtain ⟨r,d,x,hrn,rfl,hd,ok,q⟩:=h;refine ⟨_,(@pss_cons _ _ _ _ _ (@ps_if _ _ _ _ _ _ _ _ (PW.pt (@pw_or _ _ _ _ _ _ _ (@pt_not _ _ _ _ (@pt_val _ _ _ (pe_callB (aE (K:=K) rfl) rfl T.z_isinstance boot_isinstance (@pa2 _ _ _ _ _ (pv 0) (bH rfl T.z_tuple boot_tuple) (by rfl) (by rfl))) (by intro _;rfl))) (@pw_or1 _ _ _ _ (pt_cmpR op_ne (pe_callB (call_lenDN (K:=K) rfl) rfl T.z_len PySem.boot_len (@pa1 _ _ _ (pv 0) (by rfl))) pe_int (nomark _))))) (@pss_one _ _ _ (@ps_ret _ _ _ _ pe_bl)) pss_nil) (@pss_one _ _ _ (@ps_ret _ _ _ _ (pe_and (0,Cg,CC,@pa1 _ _ _ (@pi1 K _ _ _ _ _ _ _ rfl (pv 0)) (by rfl)) (pe_one (0,Ce,Cp,@pa2 _ _ _ _ _ (@pi1 K _ _ _ _ _ _ _ rfl (pv 0)) (pv 1) (by rfl) (by rfl))))))),?_⟩
 cases d with
 | non=>cases ok
 | bl=>cases ok
 | int i =>
  cases hd
  exact ⟨_,rfl,_,_,_,rfl,.int_tuple,_,rfl,aG (aG (q H (Same.refl H)))⟩
 | str z =>
  cases hd
  exact ⟨_,rfl,_,_,_,rfl,.str_tuple,_,rfl,aG (aG (q H (Same.refl H)))⟩
 | tup l =>
  obtain ⟨a,xs,rfl,ha,pa,ra⟩:=id hd.unref;refine ⟨_,rfl,_,_,_,rfl,.tup_tuple ha,_,rfl,aL ?_⟩;refine ⟨_,rfl,_,_,rfl,hd.d,rfl,_,rfl,?_⟩
  by_cases h2:l.length=2
  ·match l,h2 with
   | [e,e'],_ =>
    refine jn ?_;refine ⟨_,rfl,_,_,_,hd,rfl,rfl,λv hv=>?_⟩;refine ⟨e,v,rfl,hv,aV ok e aAq,λH1 g1=>?_⟩;replace q:∀ H',Same H H'->Q (.bl (a7 e && au r e')) H':=q;refine ⟨_,rfl,?_⟩
    cases hb:a7 e with
    | false =>
     rw [hb,aAJ] at q;exact aL (q H1 g1)
    | true =>
     rw [hb,aA0] at q;refine aG ?_;refine ⟨_,rfl,_,_,_,hd.same g1,rfl,rfl,λv hv=>?_⟩;exact ⟨_,rfl,r,e',v,hrn,rfl,hv,aV ok e' (aAr _ aAq),λH2 g2=>q H2 (g1.trans g2)⟩
  ·have e0:aM (au r) (.tup l)=false:=by
    unfold aM
    split
    ·rename_i h;injection h with h;subst h;exact absurd rfl h2
    ·rfl
   rw [e0] at q;refine yq (λz=>?_) (q H (Same.refl H));injection z with z
   lia
theorem aA {K:W.Frag} {H:Hp} {a b:Dt} {v:V} (h:IsP K H (.tup [a,b]) v):∃ c x y,v=.ref c/\SqT K H c [x,y]/\IsP K H a x/\IsP K H b y:=by
 obtain ⟨c,xs,rfl,hc,pc,rc⟩:=h.unref
 cases rc with
 | cons r1 rc =>
  cases rc with
  | cons r2 rc =>
   cases rc
   exact ⟨c,_,_,rfl,hc,r1,r2⟩
theorem fP {f:Dt->Bool} {d:Dt} (h:aM f d=true):∃ z k,d=.tup [.str z,k]/\bu z=true/\f k=true:=by
 unfold aM at h
 split at h
 ·rw [aAA] at h
  rename_i a b
  cases a with
  | str z=>exact ⟨z,b,rfl,h.1,h.2⟩
  | _=>exact absurd h.1 aAu
 ·cases h
theorem tj (xs:List V):lC xs (some 1) none=xs.drop 1:=by
 unfold lC
 cases xs with
 | nil=>rfl
 | cons x r =>
  have e1:HT.sIx (x :: r).length 0 (some 1)=1:=by
   have:=HT.sIx_nat (x :: r).length 0 1;rw [aAx] at this ⊢;rw [show (1:Int)=((1:Nat):Int) from rfl,this];lia
  have e2:HT.sIx (x :: r).length (x :: r).length none=(x :: r).length:=rfl;rw [e1,e2];apply aBu;rw [aBb];exact aAm _
theorem jT (T:Tx K mg ad) {f ff:Addr} {fd fdf:FuncData} (n:Nat) (F:Gn K mg "are_fields" aX ["fields","room"] f fd) (Ea:Gn K mg "is_field" cp ["field","room"] ff fdf)
  (Ec:FnOk P w K mg base CX0 (3*n+4) ff fdf ["field","room"] (u6 K n)):FnOk P w K mg base CX0 (3*n+4+1) f fd ["fields","room"] (re K n):=by
 obtain ⟨t_MOST_FIELDS,c_MOST_FIELDS⟩:=T.MOST_FIELDS;refine F.F.ok fG (λvs H Q E h=>?_) (λcdv A outer s H vs Q E hr h=>?_)
 ·obtain ⟨r,d,x,_,rfl,_⟩:=h
  rfl
 obtain ⟨r,d,x,hrn,rfl,hd,ok,q⟩:=h;refine ⟨_,(@pss_cons _ _ _ _ _ (@ps_if _ _ _ _ _ _ _ _ (PW.pt (@pw_or _ _ _ _ _ _ _ (@pt_not _ _ _ _ (@pt_val _ _ _ (pe_callB (aE (K:=K) rfl) rfl T.z_isinstance boot_isinstance (@pa2 _ _ _ _ _ (pv 0) (bH rfl T.z_tuple boot_tuple) (by rfl) (by rfl))) (by intro _;rfl))) (@pw_or1 _ _ _ _ (pt_cmpR op_gt (pe_callB (call_lenDN (K:=K) rfl) rfl T.z_len PySem.boot_len (@pa1 _ _ _ (pv 0) (by rfl))) (pe_gint rfl c_MOST_FIELDS) (nomark _))))) (@pss_one _ _ _ (@ps_ret _ _ _ _ pe_bl)) pss_nil) (@pss_cons _ _ _ _ _ (@ps_if _ _ _ _ _ _ _ _ (@pt_not _ _ _ _ (@pt_val _ _ _ (pe_callB (call_allN (K:=K) rfl rfl) rfl T.z_all boot_all (@pa1 _ _ _ (aC rfl (csR (sc:=ac aX) (NL:=["field"]) (N:=["fields","room","names"]) (ρ:=[1]) (N':=["field","room"]) rfl rfl rfl (by decide +kernel) (by decide +kernel) (by decide +kernel) rfl (by decide +kernel)) (pi_tupN (K:=K) rfl (pv 0)) (λ_ _ _ _=>(ag (i:=0) (show List.Nodup (α:=Str) ["field","room"] by decide +kernel) rfl (Or.inl rfl))) (λ_ _ _ _=>(0,Ea,Ec,@pa2 _ _ _ _ _ (pv 0) (pv 1) (by rfl) (by rfl)))) (by rfl))) (by intro _;rfl))) (@pss_one _ _ _ (@ps_ret _ _ _ _ pe_bl)) pss_nil) (@pss_cons _ _ _ _ _ (ps_setC (j:=2) fG.nd rfl (Or.inl rfl) rfl (cs0 (NL:=["name","kind"]) rfl (by decide +kernel) (by decide +kernel)) (pi_tupN (K:=K) rfl (pv 0)) (λ_ _ _ _=>(bL (K:=K) (n:=2) rfl rfl (am (ag (i:=0) (show List.Nodup (α:=Str) ["name","kind"] by decide +kernel) rfl (Or.inl rfl)) (am (ag (i:=1) (show List.Nodup (α:=Str) ["name","kind"] by decide +kernel) rfl (Or.inl rfl)) aI)))) (λ_ _ _ _=>(pv 0))) (@pss_one _ _ _ (@ps_ret _ _ _ _ (pe_callB (call_allN (K:=K) rfl rfl) rfl T.z_all boot_all (@pa1 _ _ _ (aC rfl (cs0 (NL:=["ahead","behind"]) rfl (by decide +kernel) (by decide +kernel)) (y9 rfl T.z_zip (@pa2 _ _ _ _ _ (pv 2) (bP (uL (K:=K) rfl) (pv 2) (cA pe_int) cz) (by rfl) (by rfl))) (λ_ _ _ _=>(bL (K:=K) (n:=2) rfl rfl (am (ag (i:=0) (show List.Nodup (α:=Str) ["ahead","behind"] by decide +kernel) rfl (Or.inl rfl)) (am (ag (i:=1) (show List.Nodup (α:=Str) ["ahead","behind"] by decide +kernel) rfl (Or.inl rfl)) aI)))) (λ_ _ _ _=>(pe_cmpR rV (pv 0) (pv 1) (nomark _)))) (by rfl)))))))),?_⟩
 cases d with
 | non=>cases ok
 | bl=>cases ok
 | int i =>
  cases hd
  exact ⟨_,rfl,_,_,_,rfl,.int_tuple,_,rfl,aG (aG (q H (Same.refl H)))⟩
 | str z =>
  cases hd
  exact ⟨_,rfl,_,_,_,rfl,.str_tuple,_,rfl,aG (aG (q H (Same.refl H)))⟩
 | tup ds =>
  obtain ⟨a,xs,rfl,ha,pa,ra⟩:=id hd.unref;have el:=ra.length;replace q:∀ H',Same H H'->Q (.bl (decide (ds.length<=8) && ds.all (aM (au r)) && sZ (ds.map nmD))) H':=q;refine ⟨_,rfl,_,_,_,rfl,.tup_tuple ha,_,rfl,aL ?_⟩;refine ⟨_,rfl,_,_,rfl,hd.d,_,_,rfl,rfl,_,rfl,dS (λc1=>?_) (λc1=>?_)⟩
  ·have l2:¬ ds.length<=8:=by
    have:(8:Int) < ds.length:=of_decide_eq_true c1;lia
   rw [decide_eq_false l2,aAJ,aAJ] at q;exact q H (Same.refl H)
  have l2:ds.length<=8:=by
   have:¬ ((8:Int) < ds.length):=by simpa using c1
   lia
  rw [decide_eq_true l2,aA0] at q;refine ⟨_,rfl,a,rfl,⟨_,ha⟩,λl hln=>?_⟩;refine bn (K:=K) (xs:=xs) (λi ys σ H'=>ys=bls ((ds.take i).map (aM (au r)))/\Same H H'/\H' l=some (.lst ys)/\∃ v,σ=[v,some (.int r)]) ⟨rfl,ae hln _,aa,none,rfl⟩ (λi ys σ H' _ r=>r.2.1.tup ha) ?_ ?_
  ·rintro i y ys σ H1 N hy ⟨rfl,g,e1,v,rfl⟩ next;obtain ⟨d,hdi,hp⟩:=ra.get' hy;have nx:bls ((ds.take i).map (aM (au r)))++[V.bl (aM (au r) d)]=bls ((ds.take (i+1)).map (aM (au r))):=by
    show List.map V.bl _++[V.bl _]=List.map V.bl _;rw [aAv,aAv];exact ce (V.bl ∘ aM (au r)) hdi
   have hlen:(bls ((ds.take i).map (aM (au r)))).length < sizeLine:=by
    simp only [bls,aAb,aAp];exact ai (by lia)
   exact ⟨_,rfl,_,rfl,r,d,y,hrn,rfl,hp.same g,aV ok d (aAs hdi),λH2 g2=>⟨g2 _ _ e1,hlen,next _ _ _ ⟨nx,ar hln (g.trans g2),aa,_,rfl⟩⟩⟩
  ·rintro ys σ H1 ⟨rfl,g,e1,v,rfl⟩;rw [<- el,aAt] at e1;refine ⟨l,ds.map (aM (au r)),rfl,rfl,SqL.of e1,_,rfl,?_⟩;have ea:(ds.map (aM (au r))).all id=ds.all (aM (au r)):=by rw [aA8];rfl
   rw [ea]
   cases hb:ds.all (aM (au r)) with
   | false =>
    rw [hb,aAJ] at q;exact aG (q H1 g)
   | true =>
    rw [hb,aA0] at q;refine aL ?_;refine ⟨_,rfl,a,rfl,⟨_,g.tup ha⟩,λl2 hl2=>?_⟩;refine bn (K:=K) (xs:=xs) (λi ys σ H'=>ys=(ds.take i).map (λd=>V.str (nmD d))/\Same H1 H'/\H' l2=some (.lst ys)/\σ.length=2) ⟨rfl,ae hl2 _,aa,rfl⟩ (λi ys σ H' _ r=>(g.trans r.2.1).tup ha) ?_ ?_
    ·rintro i y ys σ H2 N hy ⟨rfl,g2,e2,hσ⟩ next;obtain ⟨d,hdi,hp⟩:=ra.get' hy;obtain ⟨z,k,rfl,_,_⟩:=fP (aAO.mp hb d (aAs hdi));obtain ⟨b,x1,y2,rfl,hb',hp1,hp2⟩:=aA ((hp.same g).same g2);obtain rfl:=bi hp1
     match σ,hσ with
     | [_,_],_ =>
      refine ⟨b,_,rfl,hb',rfl,_,_,rfl,_,_,rfl,rfl,?_⟩;refine ⟨_,rfl,e2,?_,next _ _ _ ⟨ce (λd=>V.str (nmD d)) hdi,ar hl2 g2,aa,rfl⟩⟩;rw [aAb,aAp];exact ai (by lia)
    ·rintro ys σ H2 ⟨rfl,g2,e2,hσ⟩;rw [<- el,aAt] at e2;have en:ds.map (λd=>V.str (nmD d))=(ds.map nmD).map V.str:=by rw [aAv];rfl
     rw [en] at e2;have lns:(ds.map nmD).length=ds.length:=aAb ..
     generalize ds.map nmD=ns at *
     refine ⟨_,rfl,_,rfl,_,rfl,l2,_,rfl,SqL.of e2,λl3 hl3=>?_⟩;have n23:l2≠l3:=af e2 hl3;have ec:lC (ns.map V.str) (some 1) none=(ns.drop 1).map V.str:=by rw [tj,List.map_drop]
     rw [ec];have e2':(upd H2 l3 (.lst ((ns.drop 1).map V.str))) l2=some (.lst (ns.map V.str)):=by rw [ao n23];exact e2
     refine ⟨l2,l3,rfl,⟨_,SqL.of e2'⟩,⟨_,SqL.of aa⟩,λl4 hl4=>?_⟩;have g4:=(ae hl3 (.lst ((ns.drop 1).map V.str)));refine sJ (K:=K) (xs:=ns.map V.str) (ys:=(ns.drop 1).map V.str) (λi ys σ H'=>ys=bls (((ns.zip (ns.drop 1)).take i).map λp=>decide (ltS p.1 p.2))/\Same (upd H2 l3 (.lst ((ns.drop 1).map V.str))) H'/\H' l4=some (.lst ys)/\σ.length=2) ⟨rfl,ae hl4 _,aa,rfl⟩ (λi us σ H' r=>⟨SqL.of (r.2.1 _ _ e2'),SqL.of (r.2.1 _ _ aa)⟩) ?_ ?_
     ·rintro i x y T us σ H5 N hx hy hT ⟨rfl,g5,e5,hσ⟩ next;rw [aAc] at hx hy;obtain ⟨a1,ha1,rfl⟩:=aAd.mp hx;obtain ⟨b1,hb1,rfl⟩:=aAd.mp hy;have n4:l4≠T:=af e5 hT;have hz:(ns.zip (ns.drop 1))[i]?=some (a1,b1):=List.getElem?_zip_eq_some.mpr ⟨ha1,hb1⟩;have li:=(aAg.mp hz).1;rw [List.length_zip] at li
      match σ,hσ with
      | [_,_],_ =>
       refine ⟨T,_,rfl,.inl (.inl aa),rfl,_,_,rfl,_,_,rfl,rfl,?_⟩;refine ⟨_,rfl,_,rfl,_,_,rfl,rfl,by rw [ao n4];exact e5,?_,next _ _ _ ⟨?_,?_,aa,rfl⟩⟩
       ·simp only [bls,aAb,aAp];exact ai (by lia)
       ·show List.map V.bl _++[V.bl (decide (ltS a1 b1))]=List.map V.bl _;rw [aAv,aAv];exact ce (V.bl ∘ λp:Str×Str=>decide (ltS p.1 p.2)) hz
       ·exact ar hl4 (g5.trans (ae hT _))
     ·rintro us σ H5 ⟨rfl,g5,e5,hσ⟩;rw [aAb,aAb,<- List.length_zip,aAt] at e5;refine ⟨l4,_,rfl,rfl,SqL.of e5,?_⟩;rw [aA8];exact q H5 (((g.trans g2).trans g4).trans g5)
def jU (K:W.Frag) (_:Ads):Sp:=λvs H Q _=>∃ (fs:List Dt) (key:Dt) (x y:V),vs=[x,y]/\IsP K H (.tup [.str "record",.tup fs]) x/\IsP K H key y/\(∀ d∈fs,∃ z k,d=.tup [.str z,k])/\xE K H (a8 fs key) Q
theorem qg {fs:List Dt} {key:Dt} (h:∀ d∈fs,jm key d=false):a8 fs key=none:=by
 unfold a8;rw [aBJ.mpr (λd hd=>by rw [h d hd];exact aAu)]
theorem oF {fs:List Dt} {key o k:Dt} {i:Nat} (h:fs[i]?=some (.tup [o,k])) (hk:eqD o key=true) (pre:∀ j d,j < i->fs[j]?=some d->jm key d=false):a8 fs key=some k:=by
 have e:fs.find? (jm key)=some (.tup [o,k]):=by
  obtain ⟨li,ei⟩:=aAg.mp h;rw [List.find?_eq_some_iff_getElem];refine ⟨hk,i,li,ei,λj hj=>?_⟩;have:=pre j _ hj (aAj (aAT hj li));rw [this]
  rfl
 unfold a8;rw [e]
theorem bh (T:Tx K mg ad) {f:Addr} {fd:FuncData} (F:Gn K mg "field_kind" dB ["kind","name"] f fd):FnOk P w K mg base CX0 1 f fd ["kind","name"] (jU K ad):=by
 refine F.F.ok cR (λvs H Q E h=>?_) (λcdv A outer s H vs Q E hr h=>?_)
 ·obtain ⟨fs,key,x,y,rfl,_⟩:=h
  rfl
 obtain ⟨fs,key,x,y,rfl,hd,hk,prs,q'⟩:=h;refine ⟨_,(@pss_cons _ _ _ _ _ (@ps_if _ _ _ _ _ _ _ _ (pt_cmpR op_ne (@pi1 K _ _ _ _ _ _ _ rfl (pv 0)) pe_str (nomark _)) (@pss_one _ _ _ (@ps_ret _ _ _ _ pe_non)) pss_nil) (@pss_cons _ _ _ _ _ (ps_for PassesOwn.never rfl (pi_tupN (K:=K) rfl (@pi1 K _ _ _ _ _ _ _ rfl (pv 0))) (cI rfl (am (ag (i:=2) cR.nd rfl (Or.inl rfl)) (am (ag (i:=3) cR.nd rfl (Or.inl rfl)) aI)))
    (@pss_one _ _ _ (@ps_if _ _ _ _ _ _ _ _ (pt_cmpR (iZ (K:=K) rfl hr.units) (pv 2) (pv 1) (nomark _)) (@pss_one _ _ _ (@ps_ret _ _ _ _ (pv 3))) pss_nil))) (@pss_one _ _ _ (@ps_ret _ _ _ _ pe_non)))),?_⟩
 refine ⟨_,rfl,_,_,_,hd,rfl,rfl,isS ?_⟩;refine ⟨rfl,_,rfl,jn ⟨_,rfl,_,_,_,hd,rfl,rfl,λv hv=>?_⟩⟩;obtain ⟨a,xs,rfl,ha,pa,ra⟩:=hv.unref;have el:=ra.length;refine ⟨a,rfl,⟨xs,ha⟩,fY (xs:=xs) (λi σ H'=>H'=H/\(∀ j d,j < i->fs[j]?=some d->jm key d=false)/\∃ v1 v2,σ=[some x,some y,v1,v2]) ⟨rfl,λj f hj=>absurd hj (aBo _),_,_,rfl⟩ (λi σ H' _ p=>p.1 ▸ ha) ?_ ?_⟩
 ·rintro i u σ H' hu ⟨rfl,pre,v1,v2,rfl⟩;obtain ⟨e,he,hp⟩:=ra.get' hu;obtain ⟨z,k,rfl⟩:=prs e (aAs he);obtain ⟨b,x1,y2,rfl,hb,hp1,hp2⟩:=aA hp;refine ⟨b,_,rfl,hb,rfl,_,_,rfl,_,_,rfl,rfl,?_⟩;refine ⟨_,rfl,_,rfl,.str z,key,hp1.d,hk.d,(by show 0<=60;decide),_,rfl,dS (λc=>?_) (λc=>?_)⟩
  ·rw [oF he c pre] at q';exact ⟨_,rfl,q' _ hp2⟩
  ·refine ⟨rfl,λj f hj hjf=>?_,_,_,rfl⟩;rcases aBV.mp hj with h1 | h1
   ·exact pre j f h1 hjf
   ·subst h1;rw [he] at hjf;obtain rfl:=Option.some.inj hjf;exact aBh.mpr c
 ·rintro σ H' ⟨rfl,pre,v1,v2,rfl⟩;rw [qg (λd hd=>by
   obtain ⟨j,hj,e⟩:=aBj.mp hd;exact pre j d (by lia) (by rw [aAj hj,e]))] at q'
  exact q'
theorem zv (w:Str):inV (.str w) [.str "number",.str "text"]=(decide (w= "number") || decide (w= "text")):=by
 have e:∀ a:Str,eqV (.str a) (.str w)=decide (w=a):=λa=>by
  show (a == w)=decide (w=a);rw [aAQ,decide_eq_true_iff,beq_iff_eq];exact ⟨Eq.symm,Eq.symm⟩
 show (eqV (.str "number") (.str w) || (eqV (.str "text") (.str w) || false))=_;rw [e,e,aBL]
theorem bo (d:Dt):au 0 d=false:=by simp [au]
theorem jp {r:Nat} {d:Dt} (h:au r d=true):∃ u l,d=.tup (.str u :: l):=by
 unfold au at h
 split at h <;> first | exact ⟨_,_,rfl⟩ | cases h
theorem u8 {r:Nat} {l:List Dt} (h:au r (.tup (.str "record" :: l))=true):∃ r' fs,r=r' + 1/\l=[.tup fs]/\fs.all (aM (au r'))=true:=by
 cases r with
 | zero=>rw [bo] at h;cases h
 | succ r =>
  match l with
  | []=>cases h
  | [a] =>
   have h':l5 (au r) a=true:=h
   cases a with
   | tup fs =>
    have h2:(decide (fs.length<=8) && fs.all (aM (au r)) && sZ (fs.map nmD))=true:=h';rw [aAA,aAA] at h2;exact ⟨r,fs,rfl,rfl,h2.1.2⟩
   | _=>cases h'
  | [a,b]=>cases h
  | [a,b,c]=>cases h
  | a :: b :: c :: e :: l=>cases h
theorem xG {f:Dt->Bool} {key:Dt} {u:Str} {l:List Dt} (h:u≠ "record"):fB f key (.tup (.str u :: l))=false:=by
 unfold fB
 split
 ·rename_i e
  injection e with e
  injection e with e _
  injection e with e
  subst e;rw [decide_eq_false h,aAJ,aBa]
 ·exact aBa _
theorem vd {fs:List Dt} {key k:Dt} (h:a8 fs key=some k):∃ o,.tup [o,k]∈fs:=by
 unfold a8 at h
 split at h
 ·rename_i o k' e
  obtain rfl:=Option.some.inj h;exact ⟨o,aBR e⟩
 ·cases h
theorem oG (T:Tx K mg ad) {f ff:Addr} {fd fdf:FuncData} (n:Nat) (F:Gn K mg "are_rows" cq ["key","items","room"] f fd) (Ce:Gn K mg "is_formed" br ["thing","room"] ff fdf)
  (Cp:FnOk P w K mg base CX0 (3*n+3) ff fdf ["thing","room"] (oD K n)):FnOk P w K mg base CX0 (3*n+3+1) f fd ["key","items","room"] (u7 K n):=by
 obtain ⟨_,_,BY⟩:=T.field_kind;have Cd:=bh (P:=P) (w:=w) (base:=base) T BY;refine F.F.ok sc_are_rows (λvs H Q E h=>?_) (λcdv A outer s H vs Q E hr h=>?_)
 ·obtain ⟨r,key,items,x,y,_,rfl,_⟩:=h
  rfl
 obtain ⟨r,key,items,x,y,hrn,rfl,hx,hy,okk,oki,q⟩:=h;refine ⟨_,(@pss_cons _ _ _ _ _ (@ps_if _ _ _ _ _ _ _ _ (PW.pt (@pw_or _ _ _ _ _ _ _ (@pt_not _ _ _ _ (@pt_val _ _ _ (0,Ce,Cp,@pa2 _ _ _ _ _ (pv 1) (pv 2) (by rfl) (by rfl)) (by intro _;rfl))) (@pw_or1 _ _ _ _ (pt_cmpR op_ne (@pi1 K _ _ _ _ _ _ _ rfl (pv 1)) pe_str (nomark _))))) (@pss_one _ _ _ (@ps_ret _ _ _ _ pe_bl)) pss_nil) (@pss_cons _ _ _ _ _ (@ps_set _ _ 3 _ _ _ _ sc_are_rows.nd rfl (Or.inl rfl) (0,BY,Cd,@pa2 _ _ _ _ _ (pv 1) (pv 0) (by rfl) (by rfl)) (by rfl) (.inl rfl)) (@pss_one _ _ _ (@ps_ret _ _ _ _ (pe_and (pe_cmpR op_notN (pv 3) pe_non (nomark _)) (pe_one (pe_cmpR (op_in_seqK (K:=K) rfl) (@pi1 K _ _ _ _ _ _ _ rfl (pv 3)) (@pe_tupPK _ K _ _ _ _ rfl (@pa2 _ _ _ _ _ pe_str pe_str (by rfl) (by rfl))) rfl))))))),?_⟩;refine ⟨_,rfl,_,rfl,r,items,y,hrn,rfl,hy,oki,λH1 g1=>⟨_,rfl,?_⟩⟩
 cases hb:au r items with
 | false =>
  have e:fB (au r) key items=false:=by unfold fB;rw [hb,aAJ]
  rw [e] at q;exact aG (aG (q H1 g1))
 | true =>
  obtain ⟨u,l,rfl⟩:=jp hb;refine aL ?_;refine ⟨_,rfl,_,_,_,hy.same g1,rfl,at0 _ _,λv hv=>?_⟩;obtain rfl:=bi hv;refine ⟨rfl,_,rfl,?_⟩
  by_cases hu:u= "record"
  ·subst hu;obtain ⟨r',fs,rfl,rfl,hall⟩:=u8 hb;have e:fB (au (r' + 1)) key (.tup [.str "record",.tup fs])=q9 (a8 fs key):=by
    unfold fB;rw [hb]
    rfl
   rw [e] at q;refine jn ?_;refine ⟨_,rfl,_,rfl,fs,key,y,x,rfl,hy.same g1,hx.same g1,λd hd=>?_,?_⟩
   ·obtain ⟨z,k,rfl,_⟩:=fP (aAO.mp hall d hd);exact ⟨z,k,rfl⟩
   cases hl:a8 fs key with
   | none =>
    rw [hl] at q;exact ⟨_,rfl,rfl,_,rfl,aL (q H1 g1)⟩
   | some k =>
    rw [hl] at q;obtain ⟨o,hm⟩:=vd hl;obtain ⟨z,k',e2,_,fk⟩:=fP (aAO.mp hall _ hm);injection e2 with e2
    injection e2 with e2 e3
    injection e3 with e3 _
    subst e3;obtain ⟨w1,l1,rfl⟩:=jp fk;intro v hv;obtain ⟨av,xv,rfl,_⟩:=id hv.unref;refine ⟨_,rfl,rfl,_,rfl,?_⟩;rw [decide_eq_false (show ¬ (V.ref av=V.non) by intro z;cases z)];refine aG ?_;refine ⟨_,rfl,_,_,_,hv,rfl,at0 _ _,isS ?_⟩;refine ⟨[.str "number",.str "text"],.cons .str (.cons .str .nil),sz2,λv3 H3 g3 hv3=>?_⟩;obtain ⟨a3,x3,rfl,hT3,_,r3⟩:=id hv3.unref;obtain rfl:=fO (ws:=["number","text"]) r3;refine ⟨a3,_,rfl,.inr hT3,rfl,rfl,?_⟩;show Q (.bl (inV (.str w1) [.str "number",.str "text"])) H3;rw [zv];exact q H3 (g1.trans g3)
  ·rw [xG hu] at q;exact yq (aD hu) (q H1 g1)
theorem oH {d:Dt} (h:ci d=true):(∃ a b,d=.tup [.str "number",a,b])\/(∃ a,d=.tup [.str "text",a])\/(∃ a,d=.tup [.str "choice",a])\/(∃ a b,d=.tup [.str "list",a,b])\/(∃ a,d=.tup [.str "record",a])\/(∃ a b c,d=.tup [.str "rows",a,b,c]):=by
 unfold ci at h
 split at h
 ·rename_i u l
  have h:=of_decide_eq_true h;have l1:∀ {l:List Dt},(2:Int)=((l.length+1:Nat):Int)->∃ a,l=[a]:=λ{l} e=>by
   match l with
   | []=>exact absurd e (by decide)
   | [a]=>exact ⟨a,rfl⟩
   | a :: b :: l=>exact absurd e (by simp only [aAx];lia)
  have l2:∀ {l:List Dt},(3:Int)=((l.length+1:Nat):Int)->∃ a b,l=[a,b]:=λ{l} e=>by
   match l with
   | []=>exact absurd e (by decide)
   | [a]=>exact absurd e (by simp only [aAx,aBd];lia)
   | [a,b]=>exact ⟨a,b,rfl⟩
   | a :: b :: c :: l=>exact absurd e (by simp only [aAx];lia)
  have l3:∀ {l:List Dt},(4:Int)=((l.length+1:Nat):Int)->∃ a b c,l=[a,b,c]:=λ{l} e=>by
   match l with
   | []=>exact absurd e (by decide)
   | [a]=>exact absurd e (by simp only [aAx,aBd];lia)
   | [a,b]=>exact absurd e (by simp only [aAx,aBd];lia)
   | [a,b,c]=>exact ⟨a,b,c,rfl⟩
   | a :: b :: c :: d :: l=>exact absurd e (by simp only [aAx];lia)
  by_cases e1:u= "number"
  ·subst e1;obtain ⟨a,b,rfl⟩:=l2 (V.int.inj h);exact .inl ⟨a,b,rfl⟩
  by_cases e2:u= "text"
  ·subst e2;obtain ⟨a,rfl⟩:=l1 (V.int.inj h);exact .inr (.inl ⟨a,rfl⟩)
  by_cases e3:u= "choice"
  ·subst e3;obtain ⟨a,rfl⟩:=l1 (V.int.inj h);exact .inr (.inr (.inl ⟨a,rfl⟩))
  by_cases e4:u= "list"
  ·subst e4;obtain ⟨a,b,rfl⟩:=l2 (V.int.inj h);exact .inr (.inr (.inr (.inl ⟨a,b,rfl⟩)))
  by_cases e5:u= "record"
  ·subst e5;obtain ⟨a,rfl⟩:=l1 (V.int.inj h);exact .inr (.inr (.inr (.inr (.inl ⟨a,rfl⟩))))
  by_cases e6:u= "rows"
  ·subst e6;obtain ⟨a,b,c,rfl⟩:=l3 (V.int.inj h);exact .inr (.inr (.inr (.inr (.inr ⟨a,b,c,rfl⟩))))
  exfalso
  simp only [q8,bQ,e1,e2,e3,e4,e5,e6,if_false] at h
  cases h
 ·cases h
theorem zw:bQ "number" [("number",3),("text",2),("choice",2),("list",3),("record",2),("rows",4)]=.int 3:=by decide +kernel
theorem zx:bQ "text" [("number",3),("text",2),("choice",2),("list",3),("record",2),("rows",4)]=.int 2:=by decide +kernel
theorem zy:bQ "choice" [("number",3),("text",2),("choice",2),("list",3),("record",2),("rows",4)]=.int 2:=by decide +kernel
theorem zA:bQ "list" [("number",3),("text",2),("choice",2),("list",3),("record",2),("rows",4)]=.int 3:=by decide +kernel
theorem zB:bQ "record" [("number",3),("text",2),("choice",2),("list",3),("record",2),("rows",4)]=.int 2:=by decide +kernel
theorem zC:bQ "rows" [("number",3),("text",2),("choice",2),("list",3),("record",2),("rows",4)]=.int 4:=by decide +kernel
theorem qh {r:Nat} {d:Dt} (h:ci d=false):au r d=false:=by
 cases hb:au r d with
 | false=>rfl
 | true =>
  exfalso
  unfold au at hb
  split at hb
  ·cases hb
  ·rename_i u a
   split at hb
   ·subst_vars
    rw [show ci (.tup [.str "text",a])=true from decide_eq_true zx] at h
    cases h
   ·split at hb
    ·subst_vars
     rw [show ci (.tup [.str "choice",a])=true from decide_eq_true zy] at h
     cases h
    ·split at hb
     ·subst_vars
      rw [show ci (.tup [.str "record",a])=true from decide_eq_true zB] at h
      cases h
     ·cases hb
  ·rename_i u a b
   split at hb
   ·subst_vars
    rw [show ci (.tup [.str "number",a,b])=true from decide_eq_true zw] at h
    cases h
   ·split at hb
    ·subst_vars
     rw [show ci (.tup [.str "list",a,b])=true from decide_eq_true zA] at h
     cases h
    ·cases hb
  ·rename_i u a b c
   split at hb
   ·subst_vars
    rw [show ci (.tup [.str "rows",a,b,c])=true from decide_eq_true zC] at h
    cases h
   ·cases hb
  ·cases hb
theorem mi (T:Tx K mg ad) {f ff fr:Addr} {fd fdf fdr:FuncData} (n:Nat) (Ce:Gn K mg "is_formed" br ["thing","room"] f fd) (DP:Gn K mg "are_fields" aX ["fields","room"] ff fdf) (D9:Gn K mg "are_rows" cq ["key","items","room"] fr fdr)
  (Cp:FnOk P w K mg base CX0 (3*n+3) f fd ["thing","room"] (oD K n)) (DN:FnOk P w K mg base CX0 (3*n+5) ff fdf ["fields","room"] (re K n)) (Ed:FnOk P w K mg base CX0 (3*n+4) fr fdr ["key","items","room"] (u7 K n)) :
  FnOk P w K mg base CX0 (3*n+5+1) f fd ["thing","room"] (oD K (n+1)):=by
 obtain ⟨_,_,Dp⟩:=T.has_parts;have D6:=mf (P:=P) (w:=w) (base:=base) T Dp;obtain ⟨_,_,Di⟩:=T.are_bounds;have DU:=jS (P:=P) (w:=w) (base:=base) T Di;obtain ⟨_,_,B6⟩:=T.is_whole_within;have Ci:=cj (P:=P) (w:=w) (base:=base) T B6;obtain ⟨_,_,Dv⟩:=T.are_words;have DZ:=mh (P:=P) (w:=w) (base:=base) T Dv;obtain ⟨t_MOST_SIGNS,c_MOST_SIGNS⟩:=T.MOST_SIGNS;obtain ⟨t_MOST_ITEMS,c_MOST_ITEMS⟩:=T.MOST_ITEMS;refine Ce.F.ok sc_is_formed (λvs H Q E h=>?_) (λcdv A outer s H vs Q E hr h=>?_)
 ·obtain ⟨r,d,x,_,rfl,_⟩:=h
  rfl
 obtain ⟨r,d,x,hrn,rfl,hd,ok,q⟩:=h;refine ⟨_,(@pss_cons _ _ _ _ _ (@ps_if _ _ _ _ _ _ _ _ (PW.pt (@pw_or _ _ _ _ _ _ _ (pt_cmpR op_eq (pv 1) pe_int (nomark _)) (@pw_or1 _ _ _ _ (@pt_not _ _ _ _ (@pt_val _ _ _ (0,Dp,D6,@pa1 _ _ _ (pv 0) (by rfl)) (by intro _;rfl)))))) (@pss_one _ _ _ (@ps_ret _ _ _ _ pe_bl)) pss_nil) (@pss_cons _ _ _ _ _ (@ps_set _ _ 2 _ _ _ _ sc_is_formed.nd rfl (Or.inl rfl) (@pi1 K _ _ _ _ _ _ _ rfl (pv 0)) (by rfl) (.inl rfl)) (@pss_cons _ _ _ _ _ (@ps_if _ _ _ _ _ _ _ _ (pt_cmpR op_eq (pv 2) pe_str (nomark _)) (@pss_one _ _ _ (@ps_ret _ _ _ _ (0,Di,DU,@pa2 _ _ _ _ _ (@pi1 K _ _ _ _ _ _ _ rfl (pv 0)) (@pi1 K _ _ _ _ _ _ _ rfl (pv 0)) (by rfl) (by rfl)))) pss_nil) (@pss_cons _ _ _ _ _ (@ps_if _ _ _ _ _ _ _ _ (pt_cmpR op_eq (pv 2) pe_str (nomark _)) (@pss_one _ _ _ (@ps_ret _ _ _ _ (0,B6,Ci,@pa3 _ _ _ _ _ _ _ (@pi1 K _ _ _ _ _ _ _ rfl (pv 0)) pe_int (pe_gint rfl c_MOST_SIGNS) (by rfl) (by rfl) (by rfl)))) pss_nil) (@pss_cons _ _ _ _ _ (@ps_if _ _ _ _ _ _ _ _ (pt_cmpR op_eq (pv 2) pe_str (nomark _)) (@pss_one _ _ _ (@ps_ret _ _ _ _ (0,Dv,DZ,@pa1 _ _ _ (@pi1 K _ _ _ _ _ _ _ rfl (pv 0)) (by rfl)))) pss_nil) (@pss_cons _ _ _ _ _ (@ps_if _ _ _ _ _ _ _ _ (pt_cmpR op_eq (pv 2) pe_str (nomark _)) (@pss_one _ _ _ (@ps_ret _ _ _ _ (pe_and (0,Ce,Cp,@pa2 _ _ _ _ _ (@pi1 K _ _ _ _ _ _ _ rfl (pv 0)) (@pe_op _ _ _ _ _ _ _ _ op_sub (pv 1) pe_int) (by rfl) (by rfl)) (pe_one (0,B6,Ci,@pa3 _ _ _ _ _ _ _ (@pi1 K _ _ _ _ _ _ _ rfl (pv 0)) pe_int (pe_gint rfl c_MOST_ITEMS) (by rfl) (by rfl) (by rfl)))))) pss_nil) (@pss_cons _ _ _ _ _ (@ps_if _ _ _ _ _ _ _ _ (pt_cmpR op_eq (pv 2) pe_str (nomark _)) (@pss_one _ _ _ (@ps_ret _ _ _ _ (0,DP,DN,@pa2 _ _ _ _ _ (@pi1 K _ _ _ _ _ _ _ rfl (pv 0)) (@pe_op _ _ _ _ _ _ _ _ op_sub (pv 1) pe_int) (by rfl) (by rfl)))) pss_nil) (@pss_one _ _ _ (@ps_ret _ _ _ _ (pe_and (0,D9,Ed,@pa3 _ _ _ _ _ _ _ (@pi1 K _ _ _ _ _ _ _ rfl (pv 0)) (@pi1 K _ _ _ _ _ _ _ rfl (pv 0)) (@pe_op _ _ _ _ _ _ _ _ op_sub (pv 1) pe_int) (by rfl) (by rfl) (by rfl)) (pe_one (0,B6,Ci,@pa3 _ _ _ _ _ _ _ (@pi1 K _ _ _ _ _ _ _ rfl (pv 0)) pe_int (pe_gint rfl c_MOST_ITEMS) (by rfl) (by rfl) (by rfl))))))))))))),?_⟩;refine ⟨_,rfl,rfl,_,rfl,?_⟩
 cases r with
 | zero =>
  rw [bo] at q;exact aQ (aG (q H (Same.refl H)))
 | succ r =>
  refine iteN (λz=>by have:=V.int.inj z;lia) ?_;have e1:(((r+1:Nat):Int)) - 1=(r:Int):=by lia
  refine ⟨_,rfl,d,x,rfl,hd,ok,_,rfl,?_⟩
  cases hb:ci d with
  | false =>
   rw [qh hb] at q;exact aG (q H (Same.refl H))
  | true =>
   refine aL ?_;rcases oH hb with ⟨a,b,rfl⟩ | ⟨a,rfl⟩ | ⟨a,rfl⟩ | ⟨a,b,rfl⟩ | ⟨a,rfl⟩ | ⟨a,b,c,rfl⟩
   ·refine ⟨_,rfl,_,_,_,hd,rfl,rfl,isS ?_⟩;refine ⟨_,rfl,rfl,_,rfl,aQ ?_⟩;refine ⟨_,rfl,_,_,_,hd,rfl,rfl,λva hva=>?_⟩;refine ⟨_,rfl,_,_,_,hd,rfl,rfl,λvb hvb=>?_⟩;exact ⟨a,b,va,vb,rfl,hva,hvb,aV ok a (by simp),aV ok b (by simp),q H (Same.refl H)⟩
   ·refine ⟨_,rfl,_,_,_,hd,rfl,rfl,isS ?_⟩;refine ⟨_,rfl,rfl,_,rfl,iteN (aD (by decide)) ?_⟩;refine ⟨_,rfl,rfl,_,rfl,aQ ?_⟩;refine ⟨_,rfl,_,_,_,hd,rfl,rfl,λva hva=>?_⟩;exact ⟨a,va,0,60,rfl,hva,aV ok a (by simp),q H (Same.refl H)⟩
   ·refine ⟨_,rfl,_,_,_,hd,rfl,rfl,isS ?_⟩;refine ⟨_,rfl,rfl,_,rfl,iteN (aD (by decide)) ?_⟩;refine ⟨_,rfl,rfl,_,rfl,iteN (aD (by decide)) ?_⟩;refine ⟨_,rfl,rfl,_,rfl,aQ ?_⟩;refine ⟨_,rfl,_,_,_,hd,rfl,rfl,λva hva=>?_⟩;exact ⟨a,va,rfl,hva,aV ok a (by simp),q⟩
   ·replace q:∀ H',Same H H'->Q (.bl (au r a && bZ b 0 8)) H':=q;refine ⟨_,rfl,_,_,_,hd,rfl,rfl,isS ?_⟩;refine ⟨_,rfl,rfl,_,rfl,iteN (aD (by decide)) ?_⟩;refine ⟨_,rfl,rfl,_,rfl,iteN (aD (by decide)) ?_⟩;refine ⟨_,rfl,rfl,_,rfl,iteN (aD (by decide)) ?_⟩;refine ⟨_,rfl,rfl,_,rfl,aQ ?_⟩;refine ⟨_,rfl,_,_,_,hd,rfl,rfl,λva hva=>?_⟩;refine ⟨_,rfl,_,_,rfl,rfl,r,a,va,by lia,(by show [va,V.int (((r+1:Nat):Int) - 1)]=_;rw [e1]),hva,aV ok a (by simp),λH1 g1=>⟨_,rfl,?_⟩⟩
    cases hf:au r a with
    | false =>
     rw [hf,aAJ] at q;exact aL (q H1 g1)
    | true =>
     rw [hf,aA0] at q;refine aG ?_;refine ⟨_,rfl,_,_,_,hd.same g1,rfl,rfl,λvb hvb=>?_⟩;exact ⟨b,vb,0,8,rfl,hvb,aV ok b (by simp),q H1 g1⟩
   ·refine ⟨_,rfl,_,_,_,hd,rfl,rfl,isS ?_⟩;refine ⟨_,rfl,rfl,_,rfl,iteN (aD (by decide)) ?_⟩;refine ⟨_,rfl,rfl,_,rfl,iteN (aD (by decide)) ?_⟩;refine ⟨_,rfl,rfl,_,rfl,iteN (aD (by decide)) ?_⟩;refine ⟨_,rfl,rfl,_,rfl,iteN (aD (by decide)) ?_⟩;refine ⟨_,rfl,rfl,_,rfl,aQ ?_⟩;refine ⟨_,rfl,_,_,_,hd,rfl,rfl,λva hva=>?_⟩;exact ⟨_,rfl,_,_,rfl,rfl,r,a,va,by lia,(by show [va,V.int (((r+1:Nat):Int) - 1)]=_;rw [e1]),hva,aV ok a (by simp),q⟩
   ·replace q:∀ H',Same H H'->Q (.bl (fB (au r) a b && bZ c 0 8)) H':=q;refine ⟨_,rfl,_,_,_,hd,rfl,rfl,isS ?_⟩;refine ⟨_,rfl,rfl,_,rfl,iteN (aD (by decide)) ?_⟩;refine ⟨_,rfl,rfl,_,rfl,iteN (aD (by decide)) ?_⟩;refine ⟨_,rfl,rfl,_,rfl,iteN (aD (by decide)) ?_⟩;refine ⟨_,rfl,rfl,_,rfl,iteN (aD (by decide)) ?_⟩;refine ⟨_,rfl,rfl,_,rfl,iteN (aD (by decide)) ?_⟩;refine ⟨_,rfl,_,_,_,hd,rfl,rfl,λva hva=>?_⟩;refine ⟨_,rfl,_,_,_,hd,rfl,rfl,λvb hvb=>?_⟩;refine ⟨_,rfl,_,_,rfl,rfl,r,a,b,va,vb,by lia,(by show [va,vb,V.int (((r+1:Nat):Int) - 1)]=_;rw [e1]),hva,hvb,aV ok a (by simp),aV ok b (by simp),λH1 g1=>⟨_,rfl,?_⟩⟩
    cases hf:fB (au r) a b with
    | false =>
     rw [hf,aAJ] at q;exact aL (q H1 g1)
    | true =>
     rw [hf,aA0] at q;refine aG ?_;refine ⟨_,rfl,_,_,_,hd.same g1,rfl,rfl,λvc hvc=>?_⟩;exact ⟨c,vc,0,8,rfl,hvc,aV ok c (by simp),q H1 g1⟩
theorem jq (T:Tx K mg ad) {f ff fr fi:Addr} {fd fdf fdr fdi:FuncData} (A:Gn K mg "is_formed" br ["thing","room"] f fd) (B:Gn K mg "are_fields" aX ["fields","room"] ff fdf) (C:Gn K mg "are_rows" cq ["key","items","room"] fr fdr) (D:Gn K mg "is_field" cp ["field","room"] fi fdi) :
  ∀ n,FnOk P w K mg base CX0 (3*n+3) f fd ["thing","room"] (oD K n)
 | 0=>gr λvs H Q E z=>by obtain ⟨_,_,_,e,_⟩:=z;lia
 | n+1=>by
  have a:=jq T A B C D n;exact mi T n A B C a (jT T n B D (oE T n D A a)) (oG T n C A a)
theorem xH {a c:Nat} {d:Dt} (h:FK a c d):∃ w l,d=.tup (.str w :: l):=by
 cases h <;> exact ⟨_,_,rfl⟩
theorem ve {K:W.Frag} {H:Hp} {z:Str} {d:Dt} {v:V} (h:IsP K H (prD (z,d)) v):∃ b y,v=.ref b/\SqT K H b [.str z,y]/\IsP K H d y:=by
 obtain ⟨b,ys,rfl,hb,pb,rb⟩:=h.unref
 cases rb with
 | cons r1 rb =>
  cases rb with
  | @cons _ _ y2 _ r2 rb =>
   cases rb
   obtain rfl:=bi r1;exact ⟨b,_,rfl,hb,r2⟩
theorem rf {z:Str} (h:bu z=true):okD (.str z)=true:=by
 simp only [bu,aAA,decide_eq_true_eq] at h;exact decide_eq_true (by lia)
theorem gF {ws:List Str} (h:qb ws=true):1<=ws.length/\ws.length<=8/\ws.all bu=true/\ws.Nodup:=by
 simp only [qb,aAA,decide_eq_true_eq] at h;exact ⟨h.1.1.1,h.1.1.2,h.1.2,h.2⟩
theorem qi {ws:List Str} (h:ws.Nodup):oB ws=ws.length:=by
 unfold oB L2.gZ;rw [aAt,qS,List.length_reverse,aAb];exact List.pairwise_reverse.mpr (List.Pairwise.map _ (λa b n e=>n (Sum.inr.inj e).symm) h)
theorem qj {a b:Dt} (ha:okD a=true) (hb:okD b=true):okD (.tup [a,b])=true:=by
 show (okD a && (okD b && true))=true;rw [ha,hb]
 rfl
theorem yt {a c:Nat} {d:Dt} (h:FK a c d):okD d=true:=by
 induction h with
 | text i=>rfl
 | choice ws hw =>
  obtain ⟨_,_,hn,_⟩:=gF hw;refine qj (by decide +kernel) (qe λd hd=>?_);obtain ⟨z,hz,rfl⟩:=aAF.mp hd;exact rf (aAO.mp hn z hz)
 | number i j=>rfl
 | list g _ _ ih =>
  show (okD (.str "list") && (okD _ && (true && true)))=true;rw [ih]
  decide +kernel
 | @rows a c z l i g hz _ _ ih =>
  have hl:lZ l=true:=by
   have:(okD (.str "record") && (lZ l && true))=true:=ih;rw [aAA,Bool.and_true] at this;exact this.2
  obtain ⟨w1,l1,hm,_⟩:=hz;have h2:(okD (.str z) && lZ [.tup (.str w1 :: l1)])=true:=aV hl _ hm;rw [aAA] at h2;show (okD (.str "rows") && (okD (.str z) && (okD (.tup [.str "record",.tup l]) && (true && true))))=true;rw [h2.1,ih]
  decide +kernel
 | @rcd gs g hs hn hl ih =>
  refine qj (by decide +kernel) (qe λd hd=>?_);obtain ⟨u,hu,rfl⟩:=aAF.mp hd;exact qj (rf (hn u hu)) (ih u hu)
theorem zD {a c:Nat} {l:List Dt} (h:FK a c (.tup [.str "record",.tup l])):∃ gs:List G4,l=gs.map prG/\a=jQ (gs.map (·.2.2.1))+1/\c=sumN (gs.map (·.2.2.2))+1/\(∀ g∈gs,FK g.2.2.1 g.2.2.2 g.2.1)/\(gs.map (·.1)).Pairwise ltS/\(∀ g∈gs,bu g.1=true)/\gs.length<=8:=by
 cases h with
 | rcd h1 h2 h3 h4=>exact ⟨_,rfl,rfl,rfl,h1,h2,(λg hg=>(h3 g hg)),h4⟩
theorem A1 {gs:List G4} (nd:(gs.map (·.1)).Pairwise ltS) {g:G4} (h:g∈gs):a8 (gs.map prG) (.str g.1)=some g.2.1:=by
 obtain ⟨i,hi,e⟩:=aBj.mp h;have e1:gs[i]?=some g:=by rw [aAj hi,e]
 refine oF (i:=i) (o:=.str g.1) (by rw [aAc,e1];rfl) (dW _) λj d hj hf=>?_;rw [aAc] at hf;obtain ⟨g',hg',rfl⟩:=aAd.mp hf;have hjl:=(aAg.mp hg').1;have nd':=dZ nd;show (g'.1 == g.1)=false;rw [beq_eq_false_iff_ne];intro c;have f1:(gs.map (·.1))[j]'(by simpa using hjl)=g.1:=by
  rw [aBx,(aAg.mp hg').2];exact c
 have f2:(gs.map (·.1))[i]'(by simpa using hi)=g.1:=by
  rw [aBx,(aAg.mp e1).2]
 exact aBQ.mp nd' j i (by simpa using hjl) (by simpa using hi) hj (f1.trans f2.symm)
theorem vg:∀ {ns:List Str},ns.Pairwise ltS->sZ ns=true
 | [],_=>rfl
 | [_],_=>rfl
 | a :: b :: l,h=>by
  have h':=aBf.mp h;have:=vg h'.2;unfold sZ at this ⊢;rw [List.drop_one,List.tail_cons,List.zip_cons_cons,aBv,aAA];exact ⟨decide_eq_true (h'.1 b aAq),this⟩
theorem xI {a c:Nat} {d:Dt} (h:FK a c d):∀ n,au n d=decide (a<=n):=by
 induction h with
 | text i h1 h2 =>
  intro n
  cases n with
  | zero=>rw [bo];rfl
  | succ n =>
   show bZ (.int i) 0 60=_;simp [bZ,h1,h2]
 | choice ws hw =>
  obtain ⟨h1,h2,hn,nd⟩:=gF hw;intro n
  cases n with
  | zero=>rw [bo];rfl
  | succ n =>
   show (decide (1<=(ws.map Dt.str).length) && decide ((ws.map Dt.str).length<=8) && (ws.map Dt.str).all a7 && decide (oB ((ws.map Dt.str).map sY)=(ws.map Dt.str).length))=_;have e1:(ws.map Dt.str).map sY=ws:=by rw [aAv];exact List.map_id _
   have e2:(ws.map Dt.str).all a7=true:=by rw [aA8];exact hn
   rw [e1,e2,aAb,qi nd];simp [h1,h2]
 | number i j h1 h12 h2 =>
  intro n
  cases n with
  | zero=>rw [bo];rfl
  | succ n =>
   show (decide (-1000000000000000000000000000000<=i) && decide (i<=j) && decide (j<=1000000000000000000000000000000))=_;simp [h1,h12,h2]
 | @list a c k i g h1 h2 ih =>
  intro n
  cases n with
  | zero=>rw [bo];simp
  | succ n =>
   show (au n k && (decide ((0:Int)<=i) && decide (i<=8)))=_;rw [ih n];simp [h1,h2]
 | @rows a c z l i g hz h1 h2 ih =>
  intro n
  cases n with
  | zero=>rw [bo];simp
  | succ n =>
   show ((au n (.tup [.str "record",.tup l]) && (decide (Str.ofString "record" = "record") && q9 (a8 l (.str z)))) && (decide ((0:Int)<=i) && decide (i<=8)))=_;obtain ⟨gs,rfl,_,_,_,nd,_,_⟩:=zD g;obtain ⟨w1,l1,hm,hw⟩:=hz;obtain ⟨u,hu,eu⟩:=aAF.mp hm;have e1:u.1=z:=by injection eu with e;injection e with e _;injection e
   have e2:u.2.1=.tup (.str w1 :: l1):=by injection eu with e;injection e with _ e;injection e
   have e3:=A1 nd hu;rw [e1,e2] at e3;rw [ih n,e3,show q9 (some (.tup (.str w1 :: l1)))=true by show (decide (w1= "number") || decide (w1= "text"))=true;simpa using hw];simp [h1,h2]
 | @rcd gs g hs hn hl ih =>
  intro n
  cases n with
  | zero=>rw [bo];simp
  | succ n =>
   show (decide ((gs.map prG).length<=8) && (gs.map prG).all (aM (au n)) && sZ ((gs.map prG).map nmD))=_;have e1:(gs.map prG).map nmD=gs.map (·.1):=by rw [aAv];rfl
   have e2:(gs.map prG).all (aM (au n))=decide (jQ (gs.map (·.2.2.1))<=n):=by
    rw [aA8,aAQ,aAO,decide_eq_true_iff]
    constructor
    ·intro h;refine max_le λm hm=>?_;obtain ⟨u,hu,rfl⟩:=aAF.mp hm;have:=h u hu;have h':(bu u.1 && au n u.2.1)=true:=this;rw [aAA,ih u hu n] at h';exact of_decide_eq_true h'.2
    ·intro h u hu;show (bu u.1 && au n u.2.1)=true;rw [(hn u hu),ih u hu n,aA0];exact decide_eq_true (aAE (qc (aAF.mpr ⟨u,hu,rfl⟩)) h)
   rw [e1,vg hs,e2,aAb,decide_eq_true hl];simp
structure Wi (a c:Nat) (ks:List (Dt×Nat×Nat)):Prop where
 deep:a=jQ (ks.map (·.2.1))+1
 many:c=sumN (ks.map (·.2.2))+1
 each:∀ k∈ks,FK k.2.1 k.2.2 k.1
 few:ks.length<=8
def xJ (K:W.Frag):Sp:=λvs H Q _=>∃ (a c:Nat) (d:Dt) (x:V),vs=[x]/\IsP K H d x/\FK a c d/\∀ p ys ks H',Same H H'->H p=none->H' p=some (.lst ys)->IsPs K H' (ks.map (·.1)) ys->Wi a c ks->Q (.ref p) H'
abbrev iM (K:W.Frag) (_:Ads):Sp:=xJ K
theorem vh {a c:Nat} {k:Dt} (g:FK a c k):Wi (a+1) (c+1) [(k,a,c)]:=⟨by show a+1=max a 0+1;lia,rfl,λk' hk=>by rw [aAD.mp hk];exact g,by show 1<=8;decide⟩
theorem mj:Wi 1 1 []:=⟨rfl,rfl,(λk hk=>by cases hk),by decide⟩
theorem zE {gs:List G4} (g:∀ g∈gs,FK g.2.2.1 g.2.2.2 g.2.1) (hl:gs.length<=8):Wi (jQ (gs.map (·.2.2.1))+1) (sumN (gs.map (·.2.2.2))+1) (gs.map (·.2)):=by
 refine ⟨by rw [aAv];rfl,by rw [aAv];rfl,λk hk=>?_,by rw [aAb];exact hl⟩;obtain ⟨g0,h0,rfl⟩:=aAF.mp hk;exact g g0 h0
theorem iN (T:Tx K mg ad) {f:Addr} {fd:FuncData} (F:Gn K mg "kinds_within" cr ["kind"] f fd):FnOk P w K mg base CX0 2 f fd ["kind"] (iM K ad):=by
 obtain ⟨_,_,Ck⟩:=T.item_kind;have CI:=du (P:=P) (w:=w) (base:=base) T Ck;refine F.F.ok dO (λvs H Q E h=>?_) (λcdv A outer s H vs Q E hr h=>?_)
 ·obtain ⟨a0,c0,d,x,rfl,_⟩:=h
  rfl
 obtain ⟨a0,c0,d,x,rfl,hd,pk,q⟩:=h;refine ⟨_,(@pss_cons _ _ _ _ _ (@ps_if _ _ _ _ _ _ _ _ (pt_cmpR op_eq (@pi1 K _ _ _ _ _ _ _ rfl (pv 0)) pe_str (nomark _)) (@pss_one _ _ _ (@ps_ret _ _ _ _ (aC rfl (cs0 (NL:=["name","inner"]) rfl (by decide +kernel) (by decide +kernel)) (pi_tupN (K:=K) rfl (@pi1 K _ _ _ _ _ _ _ rfl (pv 0))) (λ_ _ _ _=>(bL (K:=K) (n:=2) rfl rfl (am (ag (i:=0) (show List.Nodup (α:=Str) ["name","inner"] by decide +kernel) rfl (Or.inl rfl)) (am (ag (i:=1) (show List.Nodup (α:=Str) ["name","inner"] by decide +kernel) rfl (Or.inl rfl)) aI)))) (λ_ _ _ _=>(pv 1))))) pss_nil) (@pss_cons _ _ _ _ _ (@ps_set _ _ 1 _ _ _ _ dO.nd rfl (Or.inl rfl) (0,Ck,CI,@pa1 _ _ _ (pv 0) (by rfl)) (by rfl) (.inl rfl)) (@pss_one _ _ _ (@ps_ret _ _ _ _ (cS (pt_cmpR op_isN (pv 1) pe_non (nomark _)) (@aB _ _ _ _ a9) (@aB _ _ _ _ (@pa1 _ _ _ (pv 1) (by rfl)))))))),?_⟩
 cases pk
 case rcd gs g hs hnm hl =>
  refine ⟨_,rfl,_,_,_,hd,rfl,rfl,isS ?_⟩;refine ⟨rfl,_,rfl,aQ ?_⟩;refine ⟨_,rfl,_,_,_,hd,rfl,rfl,λv hv=>?_⟩;obtain ⟨a,xs,rfl,ha,pa,ra⟩:=id hv.unref;have el:=ra.length;rw [aAb] at el;refine ⟨a,rfl,⟨_,ha⟩,λl hln=>?_⟩;refine bn (K:=K) (xs:=xs) (λi ys σ H'=>Same H H'/\H' l=some (.lst ys)/\IsPs K H' ((gs.take i).map (·.2.1)) ys/\σ.length=2) ⟨ae hln _,aa,.nil,rfl⟩ (λi ys σ H' _ r=>r.1.tup ha) ?_ ?_
  ·rintro i y ys σ H1 N hy ⟨g1,e1,hp1,hσ⟩ next;obtain ⟨d1,hdi,hp⟩:=ra.get' hy;rw [aAc] at hdi;obtain ⟨⟨z,k,u1,u2⟩,hfi,rfl⟩:=aAd.mp hdi;obtain ⟨b,y2,rfl,hb,hp2⟩:=ve (hp.same g1);have ly:=hp1.length;rw [aAb,aAp] at ly
   match σ,hσ with
   | [_,_],_ =>
    refine ⟨b,_,rfl,hb,rfl,_,_,rfl,_,_,rfl,rfl,?_⟩;refine ⟨_,rfl,e1,ai (by lia),next _ _ _ ⟨ar hln g1,aa,?_,rfl⟩⟩;have e:(gs.take (i+1)).map (·.2.1)=(gs.take i).map (·.2.1)++[k]:=by rw [aAw,hfi,aAy];rfl
    rw [e];have bb:But l H1 (upd H1 l (.lst (ys++[y2]))):=But.put;exact (hp1.append (.cons hp2 .nil)).but e1 bb
  ·rintro ys σ H1 ⟨g1,e1,hp1,_⟩;rw [<- el,aAt] at hp1;refine q l ys (gs.map (·.2)) H1 g1 hln e1 (by rw [aAv];exact hp1) (zE g hl)
 case list a1 c1 k i g h1 h2 =>
  refine ⟨_,rfl,_,_,_,hd,rfl,rfl,isS ?_⟩;refine ⟨rfl,_,rfl,iteN (aD (by decide)) ?_⟩;refine ⟨_,rfl,_,_,_,x,rfl,hd,.list g h1 h2,λv hv=>?_⟩;refine ⟨_,rfl,rfl,_,rfl,iteN (by obtain ⟨w0,l,rfl⟩:=xH g;obtain ⟨a,_,rfl,_⟩:=hv.unref;intro e;cases e) ?_⟩;exact ⟨_,rfl,sz1,λp hp=>q p _ [(k,a1,c1)] _ (ae hp _) hp aa (.cons (hv.same (ae hp _)) .nil) (vh g)⟩
 case rows a1 c1 z l i g hz h1 h2 =>
  refine ⟨_,rfl,_,_,_,hd,rfl,rfl,isS ?_⟩;refine ⟨rfl,_,rfl,iteN (aD (by decide)) ?_⟩;refine ⟨_,rfl,_,_,_,x,rfl,hd,.rows g hz h1 h2,λv hv=>?_⟩;refine ⟨_,rfl,rfl,_,rfl,iteN (by obtain ⟨a,_,rfl,_⟩:=hv.unref;intro e;cases e) ?_⟩;exact ⟨_,rfl,sz1,λp hp=>q p _ [(_,a1,c1)] _ (ae hp _) hp aa (.cons (hv.same (ae hp _)) .nil) (vh g)⟩
 case text i h1 h2 =>
  refine ⟨_,rfl,_,_,_,hd,rfl,rfl,isS ?_⟩;refine ⟨rfl,_,rfl,iteN (aD (by decide)) ?_⟩;refine ⟨_,rfl,_,_,_,x,rfl,hd,.text i h1 h2,?_⟩;exact ⟨_,rfl,rfl,_,rfl,aQ ⟨(by show 0<=sizeLine;decide),λp hp=>q p _ [] _ (ae hp _) hp aa .nil mj⟩⟩
 case choice ws h1 =>
  refine ⟨_,rfl,_,_,_,hd,rfl,rfl,isS ?_⟩;refine ⟨rfl,_,rfl,iteN (aD (by decide)) ?_⟩;refine ⟨_,rfl,_,_,_,x,rfl,hd,.choice ws h1,?_⟩;exact ⟨_,rfl,rfl,_,rfl,aQ ⟨(by show 0<=sizeLine;decide),λp hp=>q p _ [] _ (ae hp _) hp aa .nil mj⟩⟩
 case number i j h1 h12 h2 =>
  refine ⟨_,rfl,_,_,_,hd,rfl,rfl,isS ?_⟩;refine ⟨rfl,_,rfl,iteN (aD (by decide)) ?_⟩;refine ⟨_,rfl,_,_,_,x,rfl,hd,.number i j h1 h12 h2,?_⟩;exact ⟨_,rfl,rfl,_,rfl,aQ ⟨(by show 0<=sizeLine;decide),λp hp=>q p _ [] _ (ae hp _) hp aa .nil mj⟩⟩
def vj (K:W.Frag) (n:Nat):Sp:=λvs H Q _=>∃ (a c:Nat) (d:Dt) (x:V),a<=n/\vs=[x]/\IsP K H d x/\FK a c d/\∀ H',Same H H'->Q (.int c) H'
theorem rg:∀ l:List Nat,(l.map λn:Nat=>(n:Int)).sum=((sumN l:Nat):Int)
 | []=>rfl
 | n :: l=>by
  rw [aAz,List.sum_cons,rg l];show _=((n+sumN l:Nat):Int);lia
theorem mm (T:Tx K mg ad) {f:Addr} {fd:FuncData} (n:Nat) (CF:Gn K mg "kind_many" cE ["kind"] f fd) (C5:FnOk P w K mg base CX0 (n+3) f fd ["kind"] (vj K n)):FnOk P w K mg base CX0 (n+3+1) f fd ["kind"] (vj K (n+1)):=by
 obtain ⟨_,_,Da⟩:=T.kinds_within;have DD:=iN (P:=P) (w:=w) (base:=base) T Da;refine CF.F.ok m7 (λvs H Q E h=>?_) (λcdv A outer s H vs Q E hr h=>?_)
 ·obtain ⟨a0,c0,d,x,_,rfl,_⟩:=h
  rfl
 obtain ⟨a0,c0,d,x,hle,rfl,hd,pk,q⟩:=h;refine ⟨_,(@pss_one _ _ _ (@ps_ret _ _ _ _ (@pe_op _ _ _ _ _ _ _ _ fK pe_int (pe_callB uo rfl T.z_sum boot_sum (@pa1 _ _ _ (aC rfl (cs0 (NL:=["inner"]) rfl (by decide +kernel) (by decide +kernel)) (az (K:=K) rfl (0,Da,DD,@pa1 _ _ _ (pv 0) (by rfl))) (λ_ _ _ _=>(ag (i:=0) (show List.Nodup (α:=Str) ["inner"] by decide +kernel) rfl (Or.inl rfl))) (λ_ _ _ _=>(0,CF,C5,@pa1 _ _ _ (pv 0) (by rfl)))) (by rfl)))))),?_⟩;refine ⟨_,rfl,a0,c0,d,x,rfl,hd,pk,λp ys ks H1 g1 hpn e1 hks wi=>?_⟩;have ly:=hks.length;rw [aAb] at ly;have few:=wi.few;refine ⟨p,rfl,⟨_,SqL.of e1⟩,λl hln=>?_⟩;refine ax (K:=K) (xs:=ys) (λi us σ H'=>us=((ks.take i).map λk=>V.int (k.2.2:Nat))/\Same H1 H'/\H' l=some (.lst us)/\σ.length=1) ⟨rfl,ae hln _,aa,rfl⟩ (λi us σ H' _ r=>SqL.of (r.2.1 _ _ e1)) ?_ ?_
 ·rintro i y us σ H2 N hy ⟨rfl,g2,e2,hσ⟩ next;obtain ⟨k0,hk0,hp⟩:=hks.get' hy;rw [aAc] at hk0;obtain ⟨k,hk,rfl⟩:=aAd.mp hk0;have mem:=aAs hk;have dl:=qc (aAF.mpr ⟨k,mem,rfl⟩:k.2.1∈ks.map (·.2.1));have dd:=wi.deep
  match σ,hσ with
  | [_],_ =>
   refine ⟨_,rfl,k.2.1,k.2.2,k.1,y,by lia,rfl,hp.same g2,wi.each k mem,λH3 g3=>⟨g3 _ _ e2,?_,next _ _ _ ⟨ce (λk:Dt×Nat×Nat=>V.int (k.2.2:Nat)) hk,ar hln (g2.trans g3),aa,rfl⟩⟩⟩;rw [aAb,aAp];exact ai (by lia)
 ·rintro us σ H2 ⟨rfl,g2,e2,_⟩;rw [<- ly,aAt] at e2;have e2':H2 l=some (.lst (((ks.map (·.2.2)).map λn:Nat=>(n:Int)).map V.int)):=by rw [e2,aAv,aAv];rfl
  refine ⟨l,_,rfl,rfl,SqL.of e2',_,_,rfl,rfl,?_⟩;rw [rg];show Q (.int ((1:Int)+((sumN (ks.map (·.2.2)):Nat):Int))) H2;have e:(1:Int)+((sumN (ks.map (·.2.2)):Nat):Int)=((c0:Nat):Int):=by rw [wi.many];lia
  rw [e];exact q H2 (g1.trans g2)
theorem oI (T:Tx K mg ad) {f:Addr} {fd:FuncData} (A:Gn K mg "kind_many" cE ["kind"] f fd):∀ n,FnOk P w K mg base CX0 (n+3) f fd ["kind"] (vj K n)
 | 0=>gr λvs H Q E z=>by obtain ⟨_,_,_,_,h,_,_,pk,_⟩:=z;have:=pk.pos;lia
 | n+1=>mm T n A (oI T A n)
def mn (K:W.Frag) (ad:Ads):Sp:=λvs H Q E=>∃ (d:Dt) (x:V),vs=[x]/\IsP K H d x/\okD d=true /\
 ((au 5 d=false/\∀ H',Same H H'->E (.ref ad.BadKind) none H')\/(∃ a c,FK a c d/\a<=5/\(c<=40->∀ H',Same H H'->Q x H')/\(40 < c->∀ H',Same H H'->E (.ref ad.BadKind) none H')))
theorem dv (T:Tx K mg ad) {f:Addr} {fd:FuncData} (F:Gn K mg "made_kind" eB ["kind"] f fd):FnOk P w K mg base (CXE P w) 22 f fd ["kind"] (mn K ad):=by
 obtain ⟨_,_,Ce⟩:=T.is_formed;obtain ⟨f1,d1,D1⟩:=T.are_fields;obtain ⟨f2,d2,D2⟩:=T.are_rows;obtain ⟨f3,d3,D3⟩:=T.is_field;have Cp:=jq (P:=P) (w:=w) (base:=base) T Ce D1 D2 D3 6;obtain ⟨_,_,CF⟩:=T.kind_many;have C5:=oI (P:=P) (w:=w) (base:=base) T CF 5;obtain ⟨t_DEEPEST,c_DEEPEST⟩:=T.DEEPEST;obtain ⟨t_MOST_KINDS,c_MOST_KINDS⟩:=T.MOST_KINDS;refine F.F.okE mW (λvs H Q E h=>?_) (λcdv A outer s H vs Q E hr h=>?_)
 ·obtain ⟨d,x,rfl,_⟩:=h
  rfl
 obtain ⟨d,x,rfl,hd,ok,q⟩:=h;refine ⟨_,(@pss_cons _ _ _ _ _ (@ps_if _ _ _ _ _ _ _ _ (@pt_not _ _ _ _ (@pt_val _ _ _ (0,Ce,Cp,@pa2 _ _ _ _ _ (pv 0) (pe_gint rfl c_DEEPEST) (by rfl) (by rfl)) (by intro _;rfl))) (@pss_one _ _ _ (ps_raise xeOf rfl rfl rfl rfl T.x_BadKind rfl (@pa1 _ _ _ pe_str (by rfl)))) pss_nil) (@pss_cons _ _ _ _ _ (@ps_if _ _ _ _ _ _ _ _ (pt_cmpR op_gt (0,CF,C5,@pa1 _ _ _ (pv 0) (by rfl)) (pe_gint rfl c_MOST_KINDS) (nomark _)) (@pss_one _ _ _ (ps_raise xeOf rfl rfl rfl rfl T.x_BadKind rfl (@pa1 _ _ _ pe_str (by rfl)))) pss_nil) (@pss_one _ _ _ (@ps_ret _ _ _ _ (pv 0))))),?_⟩;refine ⟨_,rfl,5,d,x,by decide,rfl,hd,ok,λH1 g1=>⟨_,rfl,?_⟩⟩;rcases q with ⟨bad,q⟩ | ⟨a,c,fk,ha,q1,q2⟩
 ·rw [bad];exact aG ⟨sz1,q H1 g1⟩
 ·rw [xI fk,decide_eq_true ha];refine aL ?_;refine ⟨_,rfl,a,c,d,x,ha,rfl,hd.same g1,fk,λH2 g2=>⟨_,_,rfl,rfl,_,rfl,dS (λc1=>?_) (λc1=>?_)⟩⟩
  ·have c':((c:Nat):Int) > 40:=of_decide_eq_true c1;exact ⟨sz1,q2 (by lia) H2 (g1.trans g2)⟩
  ·have c':¬ ((c:Nat):Int) > 40:=λz=>c1 (decide_eq_true z);exact ⟨_,rfl,q1 (by lia) H2 (g1.trans g2)⟩
def jV (K:W.Frag) (_:Ads):Sp:=λvs H Q _=>∃ (a:Addr) (ns:List Int) (k:Int),vs=[.ref a,.int k]/\SqL K H a (ns.map V.int)/\ns.length<=64/\0<=k/\k < 1000 /\
 ∀ r n H',H r=none->Same H H'->H' r=some (.lst [.int n])->Q (.ref r) H'
theorem mo (T:Tx K mg ad) {f:Addr} {fd:FuncData} (F:Gn K mg "_law_mixed" eO ["cell","k"] f fd):FnOk P w K mg base CX0 1 f fd ["cell","k"] (me K ad):=by
 refine F.F.ok gP (λvs H Q E h=>?_) (λcdv A outer s H vs Q E hr h=>?_)
 ·obtain ⟨i,k,rfl,_⟩:=h
  rfl
 obtain ⟨i,k,rfl,q⟩:=h;refine ⟨_,(@pss_cons _ _ _ _ _ (@ps_set _ _ 2 _ _ _ _ gP.nd rfl (Or.inl rfl) (@pe_op _ _ _ _ _ _ _ _ gU (@pe_op _ _ _ _ _ _ _ _ gS (@pe_op _ _ _ _ _ _ _ _ fK (@pe_op _ _ _ _ _ _ _ _ fK (@pe_op _ _ _ _ _ _ _ _ gU (pv 0) pe_int) (@pe_op _ _ _ _ _ _ _ _ gS pe_int (pv 1))) pe_int) pe_int) pe_int) (by rfl) (.inl rfl)) (@pss_one _ _ _ (@ps_ret _ _ _ _ (@pe_op _ _ _ _ _ _ _ _ gU (@pe_op _ _ _ _ _ _ _ _ gS (@pe_op _ _ _ _ _ _ _ _ gU (@pe_op _ _ _ _ _ _ _ _ gS (pv 2) (pv 2)) pe_int) pe_int) pe_int)))),?_⟩;refine ⟨_,rfl,_,_,rfl,rfl,(by show (0:Int) < 1000000007;decide),_,rfl,_,_,rfl,rfl,.inl ⟨by decide,by decide⟩,_,_,rfl,rfl,_,_,rfl,rfl,_,_,rfl,rfl,.inr ⟨by decide,by decide⟩,_,_,rfl,rfl,(by show (0:Int) < 2147483647;decide),?_⟩;have b0:(0:Int)<=(i % 1000000007+7919*k+1)*48271 % 2147483647:=aBF _ (by decide);have b1:(i % 1000000007+7919*k+1)*48271 % 2147483647 < 2147483647:=aBp _ (by decide);exact ⟨_,rfl,_,rfl,_,_,rfl,rfl,.inl ⟨by lia,by lia⟩,_,_,rfl,rfl,(by show (0:Int) < 2147483629;decide),_,_,rfl,rfl,.inr ⟨by decide,by decide⟩,_,_,rfl,rfl,(by show (0:Int) < 2147483647;decide),q _⟩
theorem gG (T:Tx K mg ad) {f:Addr} {fd:FuncData} (F:Gn K mg "_law_digit" eP ["row","many"] f fd):FnOk P w K mg base CX0 1 f fd ["row","many"] (gz K ad):=by
 refine F.F.ok gQ (λvs H Q E h=>?_) (λcdv A outer s H vs Q E hr h=>?_)
 ·obtain ⟨r,n,m,rfl,_⟩:=h
  rfl
 obtain ⟨r,n,m,rfl,hr0,h0,h1,q⟩:=h;refine ⟨_,(@pss_cons _ _ _ _ _ (@ps_set _ _ 2 _ _ _ _ gQ.nd rfl (Or.inl rfl) (@pe_op _ _ _ _ _ _ _ _ gU (@cU _ _ _ _ _ _ _ (bf (K:=K) rfl) (pv 0) pe_int (λ_ _=>rfl)) (pv 1)) (by rfl) (.inl rfl)) (@pss_cons _ _ _ _ _ (yG (@pe_op _ _ _ _ _ _ _ _ nW (@cU _ _ _ _ _ _ _ (bf (K:=K) rfl) (pv 0) pe_int (λ_ _=>rfl)) (pv 1)) (yF (pv 0) pe_int ud)) (@pss_one _ _ _ (@ps_ret _ _ _ _ (pv 2))))),?_⟩;have e0:atI [V.int n] 0=some (.int n):=rfl;exact ⟨_,rfl,r,_,_,_,rfl,rfl,SqL.of hr0,e0,_,rfl,_,_,rfl,rfl,h0,_,rfl,r,_,_,_,rfl,rfl,SqL.of hr0,e0,_,rfl,_,_,rfl,rfl,⟨h0,h1⟩,_,rfl,r,_,_,_,rfl,rfl,hr0,rfl,_,rfl,q⟩
theorem vo (n:Int) {m:Int} (h:0 < m):0<=n % m/\n % m < m:=⟨aBF _ (by lia),aBp _ h⟩
theorem zF (x:Int):Builtin.Int.intBits (x % 10 ^ (60:Int).toNat)<=200:=by
 have h0:(0:Int) < 10 ^ (60:Int).toNat:=by decide +kernel
 refine wQ (aBF _ (Int.ne_of_gt h0)) (Int.lt_trans (aBp _ h0) ?_)
 decide +kernel
theorem rh:Builtin.Int.intBits ((10:Int) ^ (60:Int).toNat)<=200:=by decide +kernel
theorem qk {lo c:Int} {n:Nat} {g:TG} {tb:TS} {D:Ends} {σ:L2.St} {H:Hp} (Pv:Nat->L2.St->Hp->Prop) (h0:Pv 0 σ H)
  (hs:∀ i σ H,i < n->Pv i σ H->g (.int (lo+i*c)) σ H λσ2 H2=>tb { D with nx:=Pv (i+1),ct:=Pv (i+1),bk:=D.nx } σ2 H2) (hd:∀ σ H,Pv n σ H->D.nx σ H) :
  ∃ W:Nat->Nat->L2.St->Hp->Prop,(∃ m,W 0 m σ H)/\∀ i m σ H,W i m σ H ->
   ((uA lo c n).stop i H/\D.nx σ H)\/((uA lo c n).go i H/\∃ N:L2.St->Hp->Prop,(∀ σ' H',N σ' H'->∃ m',m' < m/\W (i+1) m' σ' H')/\∀ x H',(uA lo c n).yld i H x H'->g x σ H' λσ2 H2=>tb { D with nx:=N,ct:=N,bk:=D.nx } σ2 H2):=by
 refine ⟨λi m σ H=>m=n - i/\i<=n/\Pv i σ H,⟨n,by simp,aAB _,h0⟩,?_⟩;rintro i m σ H ⟨rfl,hi,p⟩
 by_cases hlt:i < n
 ·refine .inr ⟨hlt,Pv (i+1),λσ' H' p'=>⟨n - (i+1),by lia,rfl,hlt,p'⟩,λx H' y=>?_⟩;obtain ⟨e,y⟩:=y;subst e y;exact hs i σ _ hlt p
 ·have e:i=n:=by lia
  subst e;exact .inl ⟨aAm _,hd σ H p⟩
theorem jW (T:Tx K mg ad) {f:Addr} {fd:FuncData} (F:Gn K mg "_law_stream" dM ["script","k"] f fd):FnOk P w K mg base CX0 2 f fd ["script","k"] (jV K ad):=by
 obtain ⟨_,_,Dq⟩:=T.law_mixed;have DX:=mo (P:=P) (w:=w) (base:=base) T Dq;refine F.F.ok aN (λvs H Q E h=>?_) (λcdv A outer s H vs Q E hr h=>?_)
 ·obtain ⟨a,ns,k,rfl,_⟩:=h
  rfl
 obtain ⟨a,ns,k,rfl,hS,h63,h0,h1,q⟩:=h;refine ⟨_,(@pss_cons _ _ _ _ _ (@ps_set _ _ 2 _ _ _ _ aN.nd rfl (Or.inl rfl) pe_int (by rfl) (.inl rfl)) (@pss_cons _ _ _ _ _ (ps_for PassesOwn.never rfl (sG rfl T.z_range (@pa3 _ _ _ _ _ _ _ (pv 1) (pe_callB (call_len_seqN (K:=K) rfl) rfl T.z_len PySem.boot_len (@pa1 _ _ _ (pv 0) (by rfl))) pe_int (by rfl) (by rfl) (by rfl))) (ag (i:=3) aN.nd rfl (Or.inl rfl))
    (@pss_one _ _ _ (@ps_set _ _ 2 _ _ _ _ aN.nd rfl (Or.inl rfl) (@pe_op _ _ _ _ _ _ _ _ fK (@pe_op _ _ _ _ _ _ _ _ wO (pv 2) (@pe_op _ _ _ _ _ _ _ _ op_pow pe_int pe_int)) (@pe_op _ _ _ _ _ _ _ _ gU (@cU _ _ _ _ _ _ _ (bf (K:=K) rfl) (pv 0) (pv 3) (λ_ _=>rfl)) (@pe_op _ _ _ _ _ _ _ _ op_pow pe_int pe_int))) (by rfl) (.inl rfl)))) (@pss_cons _ _ _ _ _ (@ps_if _ _ _ _ _ _ _ _ (pt_cmpR Ak (pv 2) (@pe_op _ _ _ _ _ _ _ _ op_pow pe_int pe_int) (nomark _)) (@pss_one _ _ _ (@ps_ret _ _ _ _ (@aB _ _ _ _ (@pa1 _ _ _ (pv 2) (by rfl))))) pss_nil) (@pss_cons _ _ _ _ _ (@ps_set _ _ 4 _ _ _ _ aN.nd rfl (Or.inl rfl) pe_int (by rfl) (.inl rfl)) (@pss_cons _ _ _ _ _ (ps_for PassesOwn.never rfl (eZ rfl T.z_range (@pa1 _ _ _ pe_int (by rfl))) (ag (i:=3) aN.nd rfl (Or.inl rfl))
    (@pss_one _ _ _ (@ps_set _ _ 4 _ _ _ _ aN.nd rfl (Or.inl rfl) (@pe_op _ _ _ _ _ _ _ _ fK (@pe_op _ _ _ _ _ _ _ _ gS (pv 4) pe_int) (0,Dq,DX,@pa2 _ _ _ _ _ (@pe_op _ _ _ _ _ _ _ _ fK (@pe_op _ _ _ _ _ _ _ _ fK (pv 2) (@pe_op _ _ _ _ _ _ _ _ gS pe_int (pv 1))) (pe_callB (call_len_seqN (K:=K) rfl) rfl T.z_len PySem.boot_len (@pa1 _ _ _ (pv 0) (by rfl)))) (pv 3) (by rfl) (by rfl))) (by rfl) (.inl rfl)))) (@pss_one _ _ _ (@ps_ret _ _ _ _ (@aB _ _ _ _ (@pa1 _ _ _ (@pe_op _ _ _ _ _ _ _ _ nW (pv 4) pe_int) (by rfl)))))))))),?_⟩
 have hlen:(ns.map V.int).length=ns.length:=aAb _;have hn:rngN k ns.length 9<=64:=by
  have:=qR (a:=k) (b:=ns.length) (c:=9) (by decide)
  split at this <;> lia
 refine ⟨_,rfl,_,rfl,a,_,rfl,.inl hS,_,_,_,rfl,⟨h0,by lia,by lia,by rw [hlen];lia,by decide,by decide⟩,?_⟩;rw [hlen];refine qk (lo:=k) (c:=9) (n:=rngN k ns.length 9) (λi σ H'=>H'=H/\∃ x v,Builtin.Int.intBits x<=1+402*i/\σ=[some (.ref a),some (.int k),some (.int x),v,none]) ⟨rfl,0,none,by decide,rfl⟩ ?_ ?_
 ·rintro i σ H' hi ⟨rfl,x,v,hx,rfl⟩;have hlt:=wP (a:=k) (b:=ns.length) (c:=9) (by decide) hi;have hk:(k+i*9).toNat < ns.length:=by lia
  have ek:(((k+i*9).toNat:Nat):Int)=k+i*9:=by lia
  have e:atI (ns.map V.int) (((k+i*9).toNat:Nat):Int)=some (.int ns[(k+i*9).toNat]):=fc (by simp [hk]);rw [ek] at e;refine ⟨_,rfl,_,_,rfl,rfl,⟨by decide,by decide,by decide⟩,_,_,rfl,rfl,mulOk_of_bits (m:=1+402*i) (n:=200) hx rh (by lia),?_⟩;refine ⟨_,rfl,_,rfl,a,_,_,_,rfl,rfl,hS,e,_,_,rfl,rfl,⟨by decide,by decide,by decide⟩,_,_,rfl,rfl,(by show (0:Int) < 10 ^ (60:Int).toNat;decide +kernel),_,_,rfl,rfl,?_⟩;refine ⟨rfl,_,_,?_,rfl⟩;refine aAE (intBits_add_le (intBits_mul_le hx rh) (zF _)) ?_;lia
 ·rintro σ H' ⟨rfl,x,v,hx,rfl⟩;refine ⟨_,rfl,_,_,rfl,rfl,⟨by decide,by decide,by decide⟩,_,_,rfl,rfl,_,rfl,?_⟩;refine dS (λc1=>?_) (λc1=>?_)
  ·exact ⟨_,rfl,sz1,λr hr'=>q r x _ hr' (ae hr' _) aa⟩
  refine ⟨9,rfl,by decide,by decide,e7 (lo:=0) (n:=(9:Int).toNat) (λi σ H1=>H1=H'/\∃ y v,σ=[some (.ref a),some (.int k),some (.int x),v,some (.int y)]) ⟨rfl,0,_,rfl⟩ ?_ ?_⟩
  ·rintro i σ H1 hi ⟨rfl,y,v,rfl⟩;refine ⟨_,rfl,_,_,rfl,rfl,.inr ⟨by decide,by decide⟩,?_⟩;refine ⟨_,rfl,_,rfl,_,_,rfl,rfl,.inl ⟨by decide,by decide⟩,_,_,rfl,rfl,_,rfl,a,_,rfl,.inl hS,_,_,rfl,rfl,_,rfl,_,_,rfl,λm=>?_⟩;exact ⟨_,_,rfl,rfl,rfl,_,_,rfl⟩
  ·rintro σ H1 ⟨rfl,y,v,rfl⟩;exact ⟨_,rfl,_,_,rfl,rfl,⟨by decide,by decide⟩,sz1,λr hr'=>q r _ _ hr' (ae hr' _) aa⟩
def oJ (K:W.Frag) (_:Ads):Sp:=λvs H Q _=>∃ (gs:List (Str×Dt)) (z:Str) (e:Dt) (x:V),vs=[x,.str z]/\IsP K H (.tup [.str "record",.tup (gs.map prD)]) x/\aq gs z=some e/\∀ v,IsP K H e v->Q v H
theorem la {z:Str} {d:Dt}:∀ {fs:List (Str×Dt)} {i:Nat},fs[i]?=some (z,d)->(∀ j f,j < i->fs[j]?=some f->f.1≠z)->aq fs z=some d
 | [],i,h,_=>by simp at h
 | f :: fs,0,h,_=>by
  obtain rfl:f=(z,d):=by simpa using h
  simp [aq]
 | f :: fs,i+1,h,pre=>by
  have hz:¬ f.1=z:=pre 0 f (Nat.succ_pos _) rfl;have h2:fs[i]?=some (z,d):=by simpa using h
  have e:aq (f :: fs) z=aq fs z:=by simp [aq,hz]
  rw [e];exact la h2 λj g hj hg=>pre (j+1) g (Nat.succ_lt_succ hj) (by simpa using hg)
theorem rj {z:Str}:∀ {fs:List (Str×Dt)},(∀ f∈fs,f.1≠z)->aq fs z=none
 | [],_=>by simp [aq]
 | f :: fs,h=>by
  have hz:¬ f.1=z:=h f aAq;have e:aq (f :: fs) z=aq fs z:=by simp [aq,hz]
  rw [e];exact rj λg hg=>h g (aAr _ hg)
theorem iA (T:Tx K mg ad) {f:Addr} {fd:FuncData} (F:Gn K mg "field_of" fS ["record","name"] f fd):FnOk P w K mg base CX0 1 f fd ["record","name"] (oJ K ad):=by
 refine F.F.ok eQ (λvs H Q E h=>?_) (λcdv A outer s H vs Q E hr h=>?_)
 ·obtain ⟨gs,z,e,x,rfl,_⟩:=h
  rfl
 obtain ⟨gs,z,e0,x,rfl,hd,lk,q⟩:=h;refine ⟨_,(@pss_cons _ _ _ _ _ (ps_for PassesOwn.never rfl (pi_tupN (K:=K) rfl (@pi1 K _ _ _ _ _ _ _ rfl (pv 0))) (cI rfl (am (ag (i:=2) eQ.nd rfl (Or.inl rfl)) (am (ag (i:=3) eQ.nd rfl (Or.inl rfl)) aI)))
    (@pss_one _ _ _ (@ps_if _ _ _ _ _ _ _ _ (pt_cmpR op_eq (pv 2) (pv 1) (nomark _)) (@pss_one _ _ _ (@ps_ret _ _ _ _ (pv 3))) pss_nil))) (@pss_one _ _ _ (@ps_ret _ _ _ _ pe_non))),?_⟩
 refine ⟨_,rfl,_,_,_,hd,rfl,rfl,λv hv=>?_⟩;obtain ⟨a,xs,rfl,ha,pa,ra⟩:=hv.unref;have el:=ra.length;rw [aAb] at el;refine ⟨a,rfl,⟨xs,ha⟩,fY (xs:=xs) (λi σ H'=>H'=H/\(∀ j f,j < i->gs[j]?=some f->f.1≠z)/\∃ v1 v2,σ=[some x,some (.str z),v1,v2]) ⟨rfl,λj f hj=>absurd hj (aBo _),_,_,rfl⟩ (λi σ H' _ p=>p.1 ▸ ha) ?_ ?_⟩
 ·rintro i y σ H' hy ⟨rfl,pre,v1,v2,rfl⟩;obtain ⟨e,he,hp⟩:=ra.get' hy;rw [aAc] at he;obtain ⟨⟨w,e'⟩,hf,rfl⟩:=aAd.mp he;obtain ⟨b,ys,rfl,hb,pb,rb⟩:=hp.unref
  cases rb with
  | cons r1 rb =>
   cases rb with
   | @cons _ _ y2 _ r2 rb =>
    cases rb
    obtain rfl:=bi r1;refine ⟨b,_,rfl,hb,rfl,_,_,rfl,_,_,rfl,rfl,?_⟩;refine ⟨_,rfl,_,rfl,rfl,_,rfl,?_⟩
    by_cases hz:w=z
    ·subst hz;rw [la hf pre] at lk;obtain rfl:=Option.some.inj lk;exact aQ ⟨_,rfl,q _ r2⟩
    ·refine iteN (aD hz) ⟨rfl,λj f hj hjf=>?_,_,_,rfl⟩;rcases aBV.mp hj with h1 | h1
     ·exact pre j f h1 hjf
     ·subst h1;rw [hf] at hjf;obtain rfl:=Option.some.inj hjf;exact hz
 ·rintro σ H' ⟨rfl,pre,v1,v2,rfl⟩;rw [rj (λf hf=>by
   obtain ⟨j,hj,e⟩:=aBj.mp hf;exact pre j f (by lia) (by rw [aAj hj,e]))] at lk
  cases lk
theorem oK:∀ {a b:List Str},a.Pairwise ltS->b.Pairwise ltS->a.Perm b->a=b
 | [],b,_,_,h=>(List.nil_perm.mp h).symm
 | x :: a,[],_,_,h=>absurd (List.perm_nil.mp h) (by simp)
 | x :: a,y :: b,ha,hb,h=>by
  have ha':=aBf.mp ha;have hb':=aBf.mp hb;have e:x=y:=by
   rcases aAf.mp (h.mem_iff.mp (aAq:x∈x :: a)) with e | hx
   ·exact e
   ·rcases aAf.mp (h.mem_iff.mpr (aAq:y∈y :: b)) with e | hy
    ·exact e.symm
    ·exact absurd (List.lt_trans (hb'.1 x hx) (ha'.1 y hy)) (aB5 _)
  subst e;rw [oK ha'.2 hb'.2 (List.Perm.cons_inv h)]
theorem vv {a b:Str} (h:¬ ltS b a) (n:a≠b):ltS a b:=by
 by_cases c:ltS a b
 ·exact c
 ·refine absurd ?_ n;have e:a.cps.toList=b.cps.toList:=List.le_antisymm (List.not_lt.mp h) (List.not_lt.mp c)
  cases a
  cases b
  simp only at e;rw [Array.toList_inj.mp e]
theorem lf:∀ (l:List Str) (p:Str),risingS p l=true->(p :: l).Nodup->(p :: l).Pairwise ltS
 | [],p,_,_=>aBX _ _
 | x :: l,p,h,nd=>by
  simp only [risingS,ltCps_eq,aAA,Bool.not_eq_true',decide_eq_false_iff_not] at h;have nd':=aAR.mp nd;have ih:=lf l x h.2 nd'.2;have px:ltS p x:=vv h.1 λe=>nd'.1 (e ▸ aAq);refine aBf.mpr ⟨λy hy=>?_,ih⟩;rcases aAf.mp hy with rfl | hy
  ·exact px
  ·exact List.lt_trans px ((aBf.mp ih).1 y hy)
theorem tt {l:List Str} (h:sortedS l=true) (nd:l.Nodup):l.Pairwise ltS:=by
 cases l with
 | nil=>exact .nil
 | cons x l=>exact lf l x h nd
mutual
theorem ck {K:W.Frag} {H H':Hp} {p:Addr} {kvs:List (Key×V)} (hp:H p=some (.dK kvs)) (g:But p H H'):∀ {d:Dt} {v:V},IsP K H d v->IsP K H' d v
 | _,_,.non=>.non
 | _,_,.bl=>.bl
 | _,_,.int=>.int
 | _,_,.str=>.str
 | _,_,.tup h pl q=>.tup (g.tup (by obtain ⟨o,u,e,dn⟩:=pl;exact ne_of e hp (by intro c;cases c)) h) (by
   obtain ⟨o,u,e,dn⟩:=pl;exact ⟨o,u,g _ _ (ne_of e hp (by intro c;cases c)) e,dn⟩) (fj hp g q)
theorem fj {K:W.Frag} {H H':Hp} {p:Addr} {kvs:List (Key×V)} (hp:H p=some (.dK kvs)) (g:But p H H'):∀ {l:List Dt} {xs:List V},IsPs K H l xs->IsPs K H' l xs
 | _,_,.nil=>.nil
 | _,_,.cons h q=>.cons (ck hp g h) (fj hp g q)
end
abbrev fl (ss:List Str) (f:Str->Dt):List (Str×Dt):=ss.map λz=>(z,f z)
abbrev ak (fs:List (Str×Dt)):Dt:=.tup [.str "record",.tup (fs.map prD)]
theorem xK {ss:List Str} {f:Str->Dt} {j:Nat} {z:Str} (h:ss[j]?=some z):(fl (ss.take (j+1)) f).map prD=(fl (ss.take j) f).map prD++[.tup [.str z,f z]]:=by
 rw [aAw,h];simp
theorem vw {z:Str} {fs:List (Str×Dt)} (h:z∈fs.map (·.1)):∃ d,aq fs z=some d:=by
 induction fs with
 | nil=>simp at h
 | cons g fs ih =>
  by_cases e:g.1=z
  ·exact ⟨g.2,by simp [aq,e]⟩
  ·have e2:aq (g :: fs) z=aq fs z:=by simp [aq,e]
   rw [e2];refine ih ?_;rcases aAf.mp h with q | q
   ·exact absurd q.symm e
   ·exact q
theorem mq:∀ {l:List Dt} {B:Nat},(∀ x∈l,x.dep<=B)->depS l<=B
 | [],_,_=>aAB _
 | d :: l,B,h=>by
  have h1:=h d aAq;have h2:=mq (l:=l) (B:=B) λx hx=>h x (aAr _ hx);simp only [depS];lia
theorem rl {fs:List (Str×Dt)} {B:Nat} (h:∀ g∈fs,g.2.dep<=B):(ak fs).dep<=B+3:=by
 have:depS (fs.map prD)<=B+1:=mq λx hx=>by
  obtain ⟨g',hg',rfl⟩:=aAF.mp hx;have:=h g' hg';simp only [prD,Dt.dep,depS];lia
 simp only [Dt.dep,depS];lia
theorem vx (z:Str):∀ ws:List Str,inV (V.str z) (ws.map V.str)=decide (z∈ws)
 | []=>by simp [inV]
 | w :: ws=>by
  have ih:=vx z ws;have e:inV (V.str z) ((w :: ws).map V.str)=(eqV (V.str w) (V.str z) || inV (V.str z) (ws.map V.str)):=rfl;have e2:eqV (V.str w) (V.str z)=decide (w=z):=rfl;rw [e,ih,e2,aAQ];simp only [aBZ,decide_eq_true_eq,aAf];exact ⟨λh=>h.imp Eq.symm id,λh=>h.imp Eq.symm id⟩
theorem vy (ws:List Str):(ws.map V.str).all fA=true:=by rw [aA8];exact aAO.mpr λ_ _=>rfl
theorem xL {a b:List Str} (ha:a.Pairwise ltS) (hb:b.Pairwise ltS) (h:∀ z,z∈a↔z∈b):a=b :=
 oK ha hb ((List.perm_ext_iff_of_nodup (dZ ha) (dZ hb)).mpr h)
def mr (K:W.Frag) (_:Ads):Sp:=λvs H Q _=>∃ (p:Addr) (ns:List Str) (f:Str->Dt),vs=[.ref p]/\DicN K H p ns f/\ns.Nodup/\ns.length<=60/\∀ v H' ss,Same H H'->ss.Perm ns->ss.Pairwise ltS->IsP K H' (ak (fl ss f)) v->Q v H'
theorem ms (T:Tx K mg ad) {f:Addr} {fd:FuncData} (F:Gn K mg "record_of" cF ["fields"] f fd):FnOk P w K mg base CX0 1 f fd ["fields"] (mr K ad):=by
 refine F.F.ok m8 (λvs H Q E h=>?_) (λcdv A outer s H vs Q E hr h=>?_)
 ·obtain ⟨p,ns,f,rfl,_⟩:=h
  rfl
 obtain ⟨p,ns,f,rfl,⟨kvs,ep,ek,kv⟩,nd,l60,q⟩:=h;refine ⟨_,(@pss_one _ _ _ (@ps_ret _ _ _ _ (@pe_tupPK _ K _ _ _ _ rfl (@pa2 _ _ _ _ _ pe_str (pe_callTy (call_tuplePN (K:=K) rfl) rfl T.z_tuple boot_tuple (@pa1 _ _ _ (aC rfl (csR (sc:=ac cF) (NL:=["name"]) (N:=["fields"]) (ρ:=[0]) (N':=["name","fields"]) rfl rfl rfl (by decide +kernel) (by decide +kernel) (by decide +kernel) rfl (by decide +kernel)) (az (K:=K) rfl (pe_callB (oe rfl) rfl T.z_sorted boot_sorted (@pa1 _ _ _ (pv 0) (by rfl)))) (λ_ _ _ _=>(ag (i:=0) (show List.Nodup (α:=Str) ["name","fields"] by decide +kernel) rfl (Or.inl rfl))) (λ_ _ _ _=>(pe_tupPK (K:=K) rfl (@pa2 _ _ _ _ _ (pv 0) (@cD _ _ _ _ _ _ (u1 hr.units) (pv 1) (pv 0) (λ_ _=>rfl)) (by rfl) (by rfl))))) (by rfl))) (by rfl) (by rfl))))),?_⟩;refine ⟨_,rfl,p,kvs,ns,rfl,.inl ep,ek,by lia,λa ss ha pm srt=>?_⟩;have g1:=ae ha (.lst (ss.map V.str));have e1:(upd H a (.lst (ss.map V.str))) a=some (.lst (ss.map V.str)):=aa
 generalize upd H a (.lst (ss.map V.str))=H1 at g1 e1 ⊢
 have ls:ss.length<=60:=by rw [pm.length_eq];exact l60
 refine ⟨a,rfl,⟨_,SqL.of e1⟩,λl hl=>?_⟩;refine ax (K:=K) (xs:=ss.map V.str) (λj ys σ H'=>Same H1 H'/\H' l=some (.lst ys)/\IsPs K H' ((fl (ss.take j) f).map prD) ys/\∃ v1,σ=[v1,some (.ref p)])
  ⟨ae hl _,aa,.nil,none,rfl⟩ (λj ys σ H' _ pv=>SqL.of (pv.1 _ _ e1)) ?_ ?_
 ·rintro j u ys σ H2 N hu ⟨s2,e2,d2,v1,rfl⟩ next;rw [aAc] at hu;obtain ⟨z,hz,rfl⟩:=aAd.mp hu;obtain ⟨v,hv1,hv2⟩:=kv z (pm.mem_iff.mp (aAs hz));have hv3:=hv2.same (g1.trans s2);have ly:ys.length < sizeLine:=by
   rw [<- d2.length,aAb,aAb];exact ai (by have:=aBG j ss;lia)
  refine ⟨_,rfl,_,rfl,_,rfl,p,v,rfl,.inl ⟨kvs,Sum.inr z,.inl (s2 _ _ (g1 _ _ ep)),rfl,hv1.symm⟩,?_⟩;refine ⟨[.str z,f z],.cons .str (.cons hv3 .nil),sz2,λvt H3 g3 hvt=>?_⟩;have g4:Same H2 (upd H3 l (.lst (ys++[vt])))\/True:=.inr trivial;refine ⟨g3 _ _ e2,ly,next _ _ _ ⟨ar hl (s2.trans g3),aa,?_,_,rfl⟩⟩;rw [xK hz];exact IsPs.but (g3 _ _ e2) But.put ((d2.same g3).append (.cons hvt .nil))
 ·rintro ys σ H2 ⟨s2,e2,d2,v1,rfl⟩;rw [aAb,aAt] at d2;refine ⟨l,ys,_,rfl,SqL.of e2,d2,λvt H3 g3 hvt=>?_⟩;refine ⟨[.str "record",.tup ((fl ss f).map prD)],.cons .str (.cons hvt .nil),sz2,λvr H4 g4 hvr=>?_⟩;exact q vr H4 ss (((g1.trans s2).trans g3).trans g4) pm (tt srt (pm.nodup_iff.mpr nd)) hvr
theorem vz {K:W.Frag} {H:Hp} {p:Addr} {ns:List Str} {f:Str->Dt} {z:Str} {d:Dt} {v:V} {kvs:List (Key×V)} (ep:H p=some (.dK kvs)) (ek:kvs.map (·.1)=ns.map (Sum.inr:Str->Key)) (kv:∀ z∈ns,∃ v,aH kvs (Sum.inr z:Key)=some v/\IsP K H (f z) v) (hd:IsP K H d v) :
  DicN K (upd H p (.dK (bc kvs (Sum.inr z:Key) v))) p (if z∈ns then ns else ns++[z]) (λy=>if y=z then d else f y):=by
 refine ⟨_,aa,sS kvs ns z v ek,λy hy=>?_⟩;show ∃ u,aH (bc kvs (Sum.inr z:Key) v) (Sum.inr y)=some u/\IsP K _ (if y=z then d else f y) u;rw [dX]
 by_cases e:y=z
 ·subst e;rw [if_pos rfl,if_pos rfl];exact ⟨v,rfl,ck ep But.put hd⟩
 ·rw [if_neg (λq=>e (Sum.inr.inj q)),if_neg e];have hn:y∈ns:=by
   split at hy
   ·exact hy
   ·rcases aA3.mp hy with h | h
    ·exact h
    ·exact absurd (aAD.mp h) e
  obtain ⟨u,h1,h2⟩:=kv y hn;exact ⟨u,h1,ck ep But.put h2⟩
def jr (K:W.Frag) (_:Ads):Sp:=λvs H Q _=>∃ (tp tq:Bool) (fs:List (Str×Dt)) (ns:List Str) (f:Str->Dt) (x:V) (a b:Addr) (xs:List V),vs=[x,.ref a,.ref b]/\IsP K H (ak fs) x/\(fs.map (·.1)).Nodup/\fs.length<=8/\ns.length<=8 /\
 SqE tp K H a (ns.map V.str)/\SqE tq K H b xs/\IsPs K H (ns.map f) xs/\∀ v H' ss,Same H H'->ss.Pairwise ltS->(∀ z,z∈ss↔z∈fs.map (·.1)\/z∈ns)->IsP K H' (ak (fl ss λz=>if z∈ns then f z else (aq fs z).getD .non)) v->Q v H'
theorem js {K:W.Frag} {H:Hp} {p:Addr} {ns:List Str} {f g:Str->Dt} (h:DicN K H p ns f) (e:∀ z∈ns,f z=g z):DicN K H p ns g:=by
 obtain ⟨kvs,a,b,c⟩:=h;exact ⟨kvs,a,b,λz hz=>by rw [<- e z hz];exact c z hz⟩
theorem jt (T:Tx K mg ad) {f:Addr} {fd:FuncData} (F:Gn K mg "with_fields" cL ["record","names","values"] f fd):FnOk P w K mg base CX0 2 f fd ["record","names","values"] (jr K ad):=by
 obtain ⟨_,_,Dr⟩:=T.record_of;have DW:=ms (P:=P) (w:=w) (base:=base) T Dr;refine F.F.ok bB (λvs H Q E h=>?_) (λcdv A outer s H vs Q E hr h=>?_)
 ·obtain ⟨tp,tq,fs,ns,f,x,a,b,xs,rfl,_⟩:=h
  rfl
 obtain ⟨tp,tq,fs,ns,f,x,a,b,xs,rfl,hd,nd,l8,n8,ha,hb,dx,q⟩:=h;refine ⟨_,(@pss_cons _ _ _ _ _ (@ps_set _ _ 3 _ _ _ _ bB.nd rfl (Or.inl rfl) (pe_callTy (aT (K:=K) rfl rfl) rfl T.z_dict boot_dict (@pa1 _ _ _ (@pi1 K _ _ _ _ _ _ _ rfl (pv 0)) (by rfl))) (by rfl) (.inl rfl)) (@pss_cons _ _ _ _ _ (ps_for PassesOwn.never rfl (oz rfl T.z_zip (@pa2 _ _ _ _ _ (pv 1) (pv 2) (by rfl) (by rfl))) (cI rfl (am (ag (i:=4) bB.nd rfl (Or.inl rfl)) (am (ag (i:=5) bB.nd rfl (Or.inl rfl)) aI)))
    (@pss_one _ _ _ (ps_dput (u1 hr.units) (pv 3) (pv 4) (pv 5) rfl))) (@pss_one _ _ _ (@ps_ret _ _ _ _ (0,Dr,DW,@pa1 _ _ _ (pv 3) (by rfl)))))),?_⟩
 refine ⟨_,rfl,_,_,_,hd,rfl,rfl,λv1 hv1=>?_⟩;refine ⟨v1,fs,rfl,hv1,nd,by lia,λp H1 hpn g1 dq=>?_⟩;obtain ⟨kvs,ep,ek,kval⟩:=dq;have dn:DicN K H1 p (fs.map (·.1)) (λz=>(aq fs z).getD .non):=⟨kvs,ep,by rw [ek,aAv];rfl,λz hz=>by
  obtain ⟨d,hd⟩:=vw hz;obtain ⟨v,h1,h2⟩:=(kval z).2 d hd;exact ⟨v,h1,by show IsP K H1 ((aq fs z).getD .non) v;rw [hd];exact h2⟩⟩
 have lx:xs.length=ns.length:=by rw [<- dx.length,aAb]
 have lmin:min (ns.map V.str).length xs.length=ns.length:=by rw [aAb,lx,Nat.min_self]
 refine ⟨_,rfl,_,rfl,tp,tq,a,b,rfl,⟨_,ha.same g1⟩,⟨_,hb.same g1⟩,jj (tp:=tp) (tq:=tq) (K:=K) (xs:=ns.map V.str) (ys:=xs) (λi σ H'=>∃ (l:List Str) (v4 v5:Option V),Same H H'/\SqE tp K H' a (ns.map V.str)/\SqE tq K H' b xs/\IsPs K H' (ns.map f) xs/\l.Nodup/\l.length<=fs.length+i/\(∀ z,z∈l↔z∈fs.map (·.1)\/z∈ns.take i)/\DicN K H' p l (λz=>if z∈ns.take i then f z else (aq fs z).getD .non)/\i<=ns.length/\σ=[some x,some (.ref a),some (.ref b),some (.ref p),v4,v5])
  ⟨_,none,none,g1,ha.same g1,hb.same g1,dx.same g1,nd,by rw [aAb];lia,λz=>by simp,js dn λz _=>by simp,aAB _,rfl⟩ (λi σ H' pv=>by
   obtain ⟨_,_,_,_,h1,h2,_⟩:=pv;exact ⟨h1,h2⟩) ?_ ?_⟩
 ·rintro i u y T σ H2 hu hy hT ⟨l,v4,v5,s2,a2,b2,d2,nl,ll,ml,⟨kvs2,ep2,ek2,kv2⟩,li,rfl⟩;rw [aAc] at hu;obtain ⟨z,hz,rfl⟩:=aAd.mp hu;obtain ⟨d,hdz,hpd⟩:=d2.get' hy;rw [aAc,hz] at hdz;obtain rfl:f z=d:=Option.some.inj hdz;have gT:=ae hT (.tup [V.str z,y]);have eT:(upd H2 T (.tup [V.str z,y])) T=some (.tup [V.str z,y]):=aa
  generalize upd H2 T (.tup [V.str z,y])=H3 at gT eT ⊢
  have hi:=(aAg.mp hz).1;have lk:kvs2.length=l.length:=by have:=congrArg List.length ek2;simpa using this
  refine ⟨T,_,rfl,.inl (.inl eT),rfl,_,_,rfl,_,_,rfl,rfl,?_⟩;refine ⟨_,rfl,_,rfl,_,rfl,p,_,rfl,.inl ⟨kvs2,Sum.inr z,gT _ _ ep2,rfl,ai (by lia),rfl⟩,?_⟩;have ep3:=gT _ _ ep2;have B:But p H3 (upd H3 p (.dK (bc kvs2 (Sum.inr z:Key) y))):=But.put;have dn3:=vz (z:=z) ep3 ek2 (λz hz=>by obtain ⟨v,h1,h2⟩:=kv2 z hz;exact ⟨v,h1,h2.same gT⟩) (hpd.same gT);have tk:ns.take (i+1)=ns.take i++[z]:=by rw [aAw,hz];rfl
  refine ⟨_,_,_,λc o ec=>B c o (af ec hpn) (gT _ _ (s2 _ _ ec)),(a2.same gT).butD ep3 B,(b2.same gT).butD ep3 B,fj ep3 B (d2.same gT),?_,?_,?_,js dn3 ?_,hi,rfl⟩
  ·split
   ·exact nl
   ·exact List.nodup_append.mpr ⟨nl,(by simp),λc hc d hd=>by
     obtain rfl:=aAD.mp hd;intro e;subst e
     contradiction⟩
  ·split
   ·lia
   ·rw [aAP,aB2];lia
  ·intro y;rw [tk,aA3,aAD];have:=ml y
   split
   ·rename_i hzl
    rw [this]
    constructor
    ·rintro (h | h)
     ·exact .inl h
     ·exact .inr (.inl h)
    ·rintro (h | h | h)
     ·exact .inl h
     ·exact .inr h
     ·subst h;exact (ml y).mp hzl
   ·rw [aA3,this,aAD,or_assoc]
  ·intro y _;rw [tk]
   by_cases e:y=z
   ·subst e;simp
   ·simp [e]
 ·rintro σ H2 ⟨l,v4,v5,s2,a2,b2,d2,nl,ll,ml,dn2,li,rfl⟩;rw [lmin] at ml dn2 ll;rw [aAt] at ml dn2;refine ⟨_,rfl,p,l,_,rfl,dn2,nl,by lia,λv H3 ss g3 pm asc hv=>?_⟩;exact q v H3 ss (s2.trans g3) asc (λz=>by rw [pm.mem_iff];exact ml z) hv
theorem iB {gs:List (Str×Dt)} {p:Str×Dt->Bool} {j:Nat} {g:Str×Dt} (h:gs[j]?=some g):(gs.take (j+1)).filter p=(gs.take j).filter p++(if p g=true then [g] else []):=by
 rw [aAw,h,List.filter_append]
 congr 1
 by_cases e:p g=true
 ·simp [e]
 ·simp [e]
def gH (K:W.Frag) (_:Ads):Sp:=λvs H Q _=>∃ (gs:List (Str×Dt)) (ns:List Str) (x:V) (a:Addr),vs=[x,.ref a]/\IsP K H (ak gs) x/\gs.length<=8/\(SqL K H a (ns.map V.str)\/SqT K H a (ns.map V.str))/\∀ v H',Same H H'->IsP K H' (ak (gs.filter λg=>!decide (g.1∈ns))) v->Q v H'
theorem gI (T:Tx K mg ad) {f:Addr} {fd:FuncData} (F:Gn K mg "without_fields" aY ["record","names"] f fd):FnOk P w K mg base CX0 1 f fd ["record","names"] (gH K ad):=by
 refine F.F.ok gM (λvs H Q E h=>?_) (λcdv A outer s H vs Q E hr h=>?_)
 ·obtain ⟨gs,ns,x,a,rfl,_⟩:=h
  rfl
 obtain ⟨gs,ns,x,a,rfl,hd,l8,ha,q⟩:=h;refine ⟨_,(@pss_one _ _ _ (@ps_ret _ _ _ _ (@pe_tupPK _ K _ _ _ _ rfl (@pa2 _ _ _ _ _ pe_str (pe_callTy (call_tuplePN (K:=K) rfl) rfl T.z_tuple boot_tuple (@pa1 _ _ _ (sq rfl (csR (sc:=ac aY) (NL:=["pair"]) (N:=["record","names"]) (ρ:=[1]) (N':=["pair","names"]) rfl rfl rfl (by decide +kernel) (by decide +kernel) (by decide +kernel) rfl (by decide +kernel)) (pi_tupN (K:=K) rfl (@pi1 K _ _ _ _ _ _ _ rfl (pv 0))) (λ_ _ _ _=>(ag (i:=0) (show List.Nodup (α:=Str) ["pair","names"] by decide +kernel) rfl (Or.inl rfl))) (λ_ _ _ _=>(pt_cmpR (jN (K:=K) rfl) (@pi1 K _ _ _ _ _ _ _ rfl (pv 0)) (pv 1) rfl)) (λ_ _ _ _=>(pv 0))) (by rfl))) (by rfl) (by rfl))))),?_⟩;refine ⟨_,rfl,_,_,_,hd,rfl,rfl,λv1 hv1=>?_⟩;obtain ⟨b,xs,rfl,hb,pb,rb⟩:=hv1.unref;have el:=rb.length;rw [aAb] at el;refine ⟨b,rfl,⟨xs,hb⟩,λl hl=>?_⟩;refine bn (K:=K) (xs:=xs) (λj ys σ H'=>Same H H'/\H' l=some (.lst ys)/\IsPs K H' (((gs.take j).filter λg=>!decide (g.1∈ns)).map prD) ys/\∃ v1,σ=[v1,some (.ref a)])
  ⟨ae hl _,aa,.nil,none,rfl⟩ (λj ys σ H' _ pv=>pv.1.tup hb) ?_ ?_
 ·rintro j u ys σ H2 N hu ⟨s2,e2,d2,v1,rfl⟩ next;obtain ⟨e,he,hp⟩:=rb.get' hu;rw [aAc] at he;obtain ⟨⟨z,d⟩,hf,rfl⟩:=aAd.mp he;have hp2:=hp.same s2;have ha2:SqL K H2 a (ns.map V.str)\/SqT K H2 a (ns.map V.str):=ha.imp s2.seq s2.tup;have ly:ys.length < sizeLine:=by
   rw [<- d2.length,aAb];exact ai (by have:=List.length_filter_le (λg:Str×Dt=>!decide (g.1∈ns)) (gs.take j);have:=aBG j gs;lia)
  refine ⟨_,rfl,_,_,_,hp2,rfl,rfl,isS ?_⟩;refine ⟨_,rfl,a,_,rfl,ha2,rfl,vy _,_,rfl,?_⟩;rw [vx];refine dS (λc=>?_) (λc=>?_)
  ·refine ⟨_,rfl,e2,ly,next _ _ _ ⟨ar hl s2,aa,?_,_,rfl⟩⟩;rw [iB hf];have c':(!decide ((z,d).1∈ns))=true:=c;rw [if_pos c',aAy];exact IsPs.but e2 But.put (d2.append (.cons hp2 .nil))
  ·refine next _ _ _ ⟨s2,e2,?_,_,rfl⟩;rw [iB hf];have c':¬ (!decide ((z,d).1∈ns))=true:=c;rw [if_neg c',aA9];exact d2
 ·rintro ys σ H2 ⟨s2,e2,d2,v1,rfl⟩;rw [<- el,aAt] at d2;refine ⟨l,ys,_,rfl,SqL.of e2,d2,λvt H3 g3 hvt=>?_⟩;refine ⟨[.str "record",.tup ((gs.filter λg=>!decide (g.1∈ns)).map prD)],.cons .str (.cons hvt .nil),sz2,λvr H4 g4 hvr=>?_⟩;exact q vr H4 ((s2.trans g3).trans g4) hvr
theorem jX {i:Nat} {u u':Str} {A b:TS} {D:Ends} {σ:L2.St} {H:Hp} (hσ:σ[i]?=some (some (.str u'))) (hn:u'≠u) (h:b D σ H):rO (rP (nu (tOp rEq (rN i) (tC (.str u)))) A kz) b D σ H:=⟨_,hσ,rfl,_,rfl,iteN (aD hn) h⟩
theorem fC {i:Nat} {u:Str} {A b:TS} {D:Ends} {σ:L2.St} {H:Hp} (hσ:σ[i]?=some (some (.str u))) (h:A { D with nx:=b D } σ H):rO (rP (nu (tOp rEq (rN i) (tC (.str u)))) A kz) b D σ H:=⟨_,hσ,rfl,_,rfl,aQ h⟩
theorem zG {K:W.Frag} {H:Hp} {u1 u2:Str} {v:V} (h:IsP K H (.tup [.str u1,.str u2]) v):∃ p,v=.ref p/\SqT K H p [.str u1,.str u2]:=by
 obtain ⟨p,x,y,rfl,hp,h1,h2⟩:=aA h;rw [bi h1,bi h2] at hp;exact ⟨p,rfl,hp⟩
theorem rm {i:Nat} {u' u1 u2:Str} {K:W.Frag} {A b:TS} {D:Ends} {σ:L2.St} {H:Hp} (hσ:σ[i]?=some (some (.str u'))) (h1:u'≠u1) (h2:u'≠u2) (h:∀ H',Same H H'->b D σ H'):rO (rP (nu (tOp (rIn K false) (rN i) (qQ K (fw (tC (.str u1)) (fw (tC (.str u2)) rX))))) A kz) b D σ H:=by
 refine ⟨_,hσ,[.str u1,.str u2],.cons .str (.cons .str .nil),sz2,λv H1 g1 hv=>?_⟩;obtain ⟨p,rfl,hp⟩:=zG hv;refine ⟨p,_,rfl,.inr hp,rfl,rfl,_,rfl,?_⟩;rw [show inV (V.str u') [V.str u1,.str u2]=false from by
  show (decide (u1=u') || (decide (u2=u') || false))=false;rw [decide_eq_false (Ne.symm h1),decide_eq_false (Ne.symm h2)];rfl]
 exact aL (h H1 g1)
theorem vA (a b:Str):eqD (.str a) (.str b)=decide (a=b):=by
 show (a == b)=_
 by_cases h:a=b <;> simp [h]
theorem fm (z:Str):∀ fs:List (Str×Dt),a8 (fs.map prD) (.str z)=aq fs z
 | []=>by simp [a8,aq]
 | (n,k) :: fs=>by
  have ih:=fm z fs
  by_cases e:n=z
  ·have h1:jm (.str z) (prD (n,k))=true:=(vA n z).trans (decide_eq_true e);have h2:a8 ((prD (n,k)) :: fs.map prD) (.str z)=some k:=by
    unfold a8;rw [aAY,h1]
   rw [aAz,h2];simp [aq,e]
  ·have h1:jm (.str z) (prD (n,k))=false:=(vA n z).trans (decide_eq_false e);have h2:a8 ((prD (n,k)) :: fs.map prD) (.str z)=a8 (fs.map prD) (.str z):=by simp [a8,aAY,h1]
   rw [aAz,h2,ih];simp [aq,e]
theorem mw (fs:List (Str×Dt)):∀ d∈fs.map prD,∃ z k,d=.tup [.str z,k]:=λd hd=>by
 obtain ⟨f,_,rfl⟩:=aAF.mp hd;exact ⟨_,_,rfl⟩
abbrev bj (i j:Int):Dt:=.tup [.str "number",.int i,.int j]
abbrev puD (l:Int):Dt:=.tup [.str "put",.str "z",bj 0 9,.int l]
abbrev drD (l:Int):Dt:=.tup [.str "drop",.str "z",.int l]
def pcD:Bool->Int->Dt
 | false,l=>puD l
 | true,l=>drD l
abbrev zP:Dt:=.tup [.str "z"]
def BQ:Bool->List Dt
 | false=>[]
 | true=>[zP]
def mkL:Bool->List Dt
 | false=>[zP]
 | true=>[]
theorem mx {K:W.Frag} {H:Hp} {i:Int} {v:V} (h:IsP K H (.int i) v):v=.int i:=by cases h;rfl
def ju (K:W.Frag) (_:Ads):Sp:=λvs H Q _=>∃ (dr:Bool) (l:Int) (x:V),vs=[x]/\IsP K H (pcD dr l) x/\∀ a ys H',H a=none->Same H H'->H' a=some (.lst ys)->IsPs K H' (BQ dr) ys->Q (.ref a) H'
theorem bv (T:Tx K mg ad) {f:Addr} {fd:FuncData} (F:Gn K mg "taken_paths" cM ["piece"] f fd):FnOk P w K mg base CX0 1 f fd ["piece"] (ju K ad):=by
 refine F.F.ok eR (λvs H Q E h=>?_) (λcdv A outer s H vs Q E hr h=>?_)
 ·obtain ⟨dr,l,x,rfl,_⟩:=h
  rfl
 obtain ⟨dr,l,x,rfl,hp,q⟩:=h;refine ⟨_,(@pss_cons _ _ _ _ _ (@ps_set _ _ 1 _ _ _ _ eR.nd rfl (Or.inl rfl) (@pi1 K _ _ _ _ _ _ _ rfl (pv 0)) (by rfl) (.inl rfl)) (@pss_cons _ _ _ _ _ (@ps_if _ _ _ _ _ _ _ _ (pt_cmpR op_eq (pv 1) pe_str (nomark _)) (@pss_one _ _ _ (@ps_ret _ _ _ _ (@aB _ _ _ _ a9))) pss_nil) (@pss_cons _ _ _ _ _ (@ps_if _ _ _ _ _ _ _ _ (pt_cmpR op_eq (pv 1) pe_str (nomark _)) (@pss_one _ _ _ (@ps_ret _ _ _ _ (@aB _ _ _ _ (@pa1 _ _ _ (@pe_tupPK _ K _ _ _ _ rfl (@pa2 _ _ _ _ _ (@pi1 K _ _ _ _ _ _ _ rfl (pv 0)) (@pi1 K _ _ _ _ _ _ _ rfl (pv 0)) (by rfl) (by rfl))) (by rfl))))) pss_nil) (@pss_cons _ _ _ _ _ (@ps_if _ _ _ _ _ _ _ _ (pt_cmpR (op_in_seqK (K:=K) rfl) (pv 1) (@pe_tupPK _ K _ _ _ _ rfl (@pa2 _ _ _ _ _ pe_str pe_str (by rfl) (by rfl))) rfl) (@pss_one _ _ _ (@ps_ret _ _ _ _ (@aB _ _ _ _ (@pa2 _ _ _ _ _ (@pe_tupPK _ K _ _ _ _ rfl (@pa1 _ _ _ (@pi1 K _ _ _ _ _ _ _ rfl (pv 0)) (by rfl))) (@pe_tupPK _ K _ _ _ _ rfl (@pa1 _ _ _ (@pi1 K _ _ _ _ _ _ _ rfl (pv 0)) (by rfl))) (by rfl) (by rfl))))) pss_nil) (@pss_one _ _ _ (@ps_ret _ _ _ _ (@aB _ _ _ _ (@pa1 _ _ _ (@pe_tupPK _ K _ _ _ _ rfl (@pa1 _ _ _ (@pi1 K _ _ _ _ _ _ _ rfl (pv 0)) (by rfl))) (by rfl))))))))),?_⟩
 cases dr with
 | false =>
  refine ⟨_,rfl,_,_,_,hp,rfl,rfl,isS ?_⟩;refine fC rfl ?_;exact ⟨(by show 0<=sizeLine;decide),λa ha=>q a _ _ ha (ae ha _) aa .nil⟩
 | true =>
  refine ⟨_,rfl,_,_,_,hp,rfl,rfl,isS ?_⟩;refine jX rfl (by decide) (jX rfl (by decide) (rm rfl (by decide) (by decide) λH1 g1=>?_));refine ⟨_,rfl,_,_,_,hp.same g1,rfl,rfl,λv hv=>⟨[.str "z"],.cons hv .nil,sz1,λv2 H2 g2 hv2=>?_⟩⟩;exact ⟨sz1,λa ha=>q a _ _ ((g1.trans g2).free ha) ((g1.trans g2).trans (ae ha _)) aa (.cons (hv2.same (ae ha _)) .nil)⟩
def jY (K:W.Frag) (_:Ads):Sp:=λvs H Q _=>∃ (dr:Bool) (l:Int) (x:V),vs=[x]/\IsP K H (pcD dr l) x/\∀ a ys H',H a=none->Same H H'->H' a=some (.lst ys)->IsPs K H' (mkL dr) ys->Q (.ref a) H'
theorem bM (T:Tx K mg ad) {f:Addr} {fd:FuncData} (F:Gn K mg "made_paths" dC ["piece"] f fd):FnOk P w K mg base CX0 1 f fd ["piece"] (jY K ad):=by
 refine F.F.ok fH (λvs H Q E h=>?_) (λcdv A outer s H vs Q E hr h=>?_)
 ·obtain ⟨dr,l,x,rfl,_⟩:=h
  rfl
 obtain ⟨dr,l,x,rfl,hp,q⟩:=h;refine ⟨_,(@pss_cons _ _ _ _ _ (@ps_set _ _ 1 _ _ _ _ fH.nd rfl (Or.inl rfl) (@pi1 K _ _ _ _ _ _ _ rfl (pv 0)) (by rfl) (.inl rfl)) (@pss_cons _ _ _ _ _ (@ps_if _ _ _ _ _ _ _ _ (pt_cmpR op_eq (pv 1) pe_str (nomark _)) (@pss_one _ _ _ (@ps_ret _ _ _ _ (@aB _ _ _ _ a9))) pss_nil) (@pss_cons _ _ _ _ _ (@ps_if _ _ _ _ _ _ _ _ (pt_cmpR op_eq (pv 1) pe_str (nomark _)) (@pss_one _ _ _ (@ps_ret _ _ _ _ (@aB _ _ _ _ (@pa1 _ _ _ (@pe_tupPK _ K _ _ _ _ rfl (@pa2 _ _ _ _ _ (@pi1 K _ _ _ _ _ _ _ rfl (pv 0)) (@pi1 K _ _ _ _ _ _ _ rfl (pv 0)) (by rfl) (by rfl))) (by rfl))))) pss_nil) (@pss_cons _ _ _ _ _ (@ps_if _ _ _ _ _ _ _ _ (pt_cmpR (op_in_seqK (K:=K) rfl) (pv 1) (@pe_tupPK _ K _ _ _ _ rfl (@pa2 _ _ _ _ _ pe_str pe_str (by rfl) (by rfl))) rfl) (@pss_one _ _ _ (@ps_ret _ _ _ _ (@aB _ _ _ _ (@pa1 _ _ _ (@pe_tupPK _ K _ _ _ _ rfl (@pa1 _ _ _ (@pi1 K _ _ _ _ _ _ _ rfl (pv 0)) (by rfl))) (by rfl))))) pss_nil) (@pss_cons _ _ _ _ _ (@ps_if _ _ _ _ _ _ _ _ (pt_cmpR (op_in_seqK (K:=K) rfl) (pv 1) (@pe_tupPK _ K _ _ _ _ rfl (@pa2 _ _ _ _ _ pe_str pe_str (by rfl) (by rfl))) rfl) (@pss_one _ _ _ (@ps_ret _ _ _ _ (@aB _ _ _ _ (@pa2 _ _ _ _ _ (@pe_tupPK _ K _ _ _ _ rfl (@pa1 _ _ _ (@pi1 K _ _ _ _ _ _ _ rfl (pv 0)) (by rfl))) (@pe_tupPK _ K _ _ _ _ rfl (@pa1 _ _ _ (@pi1 K _ _ _ _ _ _ _ rfl (pv 0)) (by rfl))) (by rfl) (by rfl))))) pss_nil) (@pss_cons _ _ _ _ _ (@ps_if _ _ _ _ _ _ _ _ (pt_cmpR (op_in_seqK (K:=K) rfl) (pv 1) (@pe_tupPK _ K _ _ _ _ rfl (@pa2 _ _ _ _ _ pe_str pe_str (by rfl) (by rfl))) rfl) (@pss_one _ _ _ (@ps_ret _ _ _ _ (@aB _ _ _ _ (@pa1 _ _ _ (@pe_tupPK _ K _ _ _ _ rfl (@pa1 _ _ _ (@pi1 K _ _ _ _ _ _ _ rfl (pv 0)) (by rfl))) (by rfl))))) pss_nil) (@pss_one _ _ _ (@ps_ret _ _ _ _ (@aB _ _ _ _ (@pa1 _ _ _ (@pe_tupPK _ K _ _ _ _ rfl (@pa1 _ _ _ (@pi1 K _ _ _ _ _ _ _ rfl (pv 0)) (by rfl))) (by rfl))))))))))),?_⟩
 cases dr with
 | true =>
  refine ⟨_,rfl,_,_,_,hp,rfl,rfl,isS ?_⟩;refine fC rfl ?_;exact ⟨(by show 0<=sizeLine;decide),λa ha=>q a _ _ ha (ae ha _) aa .nil⟩
 | false =>
  refine ⟨_,rfl,_,_,_,hp,rfl,rfl,isS ?_⟩;refine jX rfl (by decide) (jX rfl (by decide) (rm rfl (by decide) (by decide) λH0 g0=>rm rfl (by decide) (by decide) λH3 k1=>rm rfl (by decide) (by decide) λH1 k2=>?_));have g1:=(g0.trans k1).trans k2;refine ⟨_,rfl,_,_,_,hp.same g1,rfl,rfl,λv hv=>⟨[.str "z"],.cons hv .nil,sz1,λv2 H2 g2 hv2=>?_⟩⟩;exact ⟨sz1,λa ha=>q a _ _ ((g1.trans g2).free ha) ((g1.trans g2).trans (ae ha _)) aa (.cons (hv2.same (ae ha _)) .nil)⟩
def jZ (K:W.Frag) (_:Ads):Sp:=λvs H Q _=>∃ (fs:List (Str×Dt)) (e:Dt) (x y:V),vs=[x,y]/\IsP K H (ak fs) x/\IsP K H zP y/\aq fs "z" = some e/\∀ v,IsP K H e v->Q v H
theorem hV {K:W.Frag} {H:Hp} {z:Str} {v:V} (h:IsP K H (.tup [.str z]) v):∃ a,v=.ref a/\SqT K H a [.str z]:=by
 obtain ⟨a,xs,rfl,ha,pa,ra⟩:=h.unref
 cases ra with
 | cons r1 rb =>
  cases rb
  obtain rfl:=bi r1;exact ⟨a,rfl,ha⟩
theorem fD (T:Tx K mg ad) {f:Addr} {fd:FuncData} (F:Gn K mg "value_down" dG ["record","path"] f fd):FnOk P w K mg base CX0 2 f fd ["record","path"] (jZ K ad):=by
 obtain ⟨_,_,CL⟩:=T.field_of;have Dc:=iA (P:=P) (w:=w) (base:=base) T CL;refine F.F.ok bO (λvs H Q E h=>?_) (λcdv A outer s H vs Q E hr h=>?_)
 ·obtain ⟨fs,e,x,y,rfl,_⟩:=h
  rfl
 obtain ⟨fs,e,x,y,rfl,hx,hy,hd,q⟩:=h;refine ⟨_,(@pss_cons _ _ _ _ _ (@ps_set _ _ 2 _ _ _ _ bO.nd rfl (Or.inl rfl) (pv 0) (by rfl) (.inl rfl)) (@pss_cons _ _ _ _ _ (ps_for PassesOwn.never rfl (pi_tupN (K:=K) rfl (pv 1)) (ag (i:=3) bO.nd rfl (Or.inl rfl))
    (@pss_one _ _ _ (@ps_set _ _ 2 _ _ _ _ bO.nd rfl (Or.inl rfl) (0,CL,Dc,@pa2 _ _ _ _ _ (pv 2) (pv 3) (by rfl) (by rfl)) (by rfl) (.inl rfl)))) (@pss_one _ _ _ (@ps_ret _ _ _ _ (pv 2))))),?_⟩
 obtain ⟨a,rfl,ha⟩:=hV hy;refine ⟨_,rfl,_,rfl,a,rfl,⟨_,ha⟩,fY (xs:=[.str "z"]) (λi σ H'=>H'=H/\∃ v v1,(i=0->v=x)/\(i=1->IsP K H e v)/\σ=[some x,some (.ref a),some v,v1]) ⟨rfl,_,_,λ_=>rfl,(λh=>by cases h),rfl⟩ (λi σ H' _ p=>p.1 ▸ ha) ?_ ?_⟩
 ·rintro i u σ H' hu ⟨rfl,v,v1,h0,h1,rfl⟩
  match i,hu with
  | 0,hu =>
   obtain rfl:V.str "z" = u:=by simpa using hu
   obtain rfl:=h0 rfl;exact ⟨_,rfl,_,rfl,fs,"z",e,_,rfl,hx,hd,λv' hv'=>⟨rfl,v',_,(λh=>by cases h),λ_=>hv',rfl⟩⟩
  | i+1,hu=>simp at hu
 ·rintro σ H' ⟨rfl,v,v1,h0,h1,rfl⟩;exact ⟨_,rfl,q v (h1 rfl)⟩
def BR (dr:Bool) (e:Dt):List Dt:=if dr then [e] else []
theorem hZ {K:W.Frag} {H:Hp} {ys:List V} (h:IsPs K H [zP] ys):∃ y,ys=[y]/\IsP K H zP y:=by
 cases h with
 | cons h1 h2=>cases h2;exact ⟨_,rfl,h1⟩
theorem fo {K:W.Frag} {H:Hp} {ys:List V} (h:IsPs K H [] ys):ys=[]:=by cases h;rfl
def j0 (K:W.Frag) (_:Ads):Sp:=λvs H Q _=>∃ (dr:Bool) (l:Int) (fs:List (Str×Dt)) (e:Dt) (x y:V),vs=[x,y]/\IsP K H (pcD dr l) x/\IsP K H (ak fs) y/\(dr=true->aq fs "z" = some e)/\∀ v H',Same H H'->IsP K H' (.tup (BR dr e)) v->Q v H'
theorem cK (T:Tx K mg ad) {f:Addr} {fd:FuncData} (F:Gn K mg "old_values" b7 ["piece","record"] f fd):FnOk P w K mg base CX0 3 f fd ["piece","record"] (j0 K ad):=by
 obtain ⟨_,_,Cy⟩:=T.value_down;have C0:=fD (P:=P) (w:=w) (base:=base) T Cy;obtain ⟨_,_,B1⟩:=T.taken_paths;have Ch:=bv (P:=P) (w:=w) (base:=base) T B1;refine F.F.ok ko (λvs H Q E h=>?_) (λcdv A outer s H vs Q E hr h=>?_)
 ·obtain ⟨dr,l,fs,e,x,y,rfl,_⟩:=h
  rfl
 obtain ⟨dr,l,fs,e,x,y,rfl,hx,hy,he,q⟩:=h;refine ⟨_,(@pss_one _ _ _ (@ps_ret _ _ _ _ (pe_callTy (call_tuplePN (K:=K) rfl) rfl T.z_tuple boot_tuple (@pa1 _ _ _ (aC rfl (csR (sc:=ac b7) (NL:=["path"]) (N:=["piece","record"]) (ρ:=[1]) (N':=["path","record"]) rfl rfl rfl (by decide +kernel) (by decide +kernel) (by decide +kernel) rfl (by decide +kernel)) (az (K:=K) rfl (0,B1,Ch,@pa1 _ _ _ (pv 0) (by rfl))) (λ_ _ _ _=>(ag (i:=0) (show List.Nodup (α:=Str) ["path","record"] by decide +kernel) rfl (Or.inl rfl))) (λ_ _ _ _=>(0,Cy,C0,@pa2 _ _ _ _ _ (pv 1) (pv 0) (by rfl) (by rfl)))) (by rfl))))),?_⟩;refine ⟨_,rfl,dr,l,x,rfl,hx,λa us H1 ha g1 e1 hus=>?_⟩;refine ⟨a,rfl,⟨_,SqL.of e1⟩,λb hb=>?_⟩
 cases dr with
 | false =>
  obtain rfl:=fo hus;refine ax (K:=K) (xs:=[]) (λj ys σ H'=>Same H1 H'/\H' b=some (.lst ys)/\ys=[]) ⟨ae hb _,aa,rfl⟩ (λj ys σ H' _ pv=>SqL.of (pv.1 _ _ e1)) (λj u ys σ H2 N hu=>by simp at hu) ?_;rintro ys σ H2 ⟨s2,e2,rfl⟩;exact ⟨b,[],[],rfl,SqL.of e2,.nil,λv H3 g3 hv=>q v H3 ((g1.trans s2).trans g3) hv⟩
 | true =>
  obtain ⟨u1,rfl,hu1⟩:=hZ hus;refine ax (K:=K) (xs:=[u1]) (λj ys σ H'=>Same H1 H'/\H' b=some (.lst ys)/\IsPs K H' ([e].take j) ys/\∃ v1,σ=[v1,some y]) ⟨ae hb _,aa,.nil,none,rfl⟩ (λj ys σ H' _ pv=>SqL.of (pv.1 _ _ e1)) ?_ ?_
  ·rintro j u ys σ H2 N hu ⟨s2,e2,d2,v1,rfl⟩ next
   match j,hu,d2,next with
   | 0,hu,d2,next =>
    obtain rfl:u1=u:=by simpa using hu
    cases d2
    refine ⟨_,rfl,_,rfl,fs,e,y,u1,rfl,(hy.same g1).same s2,hu1.same s2,he rfl,λv hv=>?_⟩;exact ⟨e2,by decide,next _ _ _ ⟨ar hb s2,aa,IsPs.but e2 But.put (.cons hv .nil),_,rfl⟩⟩
   | j+1,hu,_,_=>simp at hu
  ·rintro ys σ H2 ⟨s2,e2,d2,v1,rfl⟩;exact ⟨b,ys,[e],rfl,SqL.of e2,d2,λv H3 g3 hv=>q v H3 ((g1.trans s2).trans g3) hv⟩
def j3 (K:W.Frag) (_:Ads):Sp:=λvs H Q _=>∃ (l:Int) (fs:List (Str×Dt)) (e:Dt) (x y:V),vs=[x,y]/\IsP K H (puD l) x/\IsP K H (ak fs) y/\aq fs "z" = some e/\∀ v H',Same H H'->IsP K H' (.tup [e]) v->Q v H'
theorem j4 (T:Tx K mg ad) {f:Addr} {fd:FuncData} (F:Gn K mg "new_values" b8 ["piece","record"] f fd):FnOk P w K mg base CX0 3 f fd ["piece","record"] (j3 K ad):=by
 obtain ⟨_,_,Cy⟩:=T.value_down;have C0:=fD (P:=P) (w:=w) (base:=base) T Cy;obtain ⟨_,_,B4⟩:=T.made_paths;have Cl:=bM (P:=P) (w:=w) (base:=base) T B4;refine F.F.ok kq (λvs H Q E h=>?_) (λcdv A outer s H vs Q E hr h=>?_)
 ·obtain ⟨l,fs,e,x,y,rfl,_⟩:=h
  rfl
 obtain ⟨l,fs,e,x,y,rfl,hx,hy,he,q⟩:=h;refine ⟨_,(@pss_one _ _ _ (@ps_ret _ _ _ _ (pe_callTy (call_tuplePN (K:=K) rfl) rfl T.z_tuple boot_tuple (@pa1 _ _ _ (aC rfl (csR (sc:=ac b8) (NL:=["path"]) (N:=["piece","record"]) (ρ:=[1]) (N':=["path","record"]) rfl rfl rfl (by decide +kernel) (by decide +kernel) (by decide +kernel) rfl (by decide +kernel)) (az (K:=K) rfl (0,B4,Cl,@pa1 _ _ _ (pv 0) (by rfl))) (λ_ _ _ _=>(ag (i:=0) (show List.Nodup (α:=Str) ["path","record"] by decide +kernel) rfl (Or.inl rfl))) (λ_ _ _ _=>(0,Cy,C0,@pa2 _ _ _ _ _ (pv 1) (pv 0) (by rfl) (by rfl)))) (by rfl))))),?_⟩;refine ⟨_,rfl,false,l,x,rfl,hx,λa us H1 ha g1 e1 hus=>?_⟩;refine ⟨a,rfl,⟨_,SqL.of e1⟩,λb hb=>?_⟩;obtain ⟨u1,rfl,hu1⟩:=hZ hus;refine ax (K:=K) (xs:=[u1]) (λj ys σ H'=>Same H1 H'/\H' b=some (.lst ys)/\IsPs K H' ([e].take j) ys/\∃ v1,σ=[v1,some y]) ⟨ae hb _,aa,.nil,none,rfl⟩ (λj ys σ H' _ pv=>SqL.of (pv.1 _ _ e1)) ?_ ?_
 ·rintro j u ys σ H2 N hu ⟨s2,e2,d2,v1,rfl⟩ next
  match j,hu,d2,next with
  | 0,hu,d2,next =>
   obtain rfl:u1=u:=by simpa using hu
   cases d2
   refine ⟨_,rfl,_,rfl,fs,e,y,u1,rfl,(hy.same g1).same s2,hu1.same s2,he,λv hv=>?_⟩;exact ⟨e2,by decide,next _ _ _ ⟨ar hb s2,aa,IsPs.but e2 But.put (.cons hv .nil),_,rfl⟩⟩
  | j+1,hu,_,_=>simp at hu
 ·rintro ys σ H2 ⟨s2,e2,d2,v1,rfl⟩;exact ⟨b,ys,[e],rfl,SqL.of e2,d2,λv H3 g3 hv=>q v H3 ((g1.trans s2).trans g3) hv⟩
def A2 (dr:Bool) (l:Int):List Dt:=if dr then [] else [.int l]
def jv (K:W.Frag) (_:Ads):Sp:=λvs H Q _=>∃ (dr:Bool) (l:Int) (x y z:V),vs=[x,y,z]/\IsP K H (pcD dr l) x/\∀ v H',Same H H'->IsP K H' (.tup (A2 dr l)) v->Q v H'
theorem ed (T:Tx K mg ad) {f:Addr} {fd:FuncData} (F:Gn K mg "made_values" cP ["piece","kind","values"] f fd):FnOk P w K mg base CX0 1 f fd ["piece","kind","values"] (jv K ad):=by
 refine F.F.ok eY (λvs H Q E h=>?_) (λcdv A outer s H vs Q E hr h=>?_)
 ·obtain ⟨dr,l,x,y,z,rfl,_⟩:=h
  rfl
 obtain ⟨dr,l,x,y,z,rfl,hp,q⟩:=h;refine ⟨_,(@pss_cons _ _ _ _ _ (@ps_set _ _ 3 _ _ _ _ eY.nd rfl (Or.inl rfl) (@pi1 K _ _ _ _ _ _ _ rfl (pv 0)) (by rfl) (.inl rfl)) (@pss_cons _ _ _ _ _ (@ps_if _ _ _ _ _ _ _ _ (pt_cmpR op_eq (pv 3) pe_str (nomark _)) (@pss_one _ _ _ (@ps_ret _ _ _ _ (@pe_tupPK _ K _ _ _ _ rfl (@pa1 _ _ _ (@pi1 K _ _ _ _ _ _ _ rfl (pv 0)) (by rfl))))) pss_nil) (@pss_cons _ _ _ _ _ (@ps_if _ _ _ _ _ _ _ _ (pt_cmpR op_eq (pv 3) pe_str (nomark _)) (@pss_one _ _ _ (@ps_ret _ _ _ _ (@pe_tupPK _ K _ _ _ _ rfl a9))) pss_nil) bF))),?_⟩
 cases dr with
 | false =>
  refine ⟨_,rfl,_,_,_,hp,rfl,rfl,isS ?_⟩;refine fC rfl ?_;exact ⟨_,rfl,_,_,_,hp,rfl,rfl,λu1 hu1=>⟨[.int l],.cons hu1 .nil,sz1,q⟩⟩
 | true =>
  refine ⟨_,rfl,_,_,_,hp,rfl,rfl,isS ?_⟩;refine jX rfl (by decide) (fC rfl ?_);exact ⟨[],.nil,(by show 0<=sizeLine;decide),q⟩
theorem my (n:Nat):(List.replicate n true).all id=true:=aAO.mpr λb hb=>(List.mem_replicate.mp hb).2 ▸ rfl
inductive PtOk:Dt->Str->Prop
 | text {z:Str}:PtOk (.str z) "text"
 | tup {l:List Dt}:PtOk (.tup l) "tuple"
 | any {d:Dt}:PtOk d "any"
def ql (K:W.Frag) (_:Ads):Sp:=λvs H Q _=>∃ (d:Dt) (so:Str) (x:V),vs=[x,.str so]/\IsP K H d x/\PtOk d so/\Q (.bl true) H
theorem qm (T:Tx K mg ad) {f:Addr} {fd:FuncData} (F:Gn K mg "is_part" im ["part","sort"] f fd):FnOk P w K mg base CX0 2 f fd ["part","sort"] (ql K ad):=by
 obtain ⟨_,_,Cj⟩:=T.is_whole;have CD:=d7 (P:=P) (w:=w) (base:=base) T Cj;refine F.F.ok qD (λvs H Q E h=>?_) (λcdv A outer s H vs Q E hr h=>?_)
 ·obtain ⟨d,so,x,rfl,_⟩:=h
  rfl
 obtain ⟨d,so,x,rfl,hd,ok,q⟩:=h;refine ⟨_,(@pss_cons _ _ _ _ _ (@ps_if _ _ _ _ _ _ _ _ (pt_cmpR op_eq (pv 1) pe_str (nomark _)) (@pss_one _ _ _ (@ps_ret _ _ _ _ (pe_callB (aE (K:=K) rfl) rfl T.z_isinstance boot_isinstance (@pa2 _ _ _ _ _ (pv 0) (bH rfl T.z_str boot_str) (by rfl) (by rfl))))) pss_nil) (@pss_cons _ _ _ _ _ (@ps_if _ _ _ _ _ _ _ _ (pt_cmpR op_eq (pv 1) pe_str (nomark _)) (@pss_one _ _ _ (@ps_ret _ _ _ _ (0,Cj,CD,@pa1 _ _ _ (pv 0) (by rfl)))) pss_nil) (@pss_one _ _ _ (@ps_ret _ _ _ _ (yg (pe_cmpR op_eq (pv 1) pe_str (nomark _)) (pe_one (pe_callB (aE (K:=K) rfl) rfl T.z_isinstance boot_isinstance (@pa2 _ _ _ _ _ (pv 0) (bH rfl T.z_tuple boot_tuple) (by rfl) (by rfl))))))))),?_⟩
 cases ok with
 | text =>
  obtain rfl:=bi hd;refine fC rfl ?_;exact ⟨_,rfl,_,_,_,rfl,.str_str,q⟩
 | tup =>
  obtain ⟨a,xs,rfl,ha,_,_⟩:=id hd.unref;refine jX rfl (by decide) (jX rfl (by decide) ?_);exact ⟨_,rfl,rfl,_,rfl,iteN (by intro e;exact absurd e (by decide)) ⟨_,rfl,_,_,_,rfl,.tup_tuple ha,q⟩⟩
 | any =>
  refine jX rfl (by decide) (jX rfl (by decide) ?_);exact ⟨_,rfl,rfl,_,rfl,aQ q⟩
abbrev sorts3:List Str:=["text","tuple","any"]
def gJ (K:W.Frag) (_:Ads):Sp:=λvs H Q _=>∃ (l:Int) (x:V),vs=[x]/\IsP K H (puD l) x/\∀ H',Same H H'->Q (.bl true) H'
theorem gK (T:Tx K mg ad) {f:Addr} {fd:FuncData} (F:Gn K mg "has_piece_form" bJ ["piece"] f fd):FnOk P w K mg base CX0 3 f fd ["piece"] (gJ K ad):=by
 obtain ⟨_,_,DJ⟩:=T.is_part;have Eh:=qm (P:=P) (w:=w) (base:=base) T DJ;obtain ⟨c_PIECE_FORMS,d_PIECE_FORMS,s_PIECE_FORMS⟩:=T.PIECE_FORMS;refine F.F.ok sc_has_piece_form (λvs H Q E h=>?_) (λcdv A outer s H vs Q E hr h=>?_)
 ·obtain ⟨l,x,rfl,_⟩:=h
  rfl
 obtain ⟨l,x,rfl,hp,q⟩:=h;refine ⟨_,(@pss_cons _ _ _ _ _ (@ps_if _ _ _ _ _ _ _ _ (PW.pt (@pw_or _ _ _ _ _ _ _ (@pt_not _ _ _ _ (@pt_val _ _ _ (pe_callB (aE (K:=K) rfl) rfl T.z_isinstance boot_isinstance (@pa2 _ _ _ _ _ (pv 0) (bH rfl T.z_tuple boot_tuple) (by rfl) (by rfl))) (by intro _;rfl))) (@pw_or _ _ _ _ _ _ _ (pt_cmpR op_eq (pe_callB (call_lenDN (K:=K) rfl) rfl T.z_len PySem.boot_len (@pa1 _ _ _ (pv 0) (by rfl))) pe_int (nomark _)) (@pw_or1 _ _ _ _ (@pt_not _ _ _ _ (@pt_val _ _ _ (pe_callB (aE (K:=K) rfl) rfl T.z_isinstance boot_isinstance (@pa2 _ _ _ _ _ (@pi1 K _ _ _ _ _ _ _ rfl (pv 0)) (bH rfl T.z_str boot_str) (by rfl) (by rfl))) (by intro _;rfl))))))) (@pss_one _ _ _ (@ps_ret _ _ _ _ pe_bl)) pss_nil) (@pss_cons _ _ _ _ _ (@ps_set _ _ 1 _ _ _ _ sc_has_piece_form.nd rfl (Or.inl rfl) (pe_kget1 d_PIECE_FORMS rfl c_PIECE_FORMS (@pa1 _ _ _ (@pi1 K _ _ _ _ _ _ _ rfl (pv 0)) (by rfl))) (by rfl) (.inl rfl)) (@pss_cons _ _ _ _ _ (@ps_if _ _ _ _ _ _ _ _ (PW.pt (@pw_or _ _ _ _ _ _ _ (pt_cmpR op_isN (pv 1) pe_non (nomark _)) (@pw_or1 _ _ _ _ (pt_cmpR op_ne (pe_callB (call_len_seqN (K:=K) rfl) rfl T.z_len PySem.boot_len (@pa1 _ _ _ (pv 1) (by rfl))) (@pe_op _ _ _ _ _ _ _ _ op_sub (pe_callB (call_lenDN (K:=K) rfl) rfl T.z_len PySem.boot_len (@pa1 _ _ _ (pv 0) (by rfl))) pe_int) (nomark _))))) (@pss_one _ _ _ (@ps_ret _ _ _ _ pe_bl)) pss_nil) (@pss_one _ _ _ (@ps_ret _ _ _ _ (pe_callB (call_allN (K:=K) rfl rfl) rfl T.z_all boot_all (@pa1 _ _ _ (aC rfl (cs0 (NL:=["part","sort"]) rfl (by decide +kernel) (by decide +kernel)) (wU rfl T.z_zip (@pa2 _ _ _ _ _ (bP (cg (K:=K) rfl) (pv 0) (cA pe_int) cz) (pv 1) (by rfl) (by rfl))) (λ_ _ _ _=>(bL (K:=K) (n:=2) rfl rfl (am (ag (i:=0) (show List.Nodup (α:=Str) ["part","sort"] by decide +kernel) rfl (Or.inl rfl)) (am (ag (i:=1) (show List.Nodup (α:=Str) ["part","sort"] by decide +kernel) rfl (Or.inl rfl)) aI)))) (λ_ _ _ _=>(0,DJ,Eh,@pa2 _ _ _ _ _ (pv 0) (pv 1) (by rfl) (by rfl)))) (by rfl)))))))),?_⟩;obtain ⟨a,xs,rfl,ha,pa,ra⟩:=id hp.unref;refine ⟨_,rfl,_,_,_,rfl,.tup_tuple ha,_,rfl,aL ?_⟩;refine ⟨_,rfl,_,_,rfl,hp.d,rfl,_,rfl,aL ?_⟩;refine ⟨_,rfl,_,_,_,hp,rfl,at0 _ _,isS ?_⟩;refine ⟨_,_,_,rfl,.str_str,_,rfl,aL ?_⟩;refine ⟨_,rfl,_,_,_,hp,rfl,at0 _ _,isS ?_⟩;have hf:SqT K H 364 (sorts3.map V.str):=(s_PIECE_FORMS (364,sorts3) (by simp) _);refine ⟨_,rfl,?_⟩;rw [show kR "put" [(("put" : Str),(364:Addr)),("drop",365),("name",366),("sink",367),("lift",368),("turn",369),("split",370),("join",371),("part",372),("whole",373)]=some 364 from by decide];refine ⟨_,rfl,rfl,_,rfl,iteN (by intro z;cases z) ?_⟩;refine ⟨_,rfl,364,_,rfl,.inr hf,_,rfl,_,_,rfl,hp.d,_,_,rfl,rfl,rfl,_,rfl,aL ?_⟩;refine ⟨_,rfl,_,rfl,_,hp,λv1 H1 g1 hv1=>?_⟩;have hv2:IsP K H1 (.tup [.str "z",bj 0 9,.int l]) v1:=hv1;obtain ⟨b,xs2,rfl,hb,pb,rb⟩:=id hv2.unref;have hf1:=g1.tup hf;refine ⟨_,rfl,b,364,rfl,⟨_,hb⟩,⟨_,hf1⟩,λm hln=>?_⟩;have lx:=rb.length;refine pU (K:=K) (xs:=xs2) (ys:=sorts3.map V.str) (λi us σ H'=>us=bls (List.replicate i true)/\i<=3/\Same H1 H'/\H' m=some (.lst us)/\∃ v1 v2,σ=[v1,v2]) ⟨rfl,aAB _,ae hln _,aa,none,none,rfl⟩ (λi us σ H' r=>⟨r.2.2.1.tup hb,r.2.2.1.tup hf1⟩) ?_ ?_
 ·rintro i u y T us σ H2 N hu hy hT ⟨rfl,hi,g2,e2,v1,v2,rfl⟩ next;obtain ⟨d,hd,hpd⟩:=rb.get' hu;rw [aAc] at hy;obtain ⟨so,hso,rfl⟩:=aAd.mp hy;have hi3:i < 3:=(aAg.mp hso).1;have ok:PtOk d so:=by
   match i,hd,hso with
   | 0,hd,hso=>rw [<- Option.some.inj hd,<- Option.some.inj hso];exact .text
   | 1,hd,hso=>rw [<- Option.some.inj hd,<- Option.some.inj hso];exact .tup
   | 2,hd,hso=>rw [<- Option.some.inj hd,<- Option.some.inj hso];exact .any
   | i+3,_,hso=>simp at hso
  have gT:=ae hT (.tup [u,V.str so]);refine ⟨T,_,rfl,.inl (.inl aa),rfl,_,_,rfl,_,_,rfl,rfl,?_⟩;refine ⟨_,rfl,_,rfl,d,so,u,rfl,(hpd.same g2).same gT,ok,?_⟩;refine ⟨gT _ _ e2,?_,next _ _ _ ⟨?_,by lia,ar hln (g2.trans gT),aa,_,_,rfl⟩⟩
  ·rw [bls,aAb,aBi];exact ai (by lia)
  ·unfold bls;rw [List.replicate_succ',aAy]
   rfl
 ·rintro us σ H2 ⟨rfl,hi,g2,e2,v1,v2,rfl⟩;refine ⟨m,_,rfl,rfl,SqL.of e2,?_⟩;rw [my];exact q H2 (g1.trans g2)
theorem lg {f:Str×Dt}:∀ {fs:List (Str×Dt)},(fs.map (·.1)).Nodup->f∈fs->aq fs f.1=some f.2
 | [],_,h=>by simp at h
 | g :: fs,nd,h=>by
  have nd':=aAR.mp nd;rcases aAf.mp h with rfl | h
  ·simp [aq]
  ·have e:¬ g.1=f.1:=λq=>nd'.1 (aAF.mpr ⟨f,h,q.symm⟩);have e2:aq (g :: fs) f.1=aq fs f.1:=by simp [aq,e]
   rw [e2];exact lg nd'.2 h
abbrev tw (fs:List (Str×Dt)):List (Str×Dt):=fs.filter λg=>!decide (g.1∈[(Str.ofString "z")])
def iO (K:W.Frag) (_:Ads):Sp:=λvs H Q _=>∃ (fs:List (Str×Dt)) (x y:V),vs=[x,y]/\IsP K H (ak fs) x/\fs.length<=8/\IsP K H zP y/\∀ v H',Same H H'->IsP K H' (ak (tw fs)) v->Q v H'
theorem iP (T:Tx K mg ad) {f:Addr} {fd:FuncData} (F:Gn K mg "without_down" cu ["record","path"] f fd):FnOk P w K mg base CX0 2 f fd ["record","path"] (iO K ad):=by
 obtain ⟨_,_,C3⟩:=T.without_fields;have Dz:=gI (P:=P) (w:=w) (base:=base) T C3;refine F.F.ok iW (λvs H Q E h=>?_) (λcdv A outer s H vs Q E hr h=>?_)
 ·obtain ⟨fs,x,y,rfl,_⟩:=h
  rfl
 obtain ⟨fs,x,y,rfl,hx,l8,hy,q⟩:=h;refine ⟨_,(@pss_cons _ _ _ _ _ (@ps_if _ _ _ _ _ _ _ _ (pt_cmpR op_eq (pe_callB (call_lenDN (K:=K) rfl) rfl T.z_len PySem.boot_len (@pa1 _ _ _ (pv 1) (by rfl))) pe_int (nomark _)) (@pss_one _ _ _ (@ps_ret _ _ _ _ (0,C3,Dz,@pa2 _ _ _ _ _ (pv 0) (pv 1) (by rfl) (by rfl)))) pss_nil) bF),?_⟩;obtain ⟨a,rfl,ha⟩:=hV hy;refine ⟨_,rfl,_,_,rfl,hy.d,rfl,_,rfl,aQ ?_⟩;exact ⟨_,rfl,_,rfl,fs,["z"],x,a,rfl,hx,l8,.inr ha,q⟩
def AhZ (fs:List (Str×Dt)):Prop:=(fs.map (·.1)).Pairwise ltS/\(∀ f∈fs,ltS f.1 "z")/\fs.length<=7
def mz (K:W.Frag) (_:Ads):Sp:=λvs H Q _=>∃ (fs:List (Str×Dt)) (d:Dt) (x y w:V),vs=[x,y,w]/\IsP K H (ak fs) x/\AhZ fs/\IsP K H zP y/\IsP K H d w/\∀ v H',Same H H'->IsP K H' (ak (fs++[((Str.ofString "z"),d)])) v->Q v H'
theorem zH {fs:List (Str×Dt)} {z:Str} {d:Dt} (pw:(fs.map (·.1)).Pairwise ltS) (lt:∀ f∈fs,ltS f.1 z) {ss:List Str} (asc:ss.Pairwise ltS) (hm:∀ y,y∈ss↔y∈fs.map (·.1)\/y∈[z]) :
  fl ss (λy=>if y∈[z] then d else (aq fs y).getD .non)=fs++[(z,d)]:=by
 have e:ss=fs.map (·.1)++[z]:=by
  refine xL asc ?_ λy=>by rw [hm y,aA3]
  rw [List.pairwise_append];refine ⟨pw,aBX _ _,λa ha b hb=>?_⟩;obtain ⟨f,hf,rfl⟩:=aAF.mp ha;obtain rfl:=aAD.mp hb;exact lt f hf
 subst e;show (fs.map (·.1)++[z]).map (λy=>(y,if y∈[z] then d else (aq fs y).getD .non))=_;rw [aAy,aAv];have e1:fs.map ((λy=>(y,if y∈[z] then d else (aq fs y).getD .non)) ∘ (·.1))=fs.map id:=by
  refine aBn λf hf=>?_;have n:¬ f.1=z:=λq=>absurd (q ▸ lt f hf) (aB5 _);show (f.1,if f.1∈[z] then d else (aq fs f.1).getD .non)=f;rw [if_neg (λh=>n (aAD.mp h)),lg (dZ pw) hf]
  rfl
 rw [e1,List.map_id];simp
theorem mB (T:Tx K mg ad) {f:Addr} {fd:FuncData} (F:Gn K mg "with_down" eG ["record","path","value"] f fd):FnOk P w K mg base CX0 3 f fd ["record","path","value"] (mz K ad):=by
 obtain ⟨_,_,Dg⟩:=T.with_fields;have DL:=jt (P:=P) (w:=w) (base:=base) T Dg;refine F.F.ok m9 (λvs H Q E h=>?_) (λcdv A outer s H vs Q E hr h=>?_)
 ·obtain ⟨fs,d,x,y,w,rfl,_⟩:=h
  rfl
 obtain ⟨fs,d,x,y,w,rfl,hx,⟨pw,lt,l7⟩,hy,hw,q⟩:=h;refine ⟨_,(@pss_cons _ _ _ _ _ (@ps_if _ _ _ _ _ _ _ _ (pt_cmpR op_eq (pe_callB (call_lenDN (K:=K) rfl) rfl T.z_len PySem.boot_len (@pa1 _ _ _ (pv 1) (by rfl))) pe_int (nomark _)) (@pss_one _ _ _ (@ps_ret _ _ _ _ (0,Dg,DL,@pa3 _ _ _ _ _ _ _ (pv 0) (pv 1) (@aB _ _ _ _ (@pa1 _ _ _ (pv 2) (by rfl))) (by rfl) (by rfl) (by rfl)))) pss_nil) bF),?_⟩;obtain ⟨a,rfl,ha⟩:=hV hy;refine ⟨_,rfl,_,_,rfl,hy.d,rfl,_,rfl,aQ ?_⟩;refine ⟨_,rfl,_,rfl,_,rfl,sz1,λp hp=>?_⟩;have g1:=ae hp (.lst [w]);refine ⟨true,false,fs,["z"],(λ_=>d),x,a,p,[w],rfl,hx.same g1,dZ pw,by lia,by show 1<=8;decide,g1.tup ha,SqL.of aa,.cons (hw.same g1) .nil,λv H' ss g2 asc hm hv=>q v H' (g1.trans g2) ?_⟩;rw [zH pw lt asc hm] at hv;exact hv
def BS (dr:Bool) (fs:List (Str×Dt)):List (Str×Dt):=if dr then tw fs else fs
def ia (K:W.Frag) (_:Ads):Sp:=λvs H Q _=>∃ (dr:Bool) (l:Int) (fs:List (Str×Dt)) (x y:V),vs=[x,y]/\IsP K H (pcD dr l) x/\IsP K H (ak fs) y/\fs.length<=8/\∀ v H',Same H H'->IsP K H' (ak (BS dr fs)) v->Q v H'
theorem cX (T:Tx K mg ad) {f:Addr} {fd:FuncData} (F:Gn K mg "without_taken" bU ["piece","record"] f fd):FnOk P w K mg base CX0 3 f fd ["piece","record"] (ia K ad):=by
 obtain ⟨_,_,B1⟩:=T.taken_paths;have Ch:=bv (P:=P) (w:=w) (base:=base) T B1;obtain ⟨_,_,C8⟩:=T.without_down;have DG:=iP (P:=P) (w:=w) (base:=base) T C8;refine F.F.ok aZ (λvs H Q E h=>?_) (λcdv A outer s H vs Q E hr h=>?_)
 ·obtain ⟨dr,l,fs,x,y,rfl,_⟩:=h
  rfl
 obtain ⟨dr,l,fs,x,y,rfl,hx,hy,l8,q⟩:=h;refine ⟨_,(@pss_cons _ _ _ _ _ (@ps_set _ _ 2 _ _ _ _ aZ.nd rfl (Or.inl rfl) (pv 1) (by rfl) (.inl rfl)) (@pss_cons _ _ _ _ _ (ps_for PassesOwn.never rfl (az (K:=K) rfl (0,B1,Ch,@pa1 _ _ _ (pv 0) (by rfl))) (ag (i:=3) aZ.nd rfl (Or.inl rfl))
    (@pss_one _ _ _ (@ps_set _ _ 2 _ _ _ _ aZ.nd rfl (Or.inl rfl) (0,C8,DG,@pa2 _ _ _ _ _ (pv 2) (pv 3) (by rfl) (by rfl)) (by rfl) (.inl rfl)))) (@pss_one _ _ _ (@ps_ret _ _ _ _ (pv 2))))),?_⟩
 refine ⟨_,rfl,_,rfl,dr,l,x,rfl,hx,λa us H1 ha g1 e1 hus=>?_⟩
 cases dr with
 | false =>
  obtain rfl:=fo hus;refine ⟨a,rfl,⟨_,SqL.of e1⟩,be (xs:=[]) (λi σ H'=>Same H1 H'/\σ=[some x,some y,some y,none]) ⟨Same.refl _,rfl⟩ (λi σ H' _ p=>SqL.of (p.1 _ _ e1)) (λi u σ H2 hu=>by simp at hu) ?_⟩;rintro σ H2 ⟨g2,rfl⟩;exact ⟨_,rfl,q y H2 (g1.trans g2) ((hy.same g1).same g2)⟩
 | true =>
  obtain ⟨v0,rfl,hv0⟩:=hZ hus;refine ⟨a,rfl,⟨_,SqL.of e1⟩,be (xs:=[v0]) (λi σ H'=>Same H1 H'/\∃ v v3,(i=0->v=y)/\(i=1->IsP K H' (ak (tw fs)) v)/\σ=[some x,some y,some v,v3]) ⟨Same.refl _,_,_,λ_=>rfl,(λh=>by cases h),rfl⟩ (λi σ H' _ p=>SqL.of (p.1 _ _ e1)) ?_ ?_⟩
  ·rintro i u σ H2 hu ⟨g2,v,v3,hv,_,rfl⟩
   match i,hu with
   | 0,hu =>
    obtain rfl:v0=u:=by simpa using hu
    obtain rfl:=hv rfl;exact ⟨_,rfl,_,rfl,fs,_,_,rfl,(hy.same g1).same g2,l8,hv0.same g2,λv H3 g3 hv=>⟨g2.trans g3,v,_,(λh=>by cases h),λ_=>hv,rfl⟩⟩
   | i+1,hu=>simp at hu
  ·rintro σ H2 ⟨g2,v,v3,_,hv,rfl⟩;exact ⟨_,rfl,q v H2 (g1.trans g2) (hv rfl)⟩
def vB (dr:Bool) (fs:List (Str×Dt)) (d:Dt):List (Str×Dt):=if dr then tw fs else fs++[((Str.ofString "z"),d)]
def oM (K:W.Frag) (_:Ads):Sp:=λvs H Q _=>∃ (dr:Bool) (l:Int) (fs:List (Str×Dt)) (d:Dt) (x y y' w:V),vs=[x,y',y,w]/\IsP K H (pcD dr l) x/\IsP K H (ak fs) y/\fs.length<=8/\(dr=false->AhZ fs)/\IsP K H (.tup (if dr then [] else [d])) w/\∀ v H',Same H H'->IsP K H' (ak (vB dr fs d)) v->Q v H'
theorem iC (T:Tx K mg ad) {f:Addr} {fd:FuncData} (F:Gn K mg "with_new" fT ["piece","kind","record","values"] f fd):FnOk P w K mg base CX0 4 f fd ["piece","kind","record","values"] (oM K ad):=by
 obtain ⟨_,_,Co⟩:=T.without_taken;have CP:=cX (P:=P) (w:=w) (base:=base) T Co;obtain ⟨_,_,B4⟩:=T.made_paths;have Cl:=bM (P:=P) (w:=w) (base:=base) T B4;obtain ⟨_,_,Dw⟩:=T.with_down;have D5:=mB (P:=P) (w:=w) (base:=base) T Dw;refine F.F.ok bR (λvs H Q E h=>?_) (λcdv A outer s H vs Q E hr h=>?_)
 ·obtain ⟨dr,l,fs,d,x,y,y',w,rfl,_⟩:=h
  rfl
 obtain ⟨dr,l,fs,d,x,y,y',w,rfl,hx,hy,l8,ah,hw,q⟩:=h;refine ⟨_,(@pss_cons _ _ _ _ _ (@ps_set _ _ 4 _ _ _ _ bR.nd rfl (Or.inl rfl) (0,Co,CP,@pa2 _ _ _ _ _ (pv 0) (pv 2) (by rfl) (by rfl)) (by rfl) (.inl rfl)) (@pss_cons _ _ _ _ _ (ps_for PassesOwn.never rfl (oz rfl T.z_zip (@pa2 _ _ _ _ _ (0,B4,Cl,@pa1 _ _ _ (pv 0) (by rfl)) (pv 3) (by rfl) (by rfl))) (cI rfl (am (ag (i:=5) bR.nd rfl (Or.inl rfl)) (am (ag (i:=6) bR.nd rfl (Or.inl rfl)) aI)))
    (@pss_one _ _ _ (@ps_set _ _ 4 _ _ _ _ bR.nd rfl (Or.inl rfl) (0,Dw,D5,@pa3 _ _ _ _ _ _ _ (pv 4) (pv 5) (pv 6) (by rfl) (by rfl) (by rfl)) (by rfl) (.inl rfl)))) (@pss_one _ _ _ (@ps_ret _ _ _ _ (pv 4))))),?_⟩
 refine ⟨_,rfl,_,rfl,dr,l,fs,x,y,rfl,hx,hy,l8,λv0 H1 g1 hv0=>?_⟩;refine ⟨_,rfl,dr,l,x,rfl,hx.same g1,λa us H2 ha g2 e2 hus=>?_⟩
 cases dr with
 | true =>
  obtain rfl:=fo hus;obtain ⟨b,xs,rfl,hb,pb,rb⟩:=(show IsP K H (.tup []) w from hw).unref
  cases rb
  have hb2:=g2.tup (g1.tup hb);refine ⟨_,rfl,false,true,a,b,rfl,⟨_,SqL.of e2⟩,⟨_,hb2⟩,jj (tp:=false) (tq:=true) (K:=K) (xs:=[]) (ys:=[]) (λi σ H'=>Same H2 H'/\σ=[some x,some y',some y,some (.ref b),some v0,none,none]) ⟨Same.refl _,rfl⟩ (λi σ H' p=>⟨SqL.of (p.1 _ _ e2),p.1.tup hb2⟩) (λi u y1 T σ H3 hu=>by simp at hu) ?_⟩;rintro σ H3 ⟨g3,rfl⟩;exact ⟨_,rfl,q v0 H3 ((g1.trans g2).trans g3) ((hv0.same g2).same g3)⟩
 | false =>
  obtain ⟨p1,rfl,hp1⟩:=hZ hus;obtain ⟨b,xs,rfl,hb,pb,rb⟩:=(show IsP K H (.tup [d]) w from hw).unref
  cases rb with
  | cons hw1 rb =>
  cases rb
  rename_i w1
  have hb2:=g2.tup (g1.tup hb);refine ⟨_,rfl,false,true,a,b,rfl,⟨_,SqL.of e2⟩,⟨_,hb2⟩,jj (tp:=false) (tq:=true) (K:=K) (xs:=[p1]) (ys:=[w1]) (λi σ H'=>Same H2 H'/\∃ v v5 v6,IsP K H' (ak (fs++[((Str.ofString "z"),d)].take i)) v/\σ=[some x,some y',some y,some (.ref b),some v,v5,v6]) ⟨Same.refl _,_,_,_,by rw [aB4,aA9];exact hv0.same g2,rfl⟩ (λi σ H' p=>⟨SqL.of (p.1 _ _ e2),p.1.tup hb2⟩) ?_ ?_⟩
  ·rintro i u y1 T σ H3 hu hy1 hT ⟨g3,v,v5,v6,hv,rfl⟩;have gT:=ae hT (.tup [u,y1]);have eT:(upd H3 T (.tup [u,y1])) T=some (.tup [u,y1]):=aa
   generalize upd H3 T (.tup [u,y1])=H4 at gT eT ⊢
   refine ⟨T,_,rfl,.inl (.inl eT),rfl,_,_,rfl,_,_,rfl,rfl,?_⟩;have g4:=g3.trans gT;have g14:=(g1.trans g2).trans g4
   match i,hu,hy1 with
   | 0,hu,hy1 =>
    obtain rfl:p1=u:=by simpa using hu
    obtain rfl:w1=y1:=by simpa using hy1
    rw [aB4,aA9] at hv;exact ⟨_,rfl,_,rfl,_,rfl,fs,d,v,p1,w1,rfl,hv.same gT,ah rfl,hp1.same g4,hw1.same g14,λv' H5 g5 hv'=>⟨g4.trans g5,v',_,_,hv',rfl⟩⟩
   | i+1,hu,_=>simp at hu
  ·rintro σ H3 ⟨g3,v,v5,v6,hv,rfl⟩;exact ⟨_,rfl,q v H3 ((g1.trans g2).trans g3) hv⟩
abbrev kA:List (Str×Dt):=[("a",bj 0 9),("id",bj (-3) 40)]
abbrev kZ:List (Str×Dt):=[("a",bj 0 9),("id",bj (-3) 40),("z",bj 0 9)]
def mC (K:W.Frag) (_:Ads):Sp:=λvs H Q _=>∃ (x y:V),vs=[x,y]/\IsP K H (.tup []) y/\Q x H
theorem gL (T:Tx K mg ad) {f:Addr} {fd:FuncData} (F:Gn K mg "kind_down" eF ["kind","path"] f fd):FnOk P w K mg base CX0 2 f fd ["kind","path"] (mC K ad):=by
 obtain ⟨_,_,BY⟩:=T.field_kind;have Cd:=bh (P:=P) (w:=w) (base:=base) T BY;refine F.F.ok cc (λvs H Q E h=>?_) (λcdv A outer s H vs Q E hr h=>?_)
 ·obtain ⟨x,y,rfl,_⟩:=h
  rfl
 obtain ⟨x,y,rfl,hy,q⟩:=h;refine ⟨_,(@pss_cons _ _ _ _ _ (@ps_set _ _ 2 _ _ _ _ cc.nd rfl (Or.inl rfl) (pv 0) (by rfl) (.inl rfl)) (@pss_cons _ _ _ _ _ (ps_for PassesOwn.never rfl (pi_tupN (K:=K) rfl (pv 1)) (ag (i:=3) cc.nd rfl (Or.inl rfl))
    (@pss_one _ _ _ (@ps_set _ _ 2 _ _ _ _ cc.nd rfl (Or.inl rfl) (cS (pt_cmpR op_isN (pv 2) pe_non (nomark _)) pe_non (0,BY,Cd,@pa2 _ _ _ _ _ (pv 2) (pv 3) (by rfl) (by rfl))) (by rfl) (.inl rfl)))) (@pss_one _ _ _ (@ps_ret _ _ _ _ (pv 2))))),?_⟩
 obtain ⟨a,xs,rfl,ha,pa,ra⟩:=hy.unref
 cases ra
 refine ⟨_,rfl,_,rfl,a,rfl,⟨_,ha⟩,fY (xs:=[]) (λi σ H'=>H'=H/\σ=[some x,some (.ref a),some x,none]) ⟨rfl,rfl⟩ (λi σ H' _ p=>p.1 ▸ ha) (λi u σ H' hu=>by simp at hu) ?_⟩;rintro σ H' ⟨rfl,rfl⟩;exact ⟨_,rfl,q⟩
def qo (K:W.Frag) (_:Ads):Sp:=λvs H Q _=>∃ (x y:V),vs=[x,y]/\IsP K H (ak kA) x/\IsP K H zP y/\∀ H',Same H H'->Q (.bl true) H'
theorem qp (T:Tx K mg ad) {f:Addr} {fd:FuncData} (F:Gn K mg "is_free" ip ["kind","path"] f fd):FnOk P w K mg base CX0 3 f fd ["kind","path"] (qo K ad):=by
 obtain ⟨_,_,CH⟩:=T.kind_down;have C6:=gL (P:=P) (w:=w) (base:=base) T CH;obtain ⟨_,_,Cg⟩:=T.is_name;have CC:=dj (P:=P) (w:=w) (base:=base) T Cg;obtain ⟨_,_,BY⟩:=T.field_kind;have Cd:=bh (P:=P) (w:=w) (base:=base) T BY;refine F.F.ok jJ (λvs H Q E h=>?_) (λcdv A outer s H vs Q E hr h=>?_)
 ·obtain ⟨x,y,rfl,_⟩:=h
  rfl
 obtain ⟨x,y,rfl,hx,hy,q⟩:=h;refine ⟨_,(@pss_cons _ _ _ _ _ (@ps_set _ _ 2 _ _ _ _ jJ.nd rfl (Or.inl rfl) (0,CH,C6,@pa2 _ _ _ _ _ (pv 0) (bP (cg (K:=K) rfl) (pv 1) cz (cA (@pe_un _ _ _ _ _ _ un_neg pe_int))) (by rfl) (by rfl)) (by rfl) (.inl rfl)) (@pss_cons _ _ _ _ _ (@ps_if _ _ _ _ _ _ _ _ (PW.pt (@pw_or _ _ _ _ _ _ _ (pt_cmpR op_isN (pv 2) pe_non (nomark _)) (@pw_or1 _ _ _ _ (pt_cmpR op_ne (@pi1 K _ _ _ _ _ _ _ rfl (pv 2)) pe_str (nomark _))))) (@pss_one _ _ _ (@ps_ret _ _ _ _ pe_bl)) pss_nil) (@pss_one _ _ _ (@ps_ret _ _ _ _ (pe_and (0,Cg,CC,@pa1 _ _ _ (@cU _ _ _ _ _ _ _ (jb (K:=K) rfl) (pv 1) (@pe_un _ _ _ _ _ _ un_neg pe_int) (λ_ _=>rfl)) (by rfl)) (pe_one (pe_cmpR op_isN (0,BY,Cd,@pa2 _ _ _ _ _ (pv 2) (@cU _ _ _ _ _ _ _ (jb (K:=K) rfl) (pv 1) (@pe_un _ _ _ _ _ _ un_neg pe_int) (λ_ _=>rfl)) (by rfl) (by rfl)) pe_non (nomark _)))))))),?_⟩;refine ⟨_,rfl,_,rfl,_,rfl,_,rfl,_,hy,λv1 H1 g1 hv1=>?_⟩;have hx1:=hx.same g1;refine ⟨x,v1,rfl,hv1,?_⟩;obtain ⟨b,ys,rfl,_⟩:=id hx1.unref;refine ⟨_,rfl,rfl,_,rfl,iteN (by intro e;cases e) ?_⟩;refine ⟨_,rfl,_,_,_,hx1,rfl,at0 _ _,isS ?_⟩;refine ⟨rfl,_,rfl,jn ?_⟩;refine ⟨_,rfl,_,rfl,_,_,_,hy.same g1,rfl,rfl,isS ?_⟩;refine ⟨.str "z",_,rfl,.str,rfl,λH2 g2=>⟨_,rfl,?_⟩⟩;rw [show a7 (.str "z")=true from by decide +kernel];refine aG ?_;refine ⟨_,rfl,_,rfl,_,rfl,_,_,_,(hy.same g1).same g2,rfl,rfl,isS ?_⟩;refine ⟨kA.map prD,.str "z",.ref b,.str "z",rfl,hx1.same g2,.str,mw kA,?_⟩;rw [show a8 (kA.map prD) (.str "z")=none from by decide +kernel];exact ⟨rfl,q H2 (g1.trans g2)⟩
abbrev zI:List (List Key):=[[.inr "z"]]
def oN (K:W.Frag) (_:Ads):Sp:=λvs H Q _=>∃ (l:Int) (x y:V),vs=[x,y]/\IsP K H (puD l) x/\IsP K H (ak kA) y/\∀ H',Same H H'->Q (.bl true) H'
theorem oO (T:Tx K mg ad) {f:Addr} {fd:FuncData} (F:Gn K mg "can_make" dF ["piece","kind"] f fd):FnOk P w K mg base CX0 4 f fd ["piece","kind"] (oN K ad):=by
 obtain ⟨_,_,B4⟩:=T.made_paths;have Cl:=bM (P:=P) (w:=w) (base:=base) T B4;obtain ⟨_,_,Co⟩:=T.without_taken;have CP:=cX (P:=P) (w:=w) (base:=base) T Co;obtain ⟨_,_,DK⟩:=T.is_free;have Ej:=qp (P:=P) (w:=w) (base:=base) T DK;refine F.F.ok eV (λvs H Q E h=>?_) (λcdv A outer s H vs Q E hr h=>?_)
 ·obtain ⟨l,x,y,rfl,_⟩:=h
  rfl
 obtain ⟨l,x,y,rfl,hx,hy,q⟩:=h;refine ⟨_,(@pss_cons _ _ _ _ _ (@ps_set _ _ 2 _ _ _ _ eV.nd rfl (Or.inl rfl) (0,B4,Cl,@pa1 _ _ _ (pv 0) (by rfl)) (by rfl) (.inl rfl)) (@pss_cons _ _ _ _ _ (@ps_if _ _ _ _ _ _ _ _ (pt_cmpR op_ne (pe_callB kX rfl T.z_len PySem.boot_len (@pa1 _ _ _ (pe_callTy (kW (K:=K) rfl rfl hr.units) rfl T.z_set boot_set (@pa1 _ _ _ (pv 2) (by rfl))) (by rfl))) (pe_callB (call_len_seqN (K:=K) rfl) rfl T.z_len PySem.boot_len (@pa1 _ _ _ (pv 2) (by rfl))) (nomark _)) (@pss_one _ _ _ (@ps_ret _ _ _ _ pe_bl)) pss_nil) (@pss_cons _ _ _ _ _ (@ps_set _ _ 3 _ _ _ _ eV.nd rfl (Or.inr rfl) (0,Co,CP,@pa2 _ _ _ _ _ (pv 0) (pv 1) (by rfl) (by rfl)) (by rfl) (.inl rfl)) (@pss_one _ _ _ (@ps_ret _ _ _ _ (pe_callB (call_allN (K:=K) rfl rfl) rfl T.z_all boot_all (@pa1 _ _ _ (aC rfl (csR (sc:=ac dF) (NL:=["path"]) (N:=["piece","kind","paths","rest"]) (ρ:=[3]) (N':=["path","rest"]) rfl rfl rfl (by decide +kernel) (by decide +kernel) (by decide +kernel) rfl (by decide +kernel)) (az (K:=K) rfl (pv 2)) (λ_ _ _ _=>(ag (i:=0) (show List.Nodup (α:=Str) ["path","rest"] by decide +kernel) rfl (Or.inl rfl))) (λ_ _ _ _=>(0,DK,Ej,@pa2 _ _ _ _ _ (pv 1) (pv 0) (by rfl) (by rfl)))) (by rfl)))))))),?_⟩;refine ⟨_,rfl,false,l,x,rfl,hx,λa us H1 ha g1 e1 hus=>?_⟩;obtain ⟨p1,rfl,hp1⟩:=hZ hus;refine ⟨_,rfl,a,zI,[p1],rfl,SqL.of e1,.cons hp1 .nil,(by show 1<=2;decide),λps hps=>?_⟩;have g3:=ae hps (kU ps (jk zI));refine ⟨ps,_,rfl,aa,(by decide),_,rfl,a,[p1],rfl,.inl (SqL.of (g3 _ _ e1)),rfl,_,rfl,jn ?_⟩;have g13:=g1.trans g3
 generalize upd H1 ps (kU ps (jk zI))=H3 at g3 g13 ⊢
 refine ⟨_,rfl,_,rfl,false,l,kA,x,y,rfl,hx.same g13,hy.same g13,by decide,λv4 H4 g4 hv4=>?_⟩;have hv4:IsP K H4 (ak kA) v4:=hv4;have e4:=g4 _ _ (g3 _ _ e1);refine ⟨_,rfl,a,rfl,⟨_,SqL.of e4⟩,λm hm=>?_⟩;refine ax (K:=K) (xs:=[p1]) (λj ys σ H'=>Same H4 H'/\H' m=some (.lst ys)/\ys=bls (List.replicate j true)/\j<=1/\∃ v1,σ=[v1,some v4]) ⟨ae hm _,aa,rfl,aAB _,none,rfl⟩ (λj ys σ H' _ pv=>SqL.of (pv.1 _ _ e4)) ?_ ?_
 ·rintro j u ys σ H5 N hu ⟨s5,e5,rfl,hj,v1,rfl⟩ next;have hj1:j < 1:=(aAg.mp hu).1;obtain rfl:j=0:=by lia
  obtain rfl:p1=u:=by simpa using hu
  refine ⟨_,rfl,_,rfl,v4,p1,rfl,hv4.same s5,((hp1.same g3).same g4).same s5,λH6 g6=>?_⟩;exact ⟨g6 _ _ e5,(by decide),next _ _ _ ⟨ar hm (s5.trans g6),aa,rfl,by decide,_,rfl⟩⟩
 ·rintro ys σ H5 ⟨s5,e5,rfl,hj,v1,rfl⟩;refine ⟨m,_,rfl,rfl,SqL.of e5,?_⟩;rw [my];exact q H5 ((g13.trans g4).trans s5)
theorem jw:FK 1 1 (bj 0 9):=.number 0 9 (by decide) (by decide) (by decide)
def qq (K:W.Frag) (_:Ads):Sp:=λvs H Q _=>∃ (x:V),vs=[x]/\IsP K H (bj 0 9) x/\∀ H',Same H H'->Q (.bl true) H'
theorem qr (T:Tx K mg ad) {f:Addr} {fd:FuncData} (F:Gn K mg "is_kind" io ["thing"] f fd):FnOk P w K mg base CX0 23 f fd ["thing"] (qq K ad):=by
 obtain ⟨_,_,BZ⟩:=T.made_kind;have CG:=dv (P:=P) (w:=w) (base:=base) T BZ;refine F.F.ok qE (λvs H Q E h=>?_) (λcdv A outer s H vs Q E hr h=>?_)
 ·obtain ⟨x,rfl,_⟩:=h
  rfl
 obtain ⟨x,rfl,hd,q⟩:=h;refine ⟨_,(@pss_cons _ _ _ _ _ (ps_tryN (@pss_one _ _ _ (@ps_expr _ _ _ _ (pe_call CG (hr.mono (by first | decide | lia)) rfl BZ.m BZ.F.kp BZ.b .nil passF (@pa1 _ _ _ (pv 0) (by rfl))) (by rfl)))) (@pss_one _ _ _ (@ps_ret _ _ _ _ pe_bl))),?_⟩;exact ⟨_,rfl,_,x,rfl,hd,rfl,.inr ⟨1,1,jw,by decide,λ_ H1 g1=>q H1 g1,λz=>by lia⟩⟩
def vC (K:W.Frag) (_:Ads):Sp:=λvs H Q _=>∃ (l:Int) (x y:V),vs=[x,y]/\IsP K H (.int l) x/\IsP K H (bj 0 9) y/\0<=l/\l<=9/\Q (.bl true) H
theorem vD (T:Tx K mg ad) {f:Addr} {fd:FuncData} (F:Gn K mg "is_of" mO ["value","kind"] f fd):FnOk P w K mg base CX0 3 f fd ["value","kind"] (vC K ad):=by
 obtain ⟨_,_,B6⟩:=T.is_whole_within;have Ci:=cj (P:=P) (w:=w) (base:=base) T B6;refine F.F.ok pq (λvs H Q E h=>?_) (λcdv A outer s H vs Q E hr h=>?_)
 ·obtain ⟨l,x,y,rfl,_⟩:=h
  rfl
 obtain ⟨l,x,y,rfl,hv,hd,l0,l9,q⟩:=h;refine ⟨_,(@pss_cons _ _ _ _ _ (@ps_set _ _ 2 _ _ _ _ pq.nd rfl (Or.inl rfl) (@pi1 K _ _ _ _ _ _ _ rfl (pv 1)) (by rfl) (.inl rfl)) (@pss_cons _ _ _ _ _ (@ps_if _ _ _ _ _ _ _ _ (pt_cmpR op_eq (pv 2) pe_str (nomark _)) (@pss_one _ _ _ (@ps_ret _ _ _ _ (0,B6,Ci,@pa3 _ _ _ _ _ _ _ (pv 0) (@pi1 K _ _ _ _ _ _ _ rfl (pv 1)) (@pi1 K _ _ _ _ _ _ _ rfl (pv 1)) (by rfl) (by rfl) (by rfl)))) pss_nil) bF)),?_⟩;refine ⟨_,rfl,_,_,_,hd,rfl,rfl,isS ?_⟩;refine fC rfl ?_;refine ⟨_,rfl,_,rfl,_,_,_,hd,rfl,rfl,λu1 h1=>⟨_,rfl,_,_,_,hd,rfl,rfl,λu2 h2=>?_⟩⟩;obtain rfl:=mx h1;obtain rfl:=mx h2;refine ⟨.int l,x,_,_,rfl,hv,rfl,?_⟩;rw [show bZ (.int l) 0 9=true from by show (decide (0<=l) && decide (l<=9))=true;rw [decide_eq_true l0,decide_eq_true l9];rfl];exact q
def jx (K:W.Frag) (_:Ads):Sp:=λvs H Q _=>∃ (l:Int) (x y:V),vs=[x,y]/\IsP K H (puD l) x/\0<=l/\l<=9/\∀ H',Same H H'->Q (.bl true) H'
theorem jy (T:Tx K mg ad) {f:Addr} {fd:FuncData} (F:Gn K mg "takes_kinds" cN ["piece","kinds"] f fd):FnOk P w K mg base CX0 24 f fd ["piece","kinds"] (jx K ad):=by
 obtain ⟨_,_,DH⟩:=T.is_kind;have Ef:=qr (P:=P) (w:=w) (base:=base) T DH;obtain ⟨_,_,D7⟩:=T.is_of;have Em:=vD (P:=P) (w:=w) (base:=base) T D7;refine F.F.ok eU (λvs H Q E h=>?_) (λcdv A outer s H vs Q E hr h=>?_)
 ·obtain ⟨l,x,y,rfl,_⟩:=h
  rfl
 obtain ⟨l,x,y,rfl,hp,l0,l9,q⟩:=h;refine ⟨_,(@pss_cons _ _ _ _ _ (@ps_set _ _ 2 _ _ _ _ eU.nd rfl (Or.inl rfl) (@pi1 K _ _ _ _ _ _ _ rfl (pv 0)) (by rfl) (.inl rfl)) (@pss_cons _ _ _ _ _ (@ps_if _ _ _ _ _ _ _ _ (pt_cmpR op_eq (pv 2) pe_str (nomark _)) (@pss_one _ _ _ (@ps_ret _ _ _ _ (pe_and (0,DH,Ef,@pa1 _ _ _ (@pi1 K _ _ _ _ _ _ _ rfl (pv 0)) (by rfl)) (pe_one (0,D7,Em,@pa2 _ _ _ _ _ (@pi1 K _ _ _ _ _ _ _ rfl (pv 0)) (@pi1 K _ _ _ _ _ _ _ rfl (pv 0)) (by rfl) (by rfl)))))) pss_nil) bF)),?_⟩;refine ⟨_,rfl,_,_,_,hp,rfl,rfl,isS ?_⟩;refine fC rfl ?_;refine ⟨_,rfl,_,_,_,hp,rfl,rfl,λu1 hu1=>⟨u1,rfl,hu1,λH1 g1=>⟨_,rfl,aG ?_⟩⟩⟩;refine ⟨_,rfl,_,_,_,hp.same g1,rfl,rfl,λu2 hu2=>⟨_,rfl,_,_,_,hp.same g1,rfl,rfl,λu3 hu3=>?_⟩⟩;exact ⟨l,u2,u3,rfl,hu2,hu3,l0,l9,q H1 g1⟩
def oP (K:W.Frag) (_:Ads):Sp:=λvs H Q _=>∃ (l:Int) (x y:V),vs=[x,y]/\IsP K H (puD l) x/\0<=l/\l<=9/\∀ H',Same H H'->Q (.bl true) H'
theorem oQ (T:Tx K mg ad) {f:Addr} {fd:FuncData} (F:Gn K mg "can_take" dD ["piece","kind"] f fd):FnOk P w K mg base CX0 25 f fd ["piece","kind"] (oP K ad):=by
 obtain ⟨_,_,B1⟩:=T.taken_paths;have Ch:=bv (P:=P) (w:=w) (base:=base) T B1;obtain ⟨_,_,CH⟩:=T.kind_down;have C6:=gL (P:=P) (w:=w) (base:=base) T CH;obtain ⟨_,_,Dh⟩:=T.takes_kinds;have DM:=jy (P:=P) (w:=w) (base:=base) T Dh;refine F.F.ok eS (λvs H Q E h=>?_) (λcdv A outer s H vs Q E hr h=>?_)
 ·obtain ⟨l,x,y,rfl,_⟩:=h
  rfl
 obtain ⟨l,x,y,rfl,hx,l0,l9,q⟩:=h;refine ⟨_,(@pss_cons _ _ _ _ _ (@ps_set _ _ 2 _ _ _ _ eS.nd rfl (Or.inl rfl) (0,B1,Ch,@pa1 _ _ _ (pv 0) (by rfl)) (by rfl) (.inl rfl)) (@pss_cons _ _ _ _ _ (ps_setC (j:=3) eS.nd rfl (Or.inl rfl) rfl (csR (sc:=ac dD) (NL:=["path"]) (N:=["piece","kind","paths","kinds"]) (ρ:=[1]) (N':=["path","kind"]) rfl rfl rfl (by decide +kernel) (by decide +kernel) (by decide +kernel) rfl (by decide +kernel)) (az (K:=K) rfl (pv 2)) (λ_ _ _ _=>(ag (i:=0) (show List.Nodup (α:=Str) ["path","kind"] by decide +kernel) rfl (Or.inl rfl))) (λ_ _ _ _=>(0,CH,C6,@pa2 _ _ _ _ _ (pv 1) (pv 0) (by rfl) (by rfl)))) (@pss_cons _ _ _ _ _ (@ps_if _ _ _ _ _ _ _ _ (PW.pt (@pw_or _ _ _ _ _ _ _ (pt_cmpR op_ne (pe_callB kX rfl T.z_len PySem.boot_len (@pa1 _ _ _ (pe_callTy (kW (K:=K) rfl rfl hr.units) rfl T.z_set boot_set (@pa1 _ _ _ (pv 2) (by rfl))) (by rfl))) (pe_callB (call_len_seqN (K:=K) rfl) rfl T.z_len PySem.boot_len (@pa1 _ _ _ (pv 2) (by rfl))) (nomark _)) (@pw_or1 _ _ _ _ (pt_cmpR (zo (K:=K) rfl hr.units) pe_non (pv 3) rfl)))) (@pss_one _ _ _ (@ps_ret _ _ _ _ pe_bl)) pss_nil) (@pss_one _ _ _ (@ps_ret _ _ _ _ (0,Dh,DM,@pa2 _ _ _ _ _ (pv 0) (pv 3) (by rfl) (by rfl))))))),?_⟩;refine ⟨_,rfl,false,l,x,rfl,hx,λa us H1 ha g1 e1 hus=>?_⟩;obtain rfl:=fo hus;refine ⟨_,rfl,a,rfl,⟨_,SqL.of e1⟩,λb hb=>?_⟩;refine ax (K:=K) (xs:=[]) (λj ys σ H'=>Same H1 H'/\H' b=some (.lst ys)/\ys=[]) ⟨ae hb _,aa,rfl⟩ (λj ys σ H' _ pv=>SqL.of (pv.1 _ _ e1)) (λj u ys σ H2 N hu=>by simp at hu) ?_;rintro ys σ H2 ⟨s2,e2,rfl⟩;refine ⟨_,rfl,a,[],[],rfl,SqL.of (s2 _ _ e1),.nil,(by show 0<=2;decide),λps hps=>?_⟩;have g3:=ae hps (kU ps (jk []));refine ⟨ps,_,rfl,aa,(by decide),_,rfl,a,[],rfl,.inl (SqL.of (g3 _ _ (s2 _ _ e1))),rfl,_,rfl,jn ?_⟩;have g13:=(g1.trans s2).trans g3;refine ⟨_,rfl,rfl,b,[],[],rfl,SqL.of (g3 _ _ e2),.nil,(λo ho=>by cases ho),_,rfl,aL ?_⟩;exact ⟨_,rfl,_,rfl,l,x,_,rfl,hx.same g13,l0,l9,λH4 g4=>q H4 (g13.trans g4)⟩
def j5 (K:W.Frag) (_:Ads):Sp:=λvs H Q _=>∃ (l:Int) (x y:V),vs=[x,y]/\IsP K H (puD l) x/\∀ v H',Same H H'->IsP K H' (.tup [bj 0 9]) v->Q v H'
theorem j6 (T:Tx K mg ad) {f:Addr} {fd:FuncData} (F:Gn K mg "made_kinds" dE ["piece","kinds"] f fd):FnOk P w K mg base CX0 1 f fd ["piece","kinds"] (j5 K ad):=by
 refine F.F.ok fI (λvs H Q E h=>?_) (λcdv A outer s H vs Q E hr h=>?_)
 ·obtain ⟨l,x,y,rfl,_⟩:=h
  rfl
 obtain ⟨l,x,y,rfl,hp,q⟩:=h;refine ⟨_,(@pss_cons _ _ _ _ _ (@ps_set _ _ 2 _ _ _ _ fI.nd rfl (Or.inl rfl) (@pi1 K _ _ _ _ _ _ _ rfl (pv 0)) (by rfl) (.inl rfl)) (@pss_cons _ _ _ _ _ (@ps_if _ _ _ _ _ _ _ _ (pt_cmpR op_eq (pv 2) pe_str (nomark _)) (@pss_one _ _ _ (@ps_ret _ _ _ _ (@pe_tupPK _ K _ _ _ _ rfl (@pa1 _ _ _ (@pi1 K _ _ _ _ _ _ _ rfl (pv 0)) (by rfl))))) pss_nil) bF)),?_⟩;refine ⟨_,rfl,_,_,_,hp,rfl,rfl,isS ?_⟩;refine fC rfl ?_;exact ⟨_,rfl,_,_,_,hp,rfl,rfl,λu1 hu1=>⟨[bj 0 9],.cons hu1 .nil,sz1,q⟩⟩
theorem A3:AhZ kA:=⟨by decide +kernel,by decide +kernel,by decide⟩
theorem oR:FK 2 4 (ak kZ):=by
 have h:=FK.rcd (gs:=[("a",bj 0 9,1,1),("id",bj (-3) 40,1,1),("z",bj 0 9,1,1)]) (λg hg=>by
   simp only [aAf,aAl,or_false] at hg;rcases hg with rfl | rfl | rfl
   ·exact jw
   ·exact .number (-3) 40 (by decide) (by decide) (by decide)
   ·exact jw) (by decide +kernel) (λg hg=>by
   simp only [aAf,aAl,or_false] at hg;rcases hg with rfl | rfl | rfl <;> decide +kernel) (by decide)
 exact h
def ib (K:W.Frag) (_:Ads):Sp:=λvs H Q _=>∃ (l:Int) (x y:V),vs=[x,y]/\IsP K H (puD l) x/\IsP K H (ak kA) y/\0<=l/\l<=9/\∀ v H',Same H H'->IsP K H' (ak kZ) v->Q v H'
theorem bI (T:Tx K mg ad) {f:Addr} {fd:FuncData} (F:Gn K mg "record_behind" bT ["piece","kind"] f fd):FnOk P w K mg base CX0 26 f fd ["piece","kind"] (ib K ad):=by
 obtain ⟨_,_,C2⟩:=T.has_piece_form;have Dy:=gK (P:=P) (w:=w) (base:=base) T C2;obtain ⟨_,_,DC⟩:=T.can_take;have Eb:=oQ (P:=P) (w:=w) (base:=base) T DC;obtain ⟨_,_,Dn⟩:=T.made_kinds;have DQ:=j6 (P:=P) (w:=w) (base:=base) T Dn;obtain ⟨_,_,Cf⟩:=T.old_values;have Cz:=cK (P:=P) (w:=w) (base:=base) T Cf;obtain ⟨_,_,DA⟩:=T.can_make;have D8:=oO (P:=P) (w:=w) (base:=base) T DA;obtain ⟨_,_,BZ⟩:=T.made_kind;have CG:=dv (P:=P) (w:=w) (base:=base) T BZ;obtain ⟨_,_,CN⟩:=T.with_new;have Dd:=iC (P:=P) (w:=w) (base:=base) T CN;refine F.F.ok sc_record_behind (λvs H Q E h=>?_) (λcdv A outer s H vs Q E hr h=>?_)
 ·obtain ⟨l,x,y,rfl,_⟩:=h
  rfl
 obtain ⟨l,x,y,rfl,hx,hy,l0,l9,q⟩:=h;refine ⟨_,(@pss_cons _ _ _ _ _ (@ps_if _ _ _ _ _ _ _ _ (@pt_not _ _ _ _ (@pt_val _ _ _ (0,C2,Dy,@pa1 _ _ _ (pv 0) (by rfl)) (by intro _;rfl))) (@pss_one _ _ _ ps_never) pss_nil) (@pss_cons _ _ _ _ _ (@ps_if _ _ _ _ _ _ _ _ (@pt_not _ _ _ _ (@pt_val _ _ _ (0,DC,Eb,@pa2 _ _ _ _ _ (pv 0) (pv 1) (by rfl) (by rfl)) (by intro _;rfl))) (@pss_one _ _ _ ps_never) pss_nil) (@pss_cons _ _ _ _ _ (@ps_set _ _ 2 _ _ _ _ sc_record_behind.nd rfl (Or.inl rfl) (0,Dn,DQ,@pa2 _ _ _ _ _ (pv 0) (0,Cf,Cz,@pa2 _ _ _ _ _ (pv 0) (pv 1) (by rfl) (by rfl)) (by rfl) (by rfl)) (by rfl) (.inl rfl)) (@pss_cons _ _ _ _ _ (@ps_if _ _ _ _ _ _ _ _ (@pt_not _ _ _ _ (@pt_val _ _ _ (0,DA,D8,@pa2 _ _ _ _ _ (pv 0) (pv 1) (by rfl) (by rfl)) (by intro _;rfl))) (@pss_one _ _ _ ps_never) pss_nil) (@pss_one _ _ _ (ps_tryN (@pss_one _ _ _ (@ps_ret _ _ _ _ (pe_call CG (hr.mono (by first | decide | lia)) rfl BZ.m BZ.F.kp BZ.b .nil passF (@pa1 _ _ _ (0,CN,Dd,@pa_cons _ _ _ _ _ (pv 0) (@pa3 _ _ _ _ _ _ _ (pv 1) (pv 1) (pv 2) (by rfl) (by rfl) (by rfl)) (by rfl)) (by rfl))))))))))),?_⟩;refine ⟨_,rfl,l,x,rfl,hx,λH1 g1=>⟨_,rfl,aL ?_⟩⟩;refine ⟨_,rfl,_,rfl,l,x,y,rfl,hx.same g1,l0,l9,λH2 g2=>⟨_,rfl,aL ?_⟩⟩;have g3:=g1.trans g2;refine ⟨_,rfl,_,rfl,_,rfl,false,l,kA,.non,x,y,rfl,hx.same g3,hy.same g3,nofun,λv4 H4 g4 hv4=>?_⟩;have g5:=g3.trans g4;refine ⟨l,x,v4,rfl,hx.same g5,λv6 H6 g6 hv6=>?_⟩;have g7:=g5.trans g6;refine ⟨_,rfl,_,rfl,l,x,y,rfl,hx.same g7,hy.same g7,λH8 g8=>⟨_,rfl,aL ?_⟩⟩;have g9:=g7.trans g8;refine ⟨_,rfl,_,rfl,_,rfl,_,rfl,false,l,kA,bj 0 9,x,y,y,v6,rfl,hx.same g9,hy.same g9,by decide,λ_=>A3,hv6.same g8,λv H' g10 hv=>?_⟩;exact ⟨_,v,rfl,hv,yt oR,.inr ⟨2,4,oR,by decide,λ_ H3 g3=>q v H3 ((g9.trans g10).trans g3) (hv.same g3),λz=>by lia⟩⟩
def jz (K:W.Frag) (_:Ads):Sp:=λvs H Q _=>∃ (l:Int) (x y:V),vs=[x,y]/\IsP K H (puD l) x/\IsP K H (ak kA) y/\0<=l/\l<=9/\∀ v H',Same H H'->IsP K H' (drD l) v->Q v H'
theorem eg (T:Tx K mg ad) {f:Addr} {fd:FuncData} (F:Gn K mg "piece_about" cO ["piece","kind"] f fd):FnOk P w K mg base CX0 27 f fd ["piece","kind"] (jz K ad):=by
 obtain ⟨_,_,Ca⟩:=T.record_behind;have Cn:=bI (P:=P) (w:=w) (base:=base) T Ca;refine F.F.ok eX (λvs H Q E h=>?_) (λcdv A outer s H vs Q E hr h=>?_)
 ·obtain ⟨l,x,y,rfl,_⟩:=h
  rfl
 obtain ⟨l,x,y,rfl,hx,hy,l0,l9,q⟩:=h;refine ⟨_,(@pss_cons _ _ _ _ _ (@ps_expr _ _ _ _ (0,Ca,Cn,@pa2 _ _ _ _ _ (pv 0) (pv 1) (by rfl) (by rfl)) (by rfl)) (@pss_cons _ _ _ _ _ (@ps_set _ _ 2 _ _ _ _ eX.nd rfl (Or.inl rfl) (@pi1 K _ _ _ _ _ _ _ rfl (pv 0)) (by rfl) (.inl rfl)) (@pss_cons _ _ _ _ _ (@ps_if _ _ _ _ _ _ _ _ (pt_cmpR op_eq (pv 2) pe_str (nomark _)) (@pss_one _ _ _ (@ps_ret _ _ _ _ (@pe_tupPK _ K _ _ _ _ rfl (@pa3 _ _ _ _ _ _ _ pe_str (@pi1 K _ _ _ _ _ _ _ rfl (pv 0)) (@pi1 K _ _ _ _ _ _ _ rfl (pv 0)) (by rfl) (by rfl) (by rfl))))) pss_nil) bF))),?_⟩;refine ⟨_,rfl,_,rfl,l,x,y,rfl,hx,hy,l0,l9,λv1 H1 g1 _=>?_⟩;have hx1:=hx.same g1;refine ⟨_,rfl,_,_,_,hx1,rfl,rfl,isS ?_⟩;refine fC rfl ?_;refine ⟨_,rfl,_,_,_,hx1,rfl,rfl,λu1 h1=>⟨_,rfl,_,_,_,hx1,rfl,rfl,λu2 h2=>?_⟩⟩;exact ⟨[.str "drop",.str "z",.int l],.cons .str (.cons h1 (.cons h2 .nil)),sz3,λv H2 g2 hv=>q v H2 (g1.trans g2) hv⟩
abbrev tz (ns:List Str):Dt:=.tup (ns.map Dt.str)
def inK:Bool->List (Str×Dt)->Dt
 | true,k=>.tup [.str "list",ak k,.int 8]
 | false,k=>.tup [.str "rows",.str "id",ak k,.int 8]
abbrev shK (b:Bool) (k:List (Str×Dt)):Dt:=ak [("n",bj 0 9),("r",inK b k)]
abbrev chD (p:Dt):Dt:=.tup [tz ["r","each"],p]
def qt (K:W.Frag) (_:Ads):Sp:=λvs H Q _=>∃ (p:List Str) (x:V),vs=[x]/\IsP K H (tz p) x/\p.length<=8/\(∀ z∈p,z= "each" \/z= "r")/\∀ H',Same H H'->Q (.bl true) H'
theorem rn {K:W.Frag} {H:Hp} {q:List Str} {xs:List V} {i:Nat} {y:V} (h:IsPs K H (q.map Dt.str) xs) (e:xs[i]?=some y):∃ z,q[i]?=some z/\y=.str z:=by
 obtain ⟨d,hd,hp⟩:=h.get' e;rw [aAc] at hd;obtain ⟨z,hz,rfl⟩:=aAd.mp hd;exact ⟨z,hz,bi hp⟩
theorem qu (T:Tx K mg ad) {f:Addr} {fd:FuncData} (F:Gn K mg "is_path" iq ["path"] f fd):FnOk P w K mg base CX0 2 f fd ["path"] (qt K ad):=by
 obtain ⟨_,_,Cg⟩:=T.is_name;have CC:=dj (P:=P) (w:=w) (base:=base) T Cg;obtain ⟨t_EACH,c_EACH⟩:=T.EACH;obtain ⟨t_LONGEST_PATH,c_LONGEST_PATH⟩:=T.LONGEST_PATH;refine F.F.ok qF (λvs H Q E h=>?_) (λcdv A outer s H vs Q E hr h=>?_)
 ·obtain ⟨p,x,rfl,_⟩:=h
  rfl
 obtain ⟨p,x,rfl,hd,hl,hz,q⟩:=h;refine ⟨_,(@pss_cons _ _ _ _ _ (@ps_if _ _ _ _ _ _ _ _ (PW.pt (@pw_or _ _ _ _ _ _ _ (@pt_not _ _ _ _ (@pt_val _ _ _ (pe_callB (aE (K:=K) rfl) rfl T.z_isinstance boot_isinstance (@pa2 _ _ _ _ _ (pv 0) (bH rfl T.z_tuple boot_tuple) (by rfl) (by rfl))) (by intro _;rfl))) (@pw_or1 _ _ _ _ (pt_cmpR op_gt (pe_callB (call_lenDN (K:=K) rfl) rfl T.z_len PySem.boot_len (@pa1 _ _ _ (pv 0) (by rfl))) (pe_gint rfl c_LONGEST_PATH) (nomark _))))) (@pss_one _ _ _ (@ps_ret _ _ _ _ pe_bl)) pss_nil) (@pss_one _ _ _ (@ps_ret _ _ _ _ (pe_callB (call_allN (K:=K) rfl rfl) rfl T.z_all boot_all (@pa1 _ _ _ (aC rfl (cs0 (NL:=["step"]) rfl (by decide +kernel) (by decide +kernel)) (pi_tupN (K:=K) rfl (pv 0)) (λ_ _ _ _=>(ag (i:=0) (show List.Nodup (α:=Str) ["step"] by decide +kernel) rfl (Or.inl rfl))) (λ_ _ _ _=>(yg (pe_cmpR op_eq (pv 0) (pe_gstr rfl c_EACH) (nomark _)) (pe_one (0,Cg,CC,@pa1 _ _ _ (pv 0) (by rfl)))))) (by rfl)))))),?_⟩;obtain ⟨a,xs,rfl,ha,pa,ra⟩:=id hd.unref;have el:=ra.length;rw [aAb] at el;refine ⟨_,rfl,_,_,_,rfl,.tup_tuple ha,_,rfl,aL ?_⟩;refine ⟨_,rfl,_,_,rfl,hd.d,?_⟩;refine ⟨_,_,rfl,rfl,_,rfl,?_⟩;rw [decide_eq_false (by rw [aAb];lia)];refine aL ?_;refine ⟨_,rfl,a,rfl,⟨xs,ha⟩,λl hln=>?_⟩;refine bn (K:=K) (xs:=xs) (λi ys σ H'=>ys=bls (List.replicate i true)/\i<=8/\Same H H'/\H' l=some (.lst ys)/\σ.length=1) ⟨rfl,aAB _,ae hln _,aa,rfl⟩ (λi ys σ H' _ r=>r.2.2.1.tup ha) ?_ ?_
 ·rintro i y ys σ H1 N hy ⟨rfl,i8,g,e1,hσ⟩ next;obtain ⟨z,hzi,rfl⟩:=rn ra hy;have hi:i < p.length:=(aAg.mp hzi).1;have nx:bls (List.replicate i true)++[V.bl true]=bls (List.replicate (i+1) true):=by
   unfold bls;rw [List.replicate_succ',aAy]
   rfl
  have hlen:(bls (List.replicate i true)).length < sizeLine:=by
   rw [bls,aAb,aBi];exact ai (by lia)
  match σ,hσ with
  | [_],_ =>
   refine ⟨_,rfl,rfl,?_⟩;rcases hz z (aAs hzi) with rfl | rfl
   ·exact ⟨_,rfl,aQ ⟨e1,hlen,next _ _ _ ⟨nx,by lia,ar hln g,aa,rfl⟩⟩⟩
   ·refine ⟨_,rfl,iteN (aD (by decide)) ⟨_,rfl,.str "r",_,rfl,.str,rfl,λH2 g2=>?_⟩⟩;rw [show a7 (.str "r")=true from by decide +kernel];exact ⟨g2 _ _ e1,hlen,next _ _ _ ⟨nx,by lia,ar hln (g.trans g2),aa,rfl⟩⟩
 ·rintro ys σ H1 ⟨rfl,i8,g,e1,_⟩;refine ⟨l,_,rfl,rfl,SqL.of e1,?_⟩;rw [my];exact q _ g
inductive StepTo:Dt->Str->Dt->Prop
 | fld {gs:List (Str×Dt)} {z:Str} {e:Dt}:z≠ "each" ->aq gs z=some e->StepTo (ak gs) z e
 | itm {a c:Nat} {d e:Dt}:FK a c d->yp d=some e->StepTo d "each" e
def j7 (K:W.Frag) (_:Ads):Sp:=λvs H Q _=>∃ (d e:Dt) (z:Str) (x:V),vs=[x,.str z]/\IsP K H d x/\StepTo d z e/\∀ v,IsP K H e v->Q v H
theorem fE (T:Tx K mg ad) {f:Addr} {fd:FuncData} (F:Gn K mg "kind_along" dH ["kind","step"] f fd):FnOk P w K mg base CX0 2 f fd ["kind","step"] (j7 K ad):=by
 obtain ⟨_,_,BY⟩:=T.field_kind;have Cd:=bh (P:=P) (w:=w) (base:=base) T BY;obtain ⟨_,_,Ck⟩:=T.item_kind;have CI:=du (P:=P) (w:=w) (base:=base) T Ck;obtain ⟨t_EACH,c_EACH⟩:=T.EACH;refine F.F.ok kr (λvs H Q E h=>?_) (λcdv A outer s H vs Q E hr h=>?_)
 ·obtain ⟨d,e,z,x,rfl,_⟩:=h
  rfl
 obtain ⟨d,e,z,x,rfl,hd,st,q⟩:=h;refine ⟨_,(@pss_cons _ _ _ _ _ (@ps_if _ _ _ _ _ _ _ _ (pt_cmpR op_eq (pv 1) (pe_gstr rfl c_EACH) (nomark _)) (@pss_one _ _ _ (@ps_ret _ _ _ _ (0,Ck,CI,@pa1 _ _ _ (pv 0) (by rfl)))) pss_nil) (@pss_one _ _ _ (@ps_ret _ _ _ _ (0,BY,Cd,@pa2 _ _ _ _ _ (pv 0) (pv 1) (by rfl) (by rfl))))),?_⟩;refine ⟨_,rfl,rfl,_,rfl,?_⟩
 cases st with
 | itm fk ei =>
  refine aQ ⟨_,rfl,_,_,d,x,rfl,hd,fk,?_⟩;rw [ei];exact q
 | fld hz hl =>
  rename_i gs
  refine iteN (aD hz) ⟨_,rfl,_,rfl,gs.map prD,.str z,x,_,rfl,hd,.str,mw gs,?_⟩;rw [fm,hl];exact q
def rq (r:Nat->Dt) (ns:List Str):Prop:=(∀ i z,ns[i]?=some z->StepTo (r i) z (r (i+1)))/\∀ i,∃ l,r i=.tup l
def qv (K:W.Frag) (_:Ads):Sp:=λvs H Q _=>∃ (r:Nat->Dt) (p:List Str) (x y:V),vs=[x,y]/\IsP K H (r 0) x/\IsP K H (tz p) y/\p.length<=8/\(∀ z∈p,z= "each" \/z= "r")/\rq r p/\∀ v H',Same H H'->IsP K H' (r p.length) v->Q v H'
theorem fQ (T:Tx K mg ad) {f:Addr} {fd:FuncData} (F:Gn K mg "kind_at" ir ["kind","path"] f fd):FnOk P w K mg base CX0 3 f fd ["kind","path"] (qv K ad):=by
 obtain ⟨_,_,DI⟩:=T.is_path;have Eg:=qu (P:=P) (w:=w) (base:=base) T DI;obtain ⟨_,_,CB⟩:=T.kind_along;have CY:=fE (P:=P) (w:=w) (base:=base) T CB;refine F.F.ok sc_kind_at (λvs H Q E h=>?_) (λcdv A outer s H vs Q E hr h=>?_)
 ·obtain ⟨r,p,x,y,rfl,_⟩:=h
  rfl
 obtain ⟨r,p,x,y,rfl,hd,hy,l8,nz,⟨ld,tu⟩,q⟩:=h;refine ⟨_,(@pss_cons _ _ _ _ _ (@ps_if _ _ _ _ _ _ _ _ (@pt_not _ _ _ _ (@pt_val _ _ _ (0,DI,Eg,@pa1 _ _ _ (pv 1) (by rfl)) (by intro _;rfl))) (@pss_one _ _ _ ps_never) pss_nil) (@pss_cons _ _ _ _ _ (@ps_set _ _ 2 _ _ _ _ sc_kind_at.nd rfl (Or.inl rfl) (pv 0) (by rfl) (.inl rfl)) (@pss_cons _ _ _ _ _ (ps_for PassesOwn.never rfl (pi_tupN (K:=K) rfl (pv 1)) (ag (i:=3) sc_kind_at.nd rfl (Or.inl rfl))
    (@pss_cons _ _ _ _ _ (@ps_set _ _ 2 _ _ _ _ sc_kind_at.nd rfl (Or.inl rfl) (0,CB,CY,@pa2 _ _ _ _ _ (pv 2) (pv 3) (by rfl) (by rfl)) (by rfl) (.inl rfl)) (@pss_one _ _ _ (@ps_if _ _ _ _ _ _ _ _ (pt_cmpR op_isN (pv 2) pe_non (nomark _)) (@pss_one _ _ _ ps_never) pss_nil)))) (@pss_one _ _ _ (@ps_ret _ _ _ _ (pv 2)))))),?_⟩
 obtain ⟨ay,xs,rfl,ha,pa,ra⟩:=id hy.unref;have el:=ra.length;rw [aAb] at el;refine ⟨_,rfl,p,_,rfl,hy,l8,nz,λH1 g1=>⟨_,rfl,aL ⟨_,rfl,?_⟩⟩⟩;refine ⟨_,rfl,ay,rfl,⟨xs,g1.tup ha⟩,fY (xs:=xs) (λi σ H'=>Same H H'/\∃ v y,IsP K H' (r i) v/\σ=[some x,some (.ref ay),some v,y]) ⟨g1,x,_,hd.same g1,rfl⟩ (λi σ H' _ p=>p.1.tup ha) ?_ ?_⟩
 ·rintro i u σ H2 hu ⟨g2,v,y,hv,rfl⟩;obtain ⟨z,hzi,rfl⟩:=rn ra hu;refine ⟨_,rfl,_,rfl,r i,r (i+1),z,v,rfl,hv,ld i z hzi,λv' hv'=>?_⟩;obtain ⟨l,el⟩:=tu (i+1);obtain ⟨b,ys,rfl,_⟩:=IsP.unref (el ▸ hv');exact ⟨_,rfl,rfl,_,rfl,iteN (by intro c;cases c) ⟨g2,_,_,hv',rfl⟩⟩
 ·rintro σ H2 ⟨g2,v,y,hv,rfl⟩;rw [<- el] at hv;exact ⟨_,rfl,q v H2 g2 hv⟩
theorem lq:FK 2 3 (ak kA):=by
 have h:=FK.rcd (gs:=[("a",bj 0 9,1,1),("id",bj (-3) 40,1,1)]) (λg hg=>by
   simp only [aAf,aAl,or_false] at hg;rcases hg with rfl | rfl
   ·exact jw
   ·exact .number (-3) 40 (by decide) (by decide) (by decide)) (by decide +kernel) (λg hg=>by
   simp only [aAf,aAl,or_false] at hg;rcases hg with rfl | rfl <;> decide +kernel) (by decide)
 exact h
theorem vE (b:Bool) {a c:Nat} {k:List (Str×Dt)} (h:FK a c (ak k)) (hk:oA (k.map prD) "id"):FK (a+1) (c+1) (inK b k):=by
 cases b with
 | true=>exact .list h (by decide) (by decide)
 | false=>exact .rows h hk (by decide) (by decide)
theorem lr:oA (kA.map prD) "id" :=⟨"number",[.int (-3),.int 40],by simp [prD],.inl rfl⟩
theorem vF:oA (kZ.map prD) "id" :=⟨"number",[.int (-3),.int 40],by simp [prD],.inl rfl⟩
def way (b:Bool) (k:List (Str×Dt)):Nat->Dt
 | 0=>shK b k
 | 1=>inK b k
 | _=>ak k
theorem er {b:Bool} {a c:Nat} {k:List (Str×Dt)} (h:FK a c (ak k)) (hk:oA (k.map prD) "id"):StepTo (shK b k) "r" (inK b k)/\StepTo (inK b k) "each" (ak k) :=
 ⟨.fld (by decide) rfl,.itm (vE b h hk) (by cases b <;> rfl)⟩
theorem rA (b:Bool) (k:List (Str×Dt)) (i:Nat):∃ l,way b k i=.tup l:=by
 match i with
 | 0=>exact ⟨_,rfl⟩
 | 1=>cases b <;> exact ⟨_,rfl⟩
 | i+2=>exact ⟨_,rfl⟩
theorem vG {b:Bool} {a c:Nat} {k:List (Str×Dt)} (h:FK a c (ak k)) (hk:oA (k.map prD) "id"):rq (way b k) ["r","each"] :=
 ⟨λi z hz=>by
  match i,hz with
  | 0,hz=>rw [<- Option.some.inj hz];exact (er h hk).1
  | 1,hz=>rw [<- Option.some.inj hz];exact (er h hk).2
  | i+2,hz=>simp at hz,rA b k⟩
theorem A4 {b:Bool} {a c:Nat} {k:List (Str×Dt)} (h:FK a c (ak k)) (hk:oA (k.map prD) "id"):rq (way b k) ["r"] :=
 ⟨λi z hz=>by
  match i,hz with
  | 0,hz=>rw [<- Option.some.inj hz];exact (er h hk).1
  | i+1,hz=>simp at hz,rA b k⟩
def zJ (K:W.Frag) (n:Nat):Sp:=λvs H Q _=>∃ (m:Nat) (b:Bool) (x y u:V),m < n/\vs=[x,y,u]/\IsP K H (tz (([Str.ofString "r",Str.ofString "each"]:List Str).drop (2 - m))) y/\IsP K H (way b kA (2 - m)) x/\IsP K H (ak kZ) u/\m<=2/\∀ v H',Same H H'->IsP K H' (way b kZ (2 - m)) v->Q v H'
theorem et (n:Nat) (T:Tx K mg ad) {f:Addr} {fd:FuncData} (CM:Gn K mg "kind_put" cv ["kind","path","other"] f fd) (De:FnOk P w K mg base CX0 (n+2) f fd ["kind","path","other"] (zJ K n)):FnOk P w K mg base CX0 (n+3) f fd ["kind","path","other"] (zJ K (n+1)):=by
 obtain ⟨_,_,CB⟩:=T.kind_along;have CY:=fE (P:=P) (w:=w) (base:=base) T CB;refine CM.F.ok iF (λvs H Q E h=>?_) (λcdv A outer s H vs Q E hr h=>?_)
 ·obtain ⟨m,b,x,y,u,_,rfl,_⟩:=h
  rfl
 obtain ⟨m,b,x,y,u,hm,rfl,hy,hx,hu,m2,q⟩:=h;refine ⟨_,(@pss_cons _ _ _ _ _ (@ps_if _ _ _ _ _ _ _ _ (pt_cmpR op_eq (pe_callB (call_lenDN (K:=K) rfl) rfl T.z_len PySem.boot_len (@pa1 _ _ _ (pv 1) (by rfl))) pe_int (nomark _)) (@pss_one _ _ _ (@ps_ret _ _ _ _ (pv 2))) pss_nil) (@pss_cons _ _ _ _ _ (@ps_set _ _ 3 _ _ _ _ iF.nd rfl (Or.inr rfl) (0,CM,De,@pa3 _ _ _ _ _ _ _ (0,CB,CY,@pa2 _ _ _ _ _ (pv 0) (@pi1 K _ _ _ _ _ _ _ rfl (pv 1)) (by rfl) (by rfl)) (bP (cg (K:=K) rfl) (pv 1) (cA pe_int) cz) (pv 2) (by rfl) (by rfl) (by rfl)) (by rfl) (.inl rfl)) (@pss_cons _ _ _ _ _ (@ps_if _ _ _ _ _ _ _ _ (pt_cmpR op_eq (@pi1 K _ _ _ _ _ _ _ rfl (pv 0)) pe_str (nomark _)) (@pss_one _ _ _ (@ps_ret _ _ _ _ (@pe_tupPK _ K _ _ _ _ rfl (@pa3 _ _ _ _ _ _ _ pe_str (pv 3) (@pi1 K _ _ _ _ _ _ _ rfl (pv 0)) (by rfl) (by rfl) (by rfl))))) pss_nil) (@pss_cons _ _ _ _ _ (@ps_if _ _ _ _ _ _ _ _ (pt_cmpR op_eq (@pi1 K _ _ _ _ _ _ _ rfl (pv 0)) pe_str (nomark _)) (@pss_one _ _ _ (@ps_ret _ _ _ _ (@pe_tupPK _ K _ _ _ _ rfl (@pa_cons _ _ _ _ _ pe_str (@pa3 _ _ _ _ _ _ _ (@pi1 K _ _ _ _ _ _ _ rfl (pv 0)) (pv 3) (@pi1 K _ _ _ _ _ _ _ rfl (pv 0)) (by rfl) (by rfl) (by rfl)) (by rfl))))) pss_nil) (@pss_one _ _ _ (@ps_ret _ _ _ _ (@pe_tupPK _ K _ _ _ _ rfl (@pa2 _ _ _ _ _ pe_str (pe_callTy (call_tuplePN (K:=K) rfl) rfl T.z_tuple boot_tuple (@pa1 _ _ _ (aC rfl (csR (sc:=ac cv) (NL:=["name","own"]) (N:=["kind","path","other","inner"]) (ρ:=[1,3]) (N':=["name","own","path","inner"]) rfl rfl rfl (by decide +kernel) (by decide +kernel) (by decide +kernel) rfl (by decide +kernel)) (pi_tupN (K:=K) rfl (@pi1 K _ _ _ _ _ _ _ rfl (pv 0))) (λ_ _ _ _=>(bL (K:=K) (n:=2) rfl rfl (am (ag (i:=0) (show List.Nodup (α:=Str) ["name","own","path","inner"] by decide +kernel) rfl (Or.inl rfl)) (am (ag (i:=1) (show List.Nodup (α:=Str) ["name","own","path","inner"] by decide +kernel) rfl (Or.inl rfl)) aI)))) (λ_ _ _ _=>(pe_tupPK (K:=K) rfl (@pa2 _ _ _ _ _ (pv 0) (cS (pt_cmpR op_eq (pv 0) (@pi1 K _ _ _ _ _ _ _ rfl (pv 2)) (nomark _)) (pv 3) (pv 1)) (by rfl) (by rfl))))) (by rfl))) (by rfl) (by rfl))))))))),?_⟩
 match m,m2,hm,hy,hx,q with
 | 0,_,_,hy,hx,q =>
  exact ⟨_,rfl,_,_,rfl,hy.d,rfl,_,rfl,aQ ⟨_,rfl,q u H (Same.refl H) hu⟩⟩
 | 1,_,hm,hy,hx,q =>
  refine ⟨_,rfl,_,_,rfl,hy.d,rfl,_,rfl,iteN (by intro e;cases e) ?_⟩;refine ⟨_,rfl,_,rfl,_,_,_,hy,rfl,at0 _ _,isS ?_⟩;refine ⟨_,_,"each",x,rfl,hx,(er (b:=b) lq lr).2,λv2 hv2=>?_⟩;refine ⟨_,rfl,_,rfl,_,hy,λv3 H3 g3 hv3=>?_⟩;refine ⟨_,rfl,0,b,v2,v3,u,by lia,rfl,hv3,hv2.same g3,hu.same g3,by decide,λv4 H4 g4 hv4=>?_⟩;have g34:=g3.trans g4;have hx4:=hx.same g34
  cases b with
  | true =>
   refine ⟨_,rfl,_,_,_,hx4,rfl,at0 _ _,isS ?_⟩;refine ⟨rfl,_,rfl,aQ ?_⟩;refine ⟨_,rfl,_,rfl,_,_,_,hx4,rfl,rfl,λv6 hv6=>?_⟩;exact ⟨[.str "list",ak kZ,.int 8],.cons .str (.cons hv4 (.cons hv6 .nil)),sz3,λv7 H7 g7 hv7=>q v7 H7 (g34.trans g7) hv7⟩
  | false =>
   refine ⟨_,rfl,_,_,_,hx4,rfl,at0 _ _,isS ?_⟩;refine ⟨rfl,_,rfl,iteN (by intro e;exact absurd e (by decide)) ?_⟩;refine ⟨_,rfl,_,_,_,hx4,rfl,at0 _ _,isS ?_⟩;refine ⟨rfl,_,rfl,aQ ?_⟩;refine ⟨_,rfl,_,_,_,hx4,rfl,rfl,λv6 hv6=>⟨_,rfl,_,rfl,_,_,_,hx4,rfl,rfl,λv8 hv8=>?_⟩⟩;exact ⟨[.str "rows",.str "id",ak kZ,.int 8],.cons .str (.cons hv6 (.cons hv4 (.cons hv8 .nil))),(by show 4<=sizeLine;decide),λv7 H7 g7 hv7=>q v7 H7 (g34.trans g7) hv7⟩
 | 2,_,hm,hy,hx,q =>
  refine ⟨_,rfl,_,_,rfl,hy.d,rfl,_,rfl,iteN (by intro e;cases e) ?_⟩;refine ⟨_,rfl,_,rfl,_,_,_,hy,rfl,at0 _ _,isS ?_⟩;refine ⟨_,_,"r",x,rfl,hx,(er (b:=b) lq lr).1,λv2 hv2=>?_⟩;refine ⟨_,rfl,_,rfl,_,hy,λv3 H3 g3 hv3=>?_⟩;refine ⟨_,rfl,1,b,v2,v3,u,by lia,rfl,hv3,hv2.same g3,hu.same g3,by decide,λv4 H4 g4 hv4=>?_⟩;have g34:=g3.trans g4;have hx4:=hx.same g34;refine ⟨_,rfl,_,_,_,hx4,rfl,at0 _ _,isS ?_⟩;refine ⟨rfl,_,rfl,iteN (by intro e;exact absurd e (by decide)) ?_⟩;refine ⟨_,rfl,_,_,_,hx4,rfl,at0 _ _,isS ?_⟩;refine ⟨rfl,_,rfl,iteN (by intro e;exact absurd e (by decide)) ?_⟩;refine ⟨_,rfl,_,_,_,hx4,rfl,rfl,λv6 hv6=>?_⟩;obtain ⟨a,xs,rfl,ha,pa,ra⟩:=id hv6.unref;have el:=ra.length;rw [aAb] at el;refine ⟨a,rfl,⟨_,ha⟩,λl hln=>?_⟩;have hy4:=hy.same g34;refine bn (K:=K) (xs:=xs) (λi ys σ H'=>Same H4 H'/\H' l=some (.lst ys)/\IsPs K H' ((([(Str.ofString "n",bj 0 9),(Str.ofString "r",inK b kZ)]:List (Str×Dt)).take i).map prD) ys/\∃ w1 w2,σ=[w1,w2,some y,some v4]) ⟨ae hln _,aa,.nil,_,_,rfl⟩ (λi ys σ H' _ r=>r.1.tup ha) ?_ ?_
  ·rintro i y1 ys σ H5 N hy1 ⟨g5,e5,hp5,w1,w2,rfl⟩ next;obtain ⟨d1,hdi,hp⟩:=(ra.same g5).get' hy1;rw [aAc] at hdi;obtain ⟨⟨t,k1⟩,hfi,rfl⟩:=aAd.mp hdi;obtain ⟨c,u1,u2,rfl,hb,r1,r2⟩:=aA hp;obtain rfl:=bi r1;have ly:=hp5.length;rw [aAb,aAp] at ly;refine ⟨c,_,rfl,hb,rfl,_,_,rfl,_,_,rfl,rfl,?_⟩;refine ⟨_,rfl,_,rfl,_,rfl,_,_,_,hy4.same g5,rfl,at0 _ _,isS ?_⟩
   match i,hfi,next,hp5,ly with
   | 0,hfi,next,hp5,ly =>
    obtain ⟨rfl,rfl⟩:Str.ofString "n" = t/\bj 0 9=k1:=by simpa using hfi
    refine ⟨rfl,_,rfl,iteN (by intro e;exact absurd e (by decide)) ⟨_,rfl,[.str "n",bj 0 9],.cons .str (.cons r2 .nil),sz2,λv6 H6 g6 hv6=>⟨g6 _ _ e5,ai (by lia),next _ _ _ ⟨ar hln (g5.trans g6),aa,?_,_,_,rfl⟩⟩⟩⟩;exact IsPs.but (g6 _ _ e5) But.put ((hp5.same g6).append (.cons hv6 .nil))
   | 1,hfi,next,hp5,ly =>
    obtain ⟨rfl,rfl⟩:Str.ofString "r" = t/\inK b kA=k1:=by simpa using hfi
    refine ⟨rfl,_,rfl,aQ ⟨_,rfl,[.str "r",inK b kZ],.cons .str (.cons (hv4.same g5) .nil),sz2,λv6 H6 g6 hv6=>⟨g6 _ _ e5,ai (by lia),next _ _ _ ⟨ar hln (g5.trans g6),aa,?_,_,_,rfl⟩⟩⟩⟩;exact IsPs.but (g6 _ _ e5) But.put ((hp5.same g6).append (.cons hv6 .nil))
   | i+2,hfi,_,_,_=>simp at hfi
  ·rintro ys σ H5 ⟨g5,e5,hp5,w1,w2,rfl⟩;rw [<- el] at hp5;refine ⟨l,ys,_,rfl,SqL.of e5,hp5,λv5 H6 g6 hv5=>?_⟩;exact ⟨[.str "record",_],.cons .str (.cons hv5 .nil),sz2,λv7 H7 g7 hv7=>q v7 H7 (((g34.trans g5).trans g6).trans g7) hv7⟩
theorem xM (T:Tx K mg ad) {f:Addr} {fd:FuncData} (D:Gn K mg "kind_put" cv ["kind","path","other"] f fd):FnOk P w K mg base CX0 5 f fd ["kind","path","other"] (zJ K 3) :=
 et 2 T D (et 1 T D (et 0 T D (gr λ_ _ _ _ z=>by obtain ⟨m,_,_,_,_,h,_⟩:=z;exact absurd h (aBo m))))
theorem A5 (b:Bool):∃ a c,FK a c (shK b kZ)/\a<=5/\c<=40:=by
 have fi:=vE b oR vF;have h:=FK.rcd (gs:=[("n",bj 0 9,1,1),("r",inK b kZ,2+1,4+1)]) (λg hg=>by
   simp only [aAf,aAl,or_false] at hg;rcases hg with rfl | rfl
   ·exact jw
   ·exact fi) (by decide +kernel:(["n","r"]:List Str).Pairwise ltS) (λg hg=>by
   simp only [aAf,aAl,or_false] at hg;rcases hg with rfl | rfl <;> (dsimp only;decide +kernel)) (by show 2<=8;decide)
 exact ⟨4,7,h,by decide,by decide⟩
abbrev p2:Dt:=tz ["r","each"]
theorem nz2:∀ z∈([Str.ofString "r",Str.ofString "each"]:List Str),z= "each" \/z= "r" :=λz hz=>by
 simp only [aAf,aAl,or_false] at hz;exact hz.symm
def mD (K:W.Frag) (_:Ads):Sp:=λvs H Q _=>∃ (b:Bool) (x y u:V),vs=[x,y,u]/\IsP K H (shK b kA) x/\IsP K H p2 y/\IsP K H (ak kZ) u/\∀ v H',Same H H'->IsP K H' (shK b kZ) v->Q v H'
theorem mE (T:Tx K mg ad) {f:Addr} {fd:FuncData} (F:Gn K mg "kind_with" eI ["kind","path","other"] f fd):FnOk P w K mg base CX0 23 f fd ["kind","path","other"] (mD K ad):=by
 obtain ⟨_,_,Cs⟩:=T.kind_at;have CS:=fQ (P:=P) (w:=w) (base:=base) T Cs;obtain ⟨_,_,BZ⟩:=T.made_kind;have CG:=dv (P:=P) (w:=w) (base:=base) T BZ;obtain ⟨_,_,CM⟩:=T.kind_put;have De:=xM (P:=P) (w:=w) (base:=base) T CM;refine F.F.ok ng (λvs H Q E h=>?_) (λcdv A outer s H vs Q E hr h=>?_)
 ·obtain ⟨b,x,y,u,rfl,_⟩:=h
  rfl
 obtain ⟨b,x,y,u,rfl,hx,hy,hu,q⟩:=h;refine ⟨_,(@pss_cons _ _ _ _ _ (@ps_expr _ _ _ _ (0,Cs,CS,@pa2 _ _ _ _ _ (pv 0) (pv 1) (by rfl) (by rfl)) (by rfl)) (@pss_one _ _ _ (@ps_ret _ _ _ _ (pe_call CG (hr.mono (by first | decide | lia)) rfl BZ.m BZ.F.kp BZ.b .nil passF (@pa1 _ _ _ (0,CM,De,@pa3 _ _ _ _ _ _ _ (pv 0) (pv 1) (pv 2) (by rfl) (by rfl) (by rfl)) (by rfl)))))),?_⟩;refine ⟨_,rfl,_,rfl,way b kA,["r","each"],x,y,rfl,hx,hy,by decide,nz2,vG lq lr,λv1 H1 g1 _=>?_⟩;refine ⟨_,rfl,_,rfl,_,rfl,2,b,x,y,u,by decide,rfl,hy.same g1,hx.same g1,hu.same g1,by decide,λv2 H2 g2 hv2=>?_⟩;obtain ⟨a,c,fk,ha,hc⟩:=A5 b;exact ⟨_,v2,rfl,hv2,yt fk,.inr ⟨a,c,fk,ha,λ_ H3 g3=>q v2 H3 ((g1.trans g2).trans g3) (hv2.same g3),λz=>absurd z (by lia)⟩⟩
def mF (K:W.Frag) (_:Ads):Sp:=λvs H Q _=>∃ (b:Bool) (k:List (Str×Dt)) (p:Dt) (x y:V),vs=[x,y]/\IsP K H (chD p) x/\IsP K H (shK b k) y/\(k=kA\/k=kZ)/\∀ v H',Same H H'->IsP K H' (ak k) v->Q v H'
theorem b6 (T:Tx K mg ad) {f:Addr} {fd:FuncData} (F:Gn K mg "spot_kind" eJ ["change","shape"] f fd):FnOk P w K mg base CX0 4 f fd ["change","shape"] (mF K ad):=by
 obtain ⟨_,_,Cs⟩:=T.kind_at;have CS:=fQ (P:=P) (w:=w) (base:=base) T Cs;refine F.F.ok gN (λvs H Q E h=>?_) (λcdv A outer s H vs Q E hr h=>?_)
 ·obtain ⟨b,k,p,x,y,rfl,_⟩:=h
  rfl
 obtain ⟨b,k,p,x,y,rfl,hx,hy,hk,q⟩:=h;refine ⟨_,(@pss_cons _ _ _ _ _ (@ps_if _ _ _ _ _ _ _ _ (pt_cmpR op_ne (pe_callB (call_lenDN (K:=K) rfl) rfl T.z_len PySem.boot_len (@pa1 _ _ _ (pv 0) (by rfl))) pe_int (nomark _)) (@pss_one _ _ _ ps_never) pss_nil) (@pss_cons _ _ _ _ _ (@ps_set _ _ 2 _ _ _ _ gN.nd rfl (Or.inl rfl) (0,Cs,CS,@pa2 _ _ _ _ _ (pv 1) (@pi1 K _ _ _ _ _ _ _ rfl (pv 0)) (by rfl) (by rfl)) (by rfl) (.inl rfl)) (@pss_cons _ _ _ _ _ (@ps_if _ _ _ _ _ _ _ _ (pt_cmpR op_ne (@pi1 K _ _ _ _ _ _ _ rfl (pv 2)) pe_str (nomark _)) (@pss_one _ _ _ ps_never) pss_nil) (@pss_one _ _ _ (@ps_ret _ _ _ _ (pv 2)))))),?_⟩;have ld:rq (way b k) ["r","each"]:=by
  rcases hk with rfl | rfl
  ·exact vG lq lr
  ·exact vG oR vF
 refine ⟨_,rfl,_,_,rfl,hx.d,rfl,_,rfl,aL ?_⟩;refine ⟨_,rfl,_,rfl,_,_,_,hx,rfl,at0 _ _,λv1 hv1=>?_⟩;refine ⟨way b k,["r","each"],y,v1,rfl,hy,hv1,by decide,nz2,ld,λv2 H2 g2 hv2=>?_⟩;have hv2:IsP K H2 (ak k) v2:=hv2;refine ⟨_,rfl,_,_,_,hv2,rfl,at0 _ _,isS ?_⟩;exact ⟨rfl,_,rfl,jn ⟨_,rfl,q v2 H2 g2 hv2⟩⟩
def mG (K:W.Frag) (_:Ads):Sp:=λvs H Q _=>∃ (b:Bool) (l:Int) (x y:V),vs=[x,y]/\IsP K H (chD (puD l)) x/\IsP K H (shK b kA) y/\∀ H',Same H H'->Q (.bl false) H'
theorem mH (T:Tx K mg ad) {f:Addr} {fd:FuncData} (F:Gn K mg "moves_key" eK ["change","shape"] f fd):FnOk P w K mg base CX0 4 f fd ["change","shape"] (mG K ad):=by
 obtain ⟨_,_,Cs⟩:=T.kind_at;have CS:=fQ (P:=P) (w:=w) (base:=base) T Cs;obtain ⟨_,_,B1⟩:=T.taken_paths;have Ch:=bv (P:=P) (w:=w) (base:=base) T B1;obtain ⟨_,_,B4⟩:=T.made_paths;have Cl:=bM (P:=P) (w:=w) (base:=base) T B4;refine F.F.ok gO (λvs H Q E h=>?_) (λcdv A outer s H vs Q E hr h=>?_)
 ·obtain ⟨b,l,x,y,rfl,_⟩:=h
  rfl
 obtain ⟨b,l,x,y,rfl,hx,hy,q⟩:=h;refine ⟨_,(@pss_cons _ _ _ _ _ (@ps_set _ _ 2 _ _ _ _ gO.nd rfl (Or.inl rfl) (0,Cs,CS,@pa2 _ _ _ _ _ (pv 1) (bP (cg (K:=K) rfl) (@pi1 K _ _ _ _ _ _ _ rfl (pv 0)) cz (cA (@pe_un _ _ _ _ _ _ un_neg pe_int))) (by rfl) (by rfl)) (by rfl) (.inl rfl)) (@pss_one _ _ _ (@ps_ret _ _ _ _ (pe_and (pe_cmpR op_eq (@pi1 K _ _ _ _ _ _ _ rfl (pv 2)) pe_str (nomark _)) (pe_one (pe_cmpR (zj (K:=K) rfl hr.units) (@pe_tupPK _ K _ _ _ _ rfl (@pa1 _ _ _ (@pi1 K _ _ _ _ _ _ _ rfl (pv 2)) (by rfl))) (@pe_op _ _ _ _ _ _ _ _ (uM (K:=K) rfl) (0,B1,Ch,@pa1 _ _ _ (@pi1 K _ _ _ _ _ _ _ rfl (pv 0)) (by rfl)) (0,B4,Cl,@pa1 _ _ _ (@pi1 K _ _ _ _ _ _ _ rfl (pv 0)) (by rfl))) rfl)))))),?_⟩;refine ⟨_,rfl,_,rfl,_,_,_,hx,rfl,at0 _ _,λv1 hv1=>⟨_,rfl,_,rfl,_,hv1,λv2 H2 g2 hv2=>?_⟩⟩;refine ⟨way b kA,["r"],y,v2,rfl,hy.same g2,hv2,by decide,(λz hz=>.inr (aAD.mp hz)),A4 lq lr,λv3 H3 g3 hv3=>?_⟩;have hx3:=(hx.same g2).same g3
 cases b with
 | true =>
  refine ⟨_,rfl,_,_,_,hv3,rfl,at0 _ _,isS ?_⟩;exact ⟨rfl,_,rfl,aL (q H3 (g2.trans g3))⟩
 | false =>
  refine ⟨_,rfl,_,_,_,hv3,rfl,at0 _ _,isS ?_⟩;refine ⟨rfl,_,rfl,aG ?_⟩;refine ⟨_,rfl,_,_,_,hv3,rfl,rfl,λv5 hv5=>⟨[.str "id"],.cons hv5 .nil,sz1,λv6 H6 g6 hv6=>?_⟩⟩;refine ⟨_,rfl,_,_,_,hx3.same g6,rfl,rfl,λv7 hv7=>⟨false,l,v7,rfl,hv7,λa ys H8 ha g8 e8 i8=>?_⟩⟩;obtain rfl:=fo i8;refine ⟨_,rfl,_,_,_,(hx3.same g6).same g8,rfl,rfl,λv9 hv9=>⟨false,l,v9,rfl,hv9,λa' ys' H9 ha' g9 e9 i9=>?_⟩⟩;obtain ⟨p1,rfl,hp1⟩:=hZ i9;obtain ⟨c,zs,rfl,_⟩:=id hp1.unref;refine ⟨a,a',[],[.ref c],rfl,rfl,SqL.of (g9 _ _ e8),SqL.of e9,sz1,λm hm=>?_⟩;have g10:=ae hm (.lst ([]++[V.ref c]));refine ⟨m,[c],[zP],.tup [.str "id"],rfl,SqL.of aa,(by simp),.cons (hp1.same g10).d .nil,(((hv6.same g8).same g9).same g10).d,(by show 1<=60;decide),?_⟩;rw [show ([zP].any λe=>eqD e (.tup [.str "id"]))=false from by decide +kernel];exact q _ ((((g2.trans g3).trans g6).trans g8).trans (g9.trans g10))
def iQ (K:W.Frag) (_:Ads):Sp:=λvs H Q _=>∃ (b:Bool) (l:Int) (x y:V),vs=[x,y]/\IsP K H (chD (puD l)) x/\IsP K H (shK b kA) y/\0<=l/\l<=9/\∀ v H',Same H H'->IsP K H' (shK b kZ) v->Q v H'
theorem dN (T:Tx K mg ad) {f:Addr} {fd:FuncData} (F:Gn K mg "shape_behind" cw ["change","shape"] f fd):FnOk P w K mg base CX0 27 f fd ["change","shape"] (iQ K ad):=by
 obtain ⟨_,_,Cb⟩:=T.spot_kind;have Cq:=b6 (P:=P) (w:=w) (base:=base) T Cb;obtain ⟨_,_,Ca⟩:=T.record_behind;have Cn:=bI (P:=P) (w:=w) (base:=base) T Ca;obtain ⟨_,_,Ds⟩:=T.moves_key;have DY:=mH (P:=P) (w:=w) (base:=base) T Ds;obtain ⟨_,_,Du⟩:=T.kind_with
 have D4:=mE (P:=P) (w:=w) (base:=base) T Du;refine F.F.ok bV (λvs H Q E h=>?_) (λcdv A outer s H vs Q E hr h=>?_)
 ·obtain ⟨b,l,x,y,rfl,_⟩:=h
  rfl
 obtain ⟨b,l,x,y,rfl,hx,hy,l0,l9,q⟩:=h;refine ⟨_,(@pss_cons _ _ _ _ _ (@ps_set _ _ 2 _ _ _ _ bV.nd rfl (Or.inl rfl) (0,Cb,Cq,@pa2 _ _ _ _ _ (pv 0) (pv 1) (by rfl) (by rfl)) (by rfl) (.inl rfl)) (@pss_cons _ _ _ _ _ (@ps_set _ _ 3 _ _ _ _ bV.nd rfl (Or.inl rfl) (0,Ca,Cn,@pa2 _ _ _ _ _ (@pi1 K _ _ _ _ _ _ _ rfl (pv 0)) (pv 2) (by rfl) (by rfl)) (by rfl) (.inl rfl)) (@pss_cons _ _ _ _ _ (@ps_if _ _ _ _ _ _ _ _ (@pt_val _ _ _ (0,Ds,DY,@pa2 _ _ _ _ _ (pv 0) (pv 1) (by rfl) (by rfl)) (by intro _;rfl)) (@pss_one _ _ _ ps_never) pss_nil) (@pss_one _ _ _ (@ps_ret _ _ _ _ (0,Du,D4,@pa3 _ _ _ _ _ _ _ (pv 1) (@pi1 K _ _ _ _ _ _ _ rfl (pv 0)) (pv 3) (by rfl) (by rfl) (by rfl))))))),?_⟩;refine ⟨_,rfl,_,rfl,b,kA,puD l,x,y,rfl,hx,hy,.inl rfl,λv1 H1 g1 hv1=>?_⟩;refine ⟨_,rfl,_,_,_,hx.same g1,rfl,rfl,λv2 hv2=>⟨_,rfl,l,v2,v1,rfl,hv2,hv1,l0,l9,λv3 H3 g3 hv3=>?_⟩⟩;have g13:=g1.trans g3;refine ⟨_,rfl,_,rfl,b,l,x,y,rfl,hx.same g13,hy.same g13,λH4 g4=>⟨_,rfl,aL ?_⟩⟩;have g14:=g13.trans g4;refine ⟨_,rfl,_,rfl,_,_,_,hx.same g14,rfl,at0 _ _,λv5 hv5=>⟨_,rfl,b,y,v5,v3,rfl,hy.same g14,hv5,hv3.same g4,λv6 H6 g6 hv6=>q v6 H6 (g14.trans g6) hv6⟩⟩
def iR (K:W.Frag) (_:Ads):Sp:=λvs H Q _=>∃ (b:Bool) (l:Int) (x y:V),vs=[x,y]/\IsP K H (chD (puD l)) x/\IsP K H (shK b kA) y/\0<=l/\l<=9/\∀ v H',Same H H'->IsP K H' (chD (drD l)) v->Q v H'
theorem iS (T:Tx K mg ad) {f:Addr} {fd:FuncData} (F:Gn K mg "change_about" cx ["change","shape"] f fd):FnOk P w K mg base CX0 28 f fd ["change","shape"] (iR K ad):=by
 obtain ⟨_,_,Cr⟩:=T.shape_behind;have CQ:=dN (P:=P) (w:=w) (base:=base) T Cr;obtain ⟨_,_,Cv⟩:=T.piece_about;have CV:=eg (P:=P) (w:=w) (base:=base) T Cv;obtain ⟨_,_,Cb⟩:=T.spot_kind;have Cq:=b6 (P:=P) (w:=w) (base:=base) T Cb;refine F.F.ok iX (λvs H Q E h=>?_) (λcdv A outer s H vs Q E hr h=>?_)
 ·obtain ⟨b,l,x,y,rfl,_⟩:=h
  rfl
 obtain ⟨b,l,x,y,rfl,hx,hy,l0,l9,q⟩:=h;refine ⟨_,(@pss_cons _ _ _ _ _ (@ps_expr _ _ _ _ (0,Cr,CQ,@pa2 _ _ _ _ _ (pv 0) (pv 1) (by rfl) (by rfl)) (by rfl)) (@pss_one _ _ _ (@ps_ret _ _ _ _ (@pe_tupPK _ K _ _ _ _ rfl (@pa2 _ _ _ _ _ (@pi1 K _ _ _ _ _ _ _ rfl (pv 0)) (0,Cv,CV,@pa2 _ _ _ _ _ (@pi1 K _ _ _ _ _ _ _ rfl (pv 0)) (0,Cb,Cq,@pa2 _ _ _ _ _ (pv 0) (pv 1) (by rfl) (by rfl)) (by rfl) (by rfl)) (by rfl) (by rfl)))))),?_⟩;refine ⟨_,rfl,_,rfl,b,l,x,y,rfl,hx,hy,l0,l9,λv1 H1 g1 _=>?_⟩;have hx1:=hx.same g1;refine ⟨_,rfl,_,_,_,hx1,rfl,at0 _ _,λv2 hv2=>⟨_,rfl,_,_,_,hx1,rfl,rfl,λv3 hv3=>?_⟩⟩;refine ⟨_,rfl,_,rfl,b,kA,puD l,x,y,rfl,hx1,hy.same g1,.inl rfl,λv4 H4 g4 hv4=>?_⟩;refine ⟨l,v3,v4,rfl,hv3.same g4,hv4,l0,l9,λv5 H5 g5 hv5=>?_⟩;exact ⟨[p2,drD l],.cons ((hv2.same g4).same g5) (.cons hv5 .nil),sz2,λv6 H6 g6 hv6=>q v6 H6 ((g1.trans g4).trans (g5.trans g6)) hv6⟩
def Its:Bool->List (Int×List (Str×Dt))->Prop
 | true,its=>its.length<=8/\∀ (j:Nat) (p:Int×List (Str×Dt)),its[j]?=some p->p.1=(j:Int)
 | false,its=>its.length<=8/\∀ p∈its,aq p.2 "id" = some (.int p.1)
theorem Its.le {b:Bool} {its:List (Int×List (Str×Dt))} (h:Its b its):its.length<=8:=by cases b <;> exact h.1
def wW:Bool->Str
 | true=> "list"
 | false=> "rows"
abbrev itV (b:Bool) (its:List (Int×List (Str×Dt))):Dt:=.tup [.str (wW b),.tup (its.map λp=>ak p.2)]
abbrev cy (b:Bool) (n:Int) (its:List (Int×List (Str×Dt))):Dt:=ak [("n",.int n),("r",itV b its)]
abbrev wpK (p:List Key×Dt):Dt:=.tup [.tup (p.1.map kDt),p.2]
def plE (b:Bool) (n:Int) (its:List (Int×List (Str×Dt))) (e:Dt):Nat->Dt
 | 0=>e
 | 1=>itV b its
 | _=>cy b n its
def plR (its:List (Int×List (Str×Dt))) (e:Dt):Nat->List (List Key×Dt)
 | 0=>[([],e)]
 | 1=>its.map λp=>([.inl p.1],ak p.2)
 | _=>its.map λp=>([.inr "r",.inl p.1],ak p.2)
def ic (b:Bool) (n:Int) (its:List (Int×List (Str×Dt))):Nat->List (Key×Dt)
 | 1=>its.map λp=>(.inl p.1,ak p.2)
 | _=>[(.inr "n",.int n),(.inr "r",itV b its)]
abbrev enK (p:Key×Dt):Dt:=.tup [kDt p.1,p.2]
def Kok (k:List (Str×Dt)):Prop:=k=kA\/k=kZ
theorem rB:∀ (j:Nat) (its:List (Int×List (Str×Dt))),(∀ i p,its[i]?=some p->p.1=((j+i:Nat):Int))->enD j (its.map λp=>ak p.2)=its.map λp=>enK (.inl p.1,ak p.2)
 | _,[],_=>rfl
 | j,p :: its,h=>by
  have h0:=h 0 p rfl;have ih:=rB (j+1) its λi q hq=>by rw [h (i+1) q hq];congr 1;lia
  show Dt.tup [.int j,ak p.2] :: enD (j+1) (its.map λp=>ak p.2)=_;rw [ih];show _=enK (.inl p.1,ak p.2) :: _;rw [h0]
  rfl
theorem mI {K:W.Frag} {H:Hp} (k:Key):IsP K H (kDt k) (kV k):=by
 cases k with
 | inl i=>exact .int
 | inr z=>exact .str
def qw (K:W.Frag) (_:Ads):Sp:=λvs H Q _=>∃ (m:Nat) (b:Bool) (k:List (Str×Dt)) (its:List (Int×List (Str×Dt))) (n:Int) (x y:V),(m=1\/m=2)/\vs=[x,y]/\IsP K H (way b k (2 - m)) x/\IsP K H (plE b n its .non m) y/\Its b its/\∀ a ys H',Same H H'->H a=none->H' a=some (.lst ys)->IsPs K H' ((ic b n its m).map enK) ys->Q (.ref a) H'
theorem jA (T:Tx K mg ad) {f:Addr} {fd:FuncData} (F:Gn K mg "entries" fq ["kind","value"] f fd):FnOk P w K mg base CX0 2 f fd ["kind","value"] (qw K ad):=by
 obtain ⟨_,_,CL⟩:=T.field_of;have Dc:=iA (P:=P) (w:=w) (base:=base) T CL;refine F.F.ok qG (λvs H Q E h=>?_) (λcdv A outer s H vs Q E hr h=>?_)
 ·obtain ⟨m,b,k,its,n,x,y,_,rfl,_⟩:=h
  rfl
 obtain ⟨m,b,k,its,n,x,y,hm,rfl,hd,he,hi,q⟩:=h;refine ⟨_,(@pss_cons _ _ _ _ _ (@ps_if _ _ _ _ _ _ _ _ (pt_cmpR op_eq (@pi1 K _ _ _ _ _ _ _ rfl (pv 0)) pe_str (nomark _)) (@pss_one _ _ _ (@ps_ret _ _ _ _ (pe_callTy (jP (K:=K) rfl) rfl T.z_list boot_list (@pa1 _ _ _ (@pi1 K _ _ _ _ _ _ _ rfl (pv 1)) (by rfl))))) pss_nil) (@pss_cons _ _ _ _ _ (@ps_if _ _ _ _ _ _ _ _ (pt_cmpR op_eq (@pi1 K _ _ _ _ _ _ _ rfl (pv 0)) pe_str (nomark _)) (@pss_one _ _ _ (@ps_ret _ _ _ _ (sP rfl rfl T.z_list rfl T.z_enumerate (@pi1 K _ _ _ _ _ _ _ rfl (pv 1))))) pss_nil) (@pss_cons _ _ _ _ _ (@ps_if _ _ _ _ _ _ _ _ (pt_cmpR op_eq (@pi1 K _ _ _ _ _ _ _ rfl (pv 0)) pe_str (nomark _)) (@pss_one _ _ _ (@ps_ret _ _ _ _ (aC rfl (csR (sc:=ac fq) (NL:=["item"]) (N:=["kind","value"]) (ρ:=[0]) (N':=["item","kind"]) rfl rfl rfl (by decide +kernel) (by decide +kernel) (by decide +kernel) rfl (by decide +kernel)) (pi_tupN (K:=K) rfl (@pi1 K _ _ _ _ _ _ _ rfl (pv 1))) (λ_ _ _ _=>(ag (i:=0) (show List.Nodup (α:=Str) ["item","kind"] by decide +kernel) rfl (Or.inl rfl))) (λ_ _ _ _=>(pe_tupPK (K:=K) rfl (@pa2 _ _ _ _ _ (0,CL,Dc,@pa2 _ _ _ _ _ (pv 0) (@pi1 K _ _ _ _ _ _ _ rfl (pv 1)) (by rfl) (by rfl)) (pv 0) (by rfl) (by rfl))))))) pss_nil) (@pss_one _ _ _ (@ps_ret _ _ _ _ (@aB _ _ _ _ a9)))))),?_⟩;rcases hm with rfl | rfl
 rotate_left
 ·refine ⟨_,rfl,_,_,_,hd,rfl,at0 _ _,isS ?_⟩;refine ⟨rfl,_,rfl,aQ ?_⟩;refine ⟨_,rfl,_,_,_,he,rfl,rfl,λv hv=>?_⟩;obtain ⟨a,xs,rfl,ha,pa,ra⟩:=hv.unref;refine ⟨a,xs,rfl,.inr ha,λl hln=>?_⟩;exact q l xs _ (ae hln _) hln aa (ra.same (ae hln _))
 cases b with
 | true =>
  refine ⟨_,rfl,_,_,_,hd,rfl,at0 _ _,isS ?_⟩;refine ⟨rfl,_,rfl,iteN (aD (by decide)) ?_⟩;refine ⟨_,rfl,_,_,_,hd,rfl,at0 _ _,isS ?_⟩;refine ⟨rfl,_,rfl,aQ ?_⟩;refine ⟨_,rfl,_,_,_,he,rfl,rfl,λv hv=>?_⟩;obtain ⟨a,xs,rfl,ha,pa,ra⟩:=hv.unref;refine ⟨a,xs,_,rfl,ha,ra,λp ys H' sm hpn hp hps=>q p ys H' sm hpn hp ?_⟩;rw [rB 0 its λi p hp=>by rw [hi.2 i p hp,aB9]] at hps;show IsPs K H' ((its.map λp=>(Sum.inl p.1,ak p.2)).map enK) ys;rw [aAv];exact hps
 | false =>
  refine ⟨_,rfl,_,_,_,hd,rfl,at0 _ _,isS ?_⟩;refine ⟨rfl,_,rfl,iteN (aD (by decide)) ?_⟩;refine ⟨_,rfl,_,_,_,hd,rfl,at0 _ _,isS ?_⟩;refine ⟨rfl,_,rfl,iteN (aD (by decide)) ?_⟩;refine ⟨_,rfl,_,_,_,hd,rfl,at0 _ _,isS ?_⟩;refine ⟨rfl,_,rfl,aQ ?_⟩;refine ⟨_,rfl,_,_,_,he,rfl,rfl,λv hv=>?_⟩;obtain ⟨a,xs,rfl,ha,pa,ra⟩:=hv.unref;have el:=ra.length;rw [aAb] at el;refine ⟨a,rfl,⟨xs,ha⟩,λl hln=>?_⟩;refine bn (K:=K) (xs:=xs) (λj ys σ H'=>Same H H'/\H' l=some (.lst ys)/\IsPs K H' ((its.take j).map λp=>enK (.inl p.1,ak p.2)) ys/\∃ v1,σ=[v1,some x]) ⟨ae hln _,aa,.nil,none,rfl⟩ (λj ys σ H' _ p=>p.1.tup ha) ?_ ?_
  ·rintro j u ys σ H1 N hu ⟨s1,e1,hp,v1,rfl⟩ next;obtain ⟨d0,hv0,hx⟩:=ra.get' hu;rw [aAc] at hv0;obtain ⟨p0,hp0,rfl⟩:=aAd.mp hv0;have lk:=hi.2 p0 (aAs hp0);have hx1:=hx.same s1;have lp:=hp.length;rw [aAb,aAp] at lp;have l8:=hi.1;refine ⟨_,rfl,_,rfl,_,_,_,hd.same s1,rfl,rfl,isS ?_⟩;refine ⟨p0.2,"id",.int p0.1,u,rfl,hx1,lk,λv9 hv9=>?_⟩;refine ⟨_,rfl,[.int p0.1,ak p0.2],.cons hv9 (.cons hx1 .nil),sz2,λv4 H4 g4 hv4=>?_⟩;have f4:=g4 _ _ e1;have b5:But l H4 (upd H4 l (.lst (ys++[v4]))):=But.put;refine ⟨f4,ai (by lia),next _ _ _ ⟨λx o ex=>?_,aa,?_,_,rfl⟩⟩
   ·rw [ao (af ex hln)];exact g4 _ _ (s1 _ _ ex)
   ·rw [aAw,hp0,aAy];exact ((hp.same g4).but f4 b5).append (.cons (hv4.but f4 b5) .nil)
  ·rintro ys σ H1 ⟨s1,e1,hp,v1,rfl⟩;rw [<- el,aAt] at hp;refine q l ys H1 s1 hln e1 ?_;show IsPs K H1 ((its.map λp=>(Sum.inl p.1,ak p.2)).map enK) ys;rw [aAv];exact hp
def A6 (b:Bool) (k:List (Str×Dt)):Nat->Key->Dt
 | 1,_=>ak k
 | _,e=>if e=.inr "r" then inK b k else bj 0 9
def j8 (K:W.Frag) (_:Ads):Sp:=λvs H Q _=>∃ (m:Nat) (b:Bool) (k:List (Str×Dt)) (e:Key) (x:V),((m=1/\Kok k)\/(m=2/\(e=.inr "n" \/e=.inr "r")))/\vs=[x,kV e]/\IsP K H (way b k (2 - m)) x/\∀ v,IsP K H (A6 b k m e) v->Q v H
theorem fF (T:Tx K mg ad) {f:Addr} {fd:FuncData} (F:Gn K mg "inner_kind" dI ["kind","entry"] f fd):FnOk P w K mg base CX0 2 f fd ["kind","entry"] (j8 K ad):=by
 obtain ⟨_,_,BY⟩:=T.field_kind;have Cd:=bh (P:=P) (w:=w) (base:=base) T BY;obtain ⟨_,_,Ck⟩:=T.item_kind;have CI:=du (P:=P) (w:=w) (base:=base) T Ck;refine F.F.ok kt (λvs H Q E h=>?_) (λcdv A outer s H vs Q E hr h=>?_)
 ·obtain ⟨m,b,k,e,x,_,rfl,_⟩:=h
  rfl
 obtain ⟨m,b,k,e,x,hm,rfl,hd,q⟩:=h;refine ⟨_,(@pss_cons _ _ _ _ _ (@ps_if _ _ _ _ _ _ _ _ (pt_cmpR op_eq (@pi1 K _ _ _ _ _ _ _ rfl (pv 0)) pe_str (nomark _)) (@pss_one _ _ _ (@ps_ret _ _ _ _ (0,BY,Cd,@pa2 _ _ _ _ _ (pv 0) (pv 1) (by rfl) (by rfl)))) pss_nil) (@pss_one _ _ _ (@ps_ret _ _ _ _ (0,Ck,CI,@pa1 _ _ _ (pv 0) (by rfl))))),?_⟩;rcases hm with ⟨rfl,hk⟩ | ⟨rfl,he⟩
 ·obtain ⟨a,c,fk,ky⟩:∃ a c,FK a c (ak k)/\oA (k.map prD) "id" :=by
   rcases hk with rfl | rfl
   ·exact ⟨_,_,lq,lr⟩
   ·exact ⟨_,_,oR,vF⟩
  have fi:=vE b fk ky
  cases b with
  | true =>
   refine ⟨_,rfl,_,_,_,hd,rfl,at0 _ _,isS ?_⟩;exact ⟨rfl,_,rfl,iteN (aD (by decide)) ⟨_,rfl,_,_,_,x,rfl,hd,fi,q⟩⟩
  | false =>
   refine ⟨_,rfl,_,_,_,hd,rfl,at0 _ _,isS ?_⟩;exact ⟨rfl,_,rfl,iteN (aD (by decide)) ⟨_,rfl,_,_,_,x,rfl,hd,fi,q⟩⟩
 ·refine ⟨_,rfl,_,_,_,hd,rfl,at0 _ _,isS ?_⟩;refine ⟨rfl,_,rfl,aQ ?_⟩;refine ⟨_,rfl,_,rfl,([(Str.ofString "n",bj 0 9),(Str.ofString "r",inK b k)]:List (Str×Dt)).map prD,kDt e,x,_,rfl,hd,mI e,mw _,?_⟩;rcases he with rfl | rfl
  ·show xE K H (a8 (([(Str.ofString "n",bj 0 9),(Str.ofString "r",inK b k)]:List (Str×Dt)).map prD) (.str "n")) Q;rw [fm];exact q
  ·show xE K H (a8 (([(Str.ofString "n",bj 0 9),(Str.ofString "r",inK b k)]:List (Str×Dt)).map prD) (.str "r")) Q;rw [fm];exact q
abbrev pth2:List Str:=[Str.ofString "r",Str.ofString "each"]
def mJ (K:W.Frag) (n:Nat):Sp:=λvs H Q _=>∃ (m:Nat) (b:Bool) (k:List (Str×Dt)) (its:List (Int×List (Str×Dt))) (nn:Int) (e:Dt) (x y u:V),m < n/\m<=2/\vs=[x,y,u]/\(m≠0->IsP K H (way b k (2 - m)) x)/\IsP K H (plE b nn its e m) y/\IsP K H (tz (pth2.drop (2 - m))) u/\Its b its/\Kok k /\
 ∀ a ys H',Same H H'->H a=none->H' a=some (.lst ys)->IsPs K H' ((plR its e m).map wpK) ys->Q (.ref a) H'
theorem ie (T:Tx K mg ad) {f:Addr} {fd:FuncData} (n:Nat) (CA:Gn K mg "places" eM ["kind","value","path"] f fd) (C1:FnOk P w K mg base CX0 (n+2) f fd ["kind","value","path"] (mJ K n)):FnOk P w K mg base CX0 (n+3) f fd ["kind","value","path"] (mJ K (n+1)):=by
 obtain ⟨_,_,CT⟩:=T.entries;have Do:=jA (P:=P) (w:=w) (base:=base) T CT;obtain ⟨_,_,Cw⟩:=T.inner_kind;have CZ:=fF (P:=P) (w:=w) (base:=base) T Cw;obtain ⟨t_EACH,c_EACH⟩:=T.EACH;refine CA.F.ok c6 (λvs H Q E h=>?_) (λcdv A outer s H vs Q E hr h=>?_)
 ·obtain ⟨m,b,k,its,nn,e,x,y,u,_,_,rfl,_⟩:=h
  rfl
 obtain ⟨m,b,k,its,nn,e,x,y,u,hm,m2,rfl,hd,he,hu,hi,hk,q⟩:=h;refine ⟨_,(@pss_cons _ _ _ _ _ (@ps_if _ _ _ _ _ _ _ _ (pt_cmpR op_eq (pe_callB (call_lenDN (K:=K) rfl) rfl T.z_len PySem.boot_len (@pa1 _ _ _ (pv 2) (by rfl))) pe_int (nomark _)) (@pss_one _ _ _ (@ps_ret _ _ _ _ (@aB _ _ _ _ (@pa1 _ _ _ (@pe_tupPK _ K _ _ _ _ rfl (@pa2 _ _ _ _ _ (@pe_tupPK _ K _ _ _ _ rfl a9) (pv 1) (by rfl) (by rfl))) (by rfl))))) pss_nil) (@pss_cons _ _ _ _ _ (@ps_set _ _ 3 _ _ _ _ c6.nd rfl (Or.inl rfl) (@aB _ _ _ _ a9) (by rfl) (.inl rfl)) (@pss_cons _ _ _ _ _ (ps_for PassesOwn.never rfl (az (K:=K) rfl (0,CT,Do,@pa2 _ _ _ _ _ (pv 0) (pv 1) (by rfl) (by rfl))) (cI rfl (am (ag (i:=4) c6.nd rfl (Or.inr rfl)) (am (ag (i:=5) c6.nd rfl (Or.inl rfl)) aI)))
    (@pss_one _ _ _ (@ps_if _ _ _ _ _ _ _ _ (pt_cmpR (iZ (K:=K) rfl hr.units) (@pi1 K _ _ _ _ _ _ _ rfl (pv 2)) (cS (pt_cmpR op_eq (@pi1 K _ _ _ _ _ _ _ rfl (pv 0)) pe_str (nomark _)) (pv 4) (pe_gstr rfl c_EACH)) (nomark _)) (@pss_cons _ _ _ _ _ (@ps_set _ _ 6 _ _ _ _ c6.nd rfl (Or.inl rfl) (0,CA,C1,@pa3 _ _ _ _ _ _ _ (0,Cw,CZ,@pa2 _ _ _ _ _ (pv 0) (pv 4) (by rfl) (by rfl)) (pv 5) (bP (cg (K:=K) rfl) (pv 2) (cA pe_int) cz) (by rfl) (by rfl) (by rfl)) (by rfl) (.inl rfl)) (@pss_one _ _ _ (@ps_expr _ _ _ _ (pe_bm PySem.F.plainAttrs_list PySem.F.slot_list_extend PySem.F.type_list_extend sh (pv 3) (@pa1 _ _ _ (aC rfl (csR (sc:=ac eM) (NL:=["where","deeper"]) (N:=["kind","value","path","found","entry","inner","behind"]) (ρ:=[4]) (N':=["where","deeper","entry"]) rfl rfl rfl (by decide +kernel) (by decide +kernel) (by decide +kernel) rfl (by decide +kernel)) (az (K:=K) rfl (pv 6)) (λ_ _ _ _=>(bL (K:=K) (n:=2) rfl rfl (am (ag (i:=0) (show List.Nodup (α:=Str) ["where","deeper","entry"] by decide +kernel) rfl (Or.inl rfl)) (am (ag (i:=1) (show List.Nodup (α:=Str) ["where","deeper","entry"] by decide +kernel) rfl (Or.inl rfl)) aI)))) (λ_ _ _ _=>(pe_tupPK (K:=K) rfl (@pa2 _ _ _ _ _ (@pe_op _ _ _ _ _ _ _ _ (gu (K:=K) rfl) (pe_tupPK (K:=K) rfl (@pa1 _ _ _ (pv 2) (by rfl))) (pv 0)) (pv 1) (by rfl) (by rfl))))) (by rfl))) (by rfl)))) pss_nil))) (@pss_one _ _ _ (@ps_ret _ _ _ _ (pv 3)))))),?_⟩
 have l8:=hi.le
 match m,m2,hm,hd,he,hu,q with
 | 0,_,_,_,he,hu,q =>
  refine ⟨_,rfl,u,_,rfl,hu.d,rfl,_,rfl,aQ ?_⟩;refine ⟨[],.nil,(by show 0<=sizeLine;decide),λv1 H1 g1 hv1=>?_⟩;refine ⟨_,rfl,[.tup [],e],.cons hv1 (.cons (he.same g1) .nil),sz2,λv2 H2 g2 hv2=>⟨sz1,λl hln=>?_⟩⟩;have g3:=ae hln (.lst [v2]);exact q l [v2] _ ((g1.trans g2).trans g3) ((g1.trans g2).free hln) aa (.cons (hv2.same g3) .nil)
 | 1,_,hm,hd,he,hu,q =>
  replace hd:=hd (by decide);refine ⟨_,rfl,u,_,rfl,hu.d,rfl,_,rfl,iteN (by intro e;cases e) ?_⟩;refine ⟨(by show 0<=sizeLine;decide),λf0 hf0=>?_⟩;have g0:=ae hf0 (.lst []);refine ⟨_,rfl,_,rfl,1,b,k,its,nn,x,y,.inl rfl,rfl,hd.same g0,he.same g0,hi,λr1 ys1 H1 g1 hr1 e1 hp1=>?_⟩;have nf:r1≠f0:=(by intro c;rw [c,aa] at hr1;cases hr1);have F1:H1 f0=some (.lst []):=g1 _ _ aa;have S1:Same H H1:=g0.trans g1;have el1:=hp1.length;rw [aAb,show (ic b nn its 1).length=its.length from aAb _] at el1;refine ⟨r1,rfl,⟨ys1,SqL.of e1⟩,be (xs:=ys1) (λi σ H'=>∃ ys v4 v5 v6,But f0 H1 H'/\H' f0=some (.lst ys)/\IsPs K H' (((plR its e 1).take i).map wpK) ys/\σ=[some x,some y,some u,some (.ref f0),v4,v5,v6])
    ⟨[],none,none,none,But.refl _ _,F1,.nil,rfl⟩ (λi σ H' _ pv=>by
     obtain ⟨_,_,_,_,b,_⟩:=pv;exact SqL.of (b _ _ nf e1)) ?_ ?_⟩
  ·rintro i v0 σ H2 hv0 ⟨ys,v4,v5,v6,b2,e2,hp2,rfl⟩;obtain ⟨d0,hd0,hx0⟩:=hp1.get' hv0;rw [aAc] at hd0;obtain ⟨⟨en0,in0⟩,hit,rfl⟩:=aAd.mp hd0;have hit':(its.map λp=>((Sum.inl p.1:Key),ak p.2))[i]?=some (en0,in0):=hit;rw [aAc] at hit';obtain ⟨p0,hp0,ee⟩:=aAd.mp hit';obtain ⟨rfl,rfl⟩:(Sum.inl p0.1:Key)=en0/\ak p0.2=in0:=by simpa using ee
   have hi8:i < its.length:=(aAg.mp hp0).1;have hx2:=hx0.but F1 b2;have hd2:=(hd.same S1).but F1 b2;have hu2:=(hu.same S1).but F1 b2;obtain ⟨b0,y1,y2,rfl,hb,q1,q2⟩:=aA hx2;obtain rfl:=gv (k:=.inl p0.1) q1;refine ⟨b0,_,rfl,hb,rfl,_,_,rfl,_,_,rfl,rfl,?_⟩;refine ⟨_,rfl,_,_,_,hu2,rfl,at0 _ _,isS ?_⟩;obtain ⟨w0,l0,ew,nw⟩:∃ w0 l0,inK b k=.tup (.str w0 :: l0)/\w0≠ "record" :=by
    cases b <;> exact ⟨_,_,rfl,by decide⟩
   have hd2':IsP K H2 (.tup (.str w0 :: l0)) x:=by rw [<- ew];exact hd2
   refine ⟨_,rfl,_,_,_,hd2',rfl,at0 _ _,isS ?_⟩;refine ⟨rfl,_,rfl,iteN (aD nw) ?_⟩;refine ⟨.str "each",.str "each",.str,.str,(by show 0<=60;decide),_,rfl,dS (λ_=>?_) (λc1=>absurd (by decide +kernel) c1)⟩;refine ⟨_,rfl,_,rfl,1,b,k,.inl p0.1,x,.inl ⟨rfl,hk⟩,rfl,hd2,λvk hvk=>?_⟩;refine ⟨_,rfl,_,rfl,_,rfl,_,hu2,λv7 H7 g7 hv7=>?_⟩;refine ⟨0,b,k,its,nn,ak p0.2,vk,y2,v7,by lia,by decide,rfl,(λh=>absurd rfl h),q2.same g7,hv7,hi,hk,λr8 ys8 H8 g8 hr8 e8 hp8=>?_⟩;have rl8:(plR its (ak p0.2) 0).length<=8:=by show 1<=8;decide
   have f8:=g8 _ _ (g7 _ _ e2);refine ⟨_,rfl,.inl ⟨rfl,_,SqL.of f8⟩,_,rfl,r8,rfl,⟨_,SqL.of e8⟩,λl9 hl9=>?_⟩;refine ax (K:=K) (xs:=ys8) (λj zs σ H'=>Same H8 H'/\H' l9=some (.lst zs)/\IsPs K H' (((plR its (ak p0.2) 0).take j).map λp=>wpK ((Sum.inl p0.1:Key) :: p.1,p.2)) zs/\∃ v1 v2,σ=[v1,v2,some (kV (Sum.inl p0.1:Key))])
    ⟨ae hl9 _,aa,.nil,none,none,rfl⟩ (λj zs σ H' _ pv=>SqL.of (pv.1 _ _ e8)) ?_ ?_
   ·rintro j u9 zs σ H9 N hu9 ⟨s9,e9,hp9,w1,w2,rfl⟩ next;obtain ⟨d9,hd9,hx9⟩:=hp8.get' hu9;rw [aAc] at hd9;obtain ⟨⟨w9,v9⟩,hr9,rfl⟩:=aAd.mp hd9;have lr9:=(aAg.mp hr9).1;have lw9:w9.length<=1:=by
     have hr9:=aAs hr9;have hr9:(w9,v9)∈[(([]:List Key),ak p0.2)]:=hr9;rw [aAD,Prod.mk.injEq] at hr9;rw [hr9.1];exact aAB _
    obtain ⟨b9,t1,t2,rfl,hb9,t1p,t2p⟩:=aA (hx9.same s9);refine ⟨b9,_,rfl,hb9,rfl,_,_,rfl,_,_,rfl,rfl,?_⟩;refine ⟨_,rfl,[kDt (Sum.inl p0.1:Key)],.cons (mI (Sum.inl p0.1:Key)) .nil,sz1,λv10 H10 g10 hv10=>?_⟩;refine ⟨_,rfl,_,_,hv10,t1p.same g10,aAK (ai (by simp only [aAb,aAx,aBd];lia)),λv11 H11 g11 hv11=>?_⟩;refine ⟨_,rfl,[.tup ([kDt (Sum.inl p0.1:Key)]++w9.map kDt),v9],.cons hv11 (.cons ((t2p.same g10).same g11) .nil),sz2,λv12 H12 g12 hv12=>?_⟩;have S12:=(g10.trans g11).trans g12;have f12:=S12 _ _ e9;have b13:But l9 H12 (upd H12 l9 (.lst (zs++[v12]))):=But.put;have lz9:=hp9.length;rw [aAb,aAp] at lz9;refine ⟨f12,ai (by have:=rl8;lia),next _ _ _ ⟨λc o ec=>?_,aa,?_,_,_,rfl⟩⟩
    ·rw [ao (af ec hl9)];exact S12 _ _ (s9 _ _ ec)
    ·rw [aAw,hr9,aAy];exact ((hp9.same S12).but f12 b13).append (.cons (hv12.but f12 b13) .nil)
   ·rintro zs σ H9 ⟨s9,e9,hp9,w1,w2,rfl⟩;have el8:=hp8.length;rw [aAb] at el8;rw [<- el8,aAt] at hp9;have f9:=s9 _ _ f8;have nl9:f0≠l9:=af f8 hl9;have b10:But f0 H9 (upd H9 f0 (.lst (ys++zs))):=But.put;have lz9:=hp9.length;rw [aAb] at lz9;have ly2:=hp2.length;rw [aAb,aAp] at ly2;refine ⟨f0,l9,ys,zs,rfl,rfl,f9,e9,aAK (ai (by lia)),?_⟩;have bb:But f0 H1 (upd H9 f0 (.lst (ys++zs))):=λc o nc ec=>by
     rw [ao nc];exact s9 _ _ (g8 _ _ (g7 _ _ (b2 c o nc ec)))
    have pp:=((((hp2.same g7).same g8).same s9).but f9 b10).append (hp9.but f9 b10);refine ⟨ys++zs,_,_,_,bb,aa,?_,rfl⟩;have hpl:(plR its e 1)[i]?=some ([.inl p0.1],ak p0.2):=by show (its.map _)[i]?=_;rw [aAc,hp0];rfl
    rw [aAw,hpl,aAy];exact pp
  ·rintro σ H2 ⟨ys,v4,v5,v6,b2,e2,hp2,rfl⟩;refine ⟨_,rfl,q f0 ys H2 (λc o ec=>b2 c o (af ec hf0) (S1 _ _ ec)) hf0 e2 ?_⟩;rw [<- el1,show its.length=(plR its e 1).length from (aAb _).symm,aAt] at hp2;exact hp2
 | 2,_,hm,hd,he,hu,q =>
  replace hd:=hd (by decide);refine ⟨_,rfl,u,_,rfl,hu.d,rfl,_,rfl,iteN (by intro e;cases e) ?_⟩;refine ⟨(by show 0<=sizeLine;decide),λf0 hf0=>?_⟩;have g0:=ae hf0 (.lst []);refine ⟨_,rfl,_,rfl,2,b,k,its,nn,x,y,.inr rfl,rfl,hd.same g0,he.same g0,hi,λr1 ys1 H1 g1 hr1 e1 hp1=>?_⟩;have nf:r1≠f0:=(by intro c;rw [c,aa] at hr1;cases hr1);have F1:H1 f0=some (.lst []):=g1 _ _ aa;have S1:Same H H1:=g0.trans g1;have el1:2=ys1.length:=hp1.length;refine ⟨r1,rfl,⟨ys1,SqL.of e1⟩,be (xs:=ys1) (λi σ H'=>∃ ys v4 v5 v6,But f0 H1 H'/\H' f0=some (.lst ys)/\IsPs K H' ((if i=2 then plR its e 2 else []).map wpK) ys/\i<=2/\σ=[some x,some y,some u,some (.ref f0),v4,v5,v6])
    ⟨[],none,none,none,But.refl _ _,F1,.nil,by decide,rfl⟩ (λi σ H' _ pv=>by
     obtain ⟨_,_,_,_,b,_⟩:=pv;exact SqL.of (b _ _ nf e1)) ?_ ?_⟩
  ·rintro i v0 σ H2 hv0 ⟨ys,v4,v5,v6,b2,e2,hp2,i2,rfl⟩;obtain ⟨d0,hd0,hx0⟩:=hp1.get' hv0;rw [aAc] at hd0;obtain ⟨⟨en0,in0⟩,hit,rfl⟩:=aAd.mp hd0;have hx2:=hx0.but F1 b2;have hd2:=(hd.same S1).but F1 b2;have hu2:=(hu.same S1).but F1 b2;obtain ⟨b0,y1,y2,rfl,hb,q1,q2⟩:=aA hx2;obtain rfl:=gv q1;refine ⟨b0,_,rfl,hb,rfl,_,_,rfl,_,_,rfl,rfl,?_⟩;refine ⟨_,rfl,_,_,_,hu2,rfl,at0 _ _,isS ?_⟩;refine ⟨_,rfl,_,_,_,hd2,rfl,at0 _ _,isS ?_⟩;refine ⟨rfl,_,rfl,aQ ?_⟩;have hit':([((Sum.inr (Str.ofString "n"):Key),Dt.int nn),((Sum.inr (Str.ofString "r"):Key),itV b its)]:List (Key×Dt))[i]?=some (en0,in0):=hit
   match i,hit',hp2 with
   | 0,hit',hp2 =>
    obtain ⟨rfl,rfl⟩:(Sum.inr (Str.ofString "n"):Key)=en0/\Dt.int nn=in0:=by simpa using hit'
    refine ⟨_,rfl,.str "r",.str "n",.str,.str,(by show 0<=60;decide),_,rfl,dS (λc1=>absurd c1 (by decide +kernel)) (λ_=>?_)⟩;exact ⟨ys,_,_,_,b2,e2,hp2,by decide,rfl⟩
   | i+2,hit',_=>simp at hit'
   | 1,hit',hp2 =>
    obtain ⟨rfl,rfl⟩:(Sum.inr (Str.ofString "r"):Key)=en0/\itV b its=in0:=by simpa using hit'
    refine ⟨_,rfl,.str "r",.str "r",.str,.str,(by show 0<=60;decide),_,rfl,dS (λ_=>?_) (λc1=>absurd (by decide +kernel) c1)⟩;refine ⟨_,rfl,_,rfl,2,b,k,.inr "r",x,.inr ⟨rfl,.inr rfl⟩,rfl,hd2,λvk hvk=>?_⟩;refine ⟨_,rfl,_,rfl,_,rfl,_,hu2,λv7 H7 g7 hv7=>?_⟩;refine ⟨1,b,k,its,nn,e,vk,y2,v7,by lia,by decide,rfl,λ_=>hvk.same g7,q2.same g7,hv7,hi,hk,λr8 ys8 H8 g8 hr8 e8 hp8=>?_⟩;have rl8:(plR its e 1).length<=8:=by show (its.map _).length<=8;rw [aAb];exact l8
    have f8:=g8 _ _ (g7 _ _ e2);refine ⟨_,rfl,.inl ⟨rfl,_,SqL.of f8⟩,_,rfl,r8,rfl,⟨_,SqL.of e8⟩,λl9 hl9=>?_⟩;refine ax (K:=K) (xs:=ys8) (λj zs σ H'=>Same H8 H'/\H' l9=some (.lst zs)/\IsPs K H' (((plR its e 1).take j).map λp=>wpK ((Sum.inr (Str.ofString "r"):Key) :: p.1,p.2)) zs/\∃ v1 v2,σ=[v1,v2,some (kV (Sum.inr (Str.ofString "r"):Key))])
     ⟨ae hl9 _,aa,.nil,none,none,rfl⟩ (λj zs σ H' _ pv=>SqL.of (pv.1 _ _ e8)) ?_ ?_
    ·rintro j u9 zs σ H9 N hu9 ⟨s9,e9,hp9,w1,w2,rfl⟩ next;obtain ⟨d9,hd9,hx9⟩:=hp8.get' hu9;rw [aAc] at hd9;obtain ⟨⟨w9,v9⟩,hr9,rfl⟩:=aAd.mp hd9;have lr9:=(aAg.mp hr9).1;have lw9:w9.length<=1:=by
      have hr9:(w9,v9)∈its.map λp=>(([.inl p.1]:List Key),ak p.2):=aAs hr9;obtain ⟨p9,_,e9'⟩:=aAF.mp hr9;rw [<- (Prod.mk.inj e9').1];exact aAm _
     obtain ⟨b9,t1,t2,rfl,hb9,t1p,t2p⟩:=aA (hx9.same s9);refine ⟨b9,_,rfl,hb9,rfl,_,_,rfl,_,_,rfl,rfl,?_⟩;refine ⟨_,rfl,[kDt (Sum.inr (Str.ofString "r"):Key)],.cons (mI (Sum.inr (Str.ofString "r"):Key)) .nil,sz1,λv10 H10 g10 hv10=>?_⟩;refine ⟨_,rfl,_,_,hv10,t1p.same g10,aAK (ai (by simp only [aAb,aAx,aBd];lia)),λv11 H11 g11 hv11=>?_⟩;refine ⟨_,rfl,[.tup ([kDt (Sum.inr (Str.ofString "r"):Key)]++w9.map kDt),v9],.cons hv11 (.cons ((t2p.same g10).same g11) .nil),sz2,λv12 H12 g12 hv12=>?_⟩;have S12:=(g10.trans g11).trans g12;have f12:=S12 _ _ e9;have b13:But l9 H12 (upd H12 l9 (.lst (zs++[v12]))):=But.put;have lz9:=hp9.length;rw [aAb,aAp] at lz9;refine ⟨f12,ai (by have:=rl8;lia),next _ _ _ ⟨λc o ec=>?_,aa,?_,_,_,rfl⟩⟩
     ·rw [ao (af ec hl9)];exact S12 _ _ (s9 _ _ ec)
     ·rw [aAw,hr9,aAy];exact ((hp9.same S12).but f12 b13).append (.cons (hv12.but f12 b13) .nil)
    ·rintro zs σ H9 ⟨s9,e9,hp9,w1,w2,rfl⟩;have el8:=hp8.length;rw [aAb] at el8;rw [<- el8,aAt] at hp9;have f9:=s9 _ _ f8;have nl9:f0≠l9:=af f8 hl9;have b10:But f0 H9 (upd H9 f0 (.lst (ys++zs))):=But.put;have lz9:=hp9.length;rw [aAb] at lz9;have ly2:0=ys.length:=hp2.length;refine ⟨f0,l9,ys,zs,rfl,rfl,f9,e9,aAK (ai (by lia)),?_⟩;have bb:But f0 H1 (upd H9 f0 (.lst (ys++zs))):=λc o nc ec=>by
      rw [ao nc];exact s9 _ _ (g8 _ _ (g7 _ _ (b2 c o nc ec)))
     have pp:=((((hp2.same g7).same g8).same s9).but f9 b10).append (hp9.but f9 b10);obtain rfl:ys=[]:=aAW ly2.symm;refine ⟨[]++zs,_,_,_,bb,aa,?_,by decide,rfl⟩;have ee:(plR its e 2).map wpK=(plR its e 1).map λp=>wpK ((Sum.inr (Str.ofString "r"):Key) :: p.1,p.2):=by
      show (its.map _).map _=(its.map _).map _;rw [aAv,aAv]
      rfl
     rw [if_pos rfl,ee];exact hp9.but f9 b10
  ·rintro σ H2 ⟨ys,v4,v5,v6,b2,e2,hp2,i2,rfl⟩;refine ⟨_,rfl,q f0 ys H2 (λc o ec=>b2 c o (af ec hf0) (S1 _ _ ec)) hf0 e2 ?_⟩;rw [if_pos el1.symm] at hp2;exact hp2
theorem jB (T:Tx K mg ad) {f:Addr} {fd:FuncData} (D:Gn K mg "places" eM ["kind","value","path"] f fd):FnOk P w K mg base CX0 5 f fd ["kind","value","path"] (mJ K 3) :=
 ie T 2 D (ie T 1 D (ie T 0 D (gr λ_ _ _ _ z=>by obtain ⟨m,_,_,_,_,_,_,_,_,h,_⟩:=z;exact absurd h (aBo m))))
def bD (k:Key):List (List Key×Dt)->List (List Key×Dt)
 | []=>[]
 | p :: r=>match p.1 with
  | []=>bD k r
  | a :: w=>if a=k then (w,p.2) :: bD k r else bD k r
theorem cm (k:Key):∀ a b,bD k (a++b)=bD k a++bD k b
 | [],b=>rfl
 | (w,o) :: a,b=>by
  have ih:=cm k a b
  cases w with
  | nil=>exact ih
  | cons x w =>
   show (if x=k then _ else _)=(if x=k then _ else _)++_
   split
   ·exact congrArg (List.cons (w,o)) ih
   ·exact ih
theorem cY (k a:Key) (w:List Key) (o:Dt):bD k [(a :: w,o)]=if a=k then [(w,o)] else []:=rfl
theorem oS (k:Key):∀ ps,(bD k ps).length<=ps.length
 | []=>aAm _
 | (w,o) :: r=>by
  have ih:=oS k r
  cases w with
  | nil=>exact Nat.le_succ_of_le ih
  | cons x w =>
   show (if x=k then _ else _:List (List Key×Dt)).length<=_
   split
   ·rw [aAx,aAx];lia
   ·rw [aAx];lia
theorem A7 (e:Dt):∀ its,bD (.inr "r") (plR its e 2)=plR its e 1:=by
 intro its
 induction its with
 | nil=>rfl
 | cons p its ih =>
  show (if (Sum.inr (Str.ofString "r"):Key)=.inr "r" then (([.inl p.1]:List Key),ak p.2) :: bD (.inr "r") (plR its e 2) else bD (.inr "r") (plR its e 2))=_;rw [if_pos rfl];exact congrArg (List.cons _) ih
theorem A8 (e:Dt):∀ its,bD (.inr "n") (plR its e 2)=[]:=by
 intro its
 induction its with
 | nil=>rfl
 | cons p its ih =>
  show (if (Sum.inr (Str.ofString "r"):Key)=.inr "n" then (([.inl p.1]:List Key),ak p.2) :: bD (.inr "n") (plR its e 2) else bD (.inr "n") (plR its e 2))=_;rw [if_neg (by decide)];exact ih
theorem zK {e:Dt} {i:Int}:∀ {its:List (Int×List (Str×Dt))},i∉its.map (·.1)->bD (.inl i) (plR its e 1)=[]:=by
 intro its
 induction its with
 | nil=>intro _;rfl
 | cons p its ih =>
  intro h;rw [aAz,aAf,not_or] at h;show (if (Sum.inl p.1:Key)=.inl i then (([]:List Key),ak p.2) :: bD (.inl i) (plR its e 1) else bD (.inl i) (plR its e 1))=_;rw [if_neg (λc=>h.1 (Sum.inl.inj c).symm)];exact ih h.2
theorem A9 {e:Dt}:∀ {its:List (Int×List (Str×Dt))} {j:Nat} {p:Int×List (Str×Dt)},(its.map (·.1)).Nodup->its[j]?=some p->bD (.inl p.1) (plR its e 1)=[([],ak p.2)]:=by
 intro its
 induction its with
 | nil=>intro j p _ h;simp at h
 | cons q its ih =>
  intro j p nd h;rw [aAz,aAR] at nd
  cases j with
  | zero =>
   obtain rfl:q=p:=by simpa using h
   show (if (Sum.inl q.1:Key)=.inl q.1 then (([]:List Key),ak q.2) :: bD (.inl q.1) (plR its e 1) else bD (.inl q.1) (plR its e 1))=_;rw [if_pos rfl];exact congrArg (List.cons _) (zK (e:=e) nd.1)
  | succ j =>
   have h':its[j]?=some p:=by simpa using h
   show (if (Sum.inl q.1:Key)=.inl p.1 then (([]:List Key),ak q.2) :: bD (.inl p.1) (plR its e 1) else bD (.inl p.1) (plR its e 1))=_;rw [if_neg (λc=>nd.1 (by rw [Sum.inl.inj c];exact aAF.mpr ⟨p,aAs h',rfl⟩))];exact ih nd.2 h'
def Alike (its its':List (Int×List (Str×Dt))):Prop:=its'.map (·.1)=its.map (·.1)/\(its.map (·.1)).Nodup
theorem Alike.at_ {its its':List (Int×List (Str×Dt))} (h:Alike its its') {j:Nat} {p:Int×List (Str×Dt)} (hp:its[j]?=some p):∃ fs,its'[j]?=some (p.1,fs):=by
 have e:(its'.map (·.1))[j]?=some p.1:=by rw [h.1,aAc,hp];rfl
 rw [aAc] at e;obtain ⟨q,hq,e⟩:=aAd.mp e;exact ⟨q.2,by rw [hq,<- e]⟩
theorem Alike.len {its its':List (Int×List (Str×Dt))} (h:Alike its its'):its'.length=its.length:=by have:=congrArg List.length h.1;simpa using this
theorem zL {m:Nat} {b:Bool} {k:List (Str×Dt)} {its its':List (Int×List (Str×Dt))} {nn:Int} {e':Dt} (al:Alike its its') (hm:m=1\/m=2) {j:Nat} {k0:Key} {v0:Dt} (h:(ic b nn its m)[j]?=some (k0,v0)) :
  ∃ v0',(ic b nn its' m)[j]?=some (k0,v0')/\((m=1/\True)\/(m=2/\(k0=.inr "n" \/k0=.inr "r")))/\((bD k0 (plR its' e' m)=[]/\v0'=v0)\/∃ e0 e1,bD k0 (plR its' e' m)=plR its' e1 (m - 1)/\v0=plE b nn its e0 (m - 1)/\v0'=plE b nn its' e1 (m - 1)/\A6 b k m k0=way b k (2 - (m - 1))):=by
 rcases hm with rfl | rfl
 ·have h':(its.map λp=>((Sum.inl p.1:Key),ak p.2))[j]?=some (k0,v0):=h;rw [aAc] at h';obtain ⟨p,hp,ee⟩:=aAd.mp h';obtain ⟨rfl,rfl⟩:(Sum.inl p.1:Key)=k0/\ak p.2=v0:=by simpa using ee
  obtain ⟨fs,hq⟩:=al.at_ hp;refine ⟨ak fs,?_,.inl ⟨rfl,trivial⟩,.inr ⟨ak p.2,ak fs,?_,rfl,rfl,rfl⟩⟩
  ·show (its'.map λp=>((Sum.inl p.1:Key),ak p.2))[j]?=_;rw [aAc,hq]
   rfl
  ·exact A9 (by rw [al.1];exact al.2) hq
 ·have h':([((Sum.inr (Str.ofString "n"):Key),Dt.int nn),((Sum.inr (Str.ofString "r"):Key),itV b its)]:List (Key×Dt))[j]?=some (k0,v0):=h
  match j,h' with
  | 0,h' =>
   obtain ⟨rfl,rfl⟩:(Sum.inr (Str.ofString "n"):Key)=k0/\Dt.int nn=v0:=by simpa using h'
   exact ⟨.int nn,rfl,.inr ⟨rfl,.inl rfl⟩,.inl ⟨A8 e' its',rfl⟩⟩
  | 1,h' =>
   obtain ⟨rfl,rfl⟩:(Sum.inr (Str.ofString "r"):Key)=k0/\itV b its=v0:=by simpa using h'
   exact ⟨itV b its',rfl,.inr ⟨rfl,.inr rfl⟩,.inr ⟨.non,e',A7 e' its',rfl,rfl,rfl⟩⟩
  | j+2,h'=>simp at h'
theorem vH {m:Nat} {its:List (Int×List (Str×Dt))} {e:Dt} (hm:m=1\/m=2):∀ p∈plR its e m,∃ a w,p.1=a :: w/\w.length<=1:=by
 intro p hp;rcases hm with rfl | rfl
 ·obtain ⟨q,_,rfl⟩:=aAF.mp (show p∈its.map _ from hp);exact ⟨_,_,rfl,by decide⟩
 ·obtain ⟨q,_,rfl⟩:=aAF.mp (show p∈its.map _ from hp);exact ⟨_,_,rfl,by show 1<=1;decide⟩
theorem bx {m:Nat} {its:List (Int×List (Str×Dt))} {e:Dt} (hm:m=1\/m=2):(plR its e m).length=its.length:=by
 rcases hm with rfl | rfl <;> exact aAb _
theorem Ba (a:Dt) (l:List Dt):L2.sC (a :: l) (some 1) none=l:=by simp [L2.sC,HT.sIx]
def Bb (K:W.Frag) (H H':Hp) (pw:Addr) (ps:List (List Key×Dt)) (kvs:List (Key×V)):Prop :=
 H' pw=some (.dK kvs)/\(∀ k,aH kvs k=none->bD k ps=[])/\(∀ k v,aH kvs k=some v->∃ l ys,v=.ref l/\H' l=some (.lst ys)/\H l=none/\l≠pw/\IsPs K H' ((bD k ps).map wpK) ys)/\∀ k k' v,aH kvs k=some v->aH kvs k'=some v->k=k'
def vI (K:W.Frag) (n:Nat):Sp:=λvs H Q _=>∃ (x y:V) (s:Addr) (zs:List V),vs=[x,y,.ref s]/\SqL K H s zs/\((zs=[]/\0 < n/\Q y H)\/∃ (m:Nat) (b:Bool) (k:List (Str×Dt)) (its its':List (Int×List (Str×Dt))) (nn:Int) (e e':Dt),m < n/\m<=2/\(m≠0->IsP K H (way b k (2 - m)) x)/\IsP K H (plE b nn its e m) y/\IsPs K H ((plR its' e' m).map wpK) zs/\Its b its/\Kok k/\Alike its its' /\
 ∀ (v:V) (H':Hp),Same H H'->IsP K H' (plE b nn its' e' m) v->Q v H')
theorem cn (T:Tx K mg ad) {f:Addr} {fd:FuncData} (n:Nat) (Cu:Gn K mg "with_values" bN ["kind","value","some"] f fd) (CW:FnOk P w K mg base CX0 (n+2) f fd ["kind","value","some"] (vI K n)):FnOk P w K mg base CX0 (n+3) f fd ["kind","value","some"] (vI K (n+1)):=by
 obtain ⟨_,_,CT⟩:=T.entries;have Do:=jA (P:=P) (w:=w) (base:=base) T CT;obtain ⟨_,_,Cw⟩:=T.inner_kind;have CZ:=fF (P:=P) (w:=w) (base:=base) T Cw;refine Cu.F.ok aJ (λvs H Q E h=>?_) (λcdv A outer s H vs Q E hr h=>?_)
 ·obtain ⟨x,y,s,zs,rfl,_⟩:=h
  rfl
 obtain ⟨x,y,sa,zs,rfl,hs,h⟩:=h;refine ⟨_,(@pss_cons _ _ _ _ _ (@ps_if _ _ _ _ _ _ _ _ (pt_cmpR op_eq (pe_callB (call_len_seqN (K:=K) rfl) rfl T.z_len PySem.boot_len (@pa1 _ _ _ (pv 2) (by rfl))) pe_int (nomark _)) (@pss_one _ _ _ (@ps_ret _ _ _ _ (pv 1))) pss_nil) (@pss_cons _ _ _ _ _ (@ps_set _ _ 3 _ _ _ _ aJ.nd rfl (Or.inl rfl) gm (by rfl) (.inl rfl)) (@pss_cons _ _ _ _ _ (ps_for PassesOwn.never rfl (az (K:=K) rfl (pv 2)) (cI rfl (am (ag (i:=4) aJ.nd rfl (Or.inl rfl)) (am (ag (i:=5) aJ.nd rfl (Or.inl rfl)) aI)))
    (@pss_cons _ _ _ _ _ (@ps_if _ _ _ _ _ _ _ _ (pt_cmpR op_eq (pe_callB (call_lenDN (K:=K) rfl) rfl T.z_len PySem.boot_len (@pa1 _ _ _ (pv 4) (by rfl))) pe_int (nomark _)) (@pss_one _ _ _ (@ps_ret _ _ _ _ (pv 5))) pss_nil) (@pss_one _ _ _ (@ps_expr _ _ _ _ (pe_bm PySem.F.plainAttrs_list PySem.F.slot_list_append PySem.F.type_list_append mt_append (uQ (pv 3) (@pi1 K _ _ _ _ _ _ _ rfl (pv 4)) (@aB _ _ _ _ a9) ⟨rfl,rfl,rfl,rfl⟩) (@pa1 _ _ _ (@pe_tupPK _ K _ _ _ _ rfl (@pa2 _ _ _ _ _ (bP (cg (K:=K) rfl) (pv 4) (cA pe_int) cz) (pv 5) (by rfl) (by rfl))) (by rfl))) (by rfl))))) (@pss_cons _ _ _ _ _ (@ps_set _ _ 6 _ _ _ _ aJ.nd rfl (Or.inl rfl) (@aB _ _ _ _ a9) (by rfl) (.inl rfl)) (@pss_cons _ _ _ _ _ (ps_for PassesOwn.never rfl (az (K:=K) rfl (0,CT,Do,@pa2 _ _ _ _ _ (pv 0) (pv 1) (by rfl) (by rfl))) (cI rfl (am (ag (i:=7) aJ.nd rfl (Or.inl rfl)) (am (ag (i:=8) aJ.nd rfl (Or.inl rfl)) aI)))
    (@pss_one _ _ _ (@ps_expr _ _ _ _ (pe_bm PySem.F.plainAttrs_list PySem.F.slot_list_append PySem.F.type_list_append mt_append (pv 6) (@pa1 _ _ _ (@pe_tupPK _ K _ _ _ _ rfl (@pa2 _ _ _ _ _ (pv 7) (0,Cu,CW,@pa3 _ _ _ _ _ _ _ (0,Cw,CZ,@pa2 _ _ _ _ _ (pv 0) (pv 7) (by rfl) (by rfl)) (pv 8) (uy (u1 hr.units) (pv 3) (pv 7) (@aB _ _ _ _ a9) ⟨rfl,rfl,rfl,rfl⟩) (by rfl) (by rfl) (by rfl)) (by rfl) (by rfl))) (by rfl))) (by rfl)))) (@pss_cons _ _ _ _ _ (@ps_if _ _ _ _ _ _ _ _ (pt_cmpR op_eq (@pi1 K _ _ _ _ _ _ _ rfl (pv 0)) pe_str (nomark _)) (@pss_one _ _ _ (@ps_ret _ _ _ _ (@pe_tupPK _ K _ _ _ _ rfl (@pa2 _ _ _ _ _ pe_str (pe_callTy (call_tuplePN (K:=K) rfl) rfl T.z_tuple boot_tuple (@pa1 _ _ _ (pv 6) (by rfl))) (by rfl) (by rfl))))) pss_nil) (@pss_one _ _ _ (@ps_ret _ _ _ _ (@pe_tupPK _ K _ _ _ _ rfl (@pa2 _ _ _ _ _ (@pi1 K _ _ _ _ _ _ _ rfl (pv 0)) (pe_callTy (call_tuplePN (K:=K) rfl) rfl T.z_tuple boot_tuple (@pa1 _ _ _ (aC rfl (cs0 (NL:=["entry","inner"]) rfl (by decide +kernel) (by decide +kernel)) (az (K:=K) rfl (pv 6)) (λ_ _ _ _=>(bL (K:=K) (n:=2) rfl rfl (am (ag (i:=0) (show List.Nodup (α:=Str) ["entry","inner"] by decide +kernel) rfl (Or.inl rfl)) (am (ag (i:=1) (show List.Nodup (α:=Str) ["entry","inner"] by decide +kernel) rfl (Or.inl rfl)) aI)))) (λ_ _ _ _=>(pv 1))) (by rfl))) (by rfl) (by rfl))))))))))),?_⟩
 refine ⟨_,rfl,sa,zs,rfl,.inl hs,rfl,_,rfl,?_⟩
 by_cases ze:zs=[]
 ·subst ze;refine aQ ⟨_,rfl,?_⟩;rcases h with ⟨_,_,q⟩ | ⟨m,b,k,its,its',nn,e,e',hm,m2,hd,he,dz,hi,hk,al,q⟩
  ·exact q
  ·have l0:=dz.length;rw [aAb] at l0
   match m,m2,he,l0,q with
   | 0,_,_,l0,_=>cases l0
   | 1,_,he,l0,q =>
    rw [bx (.inl rfl)] at l0;obtain rfl:=aAW l0;obtain rfl:its=[]:=aAW (by rw [<- al.len];rfl);exact q y H (Same.refl H) he
   | 2,_,he,l0,q =>
    rw [bx (.inr rfl)] at l0;obtain rfl:=aAW l0;obtain rfl:its=[]:=aAW (by rw [<- al.len];rfl);exact q y H (Same.refl H) he
 refine iteN (λc=>ze (aAW (by have:=V.int.inj c;lia))) ?_;rcases h with ⟨h,_⟩ | ⟨m,b,k,its,its',nn,e,e',hm,m2,hd,he,dz,hi,hk,al,q⟩
 ·exact absurd h ze
 refine λpw hpw=>?_;have g1:=ae hpw (.dK []);have e1:(upd H pw (.dK [])) pw=some (.dK []):=aa
 generalize upd H pw (.dK [])=H1 at g1 e1 ⊢
 by_cases m0:m=0
 ·subst m0
  cases dz with
  | cons h1 rb =>
  cases rb
  rename_i z1
  refine ⟨_,rfl,sa,rfl,⟨_,g1.seq hs⟩,be (xs:=[z1]) (λi σ H'=>H'=H1/\i=0/\σ=[some x,some y,some (.ref sa),some (.ref pw),none,none,none,none,none]) ⟨rfl,rfl,rfl⟩ (λi σ H' _ pv=>by rw [pv.1];exact g1.seq hs) ?_ (λσ H' pv=>by cases pv.2.1)⟩;rintro i u σ H2 hu ⟨rfl,rfl,rfl⟩;obtain rfl:z1=u:=by simpa using hu
  obtain ⟨c,y1,y2,rfl,hb,r1,r2⟩:=aA (h1.same g1);refine ⟨c,_,rfl,hb,rfl,_,_,rfl,_,_,rfl,rfl,?_⟩;exact ⟨_,rfl,y1,_,rfl,r1.d,rfl,_,rfl,aQ ⟨_,rfl,q y2 _ g1 r2⟩⟩
 have hm12:m=1\/m=2:=by lia
 replace hd:=hd m0;have pc:=vH (its:=its') (e:=e') hm12;have pl8:(plR its' e' m).length<=8:=by rw [bx hm12,al.len];exact hi.le
 have sub:=λ{j k0 v0}=>zL (b:=b) (k:=k) (nn:=nn) (e':=e') al hm12 (j:=j) (k0:=k0) (v0:=v0)
 generalize hps:plR its' e' m=ps at dz pc pl8 sub
 have lz:zs.length=ps.length:=by rw [<- dz.length,aAb]
 refine ⟨_,rfl,sa,rfl,⟨zs,g1.seq hs⟩,be (xs:=zs) (λi σ H'=>∃ (kvs:List (Key×V)) (v4 v5:Option V),Same H H'/\Bb K H H' pw (ps.take i) kvs/\kvs.length<=i/\i<=8/\σ=[some x,some y,some (.ref sa),some (.ref pw),v4,v5,none,none,none])
  ⟨[],none,none,g1,⟨e1,λ_ _=>rfl,(λk v c=>by cases c),(λk k' v c=>by cases c)⟩,aAm _,aAB _,rfl⟩ (λi σ H' _ pv=>by
   obtain ⟨_,_,_,s,_⟩:=pv;exact s.seq hs) ?_ ?_⟩
 ·rintro i u σ H2 hu ⟨kvs,v4,v5,s2,⟨ew,gn,gs,gi⟩,lk,i9,rfl⟩;obtain ⟨dp,hdp,hp⟩:=(dz.same s2).get' hu;rw [aAc] at hdp;obtain ⟨⟨w0,o⟩,hq,rfl⟩:=aAd.mp hdp;have hi:i < ps.length:=(aAg.mp hq).1;obtain ⟨a,w',rfl,lw'⟩:∃ a w',w0=a :: w'/\w'.length<=1:=pc _ (aAs hq);obtain ⟨c,y1,y2,rfl,hb,r1,r2⟩:=aA hp;refine ⟨c,_,rfl,hb,rfl,_,_,rfl,_,_,rfl,rfl,?_⟩;refine ⟨_,rfl,y1,_,rfl,r1.d,rfl,_,rfl,iteN (λc=>by have:=V.int.inj c;rw [aAz,aAx] at this;lia) ?_⟩;refine ⟨_,rfl,pw,rfl,.inl ⟨kvs,.inl ew⟩,_,rfl,_,_,_,r1,rfl,at0 _ _,λv0 hv0=>?_⟩;obtain rfl:=gv hv0;refine ⟨(by show 0<=sizeLine;decide),λpl0 hpl=>?_⟩;have g3:=ae hpl (.lst []);have e3:(upd H2 pl0 (.lst [])) pl0=some (.lst []):=aa
  generalize upd H2 pl0 (.lst [])=H3 at g3 e3 ⊢
  have hplH:H pl0=none:=s2.free hpl;have nlw:pl0≠pw:=(af ew hpl).symm;have tk:ps.take (i+1)=ps.take i++[(a :: w',o)]:=by rw [aAw,hq];rfl
  have r13:=r1.same g3;have r23:=r2.same g3;refine ⟨kvs,a,g3 _ _ ew,rfl,ai (by lia),λvl hvl=>?_,λhno=>?_⟩
  ·obtain ⟨l,ys,rfl,hl,hlH,nlp,dy⟩:=gs _ _ hvl;have ly:ys.length<=8:=by rw [<- dy.length,aAb];exact aAE (oS _ _) (aAE (List.length_take_le _ _) i9)
   refine ⟨.inl ⟨rfl,_,SqL.of (g3 _ _ hl)⟩,_,rfl,_,rfl,_,r13,λv6 H6 g6 hv6=>?_⟩;rw [aAz,Ba] at hv6;refine ⟨_,rfl,[.tup (w'.map kDt),o],.cons hv6 (.cons (r23.same g6) .nil),sz2,λv7 H7 g7 hv7=>?_⟩;have g37:=g6.trans g7;have g27:=g3.trans g37;have hl7:=g27 _ _ hl;refine ⟨l,ys,_,rfl,rfl,hl7,ai (by lia),?_⟩;have B:But l H7 (upd H7 l (.lst (ys++[v7]))):=But.put;refine ⟨kvs,_,_,λc u ec=>B c u (af ec hlH) (g27 _ _ (s2 _ _ ec)),⟨B _ _ nlp.symm (g27 _ _ ew),λk hk=>?_,λk v hk=>?_,gi⟩,by lia,by lia,rfl⟩
   ·rw [tk,cm,gn k hk,cY,if_neg (λc=>?_)]
    ·rfl
    ·rw [c,hk] at hvl
     cases hvl
   ·obtain ⟨l',ys',rfl,hl',hl'H,nlp',dy'⟩:=gs k v hk
    by_cases ek:a=k
    ·subst ek;rw [hvl] at hk;injection hk with hk
     injection hk with hk
     subst hk;rw [hl] at hl';injection hl' with hl'
     injection hl' with hl'
     subst hl';refine ⟨l,ys++[v7],rfl,aa,hlH,nlp,?_⟩;rw [tk,cm,cY,if_pos rfl,aAy];exact IsPs.but hl7 B ((dy.same g27).append (.cons hv7 .nil))
    ·have nll:l'≠l:=λc=>ek (gi _ _ _ hvl (by rw [<- c];exact hk));refine ⟨l',ys',rfl,B _ _ nll (g27 _ _ hl'),hl'H,nlp',?_⟩;rw [tk,cm,cY,if_neg ek,aA9];exact IsPs.but hl7 B (dy'.same g27)
  ·have Bw:But pw H3 (upd H3 pw (.dK (bc kvs a (.ref pl0)))):=But.put;have ew3:=g3 _ _ ew;have r14:=ck ew3 Bw r13;have r24:=ck ew3 Bw r23;have e4:(upd H3 pw (.dK (bc kvs a (.ref pl0)))) pl0=some (.lst []):=Bw _ _ nlw e3;have w4:(upd H3 pw (.dK (bc kvs a (.ref pl0)))) pw=some (.dK (bc kvs a (.ref pl0))):=aa
   generalize upd H3 pw (.dK (bc kvs a (.ref pl0)))=H4 at Bw r14 r24 e4 w4 ⊢
   refine ⟨.inl ⟨rfl,_,SqL.of e4⟩,_,rfl,_,rfl,_,r14,λv6 H6 g6 hv6=>?_⟩;rw [aAz,Ba] at hv6;refine ⟨_,rfl,[.tup (w'.map kDt),o],.cons hv6 (.cons (r24.same g6) .nil),sz2,λv7 H7 g7 hv7=>?_⟩;have g47:=g6.trans g7;have hl7:=g47 _ _ e4;refine ⟨pl0,[],_,rfl,rfl,hl7,ai (by show 0<=1000;decide),?_⟩;have B:But pl0 H7 (upd H7 pl0 (.lst ([]++[v7]))):=But.put;have gka:bD a (ps.take i)=[]:=gn _ hno;refine ⟨bc kvs a (.ref pl0),_,_,λc u ec=>B c u (af ec hplH) (g47 _ _ (Bw c u (af ec hpw) (g3 _ _ (s2 _ _ ec)))),⟨B _ _ nlw.symm (g47 _ _ w4),λk hk=>?_,λk v hk=>?_,λk k' v hk hk'=>?_⟩,by have:=cC kvs a (.ref pl0);lia,by lia,rfl⟩
   ·rw [dX] at hk
    split at hk
    ·cases hk
    ·rename_i ek
     rw [tk,cm,gn k hk,cY,if_neg (λc=>ek c.symm)]
     rfl
   ·rw [dX] at hk
    split at hk
    ·rename_i ek
     subst ek;injection hk with hk
     subst hk;refine ⟨pl0,[v7],rfl,aa,hplH,nlw,?_⟩;rw [tk,cm,cY,if_pos rfl,gka];exact .cons (hv7.but hl7 B) .nil
    ·rename_i ek
     obtain ⟨l',ys',rfl,hl',hl'H,nlp',dy'⟩:=gs k v hk;have nll:l'≠pl0:=af hl' hpl;refine ⟨l',ys',rfl,B _ _ nll (g47 _ _ (Bw _ _ nlp' (g3 _ _ hl'))),hl'H,nlp',?_⟩;rw [tk,cm,cY,if_neg (λc=>ek c.symm),aA9];exact IsPs.but hl7 B ((fj ew3 Bw (dy'.same g3)).same g47)
   ·rw [dX] at hk hk';have old:∀ k v,aH kvs k=some v->v≠.ref pl0:=λk v h c=>by
     obtain ⟨l',ys',rfl,hl',_⟩:=gs k v h;injection c with c
     rw [c,hpl] at hl'
     cases hl'
    split at hk
    ·split at hk'
     ·rename_i a1 a2;rw [a1,a2]
     ·injection hk with hk
      exact absurd hk.symm (old _ _ hk')
    ·split at hk'
     ·injection hk' with hk'
      exact absurd hk'.symm (old _ _ hk)
     ·exact gi _ _ _ hk hk'
 rintro σ H2 ⟨kvs,v4,v5,s2,⟨ew,gn,gs,gi⟩,lk,i9,rfl⟩;rw [lz,aAt] at gn gs;refine ⟨(by show 0<=sizeLine;decide),λpt hpt=>?_⟩;have g3:=ae hpt (.lst []);have e3:(upd H2 pt (.lst [])) pt=some (.lst []):=aa
 generalize upd H2 pt (.lst [])=H3 at g3 e3 ⊢
 have S3:=s2.trans g3;have he':IsP K H3 (plE b nn its .non m) y:=by
  rcases hm12 with rfl | rfl <;> exact he.same S3
 refine ⟨_,rfl,_,rfl,m,b,k,its,nn,x,y,hm12,rfl,hd.same S3,he',hi,λr1 ys1 H4 g4 hr1 e4 dy=>?_⟩;have el8:(ic b nn its m).length<=8:=by
  rcases hm12 with rfl | rfl
  ·show (its.map _).length<=8;rw [aAb];exact hi.le
  ·show 2<=8;decide
 have ly1:ys1.length=(ic b nn its m).length:=by rw [<- dy.length,aAb]
 have nrt:r1≠pt:=λc=>by rw [c,e3] at hr1;cases hr1
 have S24:=g3.trans g4;refine ⟨r1,rfl,⟨ys1,SqL.of e4⟩,be (xs:=ys1) (λj σ H'=>∃ (ys:List V) (v7 v8:Option V),Same H2 H'/\H' r1=some (.lst ys1)/\H' pt=some (.lst ys)/\IsPs K H' ((ic b nn its m).map enK) ys1/\IsPs K H' (((ic b nn its' m).take j).map enK) ys/\σ=[some x,some y,some (.ref sa),some (.ref pw),v4,v5,some (.ref pt),v7,v8])
  ⟨[],none,none,S24,e4,g4 _ _ e3,dy,.nil,rfl⟩ (λj σ H' _ pv=>by
   obtain ⟨_,_,_,_,e,_⟩:=pv;exact SqL.of e) ?_ ?_⟩
 ·rintro j u σ H5 hu ⟨ys,w7,w8,s5,er5,et5,dy5,dt5,rfl⟩;obtain ⟨dx,hdx,hx⟩:=dy5.get' hu;rw [aAc] at hdx;obtain ⟨⟨k0,v0⟩,hen,rfl⟩:=aAd.mp hdx;have hj:j < (ic b nn its m).length:=(aAg.mp hen).1;obtain ⟨v0',hen',hk0,alt⟩:=sub hen;have ly:ys.length < sizeLine:=by
   rw [<- dt5.length,aAb,aAp];exact ai (by lia)
  obtain ⟨c,y1,y2,rfl,hb,q1,q2⟩:=aA hx;obtain rfl:=gv q1;refine ⟨c,_,rfl,hb,rfl,_,_,rfl,_,_,rfl,rfl,?_⟩;have S5:=s2.trans s5;refine ⟨_,rfl,.inl ⟨rfl,_,SqL.of et5⟩,_,rfl,_,rfl,_,rfl,m,b,k,k0,x,hk0.imp (λh=>⟨h.1,hk⟩) id,rfl,hd.same S5,λv10 hv10=>?_⟩;refine ⟨_,rfl,_,rfl,pw,rfl,.inl ⟨kvs,.inl (s5 _ _ ew)⟩,_,rfl,(by show 0<=sizeLine;decide),λpl2 hpl2=>?_⟩;have g6:=ae hpl2 (.lst []);have e6:(upd H5 pl2 (.lst [])) pl2=some (.lst []):=aa
  generalize upd H5 pl2 (.lst [])=H6 at g6 e6 ⊢
  have ew6:=g6 _ _ (s5 _ _ ew);obtain ⟨l,zs',el,hl,dl⟩:∃ (l:Addr) (zs':List V),(aH kvs k0).getD (.ref pl2)=.ref l/\SqL K H6 l zs'/\IsPs K H6 ((bD k0 ps).map wpK) zs':=by
   cases hk:aH kvs k0 with
   | none=>exact ⟨pl2,[],rfl,SqL.of e6,by rw [gn _ hk];exact .nil⟩
   | some v =>
    obtain ⟨l,zs',rfl,hl,_,_,dl⟩:=gs _ _ hk;exact ⟨l,zs',rfl,SqL.of (g6 _ _ (s5 _ _ hl)),dl.same (s5.trans g6)⟩
  refine ⟨aH kvs k0,.inl ⟨kvs,k0,.inl ew6,rfl,rfl⟩,?_⟩;rw [el];have fin:∀ (v7:V) (H7:Hp),Same H6 H7->IsP K H7 v0' v7->∃ (ls:List Dt),IsPs K H7 ls [kV k0,v7]/\[kV k0,v7].length<=sizeLine/\∀ v8 H8,Same H7 H8->IsP K H8 (.tup ls) v8->H8 pt=some (.lst ys)/\Same H2 (upd H8 pt (.lst (ys++[v8])))/\(upd H8 pt (.lst (ys++[v8]))) r1=some (.lst ys1)/\IsPs K (upd H8 pt (.lst (ys++[v8]))) ((ic b nn its m).map enK) ys1/\IsPs K (upd H8 pt (.lst (ys++[v8]))) (((ic b nn its' m).take (j+1)).map enK) (ys++[v8]):=λv7 H7 g7 hv7=>by
   refine ⟨[kDt k0,v0'],.cons (mI k0) (.cons hv7 .nil),sz2,λv8 H8 g8 hv8=>?_⟩;have g58:=(g6.trans g7).trans g8;have B:But pt H8 (upd H8 pt (.lst (ys++[v8]))):=But.put;have et8:=g58 _ _ et5;refine ⟨et8,λc o ec=>B c o (af ec hpt) (g58 _ _ (s5 _ _ ec)),B _ _ nrt (g58 _ _ er5),IsPs.but et8 B (dy5.same g58),?_⟩;rw [aAw,hen',aAy];exact IsPs.but et8 B ((dt5.same g58).append (.cons hv8 .nil))
  rcases alt with ⟨g0,rfl⟩ | ⟨e0,e9,g0,rfl,rfl,ei⟩
  ·rw [g0] at dl;obtain rfl:=fo dl;refine ⟨v10,y2,l,[],rfl,hl,.inl ⟨rfl,by lia,?_⟩⟩;obtain ⟨ls,a1,a2,a3⟩:=fin y2 H6 (Same.refl H6) (q2.same g6);refine ⟨ls,a1,a2,λv8 H8 g8 hv8=>?_⟩;obtain ⟨t1,t2,t3,t5,t6⟩:=a3 v8 H8 g8 hv8;exact ⟨pt,ys,_,rfl,rfl,t1,ly,_,_,_,t2,t3,aa,t5,t6,rfl⟩
  ·rw [g0] at dl;refine ⟨v10,y2,l,zs',rfl,hl,.inr ⟨m - 1,b,k,its,its',nn,e0,e9,by lia,by lia,λ_=>by rw [<- ei];exact hv10.same g6,q2.same g6,dl,hi,hk,al,λv7 H7 g7 hv7=>?_⟩⟩;obtain ⟨ls,a1,a2,a3⟩:=fin v7 H7 g7 hv7;refine ⟨ls,a1,a2,λv8 H8 g8 hv8=>?_⟩;obtain ⟨t1,t2,t3,t5,t6⟩:=a3 v8 H8 g8 hv8;exact ⟨pt,ys,_,rfl,rfl,t1,ly,_,_,_,t2,t3,aa,t5,t6,rfl⟩
 rintro σ H5 ⟨ys,w7,w8,s5,er5,et5,dy5,dt5,rfl⟩;have ll:(ic b nn its' m).length=(ic b nn its m).length:=by
  rcases hm12 with rfl | rfl
  ·show (its'.map _).length=(its.map _).length;rw [aAb,aAb,al.len]
  ·rfl
 rw [ly1,<- ll,aAt] at dt5;have S5:=s2.trans s5;have hd5:=hd.same S5;rcases hm12 with rfl | rfl
 ·obtain ⟨l0,ew0,nw⟩:∃ l0,inK b k=.tup (.str (wW b) :: l0)/\wW b≠ "record" :=by
   cases b <;> exact ⟨_,rfl,by decide⟩
  have hd5':IsP K H5 (.tup (.str (wW b) :: l0)) x:=by rw [<- ew0];exact hd5
  refine ⟨_,rfl,_,_,_,hd5',rfl,at0 _ _,isS ?_⟩;refine ⟨rfl,_,rfl,iteN (aD nw) ?_⟩;refine ⟨_,rfl,_,_,_,hd5',rfl,at0 _ _,isS ?_⟩;refine ⟨_,rfl,pt,rfl,⟨_,SqL.of et5⟩,λl hl=>?_⟩;have dt6:IsPs K H5 (its'.map λp=>enK (.inl p.1,ak p.2)) ys:=by
   have h:IsPs K H5 ((its'.map λp=>((Sum.inl p.1:Key),ak p.2)).map enK) ys:=dt5;rw [aAv] at h;exact h
  have lys:=dt6.length;rw [aAb] at lys;have l8:its'.length<=8:=by rw [al.len];exact hi.le
  refine ax (K:=K) (xs:=ys) (λj zs σ H'=>Same H5 H'/\H' l=some (.lst zs)/\IsPs K H' ((its'.take j).map λp=>ak p.2) zs/\∃ v1 v2,σ=[v1,v2]) ⟨ae hl _,aa,.nil,none,none,rfl⟩ (λj zs σ H' _ pv=>SqL.of (pv.1 _ _ et5)) ?_ ?_
  ·rintro j u zs σ H6 N hu ⟨s6,e6,d6,v1,v2,rfl⟩ next;obtain ⟨dx,hdx,hx⟩:=dt6.get' hu;rw [aAc] at hdx;obtain ⟨p0,hp0,rfl⟩:=aAd.mp hdx;obtain ⟨c,y1,y2,rfl,hb,q1,q2⟩:=aA (hx.same s6);have lzs:=d6.length;rw [aAb,aAp] at lzs;refine ⟨c,_,rfl,hb,rfl,_,_,rfl,_,_,rfl,rfl,?_⟩;refine ⟨_,rfl,e6,ai (by lia),next _ _ _ ⟨ar hl s6,aa,?_,_,_,rfl⟩⟩;rw [aAw,hp0,aAy];exact IsPs.but e6 But.put (d6.append (.cons q2 .nil))
  ·rintro zs σ H6 ⟨s6,e6,d6,v1,v2,rfl⟩;rw [<- lys,aAt] at d6;refine ⟨l,zs,_,rfl,SqL.of e6,d6,λvt H7 g7 hvt=>?_⟩;exact ⟨[.str (wW b),_],.cons .str (.cons hvt .nil),sz2,λvr H8 g8 hvr=>q vr H8 (((S5.trans s6).trans g7).trans g8) hvr⟩
 ·refine ⟨_,rfl,_,_,_,hd5,rfl,at0 _ _,isS ?_⟩;refine ⟨rfl,_,rfl,aQ ?_⟩;refine ⟨_,rfl,pt,ys,_,rfl,SqL.of et5,dt5,λvt H7 g7 hvt=>?_⟩;exact ⟨[.str "record",_],.cons .str (.cons hvt .nil),sz2,λvr H8 g8 hvr=>q vr H8 ((S5.trans g7).trans g8) hvr⟩
theorem vJ (T:Tx K mg ad) {f:Addr} {fd:FuncData} (D:Gn K mg "with_values" bN ["kind","value","some"] f fd):FnOk P w K mg base CX0 5 f fd ["kind","value","some"] (vI K 3) :=
 cn T 2 D (cn T 1 D (cn T 0 D (gr λ_ _ _ _ z=>by
  obtain ⟨_,_,_,_,_,_,⟨_,h,_⟩ | ⟨m,_,_,_,_,_,_,_,h,_⟩⟩:=z
  ·exact absurd h (aAM 0)
  ·exact absurd h (aBo m))))
def vK (K:W.Frag) (_:Ads):Sp:=λvs H Q _=>∃ (b:Bool) (k:List (Str×Dt)) (its:List (Int×List (Str×Dt))) (nn:Int) (x y u:V),vs=[x,y,u]/\IsP K H (shK b k) x/\IsP K H (cy b nn its) y/\IsP K H p2 u/\Its b its/\Kok k/\∀ a ys H',Same H H'->H a=none->H' a=some (.lst ys)->IsPs K H' ((plR its .non 2).map wpK) ys->Q (.ref a) H'
theorem jC (T:Tx K mg ad) {f:Addr} {fd:FuncData} (F:Gn K mg "spots" mV ["kind","record","path"] f fd):FnOk P w K mg base CX0 6 f fd ["kind","record","path"] (vK K ad):=by
 obtain ⟨_,_,CA⟩:=T.places;have C1:=jB (P:=P) (w:=w) (base:=base) T CA;refine F.F.ok wg (λvs H Q E h=>?_) (λcdv A outer s H vs Q E hr h=>?_)
 ·obtain ⟨b,k,its,nn,x,y,u,rfl,_⟩:=h
  rfl
 obtain ⟨b,k,its,nn,x,y,u,rfl,hx,hy,hu,hi,hk,q⟩:=h;refine ⟨_,(@pss_one _ _ _ (@ps_ret _ _ _ _ (0,CA,C1,@pa3 _ _ _ _ _ _ _ (pv 0) (pv 1) (pv 2) (by rfl) (by rfl) (by rfl)))),?_⟩;exact ⟨_,rfl,_,rfl,_,rfl,2,b,k,its,nn,.non,x,y,u,by decide,by decide,rfl,λ_=>hx,hy,hu,hi,hk,q⟩
def tF (K:W.Frag) (_:Ads):Sp:=λvs H Q _=>∃ (b:Bool) (k:List (Str×Dt)) (its:List (Int×List (Str×Dt))) (nn:Int) (x y u:V),vs=[x,y,u]/\IsP K H (shK b k) x/\IsP K H (cy b nn its) y/\IsP K H p2 u/\Its b its/\Kok k/\∀ a ys H',Same H H'->H a=none->H' a=some (.lst ys)->IsPs K H' ((plR its .non 2).map λp=>.tup (p.1.map kDt)) ys->Q (.ref a) H'
theorem tG (T:Tx K mg ad) {f:Addr} {fd:FuncData} (F:Gn K mg "wheres" jI ["kind","value","path"] f fd):FnOk P w K mg base CX0 6 f fd ["kind","value","path"] (tF K ad):=by
 obtain ⟨_,_,CA⟩:=T.places;have C1:=jB (P:=P) (w:=w) (base:=base) T CA;refine F.F.ok tM (λvs H Q E h=>?_) (λcdv A outer s H vs Q E hr h=>?_)
 ·obtain ⟨b,k,its,nn,x,y,u,rfl,_⟩:=h
  rfl
 obtain ⟨b,k,its,nn,x,y,u,rfl,hx,hy,hu,hi,hk,q⟩:=h;refine ⟨_,(@pss_one _ _ _ (@ps_ret _ _ _ _ (aC rfl (cs0 (NL:=["where","inner"]) rfl (by decide +kernel) (by decide +kernel)) (az (K:=K) rfl (0,CA,C1,@pa3 _ _ _ _ _ _ _ (pv 0) (pv 1) (pv 2) (by rfl) (by rfl) (by rfl))) (λ_ _ _ _=>(bL (K:=K) (n:=2) rfl rfl (am (ag (i:=0) (show List.Nodup (α:=Str) ["where","inner"] by decide +kernel) rfl (Or.inl rfl)) (am (ag (i:=1) (show List.Nodup (α:=Str) ["where","inner"] by decide +kernel) rfl (Or.inl rfl)) aI)))) (λ_ _ _ _=>(pv 0))))),?_⟩;refine ⟨_,rfl,_,rfl,_,rfl,2,b,k,its,nn,.non,x,y,u,by decide,by decide,rfl,λ_=>hx,hy,hu,hi,hk,λa ys H1 g1 ha e1 dy=>?_⟩;have l8:(plR its .non 2).length<=8:=by rw [bx (.inr rfl)];exact hi.le
 have ly:=dy.length;rw [aAb] at ly;refine ⟨a,rfl,⟨_,SqL.of e1⟩,λl hl=>?_⟩;refine ax (K:=K) (xs:=ys) (λj zs σ H'=>Same H1 H'/\H' l=some (.lst zs)/\IsPs K H' (((plR its .non 2).take j).map λp=>.tup (p.1.map kDt)) zs/\∃ v1 v2,σ=[v1,v2]) ⟨ae hl _,aa,.nil,none,none,rfl⟩ (λj zs σ H' _ pv=>SqL.of (pv.1 _ _ e1)) ?_ ?_
 ·rintro j u zs σ H6 N hu ⟨s6,e6,d6,v1,v2,rfl⟩ next;obtain ⟨dx,hdx,hx⟩:=dy.get' hu;rw [aAc] at hdx;obtain ⟨p0,hp0,rfl⟩:=aAd.mp hdx;obtain ⟨c,y1,y2,rfl,hb,q1,q2⟩:=aA (hx.same s6);have lzs:=d6.length;rw [aAb,aAp] at lzs;refine ⟨c,_,rfl,hb,rfl,_,_,rfl,_,_,rfl,rfl,?_⟩;refine ⟨_,rfl,e6,ai (by lia),next _ _ _ ⟨ar hl s6,aa,?_,_,_,rfl⟩⟩;rw [aAw,hp0,aAy];exact IsPs.but e6 But.put (d6.append (.cons q1 .nil))
 ·rintro zs σ H6 ⟨s6,e6,d6,v1,v2,rfl⟩;rw [<- ly,aAt] at d6;exact q l zs H6 (g1.trans s6) (g1.free hl) e6 d6
def kOf:Bool->List (Str×Dt)
 | true=>kZ
 | false=>kA
theorem qx (dr:Bool):Kok (kOf dr):=by cases dr <;> simp [Kok,kOf]
abbrev ledI (dr:Bool) (dOf:Int->Dt) (its:List (Int×List (Str×Dt))):List (Int×List (Str×Dt)):=its.map λp=>(p.1,vB dr p.2 (dOf p.1))
def vL (dr:Bool) (its:List (Int×List (Str×Dt))):Prop:=∀ p∈its,p.2.length<=8/\(dr=true->∃ e,aq p.2 "z" = some e)/\(dr=false->AhZ p.2)
abbrev wh (i:Int):List Key:=[.inr "r",.inl i]
def BU (dr:Bool) (l:Int) (dOf:Int->Dt) (kvs:List (List Key×Dt)) (its:List (Int×List (Str×Dt))):Prop:=∀ p∈its,(bY kvs (wh p.1)).getD (.tup (A2 dr l))=.tup (if dr then [] else [dOf p.1])
def oU (P:Program) (w:World) (K:W.Frag):Sp:=λvs H Q _=>∃ (dr:Bool) (l:Int) (b:Bool) (nn:Int) (its:List (Int×List (Str×Dt))) (kvs:List (List Key×Dt)) (dOf:Int->Dt) (x y z:V) (a:Addr),vs=[x,y,z,.ref a]/\IsP K H (chD (pcD dr l)) x/\IsP K H (shK b (kOf dr)) y/\IsP K H (cy b nn its) z/\DicG P w K H a kvs/\Its b its/\(its.map (·.1)).Nodup/\vL dr its/\BU dr l dOf kvs its /\
 ∀ v H',Same H H'->IsP K H' (cy b nn (ledI dr dOf its)) v->Q v H'
theorem iD (T:Tx K mg ad) {f:Addr} {fd:FuncData} (F:Gn K mg "led_with" fU ["change","shape","record","some"] f fd):FnOk P w K mg base CX0 7 f fd ["change","shape","record","some"] (oU P w K):=by
 obtain ⟨_,_,Cb⟩:=T.spot_kind;have Cq:=b6 (P:=P) (w:=w) (base:=base) T Cb;obtain ⟨_,_,CK⟩:=T.spots;have C7:=jC (P:=P) (w:=w) (base:=base) T CK;obtain ⟨_,_,Cm⟩:=T.made_values;have CJ:=ed (P:=P) (w:=w) (base:=base) T Cm;obtain ⟨_,_,Cf⟩:=T.old_values;have Cz:=cK (P:=P) (w:=w) (base:=base) T Cf;obtain ⟨_,_,CN⟩:=T.with_new;have Dd:=iC (P:=P) (w:=w) (base:=base) T CN;obtain ⟨_,_,Cu⟩:=T.with_values;have CW:=vJ (P:=P) (w:=w) (base:=base) T Cu;refine F.F.ok aW (λvs H Q E h=>?_) (λcdv A outer s H vs Q E hr h=>?_)
 ·obtain ⟨dr,l,b,nn,its,kvs,dOf,x,y,z,a,rfl,_⟩:=h
  rfl
 obtain ⟨dr,l,b,nn,its,kvs,dOf,x,y,z,a,rfl,hx,hy,hz,hdg,hi,nd,fit,gt,q⟩:=h;refine ⟨_,(@pss_cons _ _ _ _ _ (@ps_set _ _ 4 _ _ _ _ aW.nd rfl (Or.inl rfl) (@pi1 K _ _ _ _ _ _ _ rfl (pv 0)) (by rfl) (.inl rfl)) (@pss_cons _ _ _ _ _ (@ps_set _ _ 5 _ _ _ _ aW.nd rfl (Or.inl rfl) (0,Cb,Cq,@pa2 _ _ _ _ _ (pv 0) (pv 1) (by rfl) (by rfl)) (by rfl) (.inl rfl)) (@pss_cons _ _ _ _ _ (@ps_set _ _ 6 _ _ _ _ aW.nd rfl (Or.inl rfl) (@aB _ _ _ _ a9) (by rfl) (.inl rfl)) (@pss_cons _ _ _ _ _ (ps_for PassesOwn.never rfl (az (K:=K) rfl (0,CK,C7,@pa3 _ _ _ _ _ _ _ (pv 1) (pv 2) (@pi1 K _ _ _ _ _ _ _ rfl (pv 0)) (by rfl) (by rfl) (by rfl))) (cI rfl (am (ag (i:=7) aW.nd rfl (Or.inl rfl)) (am (ag (i:=8) aW.nd rfl (Or.inl rfl)) aI)))
    (@pss_cons _ _ _ _ _ (@ps_set _ _ 9 _ _ _ _ aW.nd rfl (Or.inl rfl) (0,Cm,CJ,@pa3 _ _ _ _ _ _ _ (pv 4) (pv 5) (0,Cf,Cz,@pa2 _ _ _ _ _ (pv 4) (pv 8) (by rfl) (by rfl)) (by rfl) (by rfl) (by rfl)) (by rfl) (.inl rfl)) (@pss_one _ _ _ (@ps_expr _ _ _ _ (pe_bm PySem.F.plainAttrs_list PySem.F.slot_list_append PySem.F.type_list_append mt_append (pv 6) (@pa1 _ _ _ (@pe_tupPK _ K _ _ _ _ rfl (@pa2 _ _ _ _ _ (pv 7) (0,CN,Dd,@pa_cons _ _ _ _ _ (pv 4) (@pa3 _ _ _ _ _ _ _ (pv 5) (pv 8) (u4 (P:=P) (w:=w) (K:=K) rfl rfl rfl (u1 hr.units) (pv 3) (pv 7) (pv 9) ⟨rfl,rfl,rfl,rfl⟩) (by rfl) (by rfl) (by rfl)) (by rfl)) (by rfl) (by rfl))) (by rfl))) (by rfl))))) (@pss_one _ _ _ (@ps_ret _ _ _ _ (0,Cu,CW,@pa3 _ _ _ _ _ _ _ (pv 1) (pv 2) (pv 6) (by rfl) (by rfl) (by rfl)))))))),?_⟩
 refine ⟨_,rfl,_,_,_,hx,rfl,rfl,λvp hvp=>?_⟩;refine ⟨_,rfl,_,rfl,b,kOf dr,pcD dr l,x,y,rfl,hx,hy,qx dr,λvk H1 g1 hvk=>?_⟩;refine ⟨(by show 0<=sizeLine;decide),λpd hpd=>?_⟩;have g2:=ae hpd (.lst []);have e2:(upd H1 pd (.lst [])) pd=some (.lst []):=aa
 generalize upd H1 pd (.lst [])=H2 at g2 e2 ⊢
 have S2:=g1.trans g2;refine ⟨_,rfl,_,rfl,_,rfl,_,_,_,hx.same S2,rfl,at0 _ _,λvq hvq=>?_⟩;refine ⟨b,kOf dr,its,nn,y,z,vq,rfl,hy.same S2,hz.same S2,hvq,hi,qx dr,λr1 ys1 H3 g3 hr1 e3 dy=>?_⟩;have S3:=S2.trans g3;have l8:=hi.le;have ly1:=dy.length;rw [aAb,bx (.inr rfl)] at ly1;have nrp:r1≠pd:=λc=>by rw [c,e2] at hr1;cases hr1
 have hpdH:H pd=none:=g1.free hpd;refine ⟨r1,rfl,⟨ys1,SqL.of e3⟩,be (xs:=ys1) (λj σ H'=>∃ (ys:List V) (w1 w2 w3:Option V),Same H H'/\But pd H3 H'/\H' pd=some (.lst ys)/\IsPs K H' (((plR (ledI dr dOf its) .non 2).take j).map wpK) ys/\σ=[some x,some y,some z,some (.ref a),some vp,some vk,some (.ref pd),w1,w2,w3])
  ⟨[],none,none,none,S3,But.refl _ _,g3 _ _ e2,.nil,rfl⟩ (λj σ H' _ pv=>by
   obtain ⟨_,_,_,_,_,bb,_⟩:=pv;exact SqL.of (bb _ _ nrp e3)) ?_ ?_⟩
 ·rintro j u σ H4 hu ⟨ys,w1,w2,w3,s4,b4,e4,d4,rfl⟩;have dy4:=dy.but (g3 _ _ e2) b4;obtain ⟨dx,hdx,hxx⟩:=dy4.get' hu;rw [aAc] at hdx;obtain ⟨p0,hp0,rfl⟩:=aAd.mp hdx;have hp0':(its.map λp=>(wh p.1,ak p.2))[j]?=some p0:=hp0;rw [aAc] at hp0';obtain ⟨it,hit,rfl⟩:=aAd.mp hp0';obtain ⟨f8,fz,fa⟩:=fit it (aAs hit);obtain ⟨c,y1,y2,rfl,hb,q1,q2⟩:=aA hxx;refine ⟨c,_,rfl,hb,rfl,_,_,rfl,_,_,rfl,rfl,?_⟩;have hvp4:=hvp.same s4;obtain ⟨ez,hez⟩:∃ e,dr=true->aq it.2 "z" = some e:=by
   cases dr with
   | false=>exact ⟨.non,nofun⟩
   | true=>obtain ⟨e,he⟩:=fz rfl;exact ⟨e,λ_=>he⟩
  refine ⟨_,rfl,_,rfl,_,rfl,_,rfl,dr,l,it.2,ez,vp,y2,rfl,hvp4,q2,hez,λv5 H5 g5 hv5=>?_⟩;refine ⟨dr,l,vp,_,v5,rfl,hvp4.same g5,λv6 H6 g6 hv6=>?_⟩;have g46:=g5.trans g6;have S6:=s4.trans g46;refine ⟨_,rfl,.inl ⟨rfl,_,SqL.of (g46 _ _ e4)⟩,_,rfl,_,rfl,_,rfl,_,rfl,_,rfl,a,kvs,rfl,hdg.same S6,_,rfl,_,rfl,?_⟩;obtain ⟨bw,zsw,rfl,_⟩:=id q1.unref;refine ⟨bw,wh it.1,rfl,hdg.same S6,q1.same g46,λv7 hv7=>?_⟩;have hgt:=gt it (aAs hit);have hv7':IsP K H6 (.tup (if dr then [] else [dOf it.1])) v7:=by
   rw [<- hgt]
   cases hk:bY kvs (wh it.1) with
   | none =>
    rw [hk] at hv7;obtain rfl:v7=v6:=hv7;exact hv6
   | some d =>
    rw [hk] at hv7;exact hv7
  refine ⟨dr,l,it.2,dOf it.1,vp,y2,vk,v7,rfl,hvp4.same g46,q2.same g46,f8,fa,hv7',λv8 H8 g8 hv8=>?_⟩;have g48:=g46.trans g8;refine ⟨[.tup ((wh it.1).map kDt),_],.cons (q1.same g48) (.cons hv8 .nil),sz2,λv9 H9 g9 hv9=>?_⟩;have g49:=g48.trans g9;have e9:=g49 _ _ e4;have ly:=d4.length;rw [aAb,aAp,bx (.inr rfl),aAb] at ly;refine ⟨pd,ys,_,rfl,rfl,e9,ai (by lia),?_⟩;have B:But pd H9 (upd H9 pd (.lst (ys++[v9]))):=But.put;refine ⟨ys++[v9],_,_,_,λc o ec=>B c o (af ec hpdH) (g49 _ _ (s4 _ _ ec)),(b4.trans (But.same g49)).trans B,aa,?_,rfl⟩;have hpl:(plR (ledI dr dOf its) .non 2)[j]?=some (wh it.1,ak (vB dr it.2 (dOf it.1))):=by
   show ((its.map _).map _)[j]?=_;rw [aAv,aAc,hit]
   rfl
  rw [aAw,hpl,aAy];exact IsPs.but e9 B ((d4.same g49).append (.cons hv9 .nil))
 ·rintro σ H4 ⟨ys,w1,w2,w3,s4,b4,e4,d4,rfl⟩;rw [<- ly1,show its.length=(plR (ledI dr dOf its) .non 2).length from by rw [bx (.inr rfl),aAb],aAt] at d4;refine ⟨_,rfl,_,rfl,_,rfl,y,z,pd,ys,rfl,SqL.of e4,.inr ⟨2,b,kOf dr,its,ledI dr dOf its,nn,.non,.non,by decide,by decide,λ_=>hy.same s4,hz.same s4,d4,hi,qx dr,⟨?_,nd⟩,λv H' g hv=>q v H' (s4.trans g) hv⟩⟩;rw [aAv]
  rfl
def zM (K:W.Frag) (_:Ads):Sp:=λvs H Q _=>∃ (l:Int) (b:Bool) (nn:Int) (its:List (Int×List (Str×Dt))) (x y z:V),vs=[x,y,z]/\IsP K H (chD (drD l)) x/\IsP K H (shK b kZ) y/\IsP K H (cy b nn its) z/\Its b its/\(its.map (·.1)).Nodup/\vL true its /\
 ∀ v H',Same H H'->IsP K H' (cy b nn (ledI true (λ_=>.non) its)) v->Q v H'
theorem zN (T:Tx K mg ad) {f:Addr} {fd:FuncData} (F:Gn K mg "led" wf ["change","shape","record"] f fd):FnOk P w K mg base CX0 8 f fd ["change","shape","record"] (zM K ad):=by
 obtain ⟨_,_,CO⟩:=T.led_with
 have Df:=iD (P:=P) (w:=w) (base:=base) T CO;refine F.F.ok zV (λvs H Q E h=>?_) (λcdv A outer s H vs Q E hr h=>?_)
 ·obtain ⟨l,b,nn,its,x,y,z,rfl,_⟩:=h
  rfl
 obtain ⟨l,b,nn,its,x,y,z,rfl,hx,hy,hz,hi,nd,fit,q⟩:=h;refine ⟨_,(@pss_one _ _ _ (@ps_ret _ _ _ _ (0,CO,Df,@pa_cons _ _ _ _ _ (pv 0) (@pa3 _ _ _ _ _ _ _ (pv 1) (pv 2) gm (by rfl) (by rfl) (by rfl)) (by rfl)))),?_⟩;refine ⟨_,rfl,_,rfl,_,rfl,λpw hpw=>?_⟩;have g1:=ae hpw (.dK []);exact ⟨true,l,b,nn,its,[],λ_=>.non,x,y,z,pw,rfl,hx.same g1,hy.same g1,hz.same g1,.inr ⟨rfl,aa⟩,hi,nd,fit,λp hp=>rfl,λv H' g hv=>q v H' (g1.trans g) hv⟩
def j9 (K:W.Frag) (_:Ads):Sp:=λvs H Q _=>∃ (l:Int) (e:Dt) (x y u v:V),vs=[x,y,u,v]/\IsP K H (puD l) x/\IsP K H (ak kA) y/\IsP K H (.tup []) u/\IsP K H (.tup [e]) v/\e.dep<=10/\0<=l/\l<=9/\∀ H',Same H H'->Q (.bl true) H'
theorem kb (T:Tx K mg ad) {f:Addr} {fd:FuncData} (F:Gn K mg "values_fit" dJ ["piece","kind","old","new"] f fd):FnOk P w K mg base CX0 28 f fd ["piece","kind","old","new"] (j9 K ad):=by
 obtain ⟨_,_,Cm⟩:=T.made_values;have CJ:=ed (P:=P) (w:=w) (base:=base) T Cm;obtain ⟨_,_,Cv⟩:=T.piece_about;have CV:=eg (P:=P) (w:=w) (base:=base) T Cv;obtain ⟨_,_,Ca⟩:=T.record_behind;have Cn:=bI (P:=P) (w:=w) (base:=base) T Ca;refine F.F.ok ku (λvs H Q E h=>?_) (λcdv A outer s H vs Q E hr h=>?_)
 ·obtain ⟨l,e,x,y,u,v,rfl,_⟩:=h
  rfl
 obtain ⟨l,e,x,y,u,v,rfl,hx,hy,hu,hv,de,l0,l9,q⟩:=h;refine ⟨_,(@pss_cons _ _ _ _ _ (@ps_if _ _ _ _ _ _ _ _ (pt_cmpR (iZ (K:=K) rfl hr.units) (0,Cm,CJ,@pa3 _ _ _ _ _ _ _ (pv 0) (pv 1) (pv 2) (by rfl) (by rfl) (by rfl)) (pv 3) (nomark _)) (@pss_one _ _ _ (@ps_ret _ _ _ _ pe_bl)) pss_nil) (@pss_one _ _ _ (@ps_ret _ _ _ _ (pe_cmpR (iZ (K:=K) rfl hr.units) (0,Cm,CJ,@pa3 _ _ _ _ _ _ _ (0,Cv,CV,@pa2 _ _ _ _ _ (pv 0) (pv 1) (by rfl) (by rfl)) (0,Ca,Cn,@pa2 _ _ _ _ _ (pv 0) (pv 1) (by rfl) (by rfl)) (pv 3) (by rfl) (by rfl) (by rfl)) (pv 2) (nomark _))))),?_⟩;refine ⟨_,rfl,_,rfl,_,rfl,false,l,x,y,u,rfl,hx,λv1 H1 g1 hv1=>?_⟩;refine ⟨_,rfl,.tup [.int l],.tup [e],hv1.d,(hv.same g1).d,(by show 1<=60;decide),_,rfl,dS (λ_=>q H1 g1) (λ_=>?_)⟩;refine ⟨_,rfl,_,rfl,l,x,y,rfl,hx.same g1,hy.same g1,l0,l9,λv2 H2 g2 hv2=>?_⟩;have g12:=g1.trans g2;refine ⟨_,rfl,_,rfl,l,x,y,rfl,hx.same g12,hy.same g12,l0,l9,λv3 H3 g3 hv3=>?_⟩;refine ⟨_,rfl,true,l,v2,v3,v,rfl,hv2.same g3,λv4 H4 g4 hv4=>?_⟩;have g14:=(g12.trans g3).trans g4;exact ⟨_,rfl,.tup [],.tup [],hv4.d,(hu.same g14).d,(by show 1<=60;decide),q H4 g14⟩
def zO (hts:List (Int×List (Str×Dt))) (i:Int):Option Dt:=(hts.find? λp=>decide (p.1=i)).map λp=>(aq p.2 "z").getD .non
abbrev thL (hts:List (Int×List (Str×Dt))):List (List Key×Dt):=hts.map λp=>(wh p.1,.tup [(aq p.2 "z").getD .non])
theorem yu (hts:List (Int×List (Str×Dt))) (i:Int):bY (thL hts) (wh i)=(zO hts i).map λd=>.tup [d]:=by
 unfold zO bY
 induction hts with
 | nil=>rfl
 | cons p hts ih =>
  by_cases e:p.1=i
  ·subst e;simp
  ·have e2:¬ wh p.1=wh i:=λc=>e (by simpa [wh] using c);simp only [aAz,aAY,e,e2,decide_false];exact ih
def tH (hts:List (Int×List (Str×Dt))):Prop:=∀ p∈hts,∃ e,aq p.2 "z" = some e/\e.dep<=10
def iT (P:Program) (w:World) (K:W.Frag):Sp:=λvs H Q _=>∃ (l:Int) (b:Bool) (nn:Int) (hts:List (Int×List (Str×Dt))) (x y z:V),vs=[x,y,z]/\IsP K H (chD (puD l)) x/\IsP K H (shK b kA) y/\IsP K H (cy b nn hts) z/\Its b hts/\(hts.map (·.1)).Nodup/\tH hts/\0<=l/\l<=9 /\
 ∀ p H',Same H H'->H p=none->DicT P w K H' p (thL hts)->Q (.ref p) H'
theorem iU (T:Tx K mg ad) {f:Addr} {fd:FuncData} (F:Gn K mg "new_by_where" bA ["change","shape","record"] f fd):FnOk P w K mg base CX0 28 f fd ["change","shape","record"] (iT P w K):=by
 obtain ⟨_,_,CK⟩:=T.spots;have C7:=jC (P:=P) (w:=w) (base:=base) T CK;obtain ⟨_,_,Cr⟩:=T.shape_behind;have CQ:=dN (P:=P) (w:=w) (base:=base) T Cr;obtain ⟨_,_,Dl⟩:=T.new_values;have DR:=j4 (P:=P) (w:=w) (base:=base) T Dl;refine F.F.ok dP (λvs H Q E h=>?_) (λcdv A outer s H vs Q E hr h=>?_)
 ·obtain ⟨l,b,nn,hts,x,y,z,rfl,_⟩:=h
  rfl
 obtain ⟨l,b,nn,hts,x,y,z,rfl,hx,hy,hz,hi,nd,fz,l0,l9,q⟩:=h;refine ⟨_,(@pss_cons _ _ _ _ _ (@ps_set _ _ 3 _ _ _ _ dP.nd rfl (Or.inl rfl) (0,CK,C7,@pa3 _ _ _ _ _ _ _ (0,Cr,CQ,@pa2 _ _ _ _ _ (pv 0) (pv 1) (by rfl) (by rfl)) (pv 2) (@pi1 K _ _ _ _ _ _ _ rfl (pv 0)) (by rfl) (by rfl) (by rfl)) (by rfl) (.inl rfl)) (@pss_one _ _ _ (@ps_ret _ _ _ _ (pe_callTy (pV rfl (u2 hr.units)) rfl T.z_dict boot_dict (@pa1 _ _ _ (aC rfl (csR (sc:=ac bA) (NL:=["where","inner"]) (N:=["change","shape","record","found"]) (ρ:=[0]) (N':=["where","inner","change"]) rfl rfl rfl (by decide +kernel) (by decide +kernel) (by decide +kernel) rfl (by decide +kernel)) (az (K:=K) rfl (pv 3)) (λ_ _ _ _=>(bL (K:=K) (n:=2) rfl rfl (am (ag (i:=0) (show List.Nodup (α:=Str) ["where","inner","change"] by decide +kernel) rfl (Or.inl rfl)) (am (ag (i:=1) (show List.Nodup (α:=Str) ["where","inner","change"] by decide +kernel) rfl (Or.inl rfl)) aI)))) (λ_ _ _ _=>(pe_tupPK (K:=K) rfl (@pa2 _ _ _ _ _ (pv 0) (0,Dl,DR,@pa2 _ _ _ _ _ (@pi1 K _ _ _ _ _ _ _ rfl (pv 2)) (pv 1) (by rfl) (by rfl)) (by rfl) (by rfl))))) (by rfl)))))),?_⟩;refine ⟨_,rfl,_,rfl,b,l,x,y,rfl,hx,hy,l0,l9,λv1 H1 g1 hv1=>?_⟩;refine ⟨_,rfl,_,rfl,_,_,_,hx.same g1,rfl,at0 _ _,λvq hvq=>?_⟩;refine ⟨b,kZ,hts,nn,v1,z,vq,rfl,hv1,hz.same g1,hvq,hi,.inr rfl,λr1 ys1 H2 g2 hr1 e2 dy=>?_⟩;have g12:=g1.trans g2;have hx2:=hx.same g12;have l8:(plR hts .non 2).length<=8:=by rw [bx (.inr rfl)];exact hi.le
 have ly:=dy.length;rw [aAb] at ly;refine ⟨_,rfl,r1,rfl,⟨_,SqL.of e2⟩,λm hm=>?_⟩;refine ax (K:=K) (xs:=ys1) (λj zs σ H'=>Same H2 H'/\H' m=some (.lst zs)/\IsPs K H' (((thL hts).take j).map wpK) zs/\∃ v1 v2,σ=[v1,v2,some x]) ⟨ae hm _,aa,.nil,none,none,rfl⟩ (λj zs σ H' _ pv=>SqL.of (pv.1 _ _ e2)) ?_ ?_
 ·rintro j u zs σ H6 N hu ⟨s6,e6,d6,w1,w2,rfl⟩ next;obtain ⟨dx,hdx,hxx⟩:=dy.get' hu;rw [aAc] at hdx;obtain ⟨p0,hp0,rfl⟩:=aAd.mp hdx;have hp0':(hts.map λp=>(wh p.1,ak p.2))[j]?=some p0:=hp0;rw [aAc] at hp0';obtain ⟨it,hit,rfl⟩:=aAd.mp hp0';obtain ⟨e,he,_⟩:=fz it (aAs hit);obtain ⟨c,y1,y2,rfl,hb,q1,q2⟩:=aA (hxx.same s6);have lzs:=d6.length;rw [aAb,aAp,aAb] at lzs;have h8:=hi.le;refine ⟨c,_,rfl,hb,rfl,_,_,rfl,_,_,rfl,rfl,?_⟩;refine ⟨_,rfl,_,rfl,_,_,_,hx2.same s6,rfl,rfl,λv5 hv5=>⟨_,rfl,l,it.2,e,v5,y2,rfl,hv5,q2,he,λv7 H7 g7 hv7=>?_⟩⟩;refine ⟨[.tup ((wh it.1).map kDt),.tup [e]],.cons (q1.same g7) (.cons hv7 .nil),sz2,λv8 H8 g8 hv8=>?_⟩;have g78:=g7.trans g8;have e8:=g78 _ _ e6;refine ⟨e8,ai (by lia),next _ _ _ ⟨ar hm (s6.trans g78),aa,?_,_,_,rfl⟩⟩;have ht:(thL hts)[j]?=some (wh it.1,.tup [e]):=by
   rw [aAc,hit];show some (wh it.1,Dt.tup [(aq it.2 "z").getD .non])=_;rw [he]
   rfl
  rw [aAw,ht,aAy];exact IsPs.but e8 But.put ((d6.same g78).append (.cons hv8 .nil))
 ·rintro zs σ H6 ⟨s6,e6,d6,w1,w2,rfl⟩;rw [<- ly,show (plR hts .non 2).length=(thL hts).length from by rw [bx (.inr rfl),aAb],aAt] at d6;refine ⟨m,zs,thL hts,rfl,e6,d6,?_,by rw [aAb];exact aAE hi.le (by decide),λp H7 g7 hp dt=>q p H7 ((g12.trans s6).trans g7) ((g12.trans s6).free hp) dt⟩;rw [aAv];have:(hts.map ((λp=>p.1) ∘ λp=>(wh p.1,Dt.tup [(aq p.2 "z").getD .non])))=(hts.map (·.1)).map wh:=by rw [aAv];rfl
  rw [this];exact nd.map wh λa b h c=>h (by simpa [wh] using c)
abbrev fu (hts:List (Int×List (Str×Dt))):List (Int×List (Str×Dt))->List (List Key×Dt):=λits=>its.filterMap λp=>(zO hts p.1).map λd=>(wh p.1,.tup [d])
theorem mK {hts:List (Int×List (Str×Dt))} {i:Int}:∀ {its:List (Int×List (Str×Dt))},bY (fu hts its) (wh i)=if i∈its.map (·.1) then (zO hts i).map (λd=>.tup [d]) else none
 | []=>rfl
 | p :: its=>by
  have ih:=mK (hts:=hts) (i:=i) (its:=its)
  cases hz:zO hts p.1 with
  | none =>
   have e:fu hts (p :: its)=fu hts its:=by simp [fu,hz]
   rw [e,ih]
   by_cases ei:p.1=i
   ·subst ei;simp [hz]
   ·have:(i∈(p :: its).map (·.1))↔i∈its.map (·.1):=by
     rw [aAz,aAf];exact ⟨λh=>h.resolve_left λc=>ei c.symm,.inr⟩
    simp only [this]
  | some d =>
   have e:fu hts (p :: its)=(wh p.1,.tup [d]) :: fu hts its:=by simp [fu,hz]
   rw [e]
   by_cases ei:p.1=i
   ·subst ei;simp [bY,hz]
   ·have e2:¬ wh p.1=wh i:=λc=>ei (by simpa [wh] using c);have:(i∈(p :: its).map (·.1))↔i∈its.map (·.1):=by
     rw [aAz,aAf];exact ⟨λh=>h.resolve_left λc=>ei c.symm,.inr⟩
    simp only [this];rw [<- ih];simp [bY,e2]
theorem xN (hts its:List (Int×List (Str×Dt))):(fu hts its).length<=its.length:=List.length_filterMap_le _ _
theorem zQ {hts:List (Int×List (Str×Dt))} (fz:tH hts) {i:Int} {d:Dt} (h:zO hts i=some d):d.dep<=10:=by
 unfold zO at h;obtain ⟨p,hp,rfl⟩:=aAd.mp h;obtain ⟨e,he,de⟩:=fz p (aBR hp);rw [he];exact de
theorem vM {P:Program} {w:World} {K:W.Frag} {H H':Hp} {p a:Addr} {kvs:List (List Key×Dt)} (mu:Mut (H a)) (g:But a H H') (ne:p≠a) (h:DicT P w K H p kvs):DicT P w K H' p kvs:=by
 obtain ⟨e0,xs,e,r⟩:=h;exact ⟨e0,xs,g _ _ ne e,L2.Paired.mapP r λa b ⟨z1,z2,v,z3,z4⟩=>⟨z1,gw mu g z2,v,z3,gw mu g z4⟩⟩
def jD (P:Program) (w:World) (K:W.Frag):Sp:=λvs H Q _=>∃ (l:Int) (b:Bool) (nn nm:Int) (its hts:List (Int×List (Str×Dt))) (x y z m:V),vs=[x,y,z,m]/\IsP K H (chD (puD l)) x/\IsP K H (shK b kA) y/\IsP K H (cy b nn its) z/\IsP K H (cy b nm hts) m/\Its b its/\Its b hts/\(its.map (·.1)).Nodup/\(hts.map (·.1)).Nodup/\tH hts/\0<=l/\l<=9 /\
 ∀ p H',Same H H'->DicG P w K H' p (fu hts its)->Q (.ref p) H'
theorem eA (T:Tx K mg ad) {f:Addr} {fd:FuncData} (F:Gn K mg "kept_values" cQ ["change","shape","record","memory"] f fd):FnOk P w K mg base CX0 29 f fd ["change","shape","record","memory"] (jD P w K):=by
 obtain ⟨_,_,Cb⟩:=T.spot_kind;have Cq:=b6 (P:=P) (w:=w) (base:=base) T Cb;obtain ⟨_,_,Db⟩:=T.new_by_where;have DF:=iU (P:=P) (w:=w) (base:=base) T Db;obtain ⟨_,_,CK⟩:=T.spots;have C7:=jC (P:=P) (w:=w) (base:=base) T CK;obtain ⟨_,_,Dm⟩:=T.values_fit;have DT:=kb (P:=P) (w:=w) (base:=base) T Dm;obtain ⟨_,_,Cf⟩:=T.old_values;have Cz:=cK (P:=P) (w:=w) (base:=base) T Cf;refine F.F.ok aK (λvs H Q E h=>?_) (λcdv A outer s H vs Q E hr h=>?_)
 ·obtain ⟨l,b,nn,nm,its,hts,x,y,z,m,rfl,_⟩:=h
  rfl
 obtain ⟨l,b,nn,nm,its,hts,x,y,z,m,rfl,hx,hy,hz,hm,hi,hh,nd,ndh,fz,l0,l9,q⟩:=h;refine ⟨_,(@pss_cons _ _ _ _ _ (@ps_set _ _ 4 _ _ _ _ aK.nd rfl (Or.inl rfl) (@pi1 K _ _ _ _ _ _ _ rfl (pv 0)) (by rfl) (.inl rfl)) (@pss_cons _ _ _ _ _ (@ps_set _ _ 5 _ _ _ _ aK.nd rfl (Or.inl rfl) (0,Cb,Cq,@pa2 _ _ _ _ _ (pv 0) (pv 1) (by rfl) (by rfl)) (by rfl) (.inl rfl)) (@pss_cons _ _ _ _ _ (@ps_set _ _ 6 _ _ _ _ aK.nd rfl (Or.inl rfl) (0,Db,DF,@pa3 _ _ _ _ _ _ _ (pv 0) (pv 1) (pv 3) (by rfl) (by rfl) (by rfl)) (by rfl) (.inl rfl)) (@pss_cons _ _ _ _ _ (@ps_set _ _ 7 _ _ _ _ aK.nd rfl (Or.inl rfl) gm (by rfl) (.inl rfl)) (@pss_cons _ _ _ _ _ (ps_for PassesOwn.never rfl (az (K:=K) rfl (0,CK,C7,@pa3 _ _ _ _ _ _ _ (pv 1) (pv 2) (@pi1 K _ _ _ _ _ _ _ rfl (pv 0)) (by rfl) (by rfl) (by rfl))) (cI rfl (am (ag (i:=8) aK.nd rfl (Or.inl rfl)) (am (ag (i:=9) aK.nd rfl (Or.inl rfl)) aI)))
    (@pss_one _ _ _ (@ps_if _ _ _ _ _ _ _ _ (PW.pt (@tT _ _ _ _ _ _ _ (tR (xp (P:=P) (w:=w) (K:=K) rfl rfl rfl (u1 hr.units) (pv 8) (pv 6))) (@qI _ _ _ _ (@pt_val _ _ _ (0,Dm,DT,@pa_cons _ _ _ _ _ (pv 4) (@pa3 _ _ _ _ _ _ _ (pv 5) (0,Cf,Cz,@pa2 _ _ _ _ _ (pv 4) (pv 9) (by rfl) (by rfl)) (qY (P:=P) (w:=w) (K:=K) rfl rfl rfl (u1 hr.units) (pv 6) (pv 8) (λ_ _=>rfl)) (by rfl) (by rfl) (by rfl)) (by rfl)) (by intro _;rfl))))) (@pss_one _ _ _ (ps_dputG (P:=P) (w:=w) (K:=K) rfl rfl rfl (u1 hr.units) (pv 7) (pv 8) (qY (P:=P) (w:=w) (K:=K) rfl rfl rfl (u1 hr.units) (pv 6) (pv 8) (λ_ _=>rfl)) rfl)) pss_nil))) (@pss_one _ _ _ (@ps_ret _ _ _ _ (pv 7)))))))),?_⟩
 refine ⟨_,rfl,_,_,_,hx,rfl,rfl,λvp hvp=>?_⟩;refine ⟨_,rfl,_,rfl,b,kA,puD l,x,y,rfl,hx,hy,.inl rfl,λvk H1 g1 hvk=>?_⟩;refine ⟨_,rfl,_,rfl,_,rfl,l,b,nm,hts,x,y,m,rfl,hx.same g1,hy.same g1,hm.same g1,hh,ndh,fz,l0,l9,λpt H2 g2 hpt dt2=>?_⟩;refine λpk hpk=>?_;have ne2:pt≠pk:=λc=>by
  obtain ⟨_,_,e,_⟩:=dt2;rw [c,hpk] at e
  cases e
 have g3:=ae hpk (.dK []);have e3:(upd H2 pk (.dK [])) pk=some (.dK []):=aa
 generalize upd H2 pk (.dK [])=H3 at g3 e3 ⊢
 have S3:=(g1.trans g2).trans g3;have hpkH:H pk=none:=(g1.trans g2).free hpk;refine ⟨_,rfl,_,rfl,_,rfl,_,_,_,hx.same S3,rfl,at0 _ _,λvq hvq=>?_⟩;refine ⟨b,kA,its,nn,y,z,vq,rfl,hy.same S3,hz.same S3,hvq,hi,.inl rfl,λr1 ys1 H4 g4 hr1 e4 dy=>?_⟩;have l8:=hi.le;have ly1:=dy.length;rw [aAb,bx (.inr rfl)] at ly1;have nrk:r1≠pk:=λc=>by rw [c,e3] at hr1;cases hr1
 have S4:=S3.trans g4;have dt4:=(dt2.same g3).same g4;refine ⟨r1,rfl,⟨ys1,SqL.of e4⟩,be (xs:=ys1) (λj σ H'=>∃ (w1 w2:Option V),Same H H'/\H' r1=some (.lst ys1)/\IsPs K H' ((plR its .non 2).map wpK) ys1/\DicT P w K H' pt (thL hts)/\DicG P w K H' pk (fu hts (its.take j))/\IsP K H' (ak kA) vk/\σ=[some x,some y,some z,some m,some vp,some vk,some (.ref pt),some (.ref pk),w1,w2])
  ⟨none,none,S4,e4,dy,dt4,.inr ⟨rfl,g4 _ _ e3⟩,((hvk.same g2).same g3).same g4,rfl⟩ (λj σ H' _ pv=>by
   obtain ⟨_,_,_,e,_⟩:=pv;exact SqL.of e) ?_ ?_⟩
 ·rintro j u σ H5 hu ⟨w1,w2,s5,e5,d5,dt5,dk5,hvk5,rfl⟩;obtain ⟨dx,hdx,hxx⟩:=d5.get' hu;rw [aAc] at hdx;obtain ⟨p0,hp0,rfl⟩:=aAd.mp hdx;have hp0':(its.map λp=>(wh p.1,ak p.2))[j]?=some p0:=hp0;rw [aAc] at hp0';obtain ⟨it,hit,rfl⟩:=aAd.mp hp0';obtain ⟨c,y1,y2,rfl,hb,q1,q2⟩:=aA hxx;refine ⟨c,_,rfl,hb,rfl,_,_,rfl,_,_,rfl,rfl,?_⟩;obtain ⟨bw,zsw,rfl,_⟩:=id q1.unref;have tk:fu hts (its.take (j+1))=fu hts (its.take j)++((zO hts it.1).map λd=>(wh it.1,Dt.tup [d])).toList:=by
   show (its.take (j+1)).filterMap _=_;rw [aAw,hit,List.filterMap_append]
   congr 1
  refine ⟨_,rfl,_,rfl,pt,bw,thL hts,wh it.1,rfl,rfl,dt5,q1,?_⟩;rw [yu]
  cases hz:zO hts it.1 with
  | none =>
   rw [hz] at tk;refine ⟨_,rfl,aL ?_⟩;refine ⟨_,_,s5,e5,d5,dt5,?_,hvk5,rfl⟩;rw [tk]
   simpa using dk5
  | some d =>
   rw [hz] at tk;have dz:=zQ fz hz;refine ⟨_,rfl,aG ?_⟩;have hvp5:=hvp.same s5;refine ⟨_,rfl,_,rfl,_,rfl,_,rfl,false,l,it.2,.non,vp,y2,rfl,hvp5,q2,nofun,λv6 H6 g6 hv6=>?_⟩;have ath:bY (thL hts) (wh it.1)=some (.tup [d]):=by rw [yu,hz];rfl
   refine ⟨_,rfl,_,rfl,pt,bw,thL hts,wh it.1,.tup [d],rfl,rfl,.inl (dt5.same g6),q1.same g6,ath,λv7 hv7=>?_⟩;refine ⟨l,d,vp,vk,v6,v7,rfl,hvp5.same g6,hvk5.same g6,hv6,hv7,dz,l0,l9,λH8 g8=>?_⟩;have g58:=g6.trans g8;refine ⟨_,rfl,aG ?_⟩;refine ⟨_,rfl,_,rfl,pt,bw,thL hts,wh it.1,.tup [d],rfl,rfl,.inl (dt5.same g58),q1.same g58,ath,λv9 hv9=>?_⟩;have noK:bY (fu hts (its.take j)) (wh it.1)=none:=by
    rw [mK,if_neg];intro hmem;rw [List.map_take] at hmem;obtain ⟨i',hi',e'⟩:=List.getElem_of_mem hmem;rw [aAp] at hi';have h1:(its.map (·.1))[i']?=some it.1:=by
     rw [List.getElem_take] at e';rw [aAj (by lia),e']
    have h2:(its.map (·.1))[j]?=some it.1:=by rw [aAc,hit];rfl
    have:=(List.getElem?_inj (by lia) nd).mp (h1.trans h2.symm);lia
   refine ⟨_,rfl,_,rfl,pk,bw,fu hts (its.take j),wh it.1,.tup [d],rfl,rfl,dk5.same g58,q1.same g58,hv9,noK,aAE (xN _ _) (aAE (aBG _ _) (by lia)),λH9 B9 mu9 dk9=>?_⟩;refine ⟨_,_,λc o ec=>B9 c o (af ec hpkH) (g58 _ _ (s5 _ _ ec)),B9 _ _ nrk (g58 _ _ e5),?_,vM mu9 B9 ne2 (dt5.same g58),?_,gw mu9 B9 (hvk5.same g58),rfl⟩
   ·exact jg mu9 B9 (d5.same g58)
   ·rw [tk];exact dk9
 ·rintro σ H5 ⟨w1,w2,s5,e5,d5,dt5,dk5,hvk5,rfl⟩;rw [<- ly1,aAt] at dk5;exact ⟨_,rfl,q pk H5 s5 dk5⟩
abbrev putZ (hts:List (Int×List (Str×Dt))) (l:Int):Int->Dt:=λi=>(zO hts i).getD (.int l)
def xO (K:W.Frag) (_:Ads):Sp:=λvs H Q _=>∃ (l:Int) (b:Bool) (nn nm:Int) (its hts:List (Int×List (Str×Dt))) (x y z m:V),vs=[x,y,z,m]/\IsP K H (chD (puD l)) x/\IsP K H (shK b kA) y/\IsP K H (cy b nn its) z/\IsP K H (cy b nm hts) m/\Its b its/\Its b hts/\(its.map (·.1)).Nodup/\(hts.map (·.1)).Nodup/\vL false its/\tH hts/\0<=l/\l<=9 /\
 ∀ v H',Same H H'->IsP K H' (cy b nn (ledI false (putZ hts l) its)) v->Q v H'
theorem xP (T:Tx K mg ad) {f:Addr} {fd:FuncData} (F:Gn K mg "step" qB ["change","shape","record","memory"] f fd):FnOk P w K mg base CX0 30 f fd ["change","shape","record","memory"] (xO K ad):=by
 obtain ⟨_,_,CO⟩:=T.led_with
 have Df:=iD (P:=P) (w:=w) (base:=base) T CO;obtain ⟨_,_,Ct⟩:=T.kept_values;have CU:=eA (P:=P) (w:=w) (base:=base) T Ct;refine F.F.ok yf (λvs H Q E h=>?_) (λcdv A outer s H vs Q E hr h=>?_)
 ·obtain ⟨l,b,nn,nm,its,hts,x,y,z,m,rfl,_⟩:=h
  rfl
 obtain ⟨l,b,nn,nm,its,hts,x,y,z,m,rfl,hx,hy,hz,hm,hi,hh,nd,ndh,fi,fz,l0,l9,q⟩:=h;refine ⟨_,(@pss_one _ _ _ (@ps_ret _ _ _ _ (0,CO,Df,@pa_cons _ _ _ _ _ (pv 0) (@pa3 _ _ _ _ _ _ _ (pv 1) (pv 2) (0,Ct,CU,@pa_cons _ _ _ _ _ (pv 0) (@pa3 _ _ _ _ _ _ _ (pv 1) (pv 2) (pv 3) (by rfl) (by rfl) (by rfl)) (by rfl)) (by rfl) (by rfl) (by rfl)) (by rfl)))),?_⟩;refine ⟨_,rfl,_,rfl,_,rfl,_,rfl,_,rfl,_,rfl,_,rfl,l,b,nn,nm,its,hts,x,y,z,m,rfl,hx,hy,hz,hm,hi,hh,nd,ndh,fz,l0,l9,λp H1 g1 dk=>?_⟩;refine ⟨false,l,b,nn,its,fu hts its,putZ hts l,x,y,z,p,rfl,hx.same g1,hy.same g1,hz.same g1,dk,hi,nd,fi,λit hit=>?_,λv H' g hv=>q v H' (g1.trans g) hv⟩;rw [mK,if_pos (aAF.mpr ⟨it,hit,rfl⟩)];show _=Dt.tup [(zO hts it.1).getD (.int l)]
 cases zO hts it.1 <;> rfl
def kmW (hts:List (Int×List (Str×Dt))) (i:Int):Str:=if (zO hts i).isSome then "kept" else "made"
abbrev Bc (hts:List (Int×List (Str×Dt))) (p:Int×List (Str×Dt)):Dt:=.tup [.tup ((wh p.1).map kDt),.str (kmW hts p.1)]
def kc (K:W.Frag) (_:Ads):Sp:=λvs H Q _=>∃ (l:Int) (b:Bool) (nn nm:Int) (its hts:List (Int×List (Str×Dt))) (x y z m:V),vs=[x,y,z,m]/\IsP K H (chD (puD l)) x/\IsP K H (shK b kA) y/\IsP K H (cy b nn its) z/\IsP K H (cy b nm hts) m/\Its b its/\Its b hts/\(its.map (·.1)).Nodup/\(hts.map (·.1)).Nodup/\tH hts/\0<=l/\l<=9 /\
 ∀ a ys H',Same H H'->H a=none->H' a=some (.lst ys)->IsPs K H' (its.map (Bc hts)) ys->Q (.ref a) H'
theorem ke (T:Tx K mg ad) {f:Addr} {fd:FuncData} (F:Gn K mg "step_paper" ca ["change","shape","record","memory"] f fd):FnOk P w K mg base CX0 30 f fd ["change","shape","record","memory"] (kc K ad):=by
 obtain ⟨_,_,DO⟩:=T.wheres;have Ek:=tG (P:=P) (w:=w) (base:=base) T DO;obtain ⟨_,_,Ct⟩:=T.kept_values;have CU:=eA (P:=P) (w:=w) (base:=base) T Ct;obtain ⟨t_KEPT,c_KEPT⟩:=T.KEPT;obtain ⟨t_MADE,c_MADE⟩:=T.MADE;refine F.F.ok fJ (λvs H Q E h=>?_) (λcdv A outer s H vs Q E hr h=>?_)
 ·obtain ⟨l,b,nn,nm,its,hts,x,y,z,m,rfl,_⟩:=h
  rfl
 obtain ⟨l,b,nn,nm,its,hts,x,y,z,m,rfl,hx,hy,hz,hm,hi,hh,nd,ndh,fz,l0,l9,q⟩:=h;refine ⟨_,(@pss_cons _ _ _ _ _ (@ps_set _ _ 4 _ _ _ _ fJ.nd rfl (Or.inr rfl) (0,Ct,CU,@pa_cons _ _ _ _ _ (pv 0) (@pa3 _ _ _ _ _ _ _ (pv 1) (pv 2) (pv 3) (by rfl) (by rfl) (by rfl)) (by rfl)) (by rfl) (.inl rfl)) (@pss_one _ _ _ (@ps_ret _ _ _ _ (aC rfl (csR (sc:=ac ca) (NL:=["where"]) (N:=["change","shape","record","memory","kept"]) (ρ:=[4]) (N':=["where","kept"]) rfl rfl rfl (by decide +kernel) (by decide +kernel) (by decide +kernel) rfl (by decide +kernel)) (az (K:=K) rfl (0,DO,Ek,@pa3 _ _ _ _ _ _ _ (pv 1) (pv 2) (@pi1 K _ _ _ _ _ _ _ rfl (pv 0)) (by rfl) (by rfl) (by rfl))) (λ_ _ _ _=>(ag (i:=0) (show List.Nodup (α:=Str) ["where","kept"] by decide +kernel) rfl (Or.inl rfl))) (λ_ _ _ _=>(pe_tupPK (K:=K) rfl (@pa2 _ _ _ _ _ (pv 0) (cS (tR (xC (P:=P) (w:=w) (K:=K) rfl rfl rfl (u1 hr.units) (pv 0) (pv 1))) (pe_gstr rfl c_KEPT) (pe_gstr rfl c_MADE)) (by rfl) (by rfl)))))))),?_⟩;refine ⟨_,rfl,_,rfl,_,rfl,_,rfl,l,b,nn,nm,its,hts,x,y,z,m,rfl,hx,hy,hz,hm,hi,hh,nd,ndh,fz,l0,l9,λp H1 g1 dk=>?_⟩;refine ⟨_,rfl,_,rfl,_,rfl,_,_,_,hx.same g1,rfl,at0 _ _,λvq hvq=>?_⟩;refine ⟨b,kA,its,nn,y,z,vq,rfl,hy.same g1,hz.same g1,hvq,hi,.inl rfl,λr1 ys1 H2 g2 hr1 e2 dy=>?_⟩;have l8:=hi.le;have ly1:=dy.length;rw [aAb,bx (.inr rfl)] at ly1;have dk2:=dk.same g2;refine ⟨r1,rfl,⟨_,SqL.of e2⟩,λa ha=>?_⟩;refine ax (K:=K) (xs:=ys1) (λj zs σ H'=>Same H2 H'/\H' a=some (.lst zs)/\IsPs K H' ((its.take j).map (Bc hts)) zs/\∃ v1,σ=[v1,some (.ref p)]) ⟨ae ha _,aa,.nil,none,rfl⟩ (λj zs σ H' _ pv=>SqL.of (pv.1 _ _ e2)) ?_ ?_
 ·rintro j u zs σ H6 N hu ⟨s6,e6,d6,w1,rfl⟩ next;obtain ⟨dx,hdx,hxx⟩:=dy.get' hu;rw [aAc] at hdx;obtain ⟨p0,hp0,rfl⟩:=aAd.mp hdx;have hp0':(its.map λp=>(wh p.1,ak p.2))[j]?=some p0:=hp0;rw [aAc] at hp0';obtain ⟨it,hit,rfl⟩:=aAd.mp hp0';have hx6:=hxx.same s6;obtain ⟨bw,zsw,rfl,_⟩:=id hx6.unref;have lzs:=d6.length;rw [aAb,aAp] at lzs;have hmem:it.1∈its.map (·.1):=aAF.mpr ⟨it,aAs hit,rfl⟩;have fin:∀ {W:Str},W=kmW hts it.1->ITup K [.ref bw,.str W] H6 (λv H'=>H' a=some (.lst zs)/\zs.length < sizeLine/\N (zs++[v]) [some (.ref bw),some (.ref p)] (upd H' a (.lst (zs++[v])))):=λeW=>by
   refine ⟨[.tup ((wh it.1).map kDt),.str _],.cons hx6 (.cons .str .nil),sz2,λv8 H8 g8 hv8=>?_⟩;have e8:=g8 _ _ e6;refine ⟨e8,ai (by lia),next _ _ _ ⟨ar ha (s6.trans g8),aa,?_,_,rfl⟩⟩;rw [aAw,hit,aAy];rw [eW] at hv8;exact IsPs.but e8 But.put ((d6.same g8).append (.cons hv8 .nil))
  refine ⟨_,rfl,_,rfl,_,rfl,p,bw,fu hts its,wh it.1,rfl,rfl,dk2.same s6,hx6,?_⟩;rw [mK,if_pos hmem]
  cases hz:zO hts it.1 with
  | none=>exact ⟨_,rfl,aL (fin (by unfold kmW;rw [hz];rfl))⟩
  | some d=>exact ⟨_,rfl,aG (fin (by unfold kmW;rw [hz];rfl))⟩
 ·rintro zs σ H6 ⟨s6,e6,d6,w1,rfl⟩;rw [<- ly1,aAt] at d6;exact q a zs H6 ((g1.trans g2).trans s6) ((g1.trans g2).free ha) e6 d6
def DicI (K:W.Frag) (H:Hp) (p:Addr) (ns:List Int) (f:Int->Dt):Prop:=∃ kvs:List (Key×V),H p=some (.dK kvs)/\kvs.map (·.1)=ns.map (Sum.inl:Int->Key)/\∀ i∈ns,∃ v,aH kvs (Sum.inl i:Key)=some v/\IsP K H (f i) v
abbrev itF (p:Int×Int×Int):List (Str×Dt):=[("a",.int p.2.1),("id",.int p.1)]
abbrev itZ (p:Int×Int×Int):List (Str×Dt):=[("a",.int p.2.1),("id",.int p.1),("z",.int p.2.2)]
def itX:Bool->Int×Int×Int->List (Str×Dt)
 | false,p=>itF p
 | true,p=>itZ p
def Drw (rs:List (Int×Int×Int)):Prop:=(rs.map (·.1)).Pairwise (· < ·)/\rs.length<=8
theorem qy (kvs:List (Key×V)) (ns:List Int) (z:Int) (v:V) (h:kvs.map (·.1)=ns.map (Sum.inl:Int->Key)):(bc kvs (Sum.inl z:Key) v).map (·.1)=(if z∈ns then ns else ns++[z]).map (Sum.inl:Int->Key):=by
 have ha:(kvs.any λkv=>decide (kv.1=(Sum.inl z:Key)))=decide (z∈ns):=by
  have e:(kvs.any λkv=>decide (kv.1=(Sum.inl z:Key)))=(kvs.map (·.1)).any λk=>decide (k=(Sum.inl z:Key)):=by rw [aBE];rfl
  rw [e,h,aBE,aAQ];simp
 unfold bc;rw [ha]
 by_cases hz:z∈ns
 ·rw [if_pos (by simpa using hz),if_pos hz,aAv,<- h];refine aBn λkv _=>?_;show (if kv.1=Sum.inl z then (kv.1,v) else kv).1=kv.1
  split <;> rfl
 ·rw [if_neg (by simpa using hz),if_neg hz,aAy,h,aAy]
  rfl
theorem oV {K:W.Frag} {H:Hp} {p:Addr} {ns:List Int} {f:Int->Dt} {z:Int} {d:Dt} {v:V} {kvs:List (Key×V)} (ep:H p=some (.dK kvs)) (ek:kvs.map (·.1)=ns.map (Sum.inl:Int->Key)) (kv:∀ z∈ns,∃ v,aH kvs (Sum.inl z:Key)=some v/\IsP K H (f z) v) (hd:IsP K H d v) :
  DicI K (upd H p (.dK (bc kvs (Sum.inl z:Key) v))) p (if z∈ns then ns else ns++[z]) (λy=>if y=z then d else f y):=by
 refine ⟨_,aa,qy kvs ns z v ek,λy hy=>?_⟩;show ∃ u,aH (bc kvs (Sum.inl z:Key) v) (Sum.inl y)=some u/\IsP K _ (if y=z then d else f y) u;rw [dX]
 by_cases e:y=z
 ·subst e;rw [if_pos rfl,if_pos rfl];exact ⟨v,rfl,ck ep But.put hd⟩
 ·rw [if_neg (λq=>e (Sum.inl.inj q)),if_neg e];have hn:y∈ns:=by
   split at hy
   ·exact hy
   ·rcases aA3.mp hy with h | h
    ·exact h
    ·exact absurd (aAD.mp h) e
  obtain ⟨u,h1,h2⟩:=kv y hn;exact ⟨u,h1,ck ep But.put h2⟩
theorem DicI.but {K:W.Frag} {H H':Hp} {p r:Addr} {ys:List V} {ns:List Int} {f:Int->Dt} (hr:H r=some (.lst ys)) (g:But r H H') (h:DicI K H p ns f):DicI K H' p ns f:=by
 obtain ⟨kvs,e,ek,kv⟩:=h;exact ⟨kvs,g _ _ (ne_of e hr (by intro z;cases z)) e,ek,λi hi=>by obtain ⟨v,h1,h2⟩:=kv i hi;exact ⟨v,h1,h2.but hr g⟩⟩
theorem DicI.same {K:W.Frag} {H H':Hp} {p:Addr} {ns:List Int} {f:Int->Dt} (g:Same H H') (h:DicI K H p ns f):DicI K H' p ns f:=by
 obtain ⟨kvs,e,ek,kv⟩:=h;exact ⟨kvs,g _ _ e,ek,λi hi=>by obtain ⟨v,h1,h2⟩:=kv i hi;exact ⟨v,h1,h2.same g⟩⟩
inductive IDg (vs:List V) (H:Hp) (Q:VK):Prop
 | mk (r:Addr) (n m:Int):(vs=[.ref r,.int m])->(H r=some (.lst [.int n]))->(0 < m)->(m < 10000000000000000000000000000000000000000000000000000000000000)->(∀ d n' H',0<=d->d < m->But r H H'->H' r=some (.lst [.int n'])->Q (.int d) H')->IDg vs H Q
def sDg:Sp:=λvs H Q _=>IDg vs H Q
theorem vN {ad:Ads} (vs:List V) (H:Hp) (Q:VK) (E:XK) (h:sDg vs H Q E):gz K ad vs H Q E:=by
 obtain ⟨r,n,m,e,hr,h0,h1,q⟩:=h;exact ⟨r,n,m,e,hr,h0,h1,q _ _ _ (vo n h0).1 (vo n h0).2 But.put aa⟩
def Tel (nm:Bool) (ns:List Int) (f:Int->Dt):Prop:=ns.Nodup/\∀ k∈ns,∃ t:Int×Int×Int,t.1=k/\f k=ak (itX nm t)
theorem rC {nm:Bool} {ns:List Int} {f:Int->Dt} (h:Tel nm ns f) (t:Int×Int×Int):Tel nm (if t.1∈ns then ns else ns++[t.1]) (λy=>if y=t.1 then ak (itX nm t) else f y):=by
 refine ⟨?_,λk hk=>?_⟩
 ·split
  ·exact h.1
  ·rename_i hn
   exact List.nodup_append.mpr ⟨h.1,(by simp),λc hc d hd=>by
    rw [aAD.mp hd];intro e;rw [e] at hc;exact hn hc⟩
 ·by_cases e:k=t.1
  ·exact ⟨t,e.symm,by show (if k=t.1 then ak (itX nm t) else f k)=_;rw [if_pos e]⟩
  ·have hk':k∈ns:=by
    split at hk
    ·exact hk
    ·rcases aA3.mp hk with h | h
     ·exact h
     ·exact absurd (aAD.mp h) e
   obtain ⟨t',h1,h2⟩:=h.2 k hk';exact ⟨t',h1,by show (if k=t.1 then ak (itX nm t) else f k)=_;rw [if_neg e];exact h2⟩
theorem rD (ns:List Int) (z:Int):(if z∈ns then ns else ns++[z]).length<=ns.length+1:=by
 split
 ·lia
 ·rw [aAP];exact aAm _
theorem oW {nm:Bool} {f:Int->Dt}:∀ {ns:List Int},(∀ k∈ns,∃ t:Int×Int×Int,t.1=k/\f k=ak (itX nm t))->∃ rs:List (Int×Int×Int),rs.map (·.1)=ns/\rs.map (λt=>ak (itX nm t))=ns.map f
 | [],_=>⟨[],rfl,rfl⟩
 | k :: ns,h=>by
  obtain ⟨rs,h1,h2⟩:=oW (ns:=ns) λk hk=>h k (aAr _ hk);obtain ⟨t,e1,e2⟩:=h k aAq;exact ⟨t :: rs,by rw [aAz,h1,e1],by rw [aAz,aAz,h2,e2]⟩
def mL (K:W.Frag) (_:Ads):Sp:=λvs H Q _=>∃ (r:Addr) (c:Int) (nm:Bool),vs=[.ref r,.bl nm]/\H r=some (.lst [.int c])/\∀ (p:Addr) (ys:List V) (rs:List (Int×Int×Int)) (c':Int) (H':Hp),But r H H'->H p=none->H' p=some (.lst ys)->IsPs K H' (rs.map λt=>ak (itX nm t)) ys->Drw rs->H' r=some (.lst [.int c'])->Q (.ref p) H'
theorem mM (T:Tx K mg ad) {f:Addr} {fd:FuncData} (F:Gn K mg "_law_items" cG ["row","named"] f fd):FnOk P w K mg base CX0 2 f fd ["row","named"] (mL K ad):=by
 obtain ⟨_,_,B5⟩:=T.law_digit;have Cc:=(gG (P:=P) (w:=w) (base:=base) T B5).imp vN;refine F.F.ok bC (λvs H Q E h=>?_) (λcdv A outer s H vs Q E hr h=>?_)
 ·obtain ⟨r,c,nm,rfl,_⟩:=h
  rfl
 obtain ⟨r,c,nm,rfl,hr0,q⟩:=h;refine ⟨_,(@pss_cons _ _ _ _ _ (@ps_set _ _ 2 _ _ _ _ bC.nd rfl (Or.inr rfl) gm (by rfl) (.inl rfl)) (@pss_cons _ _ _ _ _ (ps_for PassesOwn.never rfl (eZ rfl T.z_range (@pa1 _ _ _ (0,B5,Cc,@pa2 _ _ _ _ _ (pv 0) pe_int (by rfl) (by rfl)) (by rfl))) (ag (i:=3) bC.nd rfl (Or.inl rfl))
    (@pss_cons _ _ _ _ _ (@ps_set _ _ 4 _ _ _ _ bC.nd rfl (Or.inl rfl) (0,B5,Cc,@pa2 _ _ _ _ _ (pv 0) pe_int (by rfl) (by rfl)) (by rfl) (.inl rfl)) (@pss_cons _ _ _ _ _ (@ps_set _ _ 5 _ _ _ _ bC.nd rfl (Or.inl rfl) (@aB _ _ _ _ (@pa2 _ _ _ _ _ (@pe_tupPK _ K _ _ _ _ rfl (@pa2 _ _ _ _ _ pe_str (0,B5,Cc,@pa2 _ _ _ _ _ (pv 0) pe_int (by rfl) (by rfl)) (by rfl) (by rfl))) (@pe_tupPK _ K _ _ _ _ rfl (@pa2 _ _ _ _ _ pe_str (pv 4) (by rfl) (by rfl))) (by rfl) (by rfl))) (by rfl) (.inl rfl)) (@pss_cons _ _ _ _ _ (@ps_if _ _ _ _ _ _ _ _ (@pt_val _ _ _ (pv 1) (by intro _;rfl)) (@pss_one _ _ _ (@ps_expr _ _ _ _ (pe_bm PySem.F.plainAttrs_list PySem.F.slot_list_append PySem.F.type_list_append mt_append (pv 5) (@pa1 _ _ _ (@pe_tupPK _ K _ _ _ _ rfl (@pa2 _ _ _ _ _ pe_str (0,B5,Cc,@pa2 _ _ _ _ _ (pv 0) pe_int (by rfl) (by rfl)) (by rfl) (by rfl))) (by rfl))) (by rfl))) pss_nil) (@pss_one _ _ _ (ps_dput (u1 hr.units) (pv 2) (pv 4) (@pe_tupPK _ K _ _ _ _ rfl (@pa2 _ _ _ _ _ pe_str (pe_callTy (call_tuplePN (K:=K) rfl) rfl T.z_tuple boot_tuple (@pa1 _ _ _ (pv 5) (by rfl))) (by rfl) (by rfl))) rfl)))))) (@pss_one _ _ _ (@ps_ret _ _ _ _ (aC rfl (csR (sc:=ac cG) (NL:=["key"]) (N:=["row","named","items","k","key","pairs"]) (ρ:=[2]) (N':=["key","items"]) rfl rfl rfl (by decide +kernel) (by decide +kernel) (by decide +kernel) rfl (by decide +kernel)) (az (K:=K) rfl (pe_callB (n9 rfl) rfl T.z_sorted boot_sorted (@pa1 _ _ _ (pv 2) (by rfl)))) (λ_ _ _ _=>(ag (i:=0) (show List.Nodup (α:=Str) ["key","items"] by decide +kernel) rfl (Or.inl rfl))) (λ_ _ _ _=>(@cD _ _ _ _ _ _ (u1 hr.units) (pv 1) (pv 0) (λ_ _=>rfl)))))))),?_⟩
 refine λpd hpd=>?_;have g1:=ae hpd (.dK []);have e1:(upd H pd (.dK [])) pd=some (.dK []):=aa
 generalize upd H pd (.dK [])=H1 at g1 e1 ⊢
 have nrp:r≠pd:=af hr0 hpd;refine ⟨_,rfl,r,c,9,rfl,g1 _ _ hr0,by decide,by decide,λJ c2 H2 J0 J9 b2 r2=>?_⟩;have d2:DicI K H2 pd [] (λ_=>.non):=⟨[],b2 _ _ nrp.symm e1,rfl,λi hi=>by cases hi⟩;have B2:But r H H2:=(But.same g1).trans b2;refine ⟨J,rfl,by lia,by lia,e7 (lo:=0) (n:=J.toNat) (λi σ H'=>∃ (ns:List Int) (f:Int->Dt) (c':Int) (v3 v4 v5:Option V),But r H H'/\DicI K H' pd ns f/\Tel nm ns f/\ns.length<=i/\H' r=some (.lst [.int c'])/\i<=8/\σ=[some (.ref r),some (.bl nm),some (.ref pd),v3,v4,v5]) ⟨[],_,c2,none,none,none,B2,d2,⟨by simp,λk hk=>by cases hk⟩,aAm _,r2,by decide,rfl⟩ ?_ ?_⟩
 ·rintro i σ H3 hi ⟨ns,f,c3,v3,v4,v5,B3,d3,t3,l3,r3,i3,rfl⟩;refine ⟨_,rfl,r,c3,12,rfl,r3,by decide,by decide,λky c4 H4 k0 k12 b4 r4=>?_⟩;have d4:=d3.but r3 b4;refine ⟨_,rfl,r,c4,5,rfl,r4,by decide,by decide,λda c5 H5 a0 a5 b5 r5=>?_⟩;have d5:=d4.but r4 b5;refine ⟨[.str "a",.int da],.cons .str (.cons .int .nil),sz2,λu1 H6 g6 h6=>?_⟩;refine ⟨_,rfl,[.str "id",.int ky],.cons .str (.cons .int .nil),sz2,λu2 H7 g7 h7=>?_⟩;refine ⟨sz2,λlp hlp=>?_⟩;have g8:=ae hlp (.lst [u1,u2]);have e8:(upd H7 lp (.lst [u1,u2])) lp=some (.lst [u1,u2]):=aa
  generalize upd H7 lp (.lst [u1,u2])=H8 at g8 e8 ⊢
  have g68:=(g6.trans g7).trans g8;have r8:=g68 _ _ r5;have d8:=d5.same g68;have nlr:lp≠r:=(af ((g6.trans g7) _ _ r5) hlp).symm;have nlpd:lp≠pd:=λc=>by
   obtain ⟨_,e,_⟩:=d5.same (g6.trans g7);rw [<- c,hlp] at e
   cases e
  have B7:But r H H7:=((B3.trans b4).trans b5).trans (But.same (g6.trans g7));have B8:But r H H8:=B7.trans (But.same g8);have fresh:H lp=none:=by
   cases hc:H lp with
   | none=>rfl
   | some o =>
    have:=B7 lp o nlr hc;rw [hlp] at this
    cases this
  have i8:IsPs K H8 [.tup [.str "a",.int da],.tup [.str "id",.int ky]] [u1,u2]:=.cons ((h6.same g7).same g8) (.cons (h7.same g8) .nil)
  cases nm with
  | false =>
   refine ⟨_,rfl,_,rfl,aL ?_⟩;have eL:=e8;have iL:=i8;have dL:=d8;have rL:=r8;have BL:=B8;refine ⟨_,rfl,lp,_,_,rfl,SqL.of eL,iL,λvt HT gT hvt=>?_⟩;refine ⟨[.str "record",_],.cons .str (.cons hvt .nil),sz2,λvr HR gR hvr=>?_⟩;have gTR:=gT.trans gR;obtain ⟨kvs,ek,ks,kv⟩:=dL.same gTR;have lk:kvs.length=ns.length:=by have:=congrArg List.length ks;simpa using this
   refine ⟨_,rfl,_,rfl,pd,_,rfl,.inl ⟨kvs,Sum.inl ky,ek,rfl,ai (by lia),rfl⟩,?_⟩;have Bp:But pd HR (upd HR pd (.dK (bc kvs (Sum.inl ky:Key) vr))):=But.put;have rR:=gTR _ _ rL;have hp:=rD ns ky;exact ⟨_,_,_,_,_,_,λc o nc ec=>Bp c o (af ec hpd) (gTR _ _ (BL c o nc ec)),oV (z:=ky) ek ks kv (show IsP K HR (ak (itX false (ky,da,0))) vr from hvr),rC t3 (ky,da,0),by lia,Bp _ _ nrp rR,by lia,rfl⟩
  | true =>
   refine ⟨_,rfl,_,rfl,aG ?_⟩;refine ⟨_,rfl,.inl ⟨rfl,_,SqL.of e8⟩,_,rfl,r,c5,7,rfl,r8,by decide,by decide,λdz c9 H9 z0 z7 b9 r9=>?_⟩;refine ⟨[.str "z",.int dz],.cons .str (.cons .int .nil),sz2,λu3 H10 g10 h10=>?_⟩;have e10:=g10 _ _ (b9 _ _ nlr e8);refine ⟨lp,[u1,u2],u3,rfl,rfl,e10,(by show 2 < sizeLine;decide),?_⟩;have Bl:But lp H10 (upd H10 lp (.lst ([u1,u2]++[u3]))):=But.put;have eL:(upd H10 lp (.lst ([u1,u2]++[u3]))) lp=some (.lst ([u1,u2]++[u3])):=aa;have iL:=IsPs.but e10 Bl (((i8.but r8 b9).same g10).append (.cons h10 .nil));have dL:=((d8.but r8 b9).same g10).but e10 Bl;have rL:=Bl _ _ nlr.symm (g10 _ _ r9);have BL:But r H (upd H10 lp (.lst ([u1,u2]++[u3]))):=λc o nc ec=>Bl c o (af ec fresh) (g10 _ _ ((B8.trans b9) c o nc ec))
   generalize upd H10 lp (.lst ([u1,u2]++[u3]))=HL at eL iL dL rL BL ⊢
   refine ⟨_,rfl,lp,_,_,rfl,SqL.of eL,iL,λvt HT gT hvt=>?_⟩;refine ⟨[.str "record",_],.cons .str (.cons hvt .nil),sz2,λvr HR gR hvr=>?_⟩;have gTR:=gT.trans gR;obtain ⟨kvs,ek,ks,kv⟩:=dL.same gTR;have lk:kvs.length=ns.length:=by have:=congrArg List.length ks;simpa using this
   refine ⟨_,rfl,_,rfl,pd,_,rfl,.inl ⟨kvs,Sum.inl ky,ek,rfl,ai (by lia),rfl⟩,?_⟩;have Bp:But pd HR (upd HR pd (.dK (bc kvs (Sum.inl ky:Key) vr))):=But.put;have rR:=gTR _ _ rL;have hp:=rD ns ky;exact ⟨_,_,_,_,_,_,λc o nc ec=>Bp c o (af ec hpd) (gTR _ _ (BL c o nc ec)),oV (z:=ky) ek ks kv (show IsP K HR (ak (itX true (ky,da,dz))) vr from hvr),rC t3 (ky,da,dz),by lia,Bp _ _ nrp rR,by lia,rfl⟩
 ·rintro σ H3 ⟨ns,f,c3,v3,v4,v5,B3,⟨kvs,ep,ks,kv⟩,⟨nd3,t3⟩,l3,r3,i3,rfl⟩;refine ⟨_,rfl,pd,kvs,ns,rfl,ep,ks,by lia,λa ns' ha pm srt=>?_⟩;have g4:=ae ha (.lst (ns'.map V.int));have e4:(upd H3 a (.lst (ns'.map V.int))) a=some (.lst (ns'.map V.int)):=aa
  generalize upd H3 a (.lst (ns'.map V.int))=H4 at g4 e4 ⊢
  obtain ⟨rs,e5,e6⟩:=oW (nm:=nm) (f:=f) (ns:=ns') λk hk=>t3 k (pm.mem_iff.mp hk);have ln:ns'.length=ns.length:=pm.length_eq;have nr3:a≠r:=(af r3 ha).symm;refine ⟨a,rfl,⟨_,SqL.of e4⟩,λl hl=>?_⟩;have nlr:l≠r:=(af (g4 _ _ r3) hl).symm;refine ax (K:=K) (xs:=ns'.map V.int) (λj ys σ H'=>Same H4 H'/\H' l=some (.lst ys)/\IsPs K H' ((ns'.take j).map f) ys/\∃ v1,σ=[v1,some (.ref pd)]) ⟨ae hl _,aa,.nil,none,rfl⟩ (λj ys σ H' _ pv=>SqL.of (pv.1 _ _ e4)) ?_ ?_
  ·rintro j u ys σ H5 N hu ⟨s5,e5',d5,v1,rfl⟩ next;rw [aAc] at hu;obtain ⟨k,hk,rfl⟩:=aAd.mp hu;obtain ⟨v,hv1,hv2⟩:=kv k (pm.mem_iff.mp (aAs hk));have ly:=d5.length;rw [aAb,aAp] at ly;refine ⟨_,rfl,_,rfl,pd,v,rfl,.inl ⟨kvs,Sum.inl k,.inl (s5 _ _ (g4 _ _ ep)),rfl,hv1.symm⟩,?_⟩;refine ⟨e5',ai (by lia),next _ _ _ ⟨ar hl s5,aa,?_,_,rfl⟩⟩;rw [aAw,hk,aAy];exact IsPs.but e5' But.put (d5.append (.cons ((hv2.same g4).same s5) .nil))
  ·rintro ys σ H5 ⟨s5,e5',d5,v1,rfl⟩;rw [aAb,aAt,<- e6] at d5;have g45:=g4.trans s5;refine q l ys rs c3 H5 (B3.trans (But.same g45)) ?_ e5' d5 ⟨?_,?_⟩ (g45 _ _ r3)
   ·cases hc:H l with
    | none=>rfl
    | some o =>
     have:=g4 _ _ (B3 l o nlr hc);rw [hl] at this
     cases this
   ·rw [e5];exact (srt.and (pm.nodup_iff.mpr nd3)).imp λh=>by lia
   ·have:=congrArg List.length e5;rw [aAb] at this;lia
def iE (b:Bool) (hs:List (Int×Int×Int)) (j:Nat) (i l:Int):Int:=if b then (hs[j]?.map (·.2.2)).getD l else ((hs.find? λt=>decide (t.1=i)).map (·.2.2)).getD l
theorem lu {K:W.Frag} {H:Hp} {p:Addr} {fs:List (Str×Dt)} {z:Str} {i:Int} (h:DicQ K H p fs) (hl:aq fs z=some (.int i)):DGet H p (.str z) (some (.int i)):=by
 obtain ⟨kvs,ep,ek,kval⟩:=h;obtain ⟨v,h1,h2⟩:=(kval z).2 _ hl;obtain rfl:=mx h2;exact .inl ⟨kvs,Sum.inr z,.inl ep,rfl,h1.symm⟩
def oX (K:W.Frag) (_:Ads):Sp:=λvs H Q _=>∃ (b:Bool) (as hs:List (Int×Int×Int)) (j:Nat) (t:Int×Int×Int) (l:Int) (pi pm:Addr) (xi xm:List V),vs=[.ref pi,.ref pm,.str (wW b),.int j,.int l]/\H pi=some (.lst xi)/\IsPs K H (as.map λt=>ak (itF t)) xi/\H pm=some (.lst xm)/\IsPs K H (hs.map λt=>ak (itZ t)) xm/\as[j]?=some t/\∀ H',Same H H'->Q (.int (iE b hs j t.1 l)) H'
theorem ndF (t:Int×Int×Int):((itF t).map (·.1)).Nodup:=(by decide +kernel:([Str.ofString "a",Str.ofString "id"]:List Str).Nodup)
theorem ndZ (t:Int×Int×Int):((itZ t).map (·.1)).Nodup:=(by decide +kernel:([Str.ofString "a",Str.ofString "id",Str.ofString "z"]:List Str).Nodup)
theorem oY (T:Tx K mg ad) {f:Addr} {fd:FuncData} (F:Gn K mg "_law_kept" fV ["items","memory","word","at","least"] f fd):FnOk P w K mg base CX0 1 f fd ["items","memory","word","at","least"] (oX K ad):=by
 refine F.F.ok iG (λvs H Q E h=>?_) (λcdv A outer s H vs Q E hr h=>?_)
 ·obtain ⟨b,as,hs,j,t,l,pi,pm,xi,xm,rfl,_⟩:=h
  rfl
 obtain ⟨b,as,hs,j,t,l,pi,pm,xi,xm,rfl,hi,di,hm,dm,ht,q⟩:=h;refine ⟨_,(@pss_cons _ _ _ _ _ (@ps_if _ _ _ _ _ _ _ _ (pt_cmpR op_eq (pv 2) pe_str (nomark _)) (@pss_one _ _ _ (@ps_ret _ _ _ _ (cS (pt_cmpR yi (pv 3) (pe_callB (call_len_seqN (K:=K) rfl) rfl T.z_len PySem.boot_len (@pa1 _ _ _ (pv 1) (by rfl))) (nomark _)) (@cD _ _ _ _ _ _ (u1 hr.units) (pe_callTy (aT (K:=K) rfl rfl) rfl T.z_dict boot_dict (@pa1 _ _ _ (@pi1 K _ _ _ _ _ _ _ rfl (@cU _ _ _ _ _ _ _ (bf (K:=K) rfl) (pv 1) (pv 3) (λ_ _=>rfl))) (by rfl))) pe_str (λ_ _=>rfl)) (pv 4)))) pss_nil) (@pss_cons _ _ _ _ _ (ps_for PassesOwn.never rfl (az (K:=K) rfl (pv 1)) (ag (i:=5) iG.nd rfl (Or.inl rfl))
    (@pss_one _ _ _ (@ps_if _ _ _ _ _ _ _ _ (pt_cmpR op_eq (@cD _ _ _ _ _ _ (u1 hr.units) (pe_callTy (aT (K:=K) rfl rfl) rfl T.z_dict boot_dict (@pa1 _ _ _ (@pi1 K _ _ _ _ _ _ _ rfl (pv 5)) (by rfl))) pe_str (λ_ _=>rfl)) (@cD _ _ _ _ _ _ (u1 hr.units) (pe_callTy (aT (K:=K) rfl rfl) rfl T.z_dict boot_dict (@pa1 _ _ _ (@pi1 K _ _ _ _ _ _ _ rfl (@cU _ _ _ _ _ _ _ (bf (K:=K) rfl) (pv 0) (pv 3) (λ_ _=>rfl))) (by rfl))) pe_str (λ_ _=>rfl)) (nomark _)) (@pss_one _ _ _ (@ps_ret _ _ _ _ (@cD _ _ _ _ _ _ (u1 hr.units) (pe_callTy (aT (K:=K) rfl rfl) rfl T.z_dict boot_dict (@pa1 _ _ _ (@pi1 K _ _ _ _ _ _ _ rfl (pv 5)) (by rfl))) pe_str (λ_ _=>rfl)))) pss_nil))) (@pss_one _ _ _ (@ps_ret _ _ _ _ (pv 4))))),?_⟩
 have lm:=dm.length;rw [aAb] at lm
 cases b with
 | true =>
  refine fC rfl ?_;refine ⟨_,rfl,_,rfl,pm,xm,rfl,.inl (SqL.of hm),_,_,rfl,rfl,_,rfl,?_⟩
  by_cases c:j < xm.length
  ·rw [decide_eq_true (by lia)];refine aG ?_;obtain ⟨u,hu⟩:∃ u,xm[j]?=some u:=⟨_,aAj c⟩;obtain ⟨d,hd,hp⟩:=dm.get' hu;rw [aAc] at hd;obtain ⟨o,ho,rfl⟩:=aAd.mp hd;refine ⟨_,rfl,_,rfl,pm,xm,_,u,rfl,rfl,SqL.of hm,fc hu,_,_,_,hp,rfl,rfl,λv1 hv1=>?_⟩;refine ⟨v1,itZ o,rfl,hv1,ndZ o,by show 3<=1000;decide,λp H1 hpn g1 dq=>?_⟩;refine ⟨p,_,rfl,lu dq (show aq (itZ o) "z" = some (.int o.2.2) from rfl),?_⟩;have e:iE true hs j t.1 l=o.2.2:=by show (hs[j]?.map (·.2.2)).getD l=_;rw [ho];rfl
   rw [<- e];exact q H1 g1
  ·rw [decide_eq_false (by lia)];refine aL ⟨_,rfl,?_⟩;have e:iE true hs j t.1 l=l:=by show (hs[j]?.map (·.2.2)).getD l=_;rw [aB6 (by lia)];rfl
   rw [e] at q;exact q H (Same.refl H)
 | false =>
  refine jX rfl (by decide) ?_;obtain ⟨u,hu,hpu⟩:∃ u,xi[j]?=some u/\IsP K H (ak (itF t)) u:=by
   have lj:j < xi.length:=by
    rw [<- di.length,aAb];exact (aAg.mp ht).1
   obtain ⟨d,hd,hp⟩:=di.get' (aAj lj);rw [aAc,ht] at hd;obtain rfl:=Option.some.inj hd;exact ⟨_,aAj lj,hp⟩
  refine ⟨_,rfl,pm,rfl,⟨_,SqL.of hm⟩,be (xs:=xm) (λn σ H'=>Same H H'/\(∀ o∈hs.take n,¬ o.1=t.1)/\∃ v5,σ=[some (.ref pi),some (.ref pm),some (.str "rows"),some (.int j),some (.int l),v5]) ⟨Same.refl H,(λo ho=>by cases ho),_,rfl⟩ (λn σ H' _ p=>SqL.of (p.1 _ _ hm)) ?_ ?_⟩
  ·rintro n u1 σ H1 hu1 ⟨g1,no,v5,rfl⟩;obtain ⟨d,hd,hp⟩:=dm.get' hu1;rw [aAc] at hd;obtain ⟨o,ho,rfl⟩:=aAd.mp hd;have hp1:=hp.same g1;refine ⟨_,rfl,_,_,_,hp1,rfl,rfl,λv1 hv1=>?_⟩;refine ⟨v1,itZ o,rfl,hv1,ndZ o,by show 3<=1000;decide,λp H2 hpn g2 dq=>?_⟩;refine ⟨p,_,rfl,lu dq (show aq (itZ o) "id" = some (.int o.1) from rfl),?_⟩;have s2:=g1.trans g2;refine ⟨_,rfl,_,rfl,pi,xi,_,u,rfl,rfl,SqL.of (s2 _ _ hi),fc hu,_,_,_,hpu.same s2,rfl,rfl,λv3 hv3=>?_⟩;refine ⟨v3,itF t,rfl,hv3,ndF t,by show 2<=1000;decide,λp4 H4 hpn4 g4 dq4=>?_⟩;refine ⟨p4,_,rfl,lu dq4 (show aq (itF t) "id" = some (.int t.1) from rfl),?_⟩;have s4:=s2.trans g4;refine ⟨rfl,_,rfl,?_⟩
   by_cases c:o.1=t.1
   ·rw [c];refine aQ ?_;refine ⟨_,rfl,_,_,_,hp.same s4,rfl,rfl,λv5 hv5=>?_⟩;refine ⟨v5,itZ o,rfl,hv5,ndZ o,by show 3<=1000;decide,λp6 H6 hpn6 g6 dq6=>?_⟩;refine ⟨p6,_,rfl,lu dq6 (show aq (itZ o) "z" = some (.int o.2.2) from rfl),?_⟩;have e:iE false hs n t.1 l=o.2.2:=by
     show ((hs.find? λt'=>decide (t'.1=t.1)).map (·.2.2)).getD l=_;have hn:n < hs.length:=(aAg.mp ho).1;rw [<- List.take_append_drop n hs,List.find?_append,aBJ.mpr (λo' ho'=>by simpa using no o' ho'),aBO hn];have e2:hs[n]=o:=by rw [aAj hn] at ho;exact Option.some.inj ho
     rw [e2];simp [c]
    rw [<- e];exact q H6 (s4.trans g6)
   ·refine iteN (λe=>c (V.int.inj e)) ?_;refine ⟨s4,λo' ho'=>?_,_,rfl⟩;rw [aAw,ho] at ho';rcases aA3.mp ho' with h | h
    ·exact no o' h
    ·obtain rfl:o'=o:=by simpa using h
     exact c
  ·rintro σ H1 ⟨g1,no,v5,rfl⟩;refine ⟨_,rfl,?_⟩;rw [<- lm,aAt] at no;have e:iE false hs j t.1 l=l:=by
    show ((hs.find? λt'=>decide (t'.1=t.1)).map (·.2.2)).getD l=_;rw [aBJ.mpr (λo' ho'=>by simpa using no o' ho')]
    rfl
   rw [e] at q;exact q H1 g1
def ixL (b:Bool) (g:Int×Int×Int->List (Str×Dt)) (as:List (Int×Int×Int)):List (Int×List (Str×Dt)):=match b with
 | true=>as.zipIdx.map λp=>((p.2:Int),g p.1)
 | false=>as.map λt=>(t.1,g t)
def kf (b:Bool) (j:Nat) (t:Int×Int×Int):Int:=if b then j else t.1
theorem oZ (b:Bool) (g:Int×Int×Int->List (Str×Dt)) (as:List (Int×Int×Int)) (j:Nat):(ixL b g as)[j]?=as[j]?.map λt=>(kf b j t,g t):=by
 cases b with
 | true =>
  show (as.zipIdx.map _)[j]?=_;rw [aAc,aBl,aA7]
  cases as[j]? <;> simp [kf]
 | false =>
  show (as.map _)[j]?=_;rw [aAc]
  rfl
theorem zR (b:Bool) (g:Int×Int×Int->List (Str×Dt)) (as:List (Int×Int×Int)):(ixL b g as).length=as.length:=by
 cases b with
 | true=>show (as.zipIdx.map _).length=_;rw [aAb,aBq]
 | false=>exact aAb _
theorem vO (b:Bool) (g:Int×Int×Int->List (Str×Dt)) (as:List (Int×Int×Int)):((ixL b g as).map λp=>ak p.2)=as.map λt=>ak (g t):=by
 refine aBM λj=>?_;rw [aAc,aAc,oZ,aA7]
 rfl
theorem vP {b:Bool} {g:Int×Int×Int->List (Str×Dt)} {as:List (Int×Int×Int)} (l8:as.length<=8) (hg:∀ t,aq (g t) "id" = some (.int t.1)):Its b (ixL b g as):=by
 have l:=zR b g as
 cases b with
 | true =>
  refine ⟨by lia,λj p hp=>?_⟩;rw [oZ] at hp;obtain ⟨t,_,rfl⟩:=aAd.mp hp
  rfl
 | false =>
  refine ⟨by lia,λp hp=>?_⟩;obtain ⟨t,_,rfl⟩:=aAF.mp (show p∈as.map _ from hp);exact hg t
theorem yv {b:Bool} {g:Int×Int×Int->List (Str×Dt)} {as:List (Int×Int×Int)} (h:b=false->(as.map (·.1)).Nodup):((ixL b g as).map (·.1)).Nodup:=by
 cases b with
 | true =>
  show ((as.zipIdx.map λp=>((p.2:Int),g p.1)).map (·.1)).Nodup;rw [aAv];have e:as.zipIdx.map ((λp:Int×List (Str×Dt)=>p.1) ∘ λp=>((p.2:Int),g p.1))=(List.range' 0 as.length).map λn:Nat=>(n:Int):=by
   rw [<- List.zipIdx_map_snd,aAv]
   rfl
  rw [e];exact (List.nodup_range' (step:=1)).map _ λa b h c=>h (Int.ofNat.inj c)
 | false =>
  show ((as.map λt=>(t.1,g t)).map (·.1)).Nodup;rw [aAv];exact h rfl
theorem xQ (j:Nat):∀ (hs:List (Int×Int×Int)) (n:Nat),((hs.zipIdx n).map λp=>((p.2:Int),itZ p.1)).find? (λp=>decide (p.1=((n+j:Nat):Int)))=hs[j]?.map λo=>(((n+j:Nat):Int),itZ o):=by
 induction j with
 | zero =>
  intro hs n
  cases hs with
  | nil=>rfl
  | cons o hs=>simp [aBc]
 | succ j ih =>
  intro hs n
  cases hs with
  | nil=>rfl
  | cons o hs =>
   have h:=ih hs (n+1);have e:n+1+j=n+(j+1):=by lia
   rw [e] at h;have ne:¬ (n:Int)=((n+(j+1):Nat):Int):=by lia
   rw [aBc,aAz,aAY];simp only [decide_eq_false ne];rw [h];simp
theorem yw (b:Bool) (hs:List (Int×Int×Int)) (j:Nat) (t:Int×Int×Int):zO (ixL b itZ hs) (kf b j t)=(if b then hs[j]? else hs.find? λo=>decide (o.1=t.1)).map λo=>.int o.2.2:=by
 unfold zO
 cases b with
 | true =>
  have h:=xQ j hs 0;rw [aB9] at h;show ((hs.zipIdx.map λp=>((p.2:Int),itZ p.1)).find? λp=>decide (p.1=(j:Int))).map _=_;rw [h,aA7]
  rfl
 | false =>
  show ((hs.map λo=>(o.1,itZ o)).find? λp=>decide (p.1=t.1)).map _=_;rw [List.find?_map,aA7]
  rfl
theorem zS (b:Bool) (hs:List (Int×Int×Int)) (j:Nat) (t:Int×Int×Int) (l:Int):putZ (ixL b itZ hs) l (kf b j t)=.int (iE b hs j t.1 l):=by
 show (zO (ixL b itZ hs) (kf b j t)).getD (.int l)=_;rw [yw]
 cases b with
 | true =>
  show (hs[j]?.map _).getD _=Dt.int ((hs[j]?.map _).getD _)
  cases hs[j]? <;> rfl
 | false =>
  show ((hs.find? _).map _).getD _=Dt.int (((hs.find? _).map _).getD _)
  cases hs.find? λo=>decide (o.1=t.1) <;> rfl
def bS (b:Bool) (hs:List (Int×Int×Int)) (j:Nat) (i:Int):Bool:=if b then decide (j < hs.length) else decide (i∈hs.map (·.1))
def kmS (c:Bool):Str:=if c then "kept" else "made"
theorem Bd (b:Bool) (hs:List (Int×Int×Int)) (j:Nat) (t:Int×Int×Int):kmW (ixL b itZ hs) (kf b j t)=kmS (bS b hs j t.1):=by
 unfold kmW kmS;rw [yw]
 congr 1
 cases b with
 | true =>
  show ((hs[j]?.map _).isSome=true)=(decide (j < hs.length)=true)
  by_cases h:j < hs.length
  ·simp [h]
  ·simp [h,aB6 (aBT h)]
 | false =>
  show (((hs.find? λo=>decide (o.1=t.1)).map _).isSome=true)=(decide (t.1∈hs.map (·.1))=true);rw [Option.isSome_map,List.find?_isSome];simp
abbrev vQ (b:Bool) (hs:List (Int×Int×Int)) (l:Int) (j:Nat) (t:Int×Int×Int):List (Str×Dt):=itF t++[((Str.ofString "z"),Dt.int (iE b hs j t.1 l))]
theorem vR (b:Bool) (hs as:List (Int×Int×Int)) (l:Int) (j:Nat):(ledI false (putZ (ixL b itZ hs) l) (ixL b itF as))[j]?=as[j]?.map λt=>(kf b j t,vQ b hs l j t):=by
 rw [aAc,oZ,aA7]
 cases as[j]? with
 | none=>rfl
 | some t =>
  show some (kf b j t,itF t++[((Str.ofString "z"),putZ (ixL b itZ hs) l (kf b j t))])=_;rw [zS]
  rfl
def Lit (K:W.Frag) (σ:L2.St) (t:TE) (d:Dt):Prop:=∀ (H:Hp) (Q:VK),(∀ v H',Same H H'->IsP K H' d v->Q v H')->t σ H Q
def xR (K:W.Frag) (σ:L2.St) (t:TA) (ds:List Dt):Prop:=∀ (H:Hp) (Q:List V->Hp->Prop),(∀ vs H',Same H H'->IsPs K H' ds vs->Q vs H')->t σ H Q
section
variable {K:W.Frag} {σ:L2.St}
theorem xS {i:Int}:Lit K σ (tC (.int i)) (.int i):=λH Q q=>q _ H (Same.refl H) .int
theorem xT {z:Str}:Lit K σ (tC (.str z)) (.str z):=λH Q q=>q _ H (Same.refl H) .str
theorem xU {t:TE} {i:Int} (h:Lit K σ t (.int i)):Lit K σ (tUn (rU λi=>V.int (-i)) t) (.int (-i)):=λH Q q=>h H _ λv H1 g hv=>by
 obtain rfl:=mx hv;exact ⟨i,rfl,q _ H1 g .int⟩
theorem vS:xR K σ rX []:=λH Q q=>q [] H (Same.refl H) .nil
theorem tI {t:TE} {ts:TA} {d:Dt} {ds:List Dt} (h:Lit K σ t d) (hs:xR K σ ts ds):xR K σ (fw t ts) (d :: ds):=λH Q q=>h H _ λv H1 g1 hv=>hs H1 _ λvs H2 g2 hvs=>q (v :: vs) H2 (g1.trans g2) (.cons (hv.same g2) hvs)
theorem xV {ts:TA} {ds:List Dt} (hs:xR K σ ts ds) (hl:Nat.ble ds.length 1000=true:=by rfl):Lit K σ (qQ K ts) (.tup ds):=λH Q q=>hs H _ λvs H1 g1 hvs=>⟨ds,hvs,by rw [<- hvs.length];exact aAK (ai (Nat.le_of_ble_eq_true hl)),λv H' g hv=>q v H' (g1.trans g) hv⟩
end
theorem xW {K:W.Frag} {σ:L2.St} {t:TE} {d:Dt} {i:Nat} {u:TS} {D:Ends} {H:Hp} (h:Lit K σ t d) (q:∀ v H',Same H H'->IsP K H' d v->u D (σ.set i (some v)) H'):rO (tV t (i0 i)) u D σ H:=show t σ H (λx H1=>u D (σ.set i (some x)) H1) from h H _ q
theorem vT {σ:L2.St} {i:Nat} {v:V} {H:Hp} {Q:L2.St->Hp->Prop} (h:Q (σ.set i (some v)) H):i0 i v σ H Q:=h
theorem rE {T:(L2.St->Hp->(Bool->Hp->Prop)->Prop)} {A b:TS} {D:Ends} {σ:L2.St} {H:Hp} (Inv:L2.St->Hp->Prop) (h2:∀ σ' H',Inv σ' H'->b D σ' H') (h1:(∀ σ' H',Inv σ' H'->b D σ' H')->rP T A kz { D with nx:=b D } σ H):rO (rP T A kz) b D σ H:=h1 h2
structure Bag (K:W.Frag) (H:Hp) (b:Bool) (l nm:Int) (hs:List (Int×Int×Int)) (vi vn vs vc vm:V) (ph:Addr) (xh:List V):Prop where
 i:IsP K H (ak kA) vi
 n:IsP K H (inK b kA) vn
 s:IsP K H (shK b kA) vs
 c:IsP K H (chD (puD l)) vc
 m:IsP K H (cy b nm (ixL b itZ hs)) vm
 h:H ph=some (.lst xh)
 d:IsPs K H (hs.map λt=>ak (itZ t)) xh
theorem Bag.same {K:W.Frag} {H H':Hp} {b:Bool} {l nm:Int} {hs:List (Int×Int×Int)} {vi vn vs vc vm:V} {ph:Addr} {xh:List V} (B:Bag K H b l nm hs vi vn vs vc vm ph xh) (g:Same H H'):Bag K H' b l nm hs vi vn vs vc vm ph xh :=
 ⟨B.i.same g,B.n.same g,B.s.same g,B.c.same g,B.m.same g,g _ _ B.h,B.d.same g⟩
theorem Bag.but {K:W.Frag} {H H':Hp} {b:Bool} {l nm:Int} {hs:List (Int×Int×Int)} {vi vn vs vc vm:V} {ph x:Addr} {xh ys:List V} (B:Bag K H b l nm hs vi vn vs vc vm ph xh) (hx:H x=some (.lst ys)) (ne:ph≠x) (g:But x H H'):Bag K H' b l nm hs vi vn vs vc vm ph xh :=
 ⟨B.i.but hx g,B.n.but hx g,B.s.but hx g,B.c.but hx g,B.m.but hx g,g _ _ ne B.h,B.d.but hx g⟩
theorem cZ {K:W.Frag} {H:Hp} {z:Str} {d:Dt} {u:V} (hu:IsP K H d u) {Q:VK} (q:∀ v H',Same H H'->IsP K H' (.tup [.str z,d]) v->Q v H'):ITup K [.str z,u] H Q:=⟨[.str z,d],.cons .str (.cons hu .nil),sz2,q⟩
theorem isN {K:W.Frag} {H:Hp} {Q:VK} (q:∀ v H',Same H H'->IsP K H' (bj 0 9) v->Q v H'):ITup K [.str "number",.int 0,.int 9] H Q:=⟨[.str "number",.int 0,.int 9],.cons .str (.cons .int (.cons .int .nil)),sz3,q⟩
theorem rF (i:Int):∀ hs:List (Int×Int×Int),inV (V.int i) (hs.map λo=>V.int o.1)=decide (i∈hs.map (·.1))
 | []=>by simp [inV]
 | o :: hs=>by
  have ih:=rF i hs;have e:inV (V.int i) ((o :: hs).map λo=>V.int o.1)=(eqV (V.int o.1) (V.int i) || inV (V.int i) (hs.map λo=>V.int o.1)):=rfl;have e2:eqV (V.int o.1) (V.int i)=decide (o.1=i):=rfl;rw [e,ih,e2,aAQ];simp only [aBZ,decide_eq_true_eq,aAz,aAf];exact ⟨λh=>h.imp Eq.symm id,λh=>h.imp Eq.symm id⟩
theorem tJ (hs:List (Int×Int×Int)):(hs.map λo=>V.int o.1).all fA=true:=by rw [aA8];exact aAO.mpr λ_ _=>rfl
theorem ahF (t:Int×Int×Int):AhZ (itF t):=⟨(by decide +kernel:([Str.ofString "a",Str.ofString "id"]:List Str).Pairwise ltS),λf hf=>by
 simp only [aAf,aAl,or_false] at hf;rcases hf with rfl | rfl <;> (dsimp only;decide +kernel),by show 2<=7;decide⟩
theorem ig {b:Bool} {g:Int×Int×Int->List (Str×Dt)} {as:List (Int×Int×Int)} {p:Int×List (Str×Dt)} (h:p∈ixL b g as):∃ t,p.2=g t:=by
 obtain ⟨j,hj⟩:=aB7.mp h;rw [oZ] at hj;obtain ⟨t,_,rfl⟩:=aAd.mp hj;exact ⟨t,rfl⟩
theorem xX (b:Bool) (as:List (Int×Int×Int)):vL false (ixL b itF as):=λp hp=>by
 obtain ⟨t,e⟩:=ig hp;rw [e];exact ⟨by show 2<=8;decide,nofun,λ_=>ahF t⟩
theorem rG (b:Bool) (hs:List (Int×Int×Int)):tH (ixL b itZ hs):=λp hp=>by
 obtain ⟨t,e⟩:=ig hp;rw [e];exact ⟨.int t.2.2,rfl,by show 0<=10;decide⟩
theorem xY {b:Bool} {as:List (Int×Int×Int)} {dOf:Int->Dt} {p:Int×List (Str×Dt)} (h:p∈ledI false dOf (ixL b itF as)):∃ t d,p.2=itF t++[((Str.ofString "z"),d)]:=by
 obtain ⟨q,hq,rfl⟩:=aAF.mp h;obtain ⟨t,e⟩:=ig hq;exact ⟨t,dOf q.1,by show vB false q.2 _=_;rw [e];rfl⟩
theorem vU (b:Bool) (as:List (Int×Int×Int)) (dOf:Int->Dt):vL true (ledI false dOf (ixL b itF as)):=λp hp=>by
 obtain ⟨t,d,e⟩:=xY hp;rw [e];exact ⟨by show 3<=8;decide,λ_=>⟨d,rfl⟩,nofun⟩
theorem vV (dr:Bool) (dOf:Int->Dt) (its:List (Int×List (Str×Dt))):(ledI dr dOf its).map (·.1)=its.map (·.1):=by rw [aAv];rfl
theorem xZ {b:Bool} {as:List (Int×Int×Int)} {dOf:Int->Dt} (h:Its b (ixL b itF as)):Its b (ledI false dOf (ixL b itF as)):=by
 cases b with
 | true =>
  refine ⟨by rw [aAb];exact h.1,λj p hp=>?_⟩;rw [aAc] at hp;obtain ⟨q,hq,rfl⟩:=aAd.mp hp;exact h.2 j q hq
 | false =>
  refine ⟨by rw [aAb];exact h.1,λp hp=>?_⟩;obtain ⟨q,hq,rfl⟩:=aAF.mp hp;have hq2:=h.2 q hq;obtain ⟨t,e⟩:=ig hq;show aq (vB false q.2 (dOf q.1)) "id" = some (.int q.1);rw [e] at hq2 ⊢;exact hq2
theorem vW (t:Int×Int×Int) (d:Dt):tw (itF t++[((Str.ofString "z"),d)])=itF t:=rfl
theorem x6 (b:Bool) (as:List (Int×Int×Int)) (dOf dOf':Int->Dt):ledI true dOf' (ledI false dOf (ixL b itF as))=ixL b itF as:=by
 show ((ixL b itF as).map _).map _=_;rw [aAv];refine (aBn λp hp=>?_).trans (List.map_id _);obtain ⟨t,e⟩:=ig hp;show (p.1,tw (p.2++[((Str.ofString "z"),dOf p.1)]))=p;rw [e,vW,<- e]
theorem zT (b:Bool) (hs as:List (Int×Int×Int)) (l:Int):((ledI false (putZ (ixL b itZ hs) l) (ixL b itF as)).map λp=>ak p.2)=as.zipIdx.map λp=>ak (vQ b hs l p.2 p.1):=by
 refine aBM λj=>?_;rw [aAc,vR,aAc,aBl,aA7,aA7]
 cases as[j]? with
 | none=>rfl
 | some t=>simp
abbrev wsL (b:Bool) (hs as:List (Int×Int×Int)):List Str:=as.zipIdx.map λp=>kmS (bS b hs p.2 p.1.1)
theorem Be (b:Bool) (hs as:List (Int×Int×Int)):((ixL b itF as).map λp=>kmW (ixL b itZ hs) p.1)=wsL b hs as:=by
 refine aBM λj=>?_;rw [aAc,oZ,aAc,aBl,aA7,aA7]
 cases as[j]? with
 | none=>rfl
 | some t =>
  show some (kmW (ixL b itZ hs) (kf b j t))=_;rw [Bd];simp
theorem qz {K:W.Frag} {H:Hp}:∀ ss:List Str,IsDs K H (ss.map Dt.str) (ss.map V.str)
 | []=>.nil
 | _ :: ss=>.cons .str (qz ss)
theorem vX (ss:List Str):depS (ss.map Dt.str)<=60:=mq λx hx=>by
 obtain ⟨s,_,rfl⟩:=aAF.mp hx;exact aAB _
theorem o0 {b:Bool} {n:Int} {its:List (Int×List (Str×Dt))} (h:∀ p∈its,∀ g∈p.2,g.2.dep<=1):(cy b n its).dep<=60:=by
 have h1:depS (its.map λp=>ak p.2)<=4:=mq λx hx=>by
  obtain ⟨p,hp,rfl⟩:=aAF.mp hx;exact rl (h p hp)
 have h2:(itV b its).dep<=6:=by
  simp only [Dt.dep,depS];lia
 have h3:(cy b n its).dep<=6+3:=rl λg hg=>by
  simp only [aAf,aAl,or_false] at hg;rcases hg with rfl | rfl
  ·exact aAB _
  ·exact h2
 lia
theorem BV (b:Bool) (as:List (Int×Int×Int)):∀ p∈ixL b itF as,∀ g∈p.2,g.2.dep<=1:=λp hp g hg=>by
 obtain ⟨t,e⟩:=ig hp;rw [e] at hg;simp only [aAf,aAl,or_false] at hg;rcases hg with rfl | rfl <;> exact aAB _
theorem BW (b:Bool) (hs as:List (Int×Int×Int)) (l:Int):∀ p∈ledI false (putZ (ixL b itZ hs) l) (ixL b itF as),∀ g∈p.2,g.2.dep<=1:=λp hp g hg=>by
 obtain ⟨j,hj⟩:=aB7.mp hp;rw [vR] at hj;obtain ⟨t,_,rfl⟩:=aAd.mp hj;simp only [vQ,List.cons_append,List.nil_append,aAf,aAl,or_false] at hg;rcases hg with rfl | rfl | rfl <;> exact aAB _
theorem zU (b:Bool):∃ w l,inK b kA=.tup (.str w :: l)/\L2.sC (.str w :: l) none (some (-2))++[ak kZ,.int 8]=(match inK b kZ with | .tup m=>m | _=>[]):=by
 cases b with
 | true=>exact ⟨_,_,rfl,rfl⟩
 | false=>exact ⟨_,_,rfl,rfl⟩
theorem x8 (b:Bool) (k:List (Str×Dt)):inK b k=.tup (match inK b k with | .tup m=>m | _=>[]):=by cases b <;> rfl
theorem BX (T:Tx K mg ad) {f:Addr} {fd:FuncData} (F:Gn K mg "law" rH ["script"] f fd):FnOk P w K mg base CX0 depth f fd ["script"] (zr K ad):=by
 obtain ⟨_,_,Dk⟩:=T.law_stream;have DS:=jW (P:=P) (w:=w) (base:=base) T Dk;obtain ⟨_,_,B5⟩:=T.law_digit;have Cc:=(gG (P:=P) (w:=w) (base:=base) T B5).imp vN;obtain ⟨_,_,C4⟩:=T.law_items;have Dx:=mM (P:=P) (w:=w) (base:=base) T C4;obtain ⟨_,_,DB⟩:=T.law_kept;have Ee:=oY (P:=P) (w:=w) (base:=base) T DB;obtain ⟨_,_,Ei⟩:=T.step;have En:=xP (P:=P) (w:=w) (base:=base) T Ei;obtain ⟨_,_,Dj⟩:=T.step_paper;have DV:=ke (P:=P) (w:=w) (base:=base) T Dj;obtain ⟨_,_,C9⟩:=T.change_about;have DE:=iS (P:=P) (w:=w) (base:=base) T C9;obtain ⟨_,_,El⟩:=T.led;have Eo:=zN (P:=P) (w:=w) (base:=base) T El;refine F.F.ok aO (λvs H Q E h=>?_) (λcdv A outer s H vs Q E hr h=>?_)
 ·obtain ⟨a,ns,rfl,_⟩:=h
  rfl
 obtain ⟨a,ns,rfl,hS,h63,q⟩:=h;refine ⟨_,(@pss_cons _ _ _ _ _ (@ps_set _ _ 1 _ _ _ _ aO.nd rfl (Or.inl rfl) (@pe_tupPK _ K _ _ _ _ rfl (@pa2 _ _ _ _ _ pe_str (@pe_tupPK _ K _ _ _ _ rfl (@pa2 _ _ _ _ _ (@pe_tupPK _ K _ _ _ _ rfl (@pa2 _ _ _ _ _ pe_str (@pe_tupPK _ K _ _ _ _ rfl (@pa3 _ _ _ _ _ _ _ pe_str pe_int pe_int (by rfl) (by rfl) (by rfl))) (by rfl) (by rfl))) (@pe_tupPK _ K _ _ _ _ rfl (@pa2 _ _ _ _ _ pe_str (@pe_tupPK _ K _ _ _ _ rfl (@pa3 _ _ _ _ _ _ _ pe_str (@pe_un _ _ _ _ _ _ un_neg pe_int) pe_int (by rfl) (by rfl) (by rfl))) (by rfl) (by rfl))) (by rfl) (by rfl))) (by rfl) (by rfl))) (by rfl) (.inl rfl)) (@pss_cons _ _ _ _ _ (ps_for PassesOwn.never rfl (eZ rfl T.z_range (@pa1 _ _ _ pe_int (by rfl))) (ag (i:=2) aO.nd rfl (Or.inl rfl))
    (@pss_cons _ _ _ _ _ (@ps_set _ _ 3 _ _ _ _ aO.nd rfl (Or.inl rfl) (0,Dk,DS,@pa2 _ _ _ _ _ (pv 0) (pv 2) (by rfl) (by rfl)) (by rfl) (.inl rfl)) (@pss_cons _ _ _ _ _ (@ps_set _ _ 4 _ _ _ _ aO.nd rfl (Or.inl rfl) (@cU _ _ _ _ _ _ _ (bf (K:=K) rfl) (@aB _ _ _ _ (@pa2 _ _ _ _ _ pe_str pe_str (by rfl) (by rfl))) (0,B5,Cc,@pa2 _ _ _ _ _ (pv 3) pe_int (by rfl) (by rfl)) (λ_ _=>rfl)) (by rfl) (.inl rfl)) (@pss_cons _ _ _ _ _ (@ps_set _ _ 5 _ _ _ _ aO.nd rfl (Or.inl rfl) (@cU _ _ _ _ _ _ _ (bf (K:=K) rfl) (@aB _ _ _ _ (@pa2 _ _ _ _ _ (@pe_tupPK _ K _ _ _ _ rfl (@pa_cons _ _ _ _ _ pe_str (@pa3 _ _ _ _ _ _ _ pe_str (pv 1) pe_int (by rfl) (by rfl) (by rfl)) (by rfl))) (@pe_tupPK _ K _ _ _ _ rfl (@pa3 _ _ _ _ _ _ _ pe_str (pv 1) pe_int (by rfl) (by rfl) (by rfl))) (by rfl) (by rfl))) (pe_callTy kB rfl T.z_int boot_int (@pa1 _ _ _ (pe_cmpR op_eq (pv 4) pe_str (nomark _)) (by rfl))) (λ_ _=>rfl)) (by rfl) (.inl rfl)) (@pss_cons _ _ _ _ _ (@ps_set _ _ 6 _ _ _ _ aO.nd rfl (Or.inl rfl) (@pe_tupPK _ K _ _ _ _ rfl (@pa2 _ _ _ _ _ pe_str (@pe_tupPK _ K _ _ _ _ rfl (@pa2 _ _ _ _ _ (@pe_tupPK _ K _ _ _ _ rfl (@pa2 _ _ _ _ _ pe_str (@pe_tupPK _ K _ _ _ _ rfl (@pa3 _ _ _ _ _ _ _ pe_str pe_int pe_int (by rfl) (by rfl) (by rfl))) (by rfl) (by rfl))) (@pe_tupPK _ K _ _ _ _ rfl (@pa2 _ _ _ _ _ pe_str (pv 5) (by rfl) (by rfl))) (by rfl) (by rfl))) (by rfl) (by rfl))) (by rfl) (.inl rfl)) (@pss_cons _ _ _ _ _ (@ps_set _ _ 7 _ _ _ _ aO.nd rfl (Or.inl rfl) (0,B5,Cc,@pa2 _ _ _ _ _ (pv 3) pe_int (by rfl) (by rfl)) (by rfl) (.inl rfl)) (@pss_cons _ _ _ _ _ (@ps_set _ _ 8 _ _ _ _ aO.nd rfl (Or.inl rfl) (@pe_tupPK _ K _ _ _ _ rfl (@pa2 _ _ _ _ _ (@pe_tupPK _ K _ _ _ _ rfl (@pa2 _ _ _ _ _ pe_str pe_str (by rfl) (by rfl))) (@pe_tupPK _ K _ _ _ _ rfl (@pa_cons _ _ _ _ _ pe_str (@pa3 _ _ _ _ _ _ _ pe_str (@pe_tupPK _ K _ _ _ _ rfl (@pa3 _ _ _ _ _ _ _ pe_str pe_int pe_int (by rfl) (by rfl) (by rfl))) (pv 7) (by rfl) (by rfl) (by rfl)) (by rfl))) (by rfl) (by rfl))) (by rfl) (.inl rfl)) (@pss_cons _ _ _ _ _ (@ps_set _ _ 9 _ _ _ _ aO.nd rfl (Or.inl rfl) (0,C4,Dx,@pa2 _ _ _ _ _ (pv 3) pe_bl (by rfl) (by rfl)) (by rfl) (.inl rfl)) (@pss_cons _ _ _ _ _ (@ps_set _ _ 10 _ _ _ _ aO.nd rfl (Or.inl rfl) (@pe_tupPK _ K _ _ _ _ rfl (@pa2 _ _ _ _ _ pe_str (@pe_tupPK _ K _ _ _ _ rfl (@pa2 _ _ _ _ _ (@pe_tupPK _ K _ _ _ _ rfl (@pa2 _ _ _ _ _ pe_str (0,B5,Cc,@pa2 _ _ _ _ _ (pv 3) pe_int (by rfl) (by rfl)) (by rfl) (by rfl))) (@pe_tupPK _ K _ _ _ _ rfl (@pa2 _ _ _ _ _ pe_str (@pe_tupPK _ K _ _ _ _ rfl (@pa2 _ _ _ _ _ (pv 4) (pe_callTy (call_tuplePN (K:=K) rfl) rfl T.z_tuple boot_tuple (@pa1 _ _ _ (pv 9) (by rfl))) (by rfl) (by rfl))) (by rfl) (by rfl))) (by rfl) (by rfl))) (by rfl) (by rfl))) (by rfl) (.inl rfl)) (@pss_cons _ _ _ _ _ (@ps_set _ _ 11 _ _ _ _ aO.nd rfl (Or.inl rfl) (0,C4,Dx,@pa2 _ _ _ _ _ (pv 3) pe_bl (by rfl) (by rfl)) (by rfl) (.inl rfl)) (@pss_cons _ _ _ _ _ (@ps_if _ _ _ _ _ _ _ _ (PW.pt (@tT _ _ _ _ _ _ _ (pt_cmpR op_eq (pv 4) pe_str (nomark _)) (@qI _ _ _ _ (pt_cmpR op_gt (pe_callB (call_len_seqN (K:=K) rfl) rfl T.z_len PySem.boot_len (@pa1 _ _ _ (pv 11) (by rfl))) pe_int (nomark _))))) (@pss_one _ _ _ (@ps_expr _ _ _ _ (pe_bm PySem.F.plainAttrs_list PySem.F.slot_list_insert PySem.F.type_list_insert sQ (pv 11) (@pa2 _ _ _ _ _ (0,B5,Cc,@pa2 _ _ _ _ _ (pv 3) (pe_callB (call_len_seqN (K:=K) rfl) rfl T.z_len PySem.boot_len (@pa1 _ _ _ (pv 11) (by rfl))) (by rfl) (by rfl)) (yP PySem.F.plainAttrs_list PySem.F.slot_list_pop PySem.F.type_list_pop yQ (pv 11)) (by rfl) (by rfl))) (by rfl))) pss_nil) (@pss_cons _ _ _ _ _ (@ps_set _ _ 12 _ _ _ _ aO.nd rfl (Or.inl rfl) (@pe_tupPK _ K _ _ _ _ rfl (@pa2 _ _ _ _ _ pe_str (@pe_tupPK _ K _ _ _ _ rfl (@pa2 _ _ _ _ _ (@pe_tupPK _ K _ _ _ _ rfl (@pa2 _ _ _ _ _ pe_str (0,B5,Cc,@pa2 _ _ _ _ _ (pv 3) pe_int (by rfl) (by rfl)) (by rfl) (by rfl))) (@pe_tupPK _ K _ _ _ _ rfl (@pa2 _ _ _ _ _ pe_str (@pe_tupPK _ K _ _ _ _ rfl (@pa2 _ _ _ _ _ (pv 4) (pe_callTy (call_tuplePN (K:=K) rfl) rfl T.z_tuple boot_tuple (@pa1 _ _ _ (pv 11) (by rfl))) (by rfl) (by rfl))) (by rfl) (by rfl))) (by rfl) (by rfl))) (by rfl) (by rfl))) (by rfl) (.inl rfl)) (@pss_cons _ _ _ _ _ (@ps_set _ _ 13 _ _ _ _ aO.nd rfl (Or.inl rfl) (@aB _ _ _ _ a9) (by rfl) (.inl rfl)) (@pss_cons _ _ _ _ _ (@ps_set _ _ 14 _ _ _ _ aO.nd rfl (Or.inl rfl) (@aB _ _ _ _ a9) (by rfl) (.inl rfl)) (@pss_cons _ _ _ _ _ (ps_for PassesOwn.never rfl (eZ rfl T.z_range (@pa1 _ _ _ (pe_callB (call_len_seqN (K:=K) rfl) rfl T.z_len PySem.boot_len (@pa1 _ _ _ (pv 11) (by rfl))) (by rfl))) (ag (i:=15) aO.nd rfl (Or.inl rfl))
    (@pss_cons _ _ _ _ _ (@ps_expr _ _ _ _ (pe_bm PySem.F.plainAttrs_list PySem.F.slot_list_append PySem.F.type_list_append mt_append (pv 13) (@pa1 _ _ _ (@pe_tupPK _ K _ _ _ _ rfl (@pa2 _ _ _ _ _ pe_str (@pe_op _ _ _ _ _ _ _ _ (gu (K:=K) rfl) (@pi1 K _ _ _ _ _ _ _ rfl (@cU _ _ _ _ _ _ _ (bf (K:=K) rfl) (pv 11) (pv 15) (λ_ _=>rfl))) (@pe_tupPK _ K _ _ _ _ rfl (@pa1 _ _ _ (@pe_tupPK _ K _ _ _ _ rfl (@pa2 _ _ _ _ _ pe_str (0,DB,Ee,@pa_cons _ _ _ _ _ (pv 11) (@pa_cons _ _ _ _ _ (pv 9) (@pa3 _ _ _ _ _ _ _ (pv 4) (pv 15) (pv 7) (by rfl) (by rfl) (by rfl)) (by rfl)) (by rfl)) (by rfl) (by rfl))) (by rfl)))) (by rfl) (by rfl))) (by rfl))) (by rfl)) (@pss_cons _ _ _ _ _ (@ps_set _ _ 16 _ _ _ _ aO.nd rfl (Or.inl rfl) (pe_cmpR yi (pv 15) (pe_callB (call_len_seqN (K:=K) rfl) rfl T.z_len PySem.boot_len (@pa1 _ _ _ (pv 9) (by rfl))) (nomark _)) (by rfl) (.inl rfl)) (@pss_cons _ _ _ _ _ (@ps_if _ _ _ _ _ _ _ _ (pt_cmpR op_eq (pv 4) pe_str (nomark _)) (@pss_one _ _ _ (@ps_set _ _ 16 _ _ _ _ aO.nd rfl (Or.inl rfl) (pe_cmpR (op_in_seqK (K:=K) rfl) (@cD _ _ _ _ _ _ (u1 hr.units) (pe_callTy (aT (K:=K) rfl rfl) rfl T.z_dict boot_dict (@pa1 _ _ _ (@pi1 K _ _ _ _ _ _ _ rfl (@cU _ _ _ _ _ _ _ (bf (K:=K) rfl) (pv 11) (pv 15) (λ_ _=>rfl))) (by rfl))) pe_str (λ_ _=>rfl)) (aC rfl (cs0 (NL:=["one"]) rfl (by decide +kernel) (by decide +kernel)) (az (K:=K) rfl (pv 9)) (λ_ _ _ _=>(ag (i:=0) (show List.Nodup (α:=Str) ["one"] by decide +kernel) rfl (Or.inl rfl))) (λ_ _ _ _=>(@cD _ _ _ _ _ _ (u1 hr.units) (pe_callTy (aT (K:=K) rfl rfl) rfl T.z_dict boot_dict (@pa1 _ _ _ (@pi1 K _ _ _ _ _ _ _ rfl (pv 0)) (by rfl))) pe_str (λ_ _=>rfl)))) rfl) (by rfl) (.inl rfl))) pss_nil) (@pss_one _ _ _ (@ps_expr _ _ _ _ (pe_bm PySem.F.plainAttrs_list PySem.F.slot_list_append PySem.F.type_list_append mt_append (pv 14) (@pa1 _ _ _ (@cU _ _ _ _ _ _ _ (bf (K:=K) rfl) (@aB _ _ _ _ (@pa2 _ _ _ _ _ pe_str pe_str (by rfl) (by rfl))) (pe_callTy kB rfl T.z_int boot_int (@pa1 _ _ _ (pv 16) (by rfl))) (λ_ _=>rfl)) (by rfl))) (by rfl))))))) (@pss_cons _ _ _ _ _ (@ps_set _ _ 17 _ _ _ _ aO.nd rfl (Or.inl rfl) (0,Ei,En,@pa_cons _ _ _ _ _ (pv 8) (@pa3 _ _ _ _ _ _ _ (pv 6) (pv 12) (pv 10) (by rfl) (by rfl) (by rfl)) (by rfl)) (by rfl) (.inl rfl)) (@pss_cons _ _ _ _ _ (@ps_if _ _ _ _ _ _ _ _ (pt_cmpR (qT (K:=K) rfl hr.units) (pv 17) (@pe_tupPK _ K _ _ _ _ rfl (@pa2 _ _ _ _ _ pe_str (@pe_tupPK _ K _ _ _ _ rfl (@pa2 _ _ _ _ _ (@pi1 K _ _ _ _ _ _ _ rfl (@pi1 K _ _ _ _ _ _ _ rfl (pv 12))) (@pe_tupPK _ K _ _ _ _ rfl (@pa2 _ _ _ _ _ pe_str (@pe_tupPK _ K _ _ _ _ rfl (@pa2 _ _ _ _ _ (pv 4) (pe_callTy (call_tuplePN (K:=K) rfl) rfl T.z_tuple boot_tuple (@pa1 _ _ _ (pv 13) (by rfl))) (by rfl) (by rfl))) (by rfl) (by rfl))) (by rfl) (by rfl))) (by rfl) (by rfl))) (nomark _)) (@pss_one _ _ _ (@ps_ret _ _ _ _ pe_bl)) pss_nil) (@pss_cons _ _ _ _ _ (@ps_if _ _ _ _ _ _ _ _ (pt_cmpR (yX hr.units) (aC rfl (cs0 (NL:=["where","told"]) rfl (by decide +kernel) (by decide +kernel)) (az (K:=K) rfl (0,Dj,DV,@pa_cons _ _ _ _ _ (pv 8) (@pa3 _ _ _ _ _ _ _ (pv 6) (pv 12) (pv 10) (by rfl) (by rfl) (by rfl)) (by rfl))) (λ_ _ _ _=>(bL (K:=K) (n:=2) rfl rfl (am (ag (i:=0) (show List.Nodup (α:=Str) ["where","told"] by decide +kernel) rfl (Or.inl rfl)) (am (ag (i:=1) (show List.Nodup (α:=Str) ["where","told"] by decide +kernel) rfl (Or.inl rfl)) aI)))) (λ_ _ _ _=>(pv 1))) (pv 14) (nomark _)) (@pss_one _ _ _ (@ps_ret _ _ _ _ pe_bl)) pss_nil) (@pss_cons _ _ _ _ _ (@ps_set _ _ 18 _ _ _ _ aO.nd rfl (Or.inl rfl) (0,C9,DE,@pa2 _ _ _ _ _ (pv 8) (pv 6) (by rfl) (by rfl)) (by rfl) (.inl rfl)) (@pss_cons _ _ _ _ _ (@ps_set _ _ 19 _ _ _ _ aO.nd rfl (Or.inl rfl) (@pe_tupPK _ K _ _ _ _ rfl (@pa2 _ _ _ _ _ pe_str (@pe_tupPK _ K _ _ _ _ rfl (@pa2 _ _ _ _ _ (@pi1 K _ _ _ _ _ _ _ rfl (@pi1 K _ _ _ _ _ _ _ rfl (pv 6))) (@pe_tupPK _ K _ _ _ _ rfl (@pa2 _ _ _ _ _ pe_str (@pe_op _ _ _ _ _ _ _ _ (gu (K:=K) rfl) (bP (cg (K:=K) rfl) (pv 5) cz (cA (@pe_un _ _ _ _ _ _ un_neg pe_int))) (@pe_tupPK _ K _ _ _ _ rfl (@pa2 _ _ _ _ _ (@pe_tupPK _ K _ _ _ _ rfl (@pa2 _ _ _ _ _ pe_str (@pe_op _ _ _ _ _ _ _ _ (gu (K:=K) rfl) (@pi1 K _ _ _ _ _ _ _ rfl (pv 1)) (@pe_tupPK _ K _ _ _ _ rfl (@pa1 _ _ _ (@pe_tupPK _ K _ _ _ _ rfl (@pa2 _ _ _ _ _ pe_str (@pe_tupPK _ K _ _ _ _ rfl (@pa3 _ _ _ _ _ _ _ pe_str pe_int pe_int (by rfl) (by rfl) (by rfl))) (by rfl) (by rfl))) (by rfl)))) (by rfl) (by rfl))) pe_int (by rfl) (by rfl)))) (by rfl) (by rfl))) (by rfl) (by rfl))) (by rfl) (by rfl))) (by rfl) (.inl rfl)) (@pss_one _ _ _ (@ps_if _ _ _ _ _ _ _ _ (pt_cmpR (qT (K:=K) rfl hr.units) (0,El,Eo,@pa3 _ _ _ _ _ _ _ (pv 18) (pv 19) (pv 17) (by rfl) (by rfl) (by rfl)) (pv 12) (nomark _)) (@pss_one _ _ _ (@ps_ret _ _ _ _ pe_bl)) pss_nil)))))))))))))))))))))) (@pss_one _ _ _ (@ps_ret _ _ _ _ pe_bl)))),?_⟩
 refine xW (K:=K) (d:=.tup [.str "record",.tup [.tup [.str "a",.tup [.str "number",.int 0,.int 9]],.tup [.str "id",.tup [.str "number",.int (-3),.int 40]]]]) ?_ λvi H1 g1 hvi=>?_
 ·(repeat' first | with_reducible refine tI ?_ ?_ | with_reducible exact vS | with_reducible exact xT | with_reducible exact xS | refine xV ?_ | refine xU ?_)
 replace hvi:IsP K H1 (ak kA) vi:=hvi;replace hS:=g1.seq hS;have hlen:(ns.map V.int).length=ns.length:=aAb _;refine ⟨5,rfl,by decide,by decide,e7 (lo:=0) (n:=(5:Int).toNat) (λi σ H'=>Same H1 H'/\∃ v2 v3 v4 v5 v6 v7 v8 v9 v10 v11 v12 v13 v14 v15 v16 v17 v18 v19,σ=[some (.ref a),some vi,v2,v3,v4,v5,v6,v7,v8,v9,v10,v11,v12,v13,v14,v15,v16,v17,v18,v19]) ⟨Same.refl H1,_,_,_,_,_,_,_,_,_,_,_,_,_,_,_,_,_,_,rfl⟩ ?_ ?_⟩
 rotate_left
 ·rintro σ H2 ⟨g2,v2,v3,v4,v5,v6,v7,v8,v9,v10,v11,v12,v13,v14,v15,v16,v17,v18,v19,rfl⟩;exact q H2
 rintro i σ H2 hi ⟨g2,v2,v3,v4,v5,v6,v7,v8,v9,v10,v11,v12,v13,v14,v15,v16,v17,v18,v19,rfl⟩;have i5:i < 5:=hi;refine ⟨_,rfl,_,rfl,a,ns,_,rfl,g2.seq hS,by lia,by lia,by lia,λr n H3 hr3 s3 e3=>?_⟩;have hrH:H1 r=none:=g2.free hr3;have keep:∀ {Ha Hb:Hp},Same H1 Ha->But r Ha Hb->Same H1 Hb:=λs b c o e=>b c o (af e hrH) (s c o e);have S3:=g2.trans s3
 clear g2 s3 hr3
 refine ⟨sz2,λlw hlw=>?_⟩;have g4:=ae hlw (.lst [V.str "rows",.str "list"]);have e4:(upd H3 lw (.lst [V.str "rows",.str "list"])) lw=some (.lst [V.str "rows",.str "list"]):=aa;have nlw:lw≠r:=(af e3 hlw).symm
 generalize upd H3 lw (.lst [V.str "rows",.str "list"])=H4 at g4 e4 ⊢
 refine ⟨_,rfl,r,n,2,rfl,g4 _ _ e3,by decide,by decide,λd c5 H5 d0 d2 b5 r5=>?_⟩;obtain ⟨b,hb⟩:∃ b:Bool,atI [V.str "rows",V.str "list"] d=some (.str (wW b)):=by
  rcases (by lia:d=0\/d=1) with rfl | rfl
  ·exact ⟨false,rfl⟩
  ·exact ⟨true,rfl⟩
 refine ⟨lw,_,_,_,rfl,rfl,SqL.of (b5 _ _ nlw e4),hb,?_⟩;have S5:=keep (S3.trans g4) b5
 clear hb d0 d2 b5 e4 g4 nlw hlw S3 e3
 have hvi5:=hvi.same S5;refine ⟨_,rfl,[.str "rows",.str "id",ak kA,.int 8],.cons .str (.cons .str (.cons hvi5 (.cons .int .nil))),(by show 4<=sizeLine;decide),λu1 H6 g6 h6=>?_⟩;refine ⟨_,rfl,[.str "list",ak kA,.int 8],.cons .str (.cons (hvi5.same g6) (.cons .int .nil)),sz3,λu2 H7 g7 h7=>?_⟩;refine ⟨sz2,λli hli=>?_⟩;have g8:=ae hli (.lst [u1,u2]);have e8:(upd H7 li (.lst [u1,u2])) li=some (.lst [u1,u2]):=aa
 generalize upd H7 li (.lst [u1,u2])=H8 at g8 e8 ⊢
 refine ⟨_,rfl,rfl,?_⟩;have ew:decide (V.str (wW b)=V.str "list")=b:=by cases b <;> decide
 rw [ew];refine .inr ⟨b,rfl,?_⟩;obtain ⟨vn,hn1,hn2⟩:∃ vn,atI [u1,u2] (if b=true then 1 else 0)=some vn/\IsP K H8 (inK b kA) vn:=by
  cases b with
  | false=>exact ⟨u1,rfl,(h6.same g7).same g8⟩
  | true=>exact ⟨u2,rfl,h7.same g8⟩
 refine ⟨li,_,_,vn,rfl,rfl,SqL.of e8,hn1,?_⟩;have g58:=(g6.trans g7).trans g8;have r8:=g58 _ _ r5;have hvi8:=hvi5.same g58;have S8:=S5.trans g58
 clear h6 h7 g6 g7 g8 e8 hn1 ew r5 g58 hvi5 S5 hli
 refine isN λw1 H9 g9 h9=>?_;refine cZ h9 λw2 H10 g10 h10=>?_;refine ⟨_,rfl,cZ ((hn2.same g9).same g10) λw3 H11 g11 h11=>?_⟩;refine ⟨[_,_],.cons (h10.same g11) (.cons h11 .nil),sz2,λw4 H12 g12 h12=>?_⟩;refine cZ h12 λvs H13 g13 hvs=>?_;replace hvs:IsP K H13 (shK b kA) vs:=hvs;have gA:=(g9.trans g10).trans ((g11.trans g12).trans g13);have hvi13:=hvi8.same gA;have hvn13:=hn2.same gA;have r13:=gA _ _ r8;have S13:=S8.trans gA
 clear h9 h10 h11 h12 g9 g10 g11 g12 g13 gA hn2 hvi8 r8 S8
 refine ⟨_,rfl,r,c5,7,rfl,r13,by decide,by decide,λl c14 H14 l0 l7 b14 r14=>?_⟩;have hvi14:=hvi13.but r13 b14;have hvn14:=hvn13.but r13 b14;have hvs14:=hvs.but r13 b14;have S14:=keep S13 b14
 clear hvi13 hvn13 hvs r13 b14 S13
 refine ⟨[.str "r",.str "each"],.cons .str (.cons .str .nil),sz2,λw1 H15 g15 h15=>?_⟩;refine isN λw2 H16 g16 h16=>?_;refine ⟨_,rfl,[.str "put",.str "z",bj 0 9,.int l],.cons .str (.cons .str (.cons h16 (.cons .int .nil))),(by show 4<=sizeLine;decide),λw3 H17 g17 h17=>?_⟩;refine ⟨[p2,puD l],.cons ((h15.same g16).same g17) (.cons h17 .nil),sz2,λvc H18 g18 hvc=>?_⟩;have gA:=(g15.trans g16).trans (g17.trans g18);have hvi18:=hvi14.same gA;have hvn18:=hvn14.same gA;have hvs18:=hvs14.same gA;have r18:=gA _ _ r14;have S18:=S14.trans gA
 clear h15 h16 h17 g15 g16 g17 g18 gA hvi14 hvn14 hvs14 r14 S14
 refine ⟨_,rfl,r,c14,true,rfl,r18,λph xh hs c19 H19 b19 hph eh dh drh r19=>?_⟩;have hvi19:=hvi18.but r18 b19;have hvn19:=hvn18.but r18 b19;have hvs19:=hvs18.but r18 b19;have hvc19:=hvc.but r18 b19;have nhr:ph≠r:=(af r18 hph).symm;have S19:=keep S18 b19;replace dh:IsPs K H19 (hs.map λt=>ak (itZ t)) xh:=dh
 clear hvi18 hvn18 hvs18 hvc b19 S18 hph
 refine ⟨_,rfl,r,c19,10,rfl,r19,by decide,by decide,λnm c20 H20 _ _ b20 r20=>?_⟩;have eh20:=b20 _ _ nhr eh;have dh20:=dh.but r19 b20;refine cZ .int λw1 H21 g21 h21=>?_;refine ⟨_,rfl,_,rfl,ph,xh,_,rfl,SqL.of (g21 _ _ eh20),dh20.same g21,λw2 H22 g22 h22=>?_⟩;refine cZ h22 λw3 H23 g23 h23=>cZ h23 λw4 H24 g24 h24=>?_;refine ⟨[.tup [.str "n",.int nm],_],.cons (((h21.same g22).same g23).same g24) (.cons h24 .nil),sz2,λw5 H25 g25 h25=>cZ h25 λvm H26 g26 hvm=>?_⟩;have gA:=((g21.trans g22).trans (g23.trans g24)).trans (g25.trans g26);replace hvm:IsP K H26 (cy b nm (ixL b itZ hs)) vm:=by
  show IsP K H26 (ak [("n",.int nm),("r",.tup [.str (wW b),.tup ((ixL b itZ hs).map λp=>ak p.2)])]) vm;rw [vO];exact hvm
 have B26:Bag K H26 b l nm hs vi vn vs vc vm ph xh:=⟨(hvi19.but r19 b20).same gA,(hvn19.but r19 b20).same gA,(hvs19.but r19 b20).same gA,(hvc19.but r19 b20).same gA,hvm,gA _ _ eh20,dh20.same gA⟩;have r26:=gA _ _ r20;have S26:=(keep S19 b20).trans gA
 clear hvi19 hvn19 hvs19 hvc19 S19 dh eh eh20 dh20 b20 r19 r20 g21 g22 g23 g24 g25 g26 h21 h22 h23 h24 h25 gA hvm
 refine ⟨_,rfl,r,c20,false,rfl,r26,λpi xi rs c27 H27 b27 hpi ei di dri r27=>?_⟩;have B27:=B26.but r26 nhr b27;have nir:pi≠r:=(af r26 hpi).symm;have nhi:ph≠pi:=af B26.h hpi;have S27:=keep S26 b27;have hpiH:H1 pi=none:=S26.free hpi;replace di:IsPs K H27 (rs.map λt=>ak (itF t)) xi:=di
 clear B26 b27 S26 hpi
 have lxi:=di.length;rw [aAb] at lxi;refine vT ?_;dsimp only [];refine rE (λσ' H'=>∃ (as:List (Int×Int×Int)) (xi':List V) (c':Int),σ'=[some (.ref a),some vi,some (.int (0+(i:Int))),some (.ref r),some (.str (wW b)),some vn,some vs,some (.int l),some vc,some (.ref ph),some vm,some (.ref pi),v12,v13,v14,v15,v16,v17,v18,v19]/\Same H1 H'/\Bag K H' b l nm hs vi vn vs vc vm ph xh/\H' pi=some (.lst xi')/\IsPs K H' (as.map λt=>ak (itF t)) xi'/\as.length<=8/\(b=false->(as.map (·.1)).Nodup)/\H' r=some (.lst [.int c'])) ?_ (λk=>?_)
 rotate_left
 ·have l8:=dri.2
  cases b with
  | false =>
   refine ⟨_,rfl,rfl,_,rfl,iteN (aD (by decide)) ?_⟩;refine aL (k _ _ ⟨rs,xi,c27,rfl,S27,B27,ei,di,l8,λ_=>?_,r27⟩);exact dri.1.imp λh=>by lia
  | true =>
   refine ⟨_,rfl,rfl,_,rfl,aQ ?_⟩;refine ⟨_,rfl,pi,xi,rfl,.inl (SqL.of ei),_,_,rfl,rfl,_,rfl,?_⟩
   by_cases c:xi.length > 1
   ·rw [decide_eq_true (by lia)];refine aG ?_;refine ⟨_,rfl,.inl ⟨rfl,_,SqL.of ei⟩,_,rfl,_,rfl,pi,xi,rfl,.inl (SqL.of ei),r,c27,(xi.length:Int),rfl,r27,by lia,by lia,λd c29 H29 d0 dl b29 r29=>?_⟩;have e29:=b29 _ _ nir ei;have di29:=di.but r27 b29;have B29:=B27.but r27 nhr b29;have S29:=keep S27 b29;obtain ⟨y,hy⟩:∃ y,xi[xi.length - 1]?=some y:=⟨_,aAj (by lia)⟩;obtain ⟨dy,hdy,hpy⟩:=di29.get' hy;rw [aAc] at hdy;obtain ⟨ty,hty,rfl⟩:=aAd.mp hdy;refine ⟨_,rfl,.inl ⟨rfl,_,SqL.of e29⟩,pi,xi,y,rfl,rfl,e29,hy,?_⟩;have bp:But pi H29 (upd H29 pi (.lst xi.dropLast)):=But.put;have ep:(upd H29 pi (.lst xi.dropLast)) pi=some (.lst xi.dropLast):=aa;have dp:=di29.but e29 bp;have hpy':=hpy.but e29 bp;have Bp:=B29.but e29 nhi bp;have rp:=bp _ _ nir.symm r29;have Sp:Same H1 (upd H29 pi (.lst xi.dropLast)):=λc o ec=>bp c o (af ec hpiH) (S29 c o ec)
    generalize upd H29 pi (.lst xi.dropLast)=H30 at bp ep dp hpy' Bp rp Sp ⊢
    have ld:xi.dropLast.length=xi.length - 1:=aBz;refine ⟨pi,xi.dropLast,d,y,rfl,rfl,ep,d0,by lia,by lia,?_⟩;have bq:But pi H30 (upd H30 pi (.lst (xi.dropLast.take d.toNat++y :: xi.dropLast.drop d.toNat))):=But.put;refine k _ _ ⟨rs.dropLast.take d.toNat++ty :: rs.dropLast.drop d.toNat,_,c29,rfl,λc o ec=>bq c o (af ec hpiH) (Sp c o ec),Bp.but ep nhi bq,aa,?_,?_,nofun,bq _ _ nir.symm rp⟩
    ·have dd:IsPs K H30 ((rs.dropLast).map λt=>ak (itF t)) xi.dropLast:=by
      have h:=dp.take (xi.length - 1);rw [<- aB8,<- lxi,<- aAb (as:=rs) (f:=λt=>ak (itF t)),<- aB8] at h;rw [List.map_dropLast];exact h
     refine IsPs.but ep bq ?_;rw [aAy,aAz,List.map_take,List.map_drop];exact (dd.take _).append (.cons hpy' (dd.drop _))
    ·rw [aAP,aAx,aAp,aBb,aBz];lia
   ·rw [decide_eq_false (by lia)];exact aL (k _ _ ⟨rs,xi,c27,rfl,S27,B27,ei,di,l8,nofun,r27⟩)
 rintro σ' H28 ⟨as,xa,c28,rfl,S28,B28,ea,da,l8,ndA,r28⟩;refine ⟨_,rfl,r,c28,10,rfl,r28,by decide,by decide,λnn c31 H31 _ _ b31 r31=>?_⟩;have B31:=B28.but r28 nhr b31;have ea31:=b31 _ _ nir ea;have da31:=da.but r28 b31;have S31:=keep S28 b31
 clear B28 ea da S28 b31 r28
 refine cZ .int λw1 H32 g32 h32=>?_;refine ⟨_,rfl,_,rfl,pi,xa,_,rfl,SqL.of (g32 _ _ ea31),da31.same g32,λw2 H33 g33 h33=>?_⟩;refine cZ h33 λw3 H34 g34 h34=>cZ h34 λw4 H35 g35 h35=>?_;refine ⟨[.tup [.str "n",.int nn],_],.cons (((h32.same g33).same g34).same g35) (.cons h35 .nil),sz2,λw5 H36 g36 h36=>cZ h36 λvr H37 g37 hvr=>?_⟩;have gA:=((g32.trans g33).trans (g34.trans g35)).trans (g36.trans g37);replace hvr:IsP K H37 (cy b nn (ixL b itF as)) vr:=by
  show IsP K H37 (ak [("n",.int nn),("r",.tup [.str (wW b),.tup ((ixL b itF as).map λp=>ak p.2)])]) vr;rw [vO];exact hvr
 have B37:=B31.same gA;have ea37:=gA _ _ ea31;have da37:=da31.same gA;have S37:=S31.trans gA
 clear B31 ea31 da31 S31 g32 g33 g34 g35 g36 g37 h32 h33 h34 h35 h36 gA r31
 refine ⟨(by show 0<=sizeLine;decide),λpd hpd=>?_⟩;have g38:=ae hpd (.lst []);have e38:(upd H37 pd (.lst [])) pd=some (.lst []):=aa;have ndi:pi≠pd:=af ea37 hpd;have ndh:ph≠pd:=af B37.h hpd;have hpdH:H1 pd=none:=S37.free hpd
 generalize upd H37 pd (.lst [])=H38 at g38 e38 ⊢
 refine ⟨(by show 0<=sizeLine;decide),λpw hpw=>?_⟩;have g39:=ae hpw (.lst []);have e39:(upd H38 pw (.lst [])) pw=some (.lst []):=aa;have nwi:pi≠pw:=af (g38 _ _ ea37) hpw;have nwh:ph≠pw:=af (g38 _ _ B37.h) hpw;have nwd:pd≠pw:=af e38 hpw;have hpwH:H1 pw=none:=(S37.trans g38).free hpw;have ed39:=g39 _ _ e38
 generalize upd H38 pw (.lst [])=H39 at g39 e39 ed39 ⊢
 have gB:=g38.trans g39;have B39:=B37.same gB;have ea39:=gB _ _ ea37;have da39:=da37.same gB;have hvr39:=hvr.same gB;have S39:=S37.trans gB
 clear B37 ea37 da37 hvr S37 g38 g39 gB e38 hpd hpw
 have lxa:=da39.length;rw [aAb] at lxa;have lxh:=B39.d.length;rw [aAb] at lxh;refine ⟨_,rfl,pi,xa,rfl,.inl (SqL.of ea39),_,rfl,by lia,by lia,e7 (lo:=0) (n:=((xa.length:Nat):Int).toNat) (λj σ H'=>∃ (ys:List V) (v15 v16:Option V),σ=[some (.ref a),some vi,some (.int (0+(i:Int))),some (.ref r),some (.str (wW b)),some vn,some vs,some (.int l),some vc,some (.ref ph),some vm,some (.ref pi),some vr,some (.ref pd),some (.ref pw),v15,v16,v17,v18,v19]/\Same H1 H'/\Bag K H' b l nm hs vi vn vs vc vm ph xh/\H' pi=some (.lst xa)/\IsPs K H' (as.map λt=>ak (itF t)) xa/\IsP K H' (cy b nn (ixL b itF as)) vr/\H' pd=some (.lst ys)/\IsPs K H' ((as.zipIdx.take j).map λp=>ak (vQ b hs l p.2 p.1)) ys/\H' pw=some (.lst ((as.zipIdx.take j).map λp=>V.str (kmS (bS b hs p.2 p.1.1)))))
  ⟨[],_,_,rfl,S39,B39,ea39,da39,hvr39,ed39,.nil,e39⟩ ?_ ?_⟩
 ·rintro j σ H41 hj ⟨ys,v15',v16',rfl,S41,B41,ea41,da41,hvr41,ed41,dd41,ew41⟩;have hj:j < xa.length:=by lia
  rw [Int.zero_add (j:Int)];obtain ⟨u,hu⟩:∃ u,xa[j]?=some u:=⟨_,aAj hj⟩;obtain ⟨d,hd,hpu⟩:=da41.get' hu;rw [aAc] at hd;obtain ⟨t,ht,rfl⟩:=aAd.mp hd;have hz:as.zipIdx[j]?=some (t,j):=by rw [aBl,ht];simp
  have ly:=dd41.length;rw [aAb,aAp,aBq] at ly;refine ⟨_,rfl,.inl ⟨rfl,_,SqL.of ed41⟩,_,rfl,_,rfl,pi,xa,_,u,rfl,rfl,SqL.of ea41,fc hu,_,_,_,hpu,rfl,rfl,λv1 hv1=>?_⟩;refine ⟨_,rfl,_,rfl,_,rfl,_,rfl,_,rfl,b,as,hs,j,t,l,pi,ph,xa,xh,rfl,ea41,da41,B41.h,B41.d,ht,λH42 g42=>?_⟩;refine cZ .int λv2 H43 g43 h43=>?_;refine ⟨[.tup [.str "z",.int (iE b hs j t.1 l)]],.cons h43 .nil,sz1,λv3 H44 g44 h44=>?_⟩;have g144:=(g42.trans g43).trans g44;refine ⟨_,_,hv1.same g144,h44,aAK (ai (by show 3<=1000;decide)),λv5 H45 g45 h45=>?_⟩;refine cZ h45 λv6 H46 g46 h46=>?_;have gA:=g144.trans (g45.trans g46);have ed46:=gA _ _ ed41;refine ⟨pd,ys,v6,rfl,rfl,ed46,ai (by lia),?_⟩;have bd:But pd H46 (upd H46 pd (.lst (ys++[v6]))):=But.put;have ed47:(upd H46 pd (.lst (ys++[v6]))) pd=some (.lst (ys++[v6])):=aa;have B47:=(B41.same gA).but ed46 ndh bd;have ea47:=bd _ _ ndi (gA _ _ ea41);have da47:=(da41.same gA).but ed46 bd;have hvr47:=(hvr41.same gA).but ed46 bd;have ew47:=bd _ _ nwd.symm (gA _ _ ew41);have S47:Same H1 (upd H46 pd (.lst (ys++[v6]))):=λc o ec=>bd c o (af ec hpdH) (gA _ _ (S41 c o ec));have hpu47:=(hpu.same gA).but ed46 bd;have dd47:IsPs K (upd H46 pd (.lst (ys++[v6]))) ((as.zipIdx.take (j+1)).map λp=>ak (vQ b hs l p.2 p.1)) (ys++[v6]):=by
   rw [aAw,hz,aAy];exact ((dd41.same gA).append (.cons h46 .nil)).but ed46 bd
  generalize upd H46 pd (.lst (ys++[v6]))=H47 at bd ed47 B47 ea47 da47 hvr47 ew47 S47 hpu47 dd47 ⊢
  clear g42 g43 g44 g45 g46 g144 gA h43 h44 h45 h46 ed46 bd B41 ea41 da41 hvr41 ed41 dd41 ew41 S41 hpu
  refine ⟨_,rfl,_,rfl,ph,xh,rfl,.inl (SqL.of B47.h),_,_,rfl,rfl,?_⟩;refine vT ?_;dsimp only [];refine rE (λσ' H'=>σ'=[some (.ref a),some vi,some (.int (0+(i:Int))),some (.ref r),some (.str (wW b)),some vn,some vs,some (.int l),some vc,some (.ref ph),some vm,some (.ref pi),some vr,some (.ref pd),some (.ref pw),some (.int (j:Int)),some (.bl (bS b hs j t.1)),v17,v18,v19]/\Same H47 H') ?_ (λk=>?_)
  ·rintro σ' H48 ⟨rfl,g48⟩;have ew48:=g48 _ _ ew47;refine ⟨_,rfl,.inl ⟨rfl,_,SqL.of ew48⟩,sz2,λlk hlk=>?_⟩;have g49:=ae hlk (.lst [V.str "made",.str "kept"]);have e49:(upd H48 lk (.lst [V.str "made",.str "kept"])) lk=some (.lst [V.str "made",.str "kept"]):=aa
   generalize upd H48 lk (.lst [V.str "made",.str "kept"])=H49 at g49 e49 ⊢
   refine ⟨_,rfl,.inr ⟨bS b hs j t.1,rfl,?_⟩⟩;have hk:atI [V.str "made",.str "kept"] (if bS b hs j t.1=true then 1 else 0)=some (.str (kmS (bS b hs j t.1))):=by
    cases bS b hs j t.1 <;> rfl
   refine ⟨lk,_,_,_,rfl,rfl,SqL.of e49,hk,?_⟩;have gA:=g48.trans g49;have ew49:=gA _ _ ew47;have lw:((as.zipIdx.take j).map λp=>V.str (kmS (bS b hs p.2 p.1.1))).length<=8:=by
    rw [aAb,aAp,aBq];lia
   refine ⟨pw,_,_,rfl,rfl,ew49,ai (by lia),?_⟩;have bw:But pw H49 (upd H49 pw (.lst (((as.zipIdx.take j).map λp=>V.str (kmS (bS b hs p.2 p.1.1)))++[.str (kmS (bS b hs j t.1))]))):=But.put;refine ⟨ys++[v6],_,_,rfl,λc o ec=>bw c o (af ec hpwH) (gA _ _ (S47 c o ec)),(B47.same gA).but ew49 nwh bw,bw _ _ nwi (gA _ _ ea47),(da47.same gA).but ew49 bw,(hvr47.same gA).but ew49 bw,bw _ _ nwd (gA _ _ ed47),(dd47.same gA).but ew49 bw,?_⟩;rw [aa,aAw,hz,aAy]
   rfl
  ·cases b with
   | true =>
    refine ⟨_,rfl,rfl,_,rfl,iteN (aD (by decide)) (k _ _ ⟨?_,Same.refl _⟩)⟩;have e:decide ((j:Int) < (xh.length:Int))=bS true hs j t.1:=by
     show _=decide (j < hs.length);rw [decide_eq_decide];lia
    rw [<- e]
    rfl
   | false =>
    refine ⟨_,rfl,rfl,_,rfl,aQ ?_⟩;refine ⟨_,rfl,_,rfl,pi,xa,_,u,rfl,rfl,SqL.of ea47,fc hu,_,_,_,hpu47,rfl,rfl,λv7 hv7=>?_⟩;refine ⟨v7,itF t,rfl,hv7,ndF t,by show 2<=1000;decide,λp8 H48 hp8 g48 dq8=>?_⟩;refine ⟨p8,_,rfl,lu dq8 (show aq (itF t) "id" = some (.int t.1) from rfl),?_⟩;have eh48:=g48 _ _ B47.h;have dh48:=B47.d.same g48;refine ⟨_,rfl,ph,rfl,⟨_,SqL.of eh48⟩,λm hm=>?_⟩;refine ax (K:=K) (xs:=xh) (λn zs σ H'=>Same H48 H'/\H' m=some (.lst zs)/\zs=(hs.take n).map (λo=>V.int o.1)/\∃ v1,σ=[v1]) ⟨ae hm _,aa,rfl,none,rfl⟩ (λn zs σ H' _ pv=>SqL.of (pv.1 _ _ eh48)) ?_ ?_
    ·rintro n w zs σ H49 N hw ⟨s49,e49,rfl,v1',rfl⟩ next;obtain ⟨dw,hdw,hpw'⟩:=dh48.get' hw;rw [aAc] at hdw;obtain ⟨o,ho,rfl⟩:=aAd.mp hdw;have ln:n < hs.length:=(aAg.mp ho).1;refine ⟨_,rfl,_,_,_,hpw'.same s49,rfl,rfl,λv9 hv9=>?_⟩;refine ⟨v9,itZ o,rfl,hv9,ndZ o,by show 3<=1000;decide,λp10 H50 hp10 g50 dq10=>?_⟩;refine ⟨p10,_,rfl,lu dq10 (show aq (itZ o) "id" = some (.int o.1) from rfl),?_⟩;have lh:=drh.2;refine ⟨g50 _ _ e49,ai (by rw [aAb,aAp];lia),next _ _ _ ⟨ar hm (s49.trans g50),aa,?_,_,rfl⟩⟩;rw [aAw,ho,aAy]
     rfl
    ·rintro zs σ H49 ⟨s49,e49,rfl,v1',rfl⟩;rw [<- lxh,aAt] at e49;refine ⟨m,_,rfl,.inl (SqL.of e49),rfl,tJ _,?_⟩;rw [rF];exact k _ _ ⟨rfl,g48.trans s49⟩
 rintro σ H40 ⟨ys,v15',v16',rfl,S40,B40,ea40,da40,hvr40,ed40,dd40,ew40⟩;have lz:((xa.length:Nat):Int).toNat=as.zipIdx.length:=by rw [aBq,lxa];rfl
 rw [lz,aAt] at dd40 ew40;have lh8:=drh.2;have hIt:Its b (ixL b itF as):=vP l8 λt=>rfl;have hHt:Its b (ixL b itZ hs):=vP lh8 λt=>rfl;have nI:=yv (g:=itF) ndA;have nH:((ixL b itZ hs).map (·.1)).Nodup:=yv λ_=>drh.1.imp λh=>by lia
 refine ⟨_,rfl,_,rfl,_,rfl,_,rfl,l,b,nn,nm,ixL b itF as,ixL b itZ hs,vc,vs,vr,vm,rfl,B40.c,B40.s,hvr40,B40.m,hIt,hHt,nI,nH,xX b as,rG b hs,l0,by lia,λvf H41 g41 hvf=>?_⟩;have B41:=B40.same g41;have hvr41:=hvr40.same g41;have S41:=S40.trans g41;have ew41:=g41 _ _ ew40;refine ⟨_,rfl,_,rfl,_,_,_,hvr41,rfl,rfl,λw1 hw1=>⟨_,_,_,hw1,rfl,at0 _ _,λw2 hw2=>?_⟩⟩;refine ⟨_,rfl,_,rfl,pd,ys,_,rfl,SqL.of (g41 _ _ ed40),dd40.same g41,λw3 H42 g42 h42=>?_⟩;refine cZ h42 λw4 H43 g43 h43=>cZ h43 λw5 H44 g44 h44=>?_;refine ⟨[.tup [.str "n",.int nn],_],.cons (((hw2.same g42).same g43).same g44) (.cons h44 .nil),sz2,λw6 H45 g45 h45=>cZ h45 λw7 H46 g46 h46=>?_⟩;have gA:=((g42.trans g43).trans (g44.trans g45)).trans g46;replace h46:IsP K H46 (cy b nn (ledI false (putZ (ixL b itZ hs) l) (ixL b itF as))) w7:=by
  show IsP K H46 (ak [("n",.int nn),("r",.tup [.str (wW b),.tup ((ledI false (putZ (ixL b itZ hs) l) (ixL b itF as)).map λp=>ak p.2)])]) w7;rw [zT];exact h46
 refine ⟨_,_,(hvf.same gA).d,h46.d,o0 (BW b hs as l),_,rfl,?_⟩;rw [dW];refine aL ?_;have B46:=B41.same gA;have hvr46:=hvr41.same gA;have hvf46:=hvf.same gA;have S46:=S41.trans gA;have ew46:=gA _ _ ew41
 clear B40 B41 hvr40 hvr41 S40 S41 ew40 ew41 hvf g41 g42 g43 g44 g45 g46 gA h42 h43 h44 h45 h46 hw1 hw2 dd40 ed40 ea40 da40
 refine ⟨_,rfl,_,rfl,_,rfl,_,rfl,l,b,nn,nm,ixL b itF as,ixL b itZ hs,vc,vs,vr,vm,rfl,B46.c,B46.s,hvr46,B46.m,hIt,hHt,nI,nH,rG b hs,l0,by lia,λa1 ys1 H47 g47 ha1 e47 d47=>?_⟩;have ly1:=d47.length;rw [aAb] at ly1;refine ⟨a1,rfl,⟨_,SqL.of e47⟩,λm hm=>?_⟩;refine ax (K:=K) (xs:=ys1) (λn zs σ H'=>Same H47 H'/\H' m=some (.lst zs)/\zs=((ixL b itF as).take n).map (λp=>V.str (kmW (ixL b itZ hs) p.1))/\∃ v1 v2,σ=[v1,v2]) ⟨ae hm _,aa,rfl,none,none,rfl⟩ (λn zs σ H' _ pv=>SqL.of (pv.1 _ _ e47)) ?_ ?_
 ·rintro n w zs σ H48 N hw ⟨s48,e48,rfl,w1,w2,rfl⟩ next;obtain ⟨dw,hdw,hpw'⟩:=d47.get' hw;rw [aAc] at hdw;obtain ⟨p0,hp0,rfl⟩:=aAd.mp hdw;obtain ⟨c,y1,y2,rfl,hb,q1,q2⟩:=aA (hpw'.same s48);obtain rfl:=bi q2;have h8:=hIt.le;refine ⟨c,_,rfl,hb,rfl,_,_,rfl,_,_,rfl,rfl,?_⟩;refine ⟨_,rfl,e48,ai (by rw [aAb,aAp];lia),next _ _ _ ⟨ar hm s48,aa,?_,_,_,rfl⟩⟩;rw [aAw,hp0,aAy]
  rfl
 rintro zs σ H48 ⟨s48,e48,rfl,w1,w2,rfl⟩;rw [<- ly1,aAt] at e48;have gA:=g47.trans s48;have ez:((ixL b itF as).map λp=>V.str (kmW (ixL b itZ hs) p.1))=(wsL b hs as).map V.str:=by
  rw [<- Be,aAv]
  rfl
 rw [ez] at e48;have ew48:H48 pw=some (.lst ((wsL b hs as).map V.str)):=by
  rw [gA _ _ ew46,aAv]
  rfl
 refine ⟨_,rfl,m,pw,_,_,(wsL b hs as).map Dt.str,(wsL b hs as).map Dt.str,rfl,rfl,SqL.of e48,SqL.of ew48,qz _,qz _,vX _,_,rfl,?_⟩;rw [gX];refine aL ?_;have B48:=B46.same gA;have hvr48:=hvr46.same gA;have hvf48:=hvf46.same gA;have S48:=S46.trans gA
 clear B46 hvr46 hvf46 S46 ew46 gA g47 s48 e48 ew48 ez d47 e47 ly1 hm
 refine ⟨_,rfl,_,rfl,b,l,vc,vs,rfl,B48.c,B48.s,l0,by lia,λva H49 g49 hva=>?_⟩;have B49:=B48.same g49;refine ⟨_,rfl,_,_,_,B49.s,rfl,rfl,λw1 hw1=>⟨_,_,_,hw1,rfl,at0 _ _,λw2 hw2=>?_⟩⟩;obtain ⟨ww,wl,e50,e51⟩:=zU b;have hn:IsP K H49 (.tup (.str ww :: wl)) vn:=by rw [<- e50];exact B49.n
 refine ⟨_,rfl,_,rfl,_,rfl,_,hn,λw3 H50 g50 h50=>?_⟩;refine ⟨_,rfl,_,_,_,B49.i.same g50,rfl,rfl,λw4 hw4=>?_⟩;refine isN λw5 H51 g51 h51=>cZ h51 λw6 H52 g52 h52=>?_;refine ⟨[.tup [.str "z",bj 0 9]],.cons h52 .nil,sz1,λw7 H53 g53 h53=>?_⟩;refine ⟨_,_,((hw4.same g51).same g52).same g53,h53,aAK (ai (by show 3<=1000;decide)),λw8 H54 g54 h54=>?_⟩;refine cZ h54 λw9 H55 g55 h55=>?_;refine ⟨[ak kZ,.int 8],.cons h55 (.cons .int .nil),sz2,λw10 H56 g56 h56=>?_⟩;have gB:=((g51.trans g52).trans (g53.trans g54)).trans (g55.trans g56);refine ⟨_,_,h50.same gB,h56,aAK (ai (by
  rw [<- aAP,e51]
  cases b <;> decide)),λw11 H57 g57 h57=>?_⟩
 rw [e51,<- x8] at h57;refine cZ h57 λw12 H58 g58 h58=>?_;have gC:=(g50.trans gB).trans (g57.trans g58);refine ⟨[.tup [.str "n",bj 0 9],_],.cons (hw2.same gC) (.cons h58 .nil),sz2,λw13 H59 g59 h59=>cZ h59 λvb H60 g60 hvb=>?_⟩;replace hvb:IsP K H60 (shK b kZ) vb:=hvb;have gD:=gC.trans (g59.trans g60);refine ⟨_,rfl,_,rfl,_,rfl,l,b,nn,ledI false (putZ (ixL b itZ hs) l) (ixL b itF as),va,vb,vf,rfl,hva.same gD,hvb,(hvf48.same g49).same gD,xZ hIt,(by rw [vV];exact nI),vU b as _,λvl H61 g61 hvl=>?_⟩;rw [x6] at hvl;have gE:=(g49.trans gD).trans g61;refine ⟨_,rfl,_,_,hvl.d,(hvr48.same gE).d,o0 (BV b as),_,rfl,?_⟩;rw [dW];exact aL ⟨S48.trans gE,_,_,_,_,_,_,_,_,_,_,_,_,_,_,_,_,_,_,rfl⟩
end
@[elab_as_elim] theorem x9 {α:Type} {p:List α->Prop} {us:List α} (hl:us.length=0) (h:p []):p us:=by
 cases us with
 | nil=>exact h
 | cons a r=>cases hl
@[elab_as_elim] theorem ya {α:Type} {p:List α->Prop} {us:List α} (hl:us.length=1) (h:∀ x0,p [x0]):p us:=by
 cases us with
 | nil=>cases hl
 | cons a r=>exact x9 (p:=λr=>p (a :: r)) (Nat.succ.inj hl) (h a)
@[elab_as_elim] theorem yb {α:Type} {p:List α->Prop} {us:List α} (hl:us.length=2) (h:∀ x0 x1,p [x0,x1]):p us:=by
 cases us with
 | nil=>cases hl
 | cons a r=>exact ya (p:=λr=>p (a :: r)) (Nat.succ.inj hl) (h a)
@[elab_as_elim] theorem yc {α:Type} {p:List α->Prop} {us:List α} (hl:us.length=3) (h:∀ x0 x1 x2,p [x0,x1,x2]):p us:=by
 cases us with
 | nil=>cases hl
 | cons a r=>exact yb (p:=λr=>p (a :: r)) (Nat.succ.inj hl) (h a)
@[elab_as_elim] theorem yd {α:Type} {p:List α->Prop} {us:List α} (hl:us.length=4) (h:∀ x0 x1 x2 x3,p [x0,x1,x2,x3]):p us:=by
 cases us with
 | nil=>cases hl
 | cons a r=>exact yc (p:=λr=>p (a :: r)) (Nat.succ.inj hl) (h a)
@[elab_as_elim] theorem ye {α:Type} {p:List α->Prop} {us:List α} (hl:us.length=5) (h:∀ x0 x1 x2 x3 x4,p [x0,x1,x2,x3,x4]):p us:=by
 cases us with
 | nil=>cases hl
 | cons a r=>exact yd (p:=λr=>p (a :: r)) (Nat.succ.inj hl) (h a)
@[elab_as_elim] theorem Bf {α:Type} {p:List α->Prop} {us:List α} (hl:us.length=6) (h:∀ x0 x1 x2 x3 x4 x5,p [x0,x1,x2,x3,x4,x5]):p us:=by
 cases us with
 | nil=>cases hl
 | cons a r=>exact ye (p:=λr=>p (a :: r)) (Nat.succ.inj hl) (h a)
theorem gnM {K:W.Frag} {h:Heap} {mg:Str->Option Value} (X:K.In h) (G:h.Ns mainGlobals mg) {x:Str} {st:Stmt} {ps:List Str} {f:Addr} {od an:Option Addr} {sl:Array (Option Value)} {oc kV dc pm cd ct:Value}
  (a:W.nsIn K mainGlobals x=some (some (.ref f))) (l:K.lookup f=some ⟨oc,od,.func (W.fnOf x x (bW st) (bK st) (ac st) .none kV dc pm an cd ct),sl⟩) (c:W.codeIn K cd x=true) (k:W.keepIn K (.ref f)=true)
  (b:∀ (kV doc pm:Value) (an:Option Addr) (cdv ct:Value) (us:List Value),us.length=ps.length->bindArgs (W.fnOf x x (bW st) (bK st) (ac st) .none kV doc pm an cdv ct) ⟨us,[]⟩=pure (ps.zip us)):∃ f fd,Gn K mg x st ps f fd :=
 ⟨f,_,ui (st:=st) l c k,(ui (st:=st) l c k).binds b,W.mg_of X G a⟩
theorem exM {K:W.Frag} {h:Heap} {mg:Str->Option Value} (X:K.In h) (G:h.Ns mainGlobals mg) {x:Str} {C:Addr} {d:ClassData} (xa:W.nsIn K mainGlobals x=some (some (.ref C))) (xq:W.excIn K C bmV "ValueError.__new__" = true) (xg:W.findIn K (.ref C) "__getattribute__" = some (some (.builtin "BaseException.__getattribute__"))) (xt:W.findIn K (.ref C) "__getattr__" = some none) (xc:W.findIn K (.ref C) "__class__" = some (some (.builtin "object.__class__"))) (xb:W.mroIn K C (.type "BaseException")=some true) (xo:W.mroIn K C (.type "object")=some true) (xd:W.clsIn K C=some d) (xk:W.keepIn K (.ref C)=true):ExC K mg x C:=⟨W.mg_of X G xa,xq,⟨xg,xt,xc,xb,xo,_,xd⟩,xk⟩
theorem csM {K:W.Frag} {h:Heap} {mg:Str->Option Value} (X:K.In h) (G:h.Ns mainGlobals mg) {x z:Str} {t:Tok} (g:W.nsIn K mainGlobals x=some (some (.str z t))):∃ t,mg x=some (.str z t):=⟨_,W.mg_of X G g⟩
theorem ciM {K:W.Frag} {h:Heap} {mg:Str->Option Value} (X:K.In h) (G:h.Ns mainGlobals mg) {x:Str} {i:Int} {t:Tok} (g:W.nsIn K mainGlobals x=some (some (.int i t))):∃ t,mg x=some (.int i t):=⟨_,W.mg_of X G g⟩
theorem cdM {K:W.Frag} {h:Heap} {mg:Str->Option Value} (X:K.In h) (G:h.Ns mainGlobals mg) {x:Str} {a:Addr} {l:List (Str×Int)} (g:W.nsIn K mainGlobals x=some (some (.ref a))) (d:KTD.tabLook (KTD.datLooks λb=>K.lookup b) (λb=>K.lookup b) a (jL l)=true):∃ a,mg x=some (.ref a)/\nO K a l:=⟨_,W.mg_of X G g,uw d⟩
theorem txI {K:W.Frag} {mg:Str->Option Value} {a0 a1 a2 a3 a4:Addr} (T:Tx K mg ⟨a0,a1,a2,a3,a4⟩):∃ ad,Tx K mg ad:=⟨_,T⟩
theorem zX {K:W.Frag} {f:Addr} {fd:FuncData} (F:Fun K "law" "law" rH f fd):∀ (s:Shared) (u:Value),BindsTo s fd ⟨[u],[]⟩ [("script",u)]:=by
 obtain ⟨oc,od,kV,doc,pm,an,cdv,ct,osl,rfl,lk,hcd⟩:=F.ex;exact λs u=>.of_eq rfl
end K41
open PySem PySem.W PyProof.Rows
set_option maxRecDepth 100000 in
set_option maxHeartbeats 0 in
theorem PySem.Challenge.cw_oldhands_k41_whole_spares_go_with_keys_holds : PySem.Challenge.rw_oldhands_k41_whole_spares_go_with_keys.Holds := by
 w_on
 refine W.holds_law K41.said λsaid=>?_;refine W.holds_open (q:=K41.hQ) (loose:=K41.hW) (Xt:=K41.hX) (XP:=λ_ _=>True) (Yf:=K41.hH.obs) (Ya:=K41.hH.val) (YP:=W.InK K41.hK) (N:=5823) K41.hl K41.hH.of K41.hH.keeps (λ_ _=>trivial) (λ_ _ _ _ _=>trivial) (by rfl) (by rfl) (by rfl) (λs e=>W.recFacts_of e) (by rfl) said (by decide +kernel) ⟨rfl,rfl,rfl,rfl,rfl,by decide +kernel⟩ ?hw ?hc
 case hw=>w_witness2
 k_fill
 refine L2.Aq (l:=PySem.Challenge.rw_oldhands_k41_whole_spares_go_with_keys) (K:=K41.hK) (n:=63) (k:=K41.depth) (x:= "script") (CX:=L2.CX0) (sp:=K41.A0) rfl (by decide) rfl ⟨rfl,by decide,by decide⟩ (λw h Y=>Y) ?F (λ_ _ a ns hl _ hS=>⟨a,ns,rfl,hS,hl,λ_=>rfl⟩) (λ_ _ _ _ z=>z)
 case F =>
  intro w mg fa h KX G hmg;have T:∃ ad,K41.Tx (L2.KOf KX) mg ad:=by
   dsimp only [L2.KOf];refine' K41.txI ⟨K41.gnM KX G ?_ ?_ ?_ ?_ ?_,K41.gnM KX G ?_ ?_ ?_ ?_ ?_,K41.gnM KX G ?_ ?_ ?_ ?_ ?_,K41.gnM KX G ?_ ?_ ?_ ?_ ?_,K41.gnM KX G ?_ ?_ ?_ ?_ ?_,K41.gnM KX G ?_ ?_ ?_ ?_ ?_,K41.gnM KX G ?_ ?_ ?_ ?_ ?_,K41.gnM KX G ?_ ?_ ?_ ?_ ?_,K41.gnM KX G ?_ ?_ ?_ ?_ ?_,K41.gnM KX G ?_ ?_ ?_ ?_ ?_,K41.gnM KX G ?_ ?_ ?_ ?_ ?_,K41.gnM KX G ?_ ?_ ?_ ?_ ?_,K41.gnM KX G ?_ ?_ ?_ ?_ ?_,K41.gnM KX G ?_ ?_ ?_ ?_ ?_,K41.gnM KX G ?_ ?_ ?_ ?_ ?_,K41.gnM KX G ?_ ?_ ?_ ?_ ?_,K41.gnM KX G ?_ ?_ ?_ ?_ ?_,K41.gnM KX G ?_ ?_ ?_ ?_ ?_,K41.gnM KX G ?_ ?_ ?_ ?_ ?_,K41.gnM KX G ?_ ?_ ?_ ?_ ?_,K41.gnM KX G ?_ ?_ ?_ ?_ ?_,K41.gnM KX G ?_ ?_ ?_ ?_ ?_,K41.gnM KX G ?_ ?_ ?_ ?_ ?_,K41.gnM KX G ?_ ?_ ?_ ?_ ?_,K41.gnM KX G ?_ ?_ ?_ ?_ ?_,K41.gnM KX G ?_ ?_ ?_ ?_ ?_,K41.gnM KX G ?_ ?_ ?_ ?_ ?_,K41.gnM KX G ?_ ?_ ?_ ?_ ?_,K41.gnM KX G ?_ ?_ ?_ ?_ ?_,K41.gnM KX G ?_ ?_ ?_ ?_ ?_,K41.gnM KX G ?_ ?_ ?_ ?_ ?_,K41.gnM KX G ?_ ?_ ?_ ?_ ?_,K41.gnM KX G ?_ ?_ ?_ ?_ ?_,K41.gnM KX G ?_ ?_ ?_ ?_ ?_,K41.gnM KX G ?_ ?_ ?_ ?_ ?_,K41.gnM KX G ?_ ?_ ?_ ?_ ?_,K41.gnM KX G ?_ ?_ ?_ ?_ ?_,K41.gnM KX G ?_ ?_ ?_ ?_ ?_,K41.gnM KX G ?_ ?_ ?_ ?_ ?_,K41.gnM KX G ?_ ?_ ?_ ?_ ?_,K41.gnM KX G ?_ ?_ ?_ ?_ ?_,K41.gnM KX G ?_ ?_ ?_ ?_ ?_,K41.gnM KX G ?_ ?_ ?_ ?_ ?_,K41.gnM KX G ?_ ?_ ?_ ?_ ?_,K41.gnM KX G ?_ ?_ ?_ ?_ ?_,K41.gnM KX G ?_ ?_ ?_ ?_ ?_,K41.gnM KX G ?_ ?_ ?_ ?_ ?_,K41.gnM KX G ?_ ?_ ?_ ?_ ?_,K41.gnM KX G ?_ ?_ ?_ ?_ ?_,K41.gnM KX G ?_ ?_ ?_ ?_ ?_,K41.gnM KX G ?_ ?_ ?_ ?_ ?_,K41.gnM KX G ?_ ?_ ?_ ?_ ?_,K41.gnM KX G ?_ ?_ ?_ ?_ ?_,K41.gnM KX G ?_ ?_ ?_ ?_ ?_,K41.gnM KX G ?_ ?_ ?_ ?_ ?_,K41.gnM KX G ?_ ?_ ?_ ?_ ?_,K41.gnM KX G ?_ ?_ ?_ ?_ ?_,K41.gnM KX G ?_ ?_ ?_ ?_ ?_,K41.gnM KX G ?_ ?_ ?_ ?_ ?_,K41.gnM KX G ?_ ?_ ?_ ?_ ?_,K41.gnM KX G ?_ ?_ ?_ ?_ ?_,K41.gnM KX G ?_ ?_ ?_ ?_ ?_,K41.gnM KX G ?_ ?_ ?_ ?_ ?_,K41.gnM KX G ?_ ?_ ?_ ?_ ?_,K41.gnM KX G ?_ ?_ ?_ ?_ ?_,K41.gnM KX G ?_ ?_ ?_ ?_ ?_,K41.gnM KX G ?_ ?_ ?_ ?_ ?_,K41.gnM KX G ?_ ?_ ?_ ?_ ?_,K41.gnM KX G ?_ ?_ ?_ ?_ ?_,K41.gnM KX G ?_ ?_ ?_ ?_ ?_,K41.gnM KX G ?_ ?_ ?_ ?_ ?_,K41.gnM KX G ?_ ?_ ?_ ?_ ?_,K41.gnM KX G ?_ ?_ ?_ ?_ ?_,K41.gnM KX G ?_ ?_ ?_ ?_ ?_,K41.gnM KX G ?_ ?_ ?_ ?_ ?_,K41.gnM KX G ?_ ?_ ?_ ?_ ?_,K41.gnM KX G ?_ ?_ ?_ ?_ ?_,K41.gnM KX G ?_ ?_ ?_ ?_ ?_,K41.gnM KX G ?_ ?_ ?_ ?_ ?_,K41.gnM KX G ?_ ?_ ?_ ?_ ?_,K41.gnM KX G ?_ ?_ ?_ ?_ ?_,K41.gnM KX G ?_ ?_ ?_ ?_ ?_,K41.gnM KX G ?_ ?_ ?_ ?_ ?_,K41.gnM KX G ?_ ?_ ?_ ?_ ?_,K41.gnM KX G ?_ ?_ ?_ ?_ ?_,K41.gnM KX G ?_ ?_ ?_ ?_ ?_,K41.gnM KX G ?_ ?_ ?_ ?_ ?_,K41.gnM KX G ?_ ?_ ?_ ?_ ?_,K41.gnM KX G ?_ ?_ ?_ ?_ ?_,K41.gnM KX G ?_ ?_ ?_ ?_ ?_,K41.gnM KX G ?_ ?_ ?_ ?_ ?_,K41.gnM KX G ?_ ?_ ?_ ?_ ?_,K41.gnM KX G ?_ ?_ ?_ ?_ ?_,K41.gnM KX G ?_ ?_ ?_ ?_ ?_,K41.gnM KX G ?_ ?_ ?_ ?_ ?_,K41.gnM KX G ?_ ?_ ?_ ?_ ?_,K41.gnM KX G ?_ ?_ ?_ ?_ ?_,K41.exM KX G ?_ ?_ ?_ ?_ ?_ ?_ ?_ ?_ ?_,K41.exM KX G ?_ ?_ ?_ ?_ ?_ ?_ ?_ ?_ ?_,K41.exM KX G ?_ ?_ ?_ ?_ ?_ ?_ ?_ ?_ ?_,K41.exM KX G ?_ ?_ ?_ ?_ ?_ ?_ ?_ ?_ ?_,K41.exM KX G ?_ ?_ ?_ ?_ ?_ ?_ ?_ ?_ ?_,K41.csM KX G ?_,K41.ciM KX G ?_,K41.csM KX G ?_,K41.ciM KX G ?_,K41.ciM KX G ?_,K41.ciM KX G ?_,K41.ciM KX G ?_,K41.ciM KX G ?_,K41.ciM KX G ?_,K41.cdM KX G ?_ ?_,K41.ciM KX G ?_,K41.csM KX G ?_,K41.ciM KX G ?_,K41.ciM KX G ?_,K41.cdM KX G ?_ ?_,⟨W.mg_of KX G ?_,L2.zW ?_,L2.AL ?_⟩,⟨W.mg_of KX G ?_,L2.zW ?_,L2.AL ?_⟩,K41.ciM KX G ?_,K41.csM KX G ?_,K41.csM KX G ?_,W.mg_none_of KX G ?_,W.mg_none_of KX G ?_,W.mg_none_of KX G ?_,W.mg_none_of KX G ?_,W.mg_none_of KX G ?_,W.mg_none_of KX G ?_,W.mg_none_of KX G ?_,W.mg_none_of KX G ?_,W.mg_none_of KX G ?_,W.mg_none_of KX G ?_,W.mg_none_of KX G ?_,W.mg_none_of KX G ?_,W.mg_none_of KX G ?_,W.mg_none_of KX G ?_,W.mg_none_of KX G ?_,W.mg_none_of KX G ?_,W.mg_none_of KX G ?_,W.mg_none_of KX G ?_,W.mg_none_of KX G ?_⟩
   any_goals (first | k_is | kernel_rfl | exact λ_ _ _ _ _ _ _ e=>K41.x9 e rfl | exact λ_ _ _ _ _ _ _ e=>K41.ya e λ_=>rfl | exact λ_ _ _ _ _ _ _ e=>K41.yb e λ_ _=>rfl | exact λ_ _ _ _ _ _ _ e=>K41.yc e λ_ _ _=>rfl | exact λ_ _ _ _ _ _ _ e=>K41.yd e λ_ _ _ _=>rfl | exact λ_ _ _ _ _ _ _ e=>K41.ye e λ_ _ _ _ _=>rfl | exact λ_ _ _ _ _ _ _ e=>K41.Bf e λ_ _ _ _ _ _=>rfl)
  obtain ⟨ad,T⟩:=T;obtain ⟨fL,dL,L⟩:=T.law;have e:=hmg.symm.trans L.m
  cases e
  exact ⟨dL,K41.zX L.F,λbase _ _=>K41.BX T L⟩
end
