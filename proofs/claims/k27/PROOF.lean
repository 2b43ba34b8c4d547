import PyProof.Rows.All
import Wide.All
import OpenK.AllK
import Wide.FinOn
import Lean
import PyProof.EqAt
import PyProof.EqKinds
import PyProof.TupleCall
import PyProof.NeKinds
import KE.KIntText
import PyProof.StrCalls
import PyProof.ZipIter
import PyProof.Rows.SetFrom
import PyProof.SetRoads
import PyProof.CompUse
import PyProof.Rows.MinMaxN
import PyProof.Rows.SortStr
import PyProof.Rows.SortWalk
import PyProof.Rows.SeqMore2
import KE.KMinKey
import PyProof.Rows.CallKwBuiltin
import PyProof.TupleOfStr
import PyProof.Draws
import PyProof.Rows.TupIter
import KE.KxText
import PyProof.FString5
import PyProof.DictWalks
import PyProof.CollectStr
import PyProof.FactsAll.set_1
import KE.KDictLaws
import PyProof.MeetsStr
import PyProof.TupleKey
import PyProof.SetKind
import PyProof.IsRules
import PyProof.Rows.StrMeet
import PySem.Challenge.RW_oldhands_k27_pieces_about
set_option Elab.async false
set_option linter.all false
set_option maxRecDepth 100000
set_option maxHeartbeats 4000000
open PySem renaming wpAny_bind→KE,sizeLine→Ld,wpAny_pure→Lg,Value→Li,Shared→Lk,Addr→Ll,wpAny→Lm,model→Lo,starEach→Lq,wpAny_holding→Lr,compareOp→Ls,World→Lu,Program→Lw,call_isinstance→Lx,wpAny_field→Ly,codeAny_builtin→LA,treeTable→LB,mainGlobals→LC,isSubtype→LD,Heap→LE,wpAny_mono→LG,wpAny_callSpecial?_slot→LI,wpAny_seqItems→LJ,wpAny_truthy_bool→LK,wpAny_setState_of→LL,Around→LM,Stmt→LP,IsPair→LQ,wpAny_Call_Name_kw→LR,IsTupleKey→LS,cLine→LU,wpAny_call_entry→LV,wpAny_newObj_type→LW,plainId_quiet→LX,rawInt→LY,wpAny_setField_rec→LZ,binaryOp→L0,eval→L3,wpAny_pyIter_list→L4,codeAny_mono→L6,wpAny_typeOf→L8,letOwnedTupleGo→Ma,backTo→Mc,pyNext→Md,Params→Me,bootBuiltins→Mh,sysModules→Mi,assignEach→Mj,foldedSetIterable→Ml,wpAny_standAt→Mm,wpAny_getItem_str_slice→Mn,isinstance_false_tuple→Mp,wpAny_Call_method_late→Mq,wpAny_execs_nil→Ms,isinstance_true→Mt,ZipApart→Mu,shortFactorBits→Mv,swapsWith→Mw,Keyword→Mx,OsState→Mz,isinstance_false_int→MA,isinstance_false_str→MB,wpAny_setField→MC,carriedByValue→MD,wpAny_execs_cons→ME,wpAny_pyIter_zip→MF,wpAny_passesOwn→MI,wpAny_specialOf→MJ,wpAny_updateSeq→MK,typeLookup→ML,wpAny_rule→MM,tupleKind_room_in1→MN,getattributeRaised→MO,sliceBounds→MP,keywordEach→MQ,assign→MR,FuncData→MS,codeAny→MT,wpAny_runValue→MU,ofAClassStatement→MV,searchCouldBeSeen→MW,isinstance_false_list→MX,IsZip→MY,wpAny_isInstance→MZ,noteFrame→M0,setSearchFrom→M1,wpAny_updateSeq_pair→M3,typeOf→M4,post_val_or_str→M5,wpAny_pyIter_tuple→M6,standAt→Na,holding→Nb,getItem→Nc,wpAny_comprehension_free→Ng,attributeBase→Nh,wpAny_attempt→Ni,wpAny_onRaise→Nj,wpAny_pyNext_tuple_item→Nk,noFill_tuple_add→Nl,backToKw→Nn,wpAny_Try_except→No,wpAny_pyNext_tuple_end→Np,wpAny_pyNext_range_end→Nq,wpAny_pyIter_rangeiter→Nr,BindsTo→Nt,wpAny_call→Nu,concat_meets→Nw,IsPart→Nx,codeAny_compStart_list→Nz,codeAny_handlers_suite→NB,wpAny_noteFrame_againW→NC,setAddHashed→ND,again→NE,codeAny_of_tree→NF,isinstance_false_bool→NG,wpAny_notOrdered_dict→NH,weight_type_call_type→NI,wpAny_Raise_call_subT→NJ,codeAny_handlers_test→NK,wpAny_eqIsQuiet_tuple→NM,GenState→NN,compTurn→NO,wpAny_newFunctionEnv→NQ,isSubtype_type→NR,codeAny_call_builtin→NS,wpAny_newTuple→NV,isSubtype_stop→NW,tupleKind→NX,callerA→NY,wpAny_dictSet_pairs→N2,merged_nil_of_nodup→N4,wpAny_handleBy_cons→N5,swapsWithSole→N6,behindInMarks→N7,seq_tuple_add→N8,Comprehension→N9,builtinsNs→Oa,wpAny_pyIter_range→Oc,call_meets→Oe,sub_AttributeError→Of,wpAny_missed_other→Oh,cameBackBy→Oi,wpAny_eqBool_tuple→Oj,wpAny_Return_some→Ol,wpAny_assign_Name→Om,wpAny_Assign_Name→On,leaving→Oo,wpAny_sequenceKey→Op,seqIndex_neg→Oq,call_meetsIn→Os,valueAt→Ot,field→Ou,wpAny_loadPart_at→Ov,wpAny_pyHash_str→Ow,PassesOwn→Ox,DictEntry→Oy,entryFor_of_tree→Oz,stored_length_le→OA,kt_code_dict_new→OB,check_set_init_1→OC,updateSeq→OD,wpAny_forIn_list→OE,seqIndex_of→OF,subscripted→OG,excClassObj→OH,wpAny_letGo→OI,hashByValue→OJ,wpAny_loadPart'→OL,importedModules→OM,Paired→OO,wpAny_Name→OP,wpAny_Expr_any→OQ,pyIter→OR,wpAny_load→OS,recursionLimit→OU,Result→OV,typeIs_str→OX,atKey→OY,getAttr?→OZ,wpAny_tryCatch→O0,callType_codes→O1,byScan→O5,swappedStores→O6,wpAny_handled→Pa,wpAny_newList→Pb,ExceptHandler→Pd,lastMarks→Pe,bindL→Pf,bindC→Pg,cellsFrom→Ph,scanBound→Pi,Meets→Pj,setFlight→Pk,sub_zip→Pm,collect→Pn,dictGet→Po,bindArgs→Pp,NameKind→Pq,compEnvC→Pr,entryFor→Ps,setField→Pv,storeSet→Px,Operator→Py,preSum→PD,stored→PF,merged→PH,setAdd→PJ
open PyProof.Rows renaming IsTupIter→LH,IsTup→Mk,slot_tupleiter_next→MG,AllBare→MH,kindOf→M7,seqObj→M9,IntsAre→Nf,envOfC→Nv,subscriptTail_builtinR→Ny,entry_tupleiter_next→NU,StrsAre→N0,entry_tuple_getitem→N1,args_tupleiter_next→N3,args_tuple_getitem→Od,iter_tuple→Og,entry_list_sort→OK,sortedS→ON,chain_link→OT,slicePart_none→OW,slot_list_sort→O2,args_list_sort→O3,sortedHeap_old→O4,Compare_chain→O7,tupleItemsOf_→O8,subscriptTail→O9,sortedHeap_at→Pc,boot_zip→Pw,ite_ff→Pz,ite_tt→PC
macro "~"i:Lean.Parser.Command.declId s:Lean.Parser.Command.declSig v:Lean.Parser.Command.declVal:command=>`(theorem $i $s $v)
macro "~"t:term:tactic=>`(tactic|exact $t)
macro "PM"t:term,+:tactic=>`(tactic|exact⟨$t,*⟩)
macro "!"t:term:tactic=>`(tactic|refine $t)
macro "&"p:Lean.Parser.Tactic.rcasesPatLo,+":="t:term:tactic=>`(tactic|obtain⟨$p,*⟩:=$t)
macro "@"d:Lean.Parser.Term.letDecl:tactic=>`(tactic|have $d:letDecl)
macro "#"t:Lean.Parser.Tactic.elimTarget,+ x:(Lean.Parser.Tactic.inductionAlts)?:tactic=>`(tactic|cases $t,* $[$x]?)
macro "or":term=>`(by first|lia|omega)
macro "on":tactic=>`(tactic|first|lia|omega)
macro "§"i:Lean.Parser.Command.declId s:Lean.Parser.Command.optDeclSig v:Lean.Parser.Command.declVal:command=>`(noncomputable def $i:declId $s:optDeclSig $v:declVal)
macro "¶"i:Lean.Parser.Command.declId s:Lean.Parser.Command.optDeclSig v:Lean.Parser.Command.declVal:command=>`(noncomputable abbrev $i:declId $s:optDeclSig $v:declVal)
macro:max x:term:max noWs "°":term=>`(($x).length)
macro:max x:term:max noWs "¢":term=>`(($x).heap.objs.size)
macro "IO":term=>`(by kernel_rfl)
macro "PK" "["l:Lean.Parser.Tactic.simpLemma,*"]"x:(Lean.Parser.Tactic.location)?:tactic=>`(tactic|simp only[$l,*] $[$x]?)
macro "PL"i:(colGt ident)+:tactic=>`(tactic|unfold $i*)
macro:10 b:term:11 "~>" x:term:10:term=>`(bif $b then $x else .bad)
macro "PN":term=>`(some)
macro "PQ":term=>`(List)
macro "PR":term=>`(none)
macro "PU":term=>`(true)
macro "PV":term=>`(false)
macro "PY":term=>`(Option)
noncomputable section
¶Lh:=@decide_eq_true
¶Lj:=@if_pos
¶Ln:=@if_neg
¶Lv:=@decide_eq_false
¶Lz:=@beq_self_eq_true
¶LN:=@or_false
¶LO:=@beq_iff_eq
¶L1:=@cond_true
¶L9:=@decide_eq_true_eq
¶Mb:=@congrFun
¶Mg:=@congrArg
¶Mr:=@cond_false
¶My:=@of_decide_eq_true
¶M8:=@if_false
¶Nd:=@if_true
¶aAa:=@List.length_map
¶aAb:=@PySem.Heap.get?_push_of_some
¶aAc:=@List.mem_map
¶aAd:=@PySem.Heap.lt_size
¶aAe:=@List.mem_cons_self
¶aAf:=@List.all_eq_true
¶aAg:=@List.getElem?_eq_some_iff
¶aAh:=@List.getElem?_eq_getElem
¶aAi:=@List.length_append
¶aAj:=@List.prefix_refl
¶aAk:=@List.mem_cons_of_mem
¶aAl:=@List.mem_cons
¶aAm:=@Nat.lt_of_lt_of_le
¶aAn:=@Bool.and_eq_true
¶aAo:=@Nat.le_refl
¶aAp:=@PySem.Heap.get?_push_size
¶aAq:=@Nat.le_trans
¶aAr:=@List.map_cons
¶aAs:=@Nat.ne_of_lt
¶aAt:=@List.getElem?_append_right
¶aAu:=@List.not_mem_nil
¶aAv:=@List.length_cons
¶aAw:=@List.getElem?_append_left
¶aAx:=@Nat.ne_of_gt
¶aAy:=@List.mem_singleton
¶aAz:=@List.map_map
¶aAA:=@List.append_nil
¶aAB:=@List.size_toArray
¶aAC:=@List.mem_filterMap
¶aAD:=@PySem.Heap.get?_update_other
¶aAE:=@List.getElem?_map
¶aAF:=@List.mem_append_right
¶aAG:=@List.mem_append
¶aAH:=@List.map_append
¶aAI:=@PySem.Heap.get?_update_self
¶aAJ:=@List.lookup_cons
¶aAK:=@PySem.Heap.size_push
¶aAL:=@List.all_cons
¶aAM:=@Nat.zero_le
¶aAN:=@Nat.lt_irrefl
¶aAO:=@List.append_assoc
¶aAP:=@List.filterMap_cons
¶aAQ:=@List.any_cons
¶aAR:=@List.mem_of_getElem?
¶aAS:=@List.mem_iff_getElem
¶aAT:=@Array.getElem?_eq_getElem
¶aAU:=@Nat.le_of_lt
¶aAV:=@List.length_replicate
¶aAW:=@Array.getElem?_eq_some_iff
¶aAX:=@Nat.lt_succ_of_lt
¶aAY:=@List.nodup_cons
¶aAZ:=@List.prefix_append
¶aA0:=@List.length_zip
¶aA1:=@List.length_take
¶aA2:=@Bool.false_eq_true
¶aA3:=@List.getElem_mem
¶aA4:=@List.pairwise_cons
¶aA5:=@List.getElem?_set_ne
¶aA6:=@Bool.eq_false_iff
¶aA7:=@Array.length_toList
¶aA8:=@List.getElem?_set_self
¶aA9:=@Nat.sub_self
¶aBa:=@List.map_nil
¶aBb:=@List.getD_eq_getElem?_getD
¶aBc:=@List.drop_eq_getElem_cons
¶aBd:=@List.length_set
¶aBe:=@List.forIn_cons
¶aBf:=@List.pairwise_map
¶aBg:=@List.length_eq_zero_iff
¶aBh:=@Nat.lt_succ_self
¶aBi:=@Bool.cond_self
¶aBj:=@Nat.le_succ
¶aBk:=@Bool.false_ne_true
¶aBl:=@Nat.lt_trans
¶aBm:=@Array.forIn_toList
¶aBn:=@List.mem_filter
¶aBo:=@List.of_mem_zip
¶aBp:=@Bool.or_eq_true
¶aBq:=@List.find?_cons
¶aBr:=@List.length_range
¶aBs:=@List.getElem_inj
¶aBt:=@List.any_eq_true
¶aBu:=@List.map_congr_left
¶aBv:=@List.getElem?_replicate
¶aBw:=@List.pairwise_singleton
¶aBx:=@Bool.and_true
¶aBy:=@Int.toNat_natCast
¶aBz:=@List.all_map
¶aBA:=@Bool.and_false
¶aBB:=@List.forIn_nil
¶aBC:=@Array.toArray_toList
¶aBD:=@Nat.le_add_right
¶aBE:=@List.mergeSort_perm
¶aBF:=@List.mem_map_of_mem
¶aBG:=@List.getElem?_take_of_lt
¶aBH:=@Nat.lt_of_le_of_lt
¶aBI:=@Int.emod_lt_of_pos
¶aBJ:=@List.zip_cons_cons
¶aBK:=@List.mem_range
¶aBL:=@List.pairwise_mergeSort
¶aBM:=@Bool.not_eq_true'
¶aBN:=@List.nodup_append
¶aBO:=@Option.map_eq_some_iff
¶aBP:=@Option.getD_none
¶aBQ:=@List.drop_length
¶aBR:=@List.map_fst_zip
¶aBS:=@List.filter_cons
¶aBT:=@Int.emod_nonneg
¶aBU:=@List.eq_nil_of_length_eq_zero
¶aBV:=@Int.mul_ediv_cancel
¶aBW:=@List.nodup_nil
¶aBX:=@Bool.false_and
¶aBY:=@Bool.or_false
¶aBZ:=@Option.isSome_map
¶aB0:=@List.mem_of_find?_eq_some
¶aB1:=@List.length_drop
¶aB2:=@Option.getD_some
¶aB3:=@List.take_length
¶aB4:=@Nat.succ_le_succ
¶aB5:=@List.length_filterMap_le
¶aB6:=@List.getElem_zip
¶aB7:=@List.getElem_map
¶aB8:=@Int.dvd_of_emod_eq_zero
¶aB9:=@List.sum_append
¶aCa:=@Int.natCast_add
¶aCb:=@Option.map_some
¶aCc:=@List.nil_append
¶aCd:=@Nat.log2_lt
¶aCe:=@Array.getElem?_eq_none
¶aCf:=@List.length_singleton
¶aCg:=@List.take_left
¶aCh:=@List.length_filter_le
¶aCi:=@Nat.le_of_eq
¶aCj:=@Nat.lt_or_ge
¶aCk:=@List.zip_map
namespace L2
open PySem PySem.Spec PyProof.Rows
¶Key:=Sum Int Str
§eY:Key->Li->Bool
 |.inl k,v=>Value.isInt k v
 |.inr x,v=>Value.isStrOf x v
§IG(w:Lu):Key->Int
 |.inl k=>hashInt k
 |.inr x=>hashStr w x
~aD:∀ {k}{v},eY k v=PU->(∃ i t,k=Sum.inl i/\v=Value.int i t)\/(∃ x t,k=Sum.inr x/\v=Value.str x t)
 |.inl i,v,h=>by
  &t,e:=Value.isInt_shape h;~.inl ⟨i,t,rfl,e⟩
 |.inr x,v,h=>by
  &t,e:=Value.isStrOf_shape h;~.inr ⟨x,t,rfl,e⟩
~qo(i)(t):eY (.inl i) (.int i t)=true:=by simp[eY,Value.isInt]
~qp(x)(t):eY (.inr x) (.str x t)=true:=by simp[eY,Value.isStrOf]
~Bs(a b):decide ((Sum.inl a:Key)=Sum.inl b)=(a == b):=by
 by_cases e:a=b
 ·subst e;simp
 ·rw[Lv (λq=>e (Sum.inl.inj q))];~(beq_eq_false_iff_ne.mpr e).symm
~Bt(a b):decide ((Sum.inr a:Key)=Sum.inr b)=decide (a=b):=by simp_all
~Bu(a:Int)(b:Str):decide ((Sum.inl a)=Sum.inr b)=false:=Lv (λq=>nomatch q)
~Bv(a:Str)(b:Int):decide ((Sum.inr a)=Sum.inl b)=false:=Lv (λq=>nomatch q)
§aq(prog:Lw)(w:Lu):PySem.KeyKind prog w Key where
 is:=eY
 hash:=IG w
 inj:=λv a b ha hb=>by
  rcases aD ha with⟨i,t,rfl,rfl⟩ | ⟨x,t,rfl,rfl⟩
  ·rcases aD hb with⟨j,u,rfl,e⟩ | ⟨y,u,rfl,e⟩
   ·injection e with e1 _;rw[e1]
   ·~nomatch e
  ·rcases aD hb with⟨j,u,rfl,e⟩ | ⟨y,u,rfl,e⟩
   ·~nomatch e
   ·injection e with e1 _;rw[e1]
 byValue:=λk v h=>by
  rcases aD h with⟨i,t,rfl,rfl⟩ | ⟨x,t,rfl,rfl⟩ <;> rfl
 pyHash:=λhv h=>by
  rcases aD hv with⟨i,t,rfl,rfl⟩ | ⟨x,t,rfl,rfl⟩
  ·~wpAny_pyHash_int h
  ·~Ow h
 eqBool:=λhu hv h=>by
  rcases aD hu with⟨i,t,rfl,rfl⟩ | ⟨x,t,rfl,rfl⟩
  ·rcases aD hv with⟨j,u,rfl,rfl⟩ | ⟨y,u,rfl,rfl⟩
   ·rw[Bs]at h;~wpAny_eqBool_int h
   ·rw[Bu]at h;~SeqAt.EqAt.int_str i t y u _ _ _ _ h
  ·rcases aD hv with⟨j,u,rfl,rfl⟩ | ⟨y,u,rfl,rfl⟩
   ·rw[Bv]at h;~SeqAt.EqAt.str_int x t j u _ _ _ _ h
   ·rw[Bt]at h;~wpAny_eqBool_str h
 «strs»:=λk x t v h=>by
  rcases aD h with⟨i,u,rfl,e⟩ | ⟨y,u,rfl,e⟩
  ·~nomatch e
  ·injection e with e1 _
   subst e1
   cases v <;> rfl
~kB(prog)(w)(i)(t):(aq prog w).is (.inl i) (.int i t)=true:=qo i t
~kC(prog)(w)(x)(t):(aq prog w).is (.inr x) (.str x t)=true:=qp x t
inductive V where
 |non | bl (b:Bool) | int (i:Int) | str (x:Str) | byt (b:Array UInt8) | flt (b:UInt64) | ref (a:Ll) | ty (n:String)
 deriving DecidableEq
§RelV:V->Li->Prop
 |.non,u=>u=Value.none
 |.bl b,u=>u=Value.bool b
 |.int i,u=>∃ t,u=Value.int i t
 |.str x,u=>∃ t,u=Value.str x t
 |.byt b,u=>∃ t,u=Value.bytes b t
 |.flt b,u=>∃ t,u=Value.float b t
 |.ref a,u=>u=Value.ref a
 |.ty n,u=>u=Value.type n
¶Vals:PQ V->PQ Li->Prop:=OO RelV
~Vals.length(r:Vals xs us):xs°=us°:=Paired.length r
~Vals.get:∀ {xs}{us}{i:Nat}{x},Vals xs us->xs[i]?=PN x->∃ u,us[i]?=PN u/\RelV x u
 |_,_,_,_,.nil,e=>by simp at e
 |_,_,0,_,.cons r _,e=>by simp_all
 |_,_,i+1,x,.cons _ t,e=>by
  &u,a,b:=Vals.get t (by simpa using e);~⟨u,by simpa using a,b⟩
~Vals.set(r:RelV x u):∀ {xs}{us}(i),Vals xs us->Vals (xs.set i x) (us.set i u)
 |_,_,_,.nil=>.nil
 |_,_,0,.cons _ t=>.cons r t
 |_,_,i+1,.cons q t=>.cons q (Vals.set r i t)
~Vals.append:∀ {xs ys}{us ws},Vals xs us->Vals ys ws->Vals (xs++ys) (us++ws)
 |_,_,_,_,.nil,s=>s
 |_,_,_,_,.cons r t,s=>.cons r (Vals.append t s)
~Vals.take:∀ {xs}{us}(n),Vals xs us->Vals (xs.take n) (us.take n)
 |_,_,0,_=>.nil
 |_,_,_+1,.nil=>.nil
 |_,_,n+1,.cons r t=>.cons r (Vals.take n t)
~Vals.drop:∀ {xs}{us}(n),Vals xs us->Vals (xs.drop n) (us.drop n)
 |_,_,0,r=>r
 |_,_,_+1,.nil=>.nil
 |_,_,n+1,.cons _ t=>Vals.drop n t
§RelO:PY V->PY Li->Prop
 |some v,PN u=>RelV v u
 |none,PR=>True
 |_,_=>False
§KV{κ:Type}:PQ (κ×V)->PQ (κ×Li)->Prop:=OO fun(p:κ×V) (q:κ×Li)=>p.1=q.1/\RelV p.2 q.2
§kV:Key->V
 |.inl i=>.int i
 |.inr x=>.str x
inductive HO where
 |lst (xs:PQ V)
 |tup (xs:PQ V)
 |dK (kvs:PQ (Key×V)) | dT (kvs:PQ (PQ Key×V))
 |set (S:Int->Bool) (n:Nat)
 |ins (C dx:Ll) (fs:PQ (Str×V))
 |own (x:Ll)
 |xd (fs:PQ (Str×V))
 |met (f x:Ll)
 |rng (lo hi:Int)
 |frz (o:Obj) (u:HO)
 |tbl (ps:Array Li)
 |ext (φ:LE->Prop)
¶Hp:=Ll->PY HO
§upd(H:Hp)(a:Ll)(o:HO):Hp:=λb=>if b=a then PN o else H b
~aw:upd H a o a=PN o:=by PL upd;rw[Lj rfl]
~ao(h:b≠a):upd H a o b=H b:=by PL upd;rw[Ln h]
~EH{H:Hp}(h:H a=PN o)(h':H b=PN u)(d:o≠u):a≠b:=by
 intro e;subst e;rw[h]at h';~d (Option.some.inj h')
~aG{H:Hp}(h:H a=PN o)(h':H b=PR):a≠b:=by
 intro e;subst e;rw[h]at h';#h'
section
variable (P:Lw)(w:Lu)
§ObjOk(H:Hp)(h:LE)(a:Ll):HO->Prop
 |.lst xs=>xs°<=Ld/\∃ (its:PQ Li) (n:Nat),Vals xs its/\h.get? a=PN { cls:=.type "list",data:=.seq its.toArray n }
 |.tup xs=>xs°<=Ld/\∃ its:PQ Li,Vals xs its/\Mk h a its.toArray
 |.dK kvs=>kvs°<=Ld/\(a == Mi)=PV/\∃ vs,KV kvs vs/\h.DictOf (aq P w) a vs
 |.dT kvs=>kvs°<=Ld/\(a == Mi)=PV/\∃ xs:PQ (PQ Key×Ll×Li),
   OO (fun(p:PQ Key×V) (q:PQ Key×Ll×Li)=>p.1=q.1/\H q.2.1=PN (.tup (p.1.map kV))/\RelV p.2 q.2.2) kvs xs /\
   ∃ o es ep,h.get? a=PN o/\o.ExactDict/\o.data=.dict es ep/\es.toList=xs.map (entryOfKey (NX (aq P w)))/\(xs.map (·.1)).Nodup
 |.set S n=>h.SetOf (intKind P w) a S n
 |.ins C dx fs=>H dx=PN (.own a)/\fs°<=1000/\dx≠a/\h.get? a=PN (W.instObj C dx) /\
   ∃ mA,h.Ns1 dx mA/\(∀ f,RelO (fs.lookup f) (mA f))/\PySem.Within mA (fs.map (·.1))
 |.own _=>∃ o,h.get? a=PN o
 |.xd fs=>∃ mA,h.Ns1 a mA/\∀ f,RelO (fs.lookup f) (mA f)
 |.rng lo hi=>∃ t u v,h.get? a=PN { cls:=.type "range",data:=.fields #[.int lo t,.int hi u,.int 1 v] }
 |.frz o u=>h.get? a=PN o/\ObjOk H h a u
 |.tbl ps=>h.get? a=PN { cls:=.none,data:=.fields ps }
 |.met f x=>h.get? a=PN (W.methodObj (.ref f) (.ref x))
 |.ext φ=>φ h/\(∃ o,h.get? a=PN o)/\∀ h1 h2:LE,φ h1->(∀ o,h1.get? a=PN o->h2.get? a=PN o)->φ h2
§HOk(H:Hp)(h:LE):Prop:=∀ a o,H a=PN o->ObjOk P w H h a o
end
section
variable {P:Lw}{w:Lu}{H H':Hp}{h h':LE}{a:Ll}{o:HO}
~ObjOk.lt(x:ObjOk P w H h a o):a < h.objs.size:=by
 #o with
 |lst c=>&_,_,_,_,e:=x;~aAd e
 |tup c=>&_,_,_,p:=x;~p.lt
 |dK b=>&_,_,_,_,o,_,_,e,_:=x;~aAd e
 |dT b=>&_,_,_,_,o,_,_,e,_:=x;~aAd e
 |set S n=>&o,_,_,_,e,_:=x;~aAd e
 |ins C l d=>&_,_,_,e,_:=x;~aAd e
 |own y=>&_,e:=x;~aAd e
 |xd d=>&_,⟨_,_,_,e,_⟩,_:=x;~aAd e
 |rng lo i=>&_,_,_,e:=x;~aAd e
 |frz k u=>&e,_:=x;~aAd e
 |tbl j=>~aAd (x)
 |met f y=>~aAd (x)
 |ext g=>&_,⟨_,e⟩,_:=x;~aAd e
~Paired.mapP{F G}:∀ {d:PQ e}{c:PQ g},OO F d c->(∀ a b,F a b->G a b)->OO G d c
 |_,_,.nil,_=>.nil
 |_,_,.cons r t,f=>.cons (f _ _ r) (Paired.mapP t f)
~ObjOk.stay(x:ObjOk P w H h a o)(k:∀ b u,(b=a\/H b=PN (.own a))->h.get? b=PN u->h'.get? b=PN u)
  (B:∀ b,H b=PN (.own a)->H' b=PN (.own a)) (G:∀ b xs,H b=PN (.tup xs)->H' b=PN (.tup xs)):ObjOk P w H' h' a o:=by
 induction o with
 |lst xs=>&z,l,n,r,e:=x;PM z,l,n,r,k _ _ (.inl rfl) e
 |tup xs=>&z,l,r,g,e,c:=x;PM z,l,r,g,k _ _ (.inl rfl) e,c
 |dK s=>&z,y,J,r,g,i,j,e,c:=x;PM z,y,J,r,g,i,j,k _ _ (.inl rfl) e,c
 |dT s =>
  &z,y,xs,r,g,i,j,e,c:=x;PM z,y,xs,Paired.mapP r λp q z=>⟨z.1,G _ _ z.2.1,z.2.2⟩,g,i,j,k _ _ (.inl rfl) e,c
 |set S n=>&g,i,j,t,e,c:=x;PM g,i,j,t,k _ _ (.inl rfl) e,c
 |ins C L I =>
  &d,z,D,e,m,⟨A,i,j,E,c⟩,r:=x;PM B _ d,z,D,k _ _ (.inl rfl) e,m,⟨A,i,j,k _ _ (.inr d) E,c⟩,r
 |own y=>&g,e:=x;PM g,k _ _ (.inl rfl) e
 |xd I=>&m,⟨A,i,j,e,c⟩,r:=x;PM m,⟨A,i,j,k _ _ (.inl rfl) e,c⟩,r
 |rng lo N=>&t,u,v,e:=x;PM t,u,v,k _ _ (.inl rfl) e
 |frz g u F=>&e,q:=x;PM k _ _ (.inl rfl) e,F q
 |tbl M =>
  @e:=x;~k a _ (.inl rfl) e
 |met f y =>
  @e:=x;~k a _ (.inl rfl) e
 |ext O=>&p,⟨o,e⟩,st:=x;PM st _ _ p λo q=>k _ _ (.inl rfl) q,⟨o,k _ _ (.inl rfl) e⟩,st
~HOk.lt(x:HOk P w H h)(e:H a=PN o):a < h.objs.size:=(x a o e).lt
~HOk.fresh(x:HOk P w H h)(e:h.objs.size<=a):H a=none:=by
 #q:H a with
 |none=>rfl
 |some u=>~absurd (aAm (x.lt q) e) (aAN _)
~HOk.kept(x:HOk P w H h)(k:∀ b u,h.get? b=PN u->h'.get? b=PN u):HOk P w H h':=λa o e =>
 (x a o e).stay (λb u _ q=>k b u q) (λ_ q=>q) λ_ _ q=>q
~HOk.laid(x:HOk P w H h)(k:∀ b u,h.get? b=PN u->h'.get? b=PN u)(j:h.objs.size<=a)(d:ObjOk P w (upd H a o) h' a o):HOk P w (upd H a o) h':=λb u e=>by
 @g:=x.fresh j
 by_cases i:b=a
 ·subst i;rw[aw]at e;#e;~d
 ·rw[ao i]at e;~(x b u e).stay (λc v _ q=>k c v q) (λc q=>by rw[ao (aG q g)];~q) λc l q=>by rw[ao (aG q g)];~q
end
§Rd(H:Hp)(a:Ll)(u:HO):Prop:=H a=PN u\/∃ o,H a=PN (.frz o u)
~Rd.ok(r:Rd H a u)(x:HOk P w H h):ObjOk P w H h a u:=by
 rcases r with r | ⟨o,r⟩
 ·~x a u r
 ·&_,q:=x a _ r;~q
§Mut:PY HO->Prop
 |some (.lst _)=>True
 |some (.dK _)=>True
 |some (.dT _)=>True
 |some (.set _ _)=>True
 |some (.ins _ _ _)=>True
 |some (.ext _)=>True
 |_=>False
section
variable {P:Lw}{w:Lu}{H:Hp}{h h':LE}{x e:Ll}{o':HO}
~HOk.write(A:HOk P w H h)(g:Mut (H x))(t:e=x\/H e=PN (.own x))(k:∀ b u,b≠e->h.get? b=PN u->h'.get? b=PN u)(j:∃ u,h'.get? e=PN u)
  (l:ObjOk P w (upd H x p) h' x p):HOk P w (upd H x p) h':=λb u q=>by
 @a:∀ c y,H c=PN (.own y)->c≠x:=λc y r z=>by subst z;rw[r]at g;~g
 by_cases i:b=x
 ·subst i;rw[aw]at q;#q;~l
 ·rw[ao i]at q
  by_cases d:b=e
  ·@m:H b=PN (.own x):=by simp_all
   rw[q]at m;#m;&v,s:=j;~⟨v,by rw[d];~s⟩
  ·!(A b u q).stay (λc v f r=>k c v ?_ r) (λc r=>by rw[ao (a c b r)];~r) λc o r=>by rw[ao ((λc o r z=>by subst z;rw[r]at g;~g) c o r)];~r
   rcases f with rfl | f
   ·~d
   ·rintro rfl;rcases t with z | z
    ·~a c b f z
    ·rw[f]at z;#z;~i rfl
end
structure Un(fs ex:PQ Ll)(H H':Hp)(h h':LE):Prop where
 keep:∀ b o,h.get? b=PN o->H b=PR->b∉fs->b∉ex->h'.get? b=PN o
 slot:∀ b o,h.get? b=PN o->H b=PR->b∈fs->b∉ex->∃ sl,h'.get? b=PN { o with slots:=sl }
 free:∀ b o,h.get? b=PN o->H b=PR->b∉ex->H' b=PR
 there:∀ b o,h.get? b=PN o->b∉ex->∃ o',h'.get? b=PN o'
 tups:∀ b xs,H b=PN (.tup xs)->H' b=PN (.tup xs)
 frzs:∀ b o u,H b=PN (.frz o u)->H' b=PN (.frz o u)
 tbls:∀ b ps,H b=PN (.tbl ps)->∃ more,H' b=PN (.tbl (ps++more))
section
variable {fs fs' ex ex':PQ Ll}{H H1 H2:Hp}{h h1 h2 h':LE}{a x e:Ll}{o:HO}
~Un.any(u:Un fs ex H H1 h f)(q:h.get? b=PN ob)(n:H b=PR)(c:b∉ex):∃ d,f.get? b=PN { ob with slots:=d }:=by
 by_cases a:b∈fs
 ·~u.slot b ob q n a c
 ·PM ob.slots,u.keep b ob q n a c
~Un.kept(k:∀ b u,h.get? b=PN u->h'.get? b=PN u):Un fs ex H H h h' :=
 ⟨λb a q _ _ _=>k b a q,λb a q _ _ _=>⟨a.slots,k b a q⟩,λ_ _ _ n _=>n,λb a q _=>⟨a,k b a q⟩,λ_ _ q=>q,λ_ _ _ q=>q,λ_ c q=>⟨#[],by rw[q];simp⟩⟩
~Un.refl:Un fs ex H H h h:=Un.kept λ_ _ q=>q
~Un.laid(k:∀ b u,h.get? b=PN u->h'.get? b=PN u)(d:h.objs.size<=a)(c:H a=PR):Un fs ex H (upd H a o) h h' where
 keep:=λb u q _ _ _=>k b u q
 slot:=λb u q _ _ _=>⟨u.slots,k b u q⟩
 free:=λb u q n _=>by rw[ao (aAs (aAm (aAd q) d))];~n
 there:=λb u q _=>⟨u,k b u q⟩
 tups:=λb e q=>by rw[ao (aG q c)];~q
 frzs:=λb u e q=>by rw[ao (aG q c)];~q
 tbls:=λb g q=>⟨#[],by rw[ao (aG q c),q];simp⟩
~Un.write(f:Mut (H x))(m:e=x\/H e=PN (.own x))(k:∀ b u,b≠e->h.get? b=PN u->h'.get? b=PN u)(d:∃ u,h'.get? e=PN u):Un fs ex H (upd H x o) h h':=by
 @j:∀ b,H b=PR->b≠x:=λb n z=>by subst z;rw[n]at f;~f
 @g:∀ b,H b=PR->b≠e:=λb n z=>by simp_all
 @c:∀ b u,H b=PN u->¬ Mut (PN u)->b≠x:=λb u q r z=>by simp_all
 !⟨λb u q n _ _=>k b u (g b n) q,λb u q n _ _=>⟨u.slots,k b u (g b n) q⟩,λb u q n _=>by rw[ao (j b n)];~n,λb u q _=>?_,
  λb i q=>by rw[ao (c b _ q λz=>z)];~q,λb u i q=>by rw[ao (c b _ q λz=>z)];~q,λb p q=>⟨#[],by rw[ao (c b _ q λz=>z),q];simp⟩⟩
 by_cases a:b=e
 ·subst a;~d
 ·PM u,k b u a q
end
§trk(h:LE)(H:Hp):PQ Ll:=(List.range h.objs.size).filter λa=>(H a).isSome
§qq(h:LE)(H:Hp):LE:=W.hideAll h (trk h H)
~qr(h)(H):(qq h H).objs.size=h.objs.size:=W.hideAll_size _ _
~rX(e:h.get? b=PN o)(n:H b=PR):(qq h H).get? b=PN o:=
 W.hideAll_get _ e λc=>by
  @q:=(aBn.mp c).2;rw[n]at q;simp at q
~w9(e:(qq h H).get? b=PN o):h.get? b=PN o/\H b=none:=by
 @c:=W.of_hideAll _ e;!⟨c,?_⟩
 #q:H b with
 |none=>rfl
 |some x =>
  @z:(qq h H).get? b=none:=W.hideAll_none _ (aBn.mpr ⟨aBK.mpr (aAd c),by simp[q]⟩);rw[z]at e;#e
structure Mod(K:W.Frag)(mg:Str->PY Li)(base:LE):Prop where
 kin:K.In base
 glob:base.Ns LC mg
 blt:∃ mb,base.Ns Oa mb/\∀ x:Str,x≠ "__name__" ->mb x=Mh x
 nolimit:base.NoLimit
structure Cx where
 prog:Lw
 w:Lu
 K:W.Frag
 mg:Str->PY Li
 base:LE
 A:LM
 N:PQ Str
 s₀:Lk
 H₀:Hp
 env:Env
 outer:PQ Env
 stack:PQ Env
 ex:PQ Ll
 fn:Str->Bool
 calm:Bool
 pn:PQ (Ll×Obj)
 xe:Li->Lk->Prop
§frs(l:PQ Env):PQ Ll:=l.filterMap (·.frame)
¶Cx.fs(X:Cx):PQ Ll:=frs X.outer
§Vis(sc:Scope)(x:Str):Prop:=sc.names.lookup x=PN .local\/sc.names.lookup x=PN .cell\/sc.names.lookup x=PN .free
§Loc(sc:Scope)(x:Str):Prop:=sc.names.lookup x=PN .local\/sc.names.lookup x=PN .cell
§IH(env:Env)(h:LE)(m:Str->PY Li)(x:Str)(u:Li):Prop:=
 (env.kindOf x=PN .local/\m x=PN u)\/((env.kindOf x=PN .cell\/env.kindOf x=PN .free)/\∃ c,env.cells.lookup x=PN c/\h.IsCell c (PN u))
structure Cx.Ok(X:Cx):Prop where
 mod:Mod X.K X.mg X.base
 kind:X.env.scope.kind=.function
 glob:X.env.globals=LC
 blt:X.env.builtins=Oa
 above:X.s₀¢<=X.env.locals
 inj:∀ x y c,X.env.cells.lookup x=PN c->X.env.cells.lookup y=PN c->x=y
 has:∀ x,(X.env.kindOf x=PN .cell\/X.env.kindOf x=PN .free)->∃ c,X.env.cells.lookup x=PN c
 cab:∀ x c,X.fn x=PU->X.env.cells.lookup x=PN c->X.s₀¢<=c
 hd:X.calm=PU->X.A.handled=PR
 frames:X.A.frames=PN X.stack
 stk:X.stack=X.outer\/(X.stack=X.env :: X.outer/\X.env.frame=PN X.env.locals)
 exf:∀ b∈X.ex,b≠X.env.locals/\∀ x c,X.env.cells.lookup x=PN c->c≠b
 bs:∀ b o,X.base.get? b=PN o->X.s₀.heap.get? b=PN o/\X.H₀ b=PR
 bsz:X.base.objs.size<=X.s₀¢
 noex:∀ b o,X.base.get? b=PN o->b∉X.ex
 exfs:∀ b∈X.ex,b∉X.fs
 funs:X.s₀.heap.FunFrames X.base X.outer
 frf:∀ b∈X.fs,X.H₀ b=PR
structure Inv(X:Cx)(pins:PQ (Ll×Obj))(σ:PQ (PY V))(H:Hp)(s:Lk):Prop where
 ok:X.Ok
 os:s.os=X.s₀.os
 bare:MH s.gens
 base:Un X.fs X.ex X.H₀ H X.s₀.heap s.heap
 loc:∃ m,s.heap.Ns X.env.locals m/\∀ (i:Nat) (x:Str) (v:V),X.N[i]?=PN x->σ[i]?=PN (PN v)->Vis X.env.scope x->∃ u,RelV v u/\IH X.env s.heap m x u
 cell:∀ x c,X.env.cells.lookup x=PN c->∃ v,s.heap.IsCell c v
 free:H X.env.locals=PR
 freeC:∀ x c,X.env.cells.lookup x=PN c->H c=PR
 pin:∀ p∈X.pn++pins,s.heap.get? p.1=PN p.2/\H p.1=PR/\p.1≠X.env.locals/\p.1∉X.fs/\∀ v,p.2.data≠.cell v
 hok:HOk X.prog X.w H s.heap
 len:σ°=X.N°
section
variable {X:Cx}{pins:PQ (Ll×Obj)}{σ:PQ (PY V)}{H H':Hp}{s:Lk}{h':LE}
~Cx.Ok.nofr(c:X.Ok)(e:X.base.get? b=PN o):b∉X.fs:=λa=>by
 @:=(c.funs.mem a).1;rw[e]at this;#this
~Inv.bs(I:Inv X pins σ H s):∀ b o,X.base.get? b=PN o->s.heap.get? b=PN o/\H b=none:=λb o e =>
 ⟨I.base.keep b o (I.ok.bs b o e).1 (I.ok.bs b o e).2 (I.ok.nofr e) (I.ok.noex b o e),I.base.free b o (I.ok.bs b o e).1 (I.ok.bs b o e).2 (I.ok.noex b o e)⟩
~Inv.bk(I:Inv X pins σ H s):∀ b o,X.base.get? b=PN o->s.heap.get? b=PN o:=λb o e=>(I.bs b o e).1
~Inv.mod(I:Inv X pins σ H s):Mod X.K X.mg X.base:=I.ok.mod
~Inv.kIn(I:Inv X pins σ H s):X.K.In s.heap:=I.ok.mod.kin.keeps I.bk
~Inv.lt(I:Inv X pins σ H s):X.env.locals < s¢:=let ⟨_,b,_⟩:=I.loc;b.lt
~Inv.sz(I:Inv X pins σ H s):X.s₀¢<=s¢:=aAq I.ok.above (aAU I.lt)
~Inv.nofs(I:Inv X pins σ H s){a:Ll}(h:s¢<=a):a∉X.fs:=λd=>by
 &_,o,c,_:=I.ok.funs.mem d;~absurd (aAm (aAd c) (aAq I.sz h)) (aAN _)
~Inv.cne(I:Inv X pins σ H s):∀ x c,X.env.cells.lookup x=PN c->c≠X.env.locals:=λx c e z=>by
 &v,o,d,g:=I.cell x c e;&m,⟨k,j,i,b,a,_⟩,_:=I.loc;rw[z,b]at d;#d;rw[a]at g;#g
~Inv.funs(I:Inv X pins σ H s):s.heap.FunFrames X.base X.outer:=by
 @c:∀ (l),(∀ b∈frs l,b∈X.fs)->X.s₀.heap.FunFrames X.base l->s.heap.FunFrames X.base l:=by
  intro l
  induction l with
  |nil=>intro _ _;trivial
  |cons i r n =>
   intro g p;&q,⟨L,o,f,m,t,j⟩,k:=p;@a:=g L (by PL frs;rw[aAP,f];~aAe);&u,e:=I.base.slot L o t (I.ok.frf L a) a λz=>I.ok.exfs L z a;PM q,⟨L,_,f,m,e,j⟩,n (λb d=>g b (by PL frs;rw[aAP,f];~aAk _ d)) k
 ~c _ (λ_ d=>d) I.ok.funs
~Inv.stack(I:Inv X pins σ H s):s.heap.FunFrames X.base X.stack:=by
 rcases I.ok.stk with e | ⟨e,b⟩
 ·rw[e];~I.funs
 ·rw[e];&m,c,_:=I.loc;!.cons (by rw[I.ok.kind];decide) b c ?_ I.funs;~Heap.get?_none_of_le (aAq I.ok.bsz I.ok.above)
~Inv.stkSub(I:Inv X pins σ H s):∀ b∈frs X.stack,b∈X.env.locals :: X.fs:=λb a=>by
 rcases I.ok.stk with e | ⟨e,d⟩
 ·rw[e]at a;~aAk _ a
 ·rw[e]at a;unfold frs at a;rw[aAP,d]at a;~a
~Inv.stkFree(I:Inv X pins σ H s):∀ b∈frs X.stack,H b=none:=λb a=>by
 rcases aAl.mp (I.stkSub b a)with e | a
 ·rw[e];~I.free
 ·&_,o,d,_:=I.ok.funs.mem a;~I.base.free b o d (I.ok.frf b a) λz=>I.ok.exfs b z a
~Inv.step{g':Array NN}{t':Nat}{d':Drawn}{ch:PQ Ll}(I:Inv X pins σ H s)
  (j:∀ b∈ch,(b∈X.ex\/X.s₀¢<=b)/\b≠X.env.locals/\(∀ x c,X.env.cells.lookup x=PN c->c≠b)/\∀ p∈X.pn++pins,p.1≠b)
  (t:∀ b o,b≠X.env.locals->b∉X.fs->b∉ch->s.heap.get? b=PN o->H b=PR->h'.get? b=PN o)
  (A:∀ b o,b≠X.env.locals->b∈X.fs->b∉ch->s.heap.get? b=PN o->H b=PR->∃ Q,h'.get? b=PN { o with slots:=Q }) (f:∀ b o,b∉ch->s.heap.get? b=PN o->H b=PR->H' b=PR)
  (C:∀ b o,b∉ch->s.heap.get? b=PN o->∃ M,h'.get? b=PN M)
  (J:∀ b xs,H b=PN (.tup xs)->H' b=PN (.tup xs)) (O:∀ b o u,H b=PN (.frz o u)->H' b=PN (.frz o u)) (N:∀ b P,H b=PN (.tbl P)->∃ L,H' b=PN (.tbl (P++L)))
  (ns:∀ m,s.heap.Ns X.env.locals m->h'.Ns X.env.locals m) (T:HOk X.prog X.w H' h') (hg:MH g') :
  Inv X pins σ H' { s with heap:=h',gens:=g',drawn:=d',toks:=t' }:=by
 @G:∀ b o,X.s₀.heap.get? b=PN o->b≠X.env.locals:=λb o e=>aAs (aAm (aAd e) I.ok.above);@w:∀ b o,X.s₀.heap.get? b=PN o->b∉X.ex->b∉ch:=λb o e a D=>by
  rcases(j b D).1 with z | z
  ·~a z
  ·~absurd (aAm (aAd e) z) (aAN _)
 @g:∀ x c,X.env.cells.lookup x=PN c->∀ v,s.heap.IsCell c v->h'.IsCell c v:=λx c e v ⟨o,E,R⟩=>by
  @h:c∉ch:=λz=>(j c z).2.2.1 x c e rfl
  by_cases W:c∈X.fs
  ·&Q,q:=A c o (I.cne x c e) W h E (I.freeC x c e);PM _,q,R
  ·PM o,t c o (I.cne x c e) W h E (I.freeC x c e),R
 !⟨I.ok,I.os,hg,⟨λb o e n D a=>?_,λb o e n D a=>?_,λb o e n a=>?_,λb o e a=>?_,λb xs e=>J b xs (I.base.tups b xs e),λb o xs e=>O b o xs (I.base.frzs b o xs e),λb P e=>?_⟩,?_,λx c e=>?_,?_,λx c e=>?_,λp Y=>?_,T,I.len⟩
 ·~t b o (G b o e) D (w b o e a) (I.base.keep b o e n D a) (I.base.free b o e n a)
 ·&Q,y:=I.base.slot b o e n D a;&S,F:=A b _ (G b o e) D (w b o e a) y (I.base.free b o e n a);PM S,F
 ·&M,y:=I.base.there b o e a;~f b M (w b o e a) y (I.base.free b o e n a)
 ·&M,y:=I.base.there b o e a;~C b M (w b o e a) y
 ·&m1,y:=I.base.tbls b P e;&m2,F:=N b _ y;~⟨m1++m2,by rw[F,Array.append_assoc]⟩
 ·&m,hn,hl:=I.loc;!⟨m,ns m hn,λi x v y F e3=>?_⟩;&u,r,l:=hl i x v y F e3;!⟨u,r,?_⟩;rcases l with l | ⟨k,c,e,z⟩
  ·~.inl l
  ·~.inr ⟨k,c,e,g x c e _ z⟩
 ·&v,z:=I.cell x c e;PM v,g x c e v z
 ·&m,⟨o,_,_,E,_⟩,_:=I.loc;~f _ o (λz=>(j _ z).2.1 rfl) E I.free
 ·&v,o,E,R:=I.cell x c e;~f c o (λz=>(j c z).2.2.1 x c e rfl) E (I.freeC x c e)
 ·&e,n,U,Z,d:=I.pin p Y;@h:p.1∉ch:=λz=>(j p.1 z).2.2.2 p Y rfl;PM t p.1 p.2 U Z h e n,f p.1 p.2 h e n,U,Z,d
~Inv.un(I:Inv X pins σ H s)(u:Un X.fs [] H H' s.heap h')(d:HOk X.prog X.w H' h'):Inv X pins σ H' { s with heap:=h',toks:=t' }:=by
 &m,⟨o,t,q,i,r⟩,_:=id I.loc;&w,l:=u.any i I.free (by simp);~I.step (ch:=[]) (λ_ z=>nomatch z) (λb o _ h _ e n=>u.keep b o e n h (by simp)) (λb o _ h _ e n=>u.slot b o e n h (by simp)) (λb o _ e n=>u.free b o e n (by simp)) (λb o _ e=>u.there b o e (by simp)) u.tups u.frzs u.tbls (λx p=>by
  &v,f,g,c,k:=p;rw[i]at c;#c;PM _,f,g,l,k) d I.bare
~Inv.call(I:Inv X pins σ H s)(u:Un (frs X.stack) ch H H' s.heap h')(j:HOk X.prog X.w H' h')(v:MH g')
  (g:∀ b∈ch,(b∈X.ex\/X.s₀¢<=b)/\b≠X.env.locals/\(∀ x c,X.env.cells.lookup x=PN c->c≠b)/\∀ p∈X.pn++pins,p.1≠b) :
  Inv X pins σ H' { s with heap:=h',gens:=g',drawn:=d',toks:=t' }:=by
 &m,⟨o,B,F,l,r⟩,_:=id I.loc;&E,i:=u.any l I.free λz=>(g _ z).2.1 rfl;~I.step g (λb o i A d e n=>u.keep b o e n (λz=>(aAl.mp (I.stkSub b z)).elim i A) d) (λb o _ _ d e n=>u.any e n d) (λb o d e n=>u.free b o e n d) (λb o d e=>u.there b o e d) u.tups u.frzs u.tbls (λD w=>by
  &C,k,h,f,y:=w;rw[l]at f;#f;PM _,k,h,i,y) j v
~Inv.turned(I:Inv X pins σ H s)(k:∀ b o,b≠a->s.heap.get? b=PN o->h'.get? b=PN o)(F:H a=PR)(h:a≠X.env.locals)
  (A:a∈X.ex\/X.s₀¢<=a) (D:∀ x c,X.env.cells.lookup x=PN c->c≠a) (l:∀ p∈X.pn++pins,p.1≠a):Inv X pins σ H { s with heap:=h',toks:=t' }:=by
 @g:∀ b u,H b=PN u->b≠a:=λb u e z=>by simp_all
 !I.step (ch:=[a]) (λb C=>?_) (λb o _ _ f e _=>k b o (λz=>f (by simp[z])) e) (λb o _ _ f e _=>⟨o.slots,k b o (λz=>f (by simp[z])) e⟩) (λ_ _ _ _ n=>n)
  (λb o f e=>⟨o,k b o (λz=>f (by simp[z])) e⟩) (λ_ _ e=>e) (λ_ _ _ e=>e) (λb E e=>⟨#[],by rw[e];simp⟩) (λm j=>?_) (λb u e=>?_) I.bare
 ·@e:b=a:=by simpa using C
  subst e;PM A,h,D,l
 ·&o,B,w,t,r:=j;PM o,B,w,k _ o (Ne.symm h) t,r
 ·!(I.hok b u e).stay (λc v f q=>k c v ?_ q) (λ_ q=>q) λ_ _ q=>q;rcases f with z | z
  ·rw[z];~g b u e
  ·~g c _ z
~Inv.tok(I:Inv X pins σ H s)(t):Inv X pins σ H { s with toks:=t }:=I.un Un.refl I.hok
~Inv.kept(I:Inv X pins σ H s)(k:∀ b u,s.heap.get? b=PN u->h'.get? b=PN u):Inv X pins σ H { s with heap:=h',toks:=t' }:=I.un (Un.kept k) (I.hok.kept k)
~Inv.laid{a:Ll}(I:Inv X pins σ H s)(k:∀ b u,s.heap.get? b=PN u->h'.get? b=PN u)(d:s¢<=a)(e:ObjOk X.prog X.w (upd H a o) h' a o) :
  Inv X pins σ (upd H a o) { s with heap:=h',toks:=t' }:=I.un (Un.laid k d (I.hok.fresh d)) (I.hok.laid k d e)
~Inv.write(I:Inv X pins σ H s)(f:Mut (H x))(g:e=x\/H e=PN (.own x))(k:∀ b u,b≠e->s.heap.get? b=PN u->h'.get? b=PN u)(a:∃ u,h'.get? e=PN u)
  (d:ObjOk X.prog X.w (upd H x o) h' x o):Inv X pins σ (upd H x o) { s with heap:=h',toks:=t' }:=I.un (Un.write f g k a) (I.hok.write f g k a d)
~Inv.pins_of(I:Inv X pins σ H s)(h:∀ p∈a,s.heap.get? p.1=PN p.2/\H p.1=PR/\p.1≠X.env.locals/\p.1∉X.fs/\∀ v,p.2.data≠.cell v):Inv X a σ H s:=
 ⟨I.ok,I.os,I.bare,I.base,I.loc,I.cell,I.free,I.freeC,λp e=>(aAG.mp e).elim (λz=>I.pin p (List.mem_append_left _ z)) (h p),I.hok,I.len⟩
~kE{N:PQ Str}(c:N.Nodup){i j:Nat}(a:N[i]?=PN x)(b:N[j]?=PN x):i=j:=by
 &g,e:=aAg.mp a;&f,d:=aAg.mp b;~(aBs c).mp (e.trans d.symm)
~iB{M:Model}{A:LM}{E:Li->Lk->Prop}{i:Nat}{x:Str}{v:V}{u:Li}{Q:Unit->Lk->Prop}(I:Inv X pins σ H s)(hN:X.N.Nodup)(T:X.N[i]?=PN x)(w:Loc X.env.scope x)(r:RelV v u)
  (h:∀ s',Inv X pins (σ.set i (PN v)) H s'->(∃ a,Heap.SameBut a s.heap s'.heap/\(a=X.env.locals\/X.env.cells.lookup x=PN a))->Q () s') (hf:X.fn x=PU\/X.env.scope.names.lookup x=PN .local:=by first | ~.inl rfl | ~.inr rfl | assumption):Lm M A (storeName X.env x u) Q E s:=by
 &m,hn,hl:=id I.loc;@D:i < σ°:=by rw[I.len];~(aAg.mp T).1
 @L:=I.cne;@l:∀ {a:Ll}{N:LE},(∃ o,s.heap.get? a=PN o/\H a=PR)->Heap.SameBut a s.heap N->HOk X.prog X.w H N:=fun{a N} ha f b ob e=>by
  &_,_,B:=ha;!(I.hok b ob e).stay (λc Y t q=>(f.2 c ?_).trans q) (λ_ q=>q) λ_ _ q=>q;rintro rfl;rcases t with rfl | t
  ·rw[B]at e;#e
  ·rw[B]at t;#t
 rcases w with O | O
 ·!wpAny_storeName_local O hn (λN hn' f=>?_) (by rw[I.ok.kind];rfl);&oL,_,_,hoL,_:=id hn;!h _ ⟨I.ok,I.os,I.bare,⟨λb o e n F w=>?_,λb o e n F w=>?_,I.base.free,λb o e w=>?_,I.base.tups,I.base.frzs,I.base.tbls⟩,⟨_,hn',λj y v' g C e3=>?_⟩,λy c e=>?_,I.free,I.freeC,λp hp=>?_,l ⟨oL,hoL,I.free⟩ f,by simpa using I.len⟩ ⟨_,f,.inl rfl⟩
  ·~(f.2 b (aAs (aAm (aAd e) I.ok.above))).trans (I.base.keep b o e n F w)
  ·&sl,g:=I.base.slot b o e n F w;PM sl,(f.2 b (aAs (aAm (aAd e) I.ok.above))).trans g
  ·&o',g:=I.base.there b o e w;PM o',(f.2 b (aAs (aAm (aAd e) I.ok.above))).trans g
  ·by_cases J:j=i
   ·subst J;rw[T]at g;#g;rw[aA8 D]at C
    #C
    PM u,r,.inl ⟨O,by simp⟩
   ·rw[aA5 (Ne.symm J)]at C;&u',r',q:=hl j y v' g C e3;!⟨u',r',?_⟩;rcases q with⟨k,e⟩ | ⟨k,c,e,z⟩
    ·!.inl ⟨k,?_⟩;@:y≠x:=λe=>J (kE hN g (e ▸ T));simp[this,e]
    ·~.inr ⟨k,c,e,z.sameBut f (L y c e)⟩
  ·&Y,z:=I.cell y c e;PM Y,z.sameBut f (L y c e)
  ·&e,n,Z,nf,d:=I.pin p hp;PM(f.2 p.1 Z).trans e,n,Z,nf,d
 ·@G:X.fn x=true:=by simp_all
  &c,t:=I.ok.has x (.inl O);&Y,z:=I.cell x c t;!wpAny_storeName_cell I.ok.kind O t z (λN P f=>?_);&oc,W,U:=id z;!h { s with heap:=N } ⟨I.ok,I.os,I.bare,⟨λb o e n F w=>?_,λb o e n F w=>?_,I.base.free,λb o e w=>?_,I.base.tups,I.base.frzs,I.base.tbls⟩,⟨m,hn.sameBut f (Ne.symm (L x c t)),λj y v' g C e3=>?_⟩,λy c' e=>?_,I.free,I.freeC,λp hp=>?_,l ⟨oc,W,I.freeC x c t⟩ f,by simpa using I.len⟩ ⟨c,f,.inr t⟩
  ·~(f.2 b (aAs (aAm (aAd e) (I.ok.cab x c G t)))).trans (I.base.keep b o e n F w)
  ·&sl,g:=I.base.slot b o e n F w;PM sl,(f.2 b (aAs (aAm (aAd e) (I.ok.cab x c G t)))).trans g
  ·&o',g:=I.base.there b o e w;PM o',(f.2 b (aAs (aAm (aAd e) (I.ok.cab x c G t)))).trans g
  ·by_cases J:j=i
   ·subst J;rw[T]at g;#g;rw[aA8 D]at C
    #C
    PM u,r,.inr ⟨.inl O,c,t,P⟩
   ·rw[aA5 (Ne.symm J)]at C;&u',r',q:=hl j y v' g C e3;!⟨u',r',?_⟩;rcases q with q | ⟨k,c',e,z'⟩
    ·~.inl q
    ·!.inr ⟨k,c',e,z'.sameBut f ?_⟩;rintro rfl;~J (kE hN g (I.ok.inj _ _ _ e t ▸ T))
  ·by_cases S:c'=c
   ·subst S;PM _,P
   ·&w2,z2:=I.cell y c' e;PM w2,z2.sameBut f S
  ·&e,n,Z,nf,d:=I.pin p hp;!⟨(f.2 p.1 ?_).trans e,n,Z,nf,d⟩;intro q;rw[q,W]at e;~d Y (by rw[<- (Option.some.inj e)];~U)
~gb(I:Inv X pins σ H s)(b:X.N.Nodup)(c:X.N[i]?=PN x)(d:Loc X.env.scope x)(r:RelV v u)
  (h:∀ s',Inv X pins (σ.set i (PN v)) H s'->Q () s') (e:X.fn x=PU\/X.env.scope.names.lookup x=PN .local:=by first | ~.inl rfl | ~.inr rfl | assumption):Lm M A (storeName X.env x u) Q E s:=
 iB I b c d r (λs' g _=>h s' g) e
~Inv.call'(I:Inv X pins σ H s)(h:s'.os=s.os)(u:Un (frs X.stack) ch H H' s.heap s'.heap)(e:HOk X.prog X.w H' s'.heap)(g:MH s'.gens)
  (d:∀ b∈ch,(b∈X.ex\/X.s₀¢<=b)/\b≠X.env.locals/\(∀ x c,X.env.cells.lookup x=PN c->c≠b)/\∀ p∈X.pn++pins,p.1≠b):Inv X pins σ H' s':=by
 &k,l,j,i,m:=s';subst h;~I.call u e g d
end
¶XK:=Li->PY Ll->Hp->Prop
¶St:=PQ (PY V)
¶VK:=V->Hp->Prop
¶TE:=St->Hp->VK->Prop
¶TT:=St->Hp->(Bool->Hp->Prop)->Prop
¶TA:=St->Hp->(PQ V->Hp->Prop)->Prop
structure Ends where
 nx:St->Hp->Prop
 rt:VK
 bk:St->Hp->Prop:=λ_ _=>False
 ct:St->Hp->Prop:=λ_ _=>False
¶TS:=Ends->St->Hp->Prop
§EP(X:Cx)(pins:PQ (Ll×Obj))(σ:St)(Q:VK)(u:Li)(s':Lk):Prop:=∃ v H',Inv X pins σ H' s'/\RelV v u/\Q v H'
§TP(X:Cx)(pins:PQ (Ll×Obj))(σ:St)(Q:Bool->Hp->Prop)(b:Bool)(s':Lk):Prop:=∃ H',Inv X pins σ H' s'/\Q b H'
§AP(X:Cx)(pins:PQ (Ll×Obj))(σ:St)(Q:PQ V->Hp->Prop)(us:PQ Li)(s':Lk):Prop:=∃ vs H',Inv X pins σ H' s'/\Vals vs us/\Q vs H'
§SP(X:Cx)(pins:PQ (Ll×Obj))(D:Ends)(f:Flow)(s':Lk):Prop:=
 match f with
 |.next=>∃ σ' H',Inv X pins σ' H' s'/\D.nx σ' H'
 |.brk=>∃ σ' H',Inv X pins σ' H' s'/\D.bk σ' H'
 |.cont=>∃ σ' H',Inv X pins σ' H' s'/\D.ct σ' H'
 |.ret u=>∃ v σ' H',Inv X pins σ' H' s'/\RelV v u/\D.rt v H'
§PE(X:Cx)(e:Expr)(t:TE):Prop:=
 ∀ (pins:PQ (Ll×Obj)) (s:Lk) (σ:St) (H:Hp) (Q:VK),Inv X pins σ H s->t σ H Q->Lm (Lo X.prog X.w) X.A (L3 e X.env) (EP X pins σ Q) X.xe s
§PT(X:Cx)(e:Expr)(t:TT):Prop:=
 ∀ (pins:PQ (Ll×Obj)) (s:Lk) (σ:St) (H:Hp) (Q:Bool->Hp->Prop),Inv X pins σ H s->t σ H Q->Lm (Lo X.prog X.w) X.A (isTrue e X.env (L3 e X.env)) (TP X pins σ Q) X.xe s
§PW(X:Cx)(e:Expr)(t:TT):Prop:=
 ∀ (whole:Sem Li) (pins:PQ (Ll×Obj)) (s:Lk) (σ:St) (H:Hp) (Q:Bool->Hp->Prop),Inv X pins σ H s->t σ H Q->Lm (Lo X.prog X.w) X.A (isTrue e X.env whole) (TP X pins σ Q) X.xe s
~PW.pt(h:PW X e t):PT X e t:=h _
§PA(X:Cx)(es:PQ Expr)(t:TA):Prop:=
 ∀ (pos:Pos) (pins:PQ (Ll×Obj)) (s:Lk) (σ:St) (H:Hp) (Q:PQ V->Hp->Prop),Inv X pins σ H s->t σ H Q->Lm (Lo X.prog X.w) X.A (spliced (Mc pos (Lq es X.env))) (AP X pins σ Q) X.xe s
§PS(X:Cx)(st:LP)(t:TS):Prop:=
 ∀ (pins:PQ (Ll×Obj)) (s:Lk) (σ:St) (H:Hp) (D:Ends),Inv X pins σ H s->t D σ H->Lm (Lo X.prog X.w) X.A (exec st X.env) (SP X pins D) X.xe s
§PSs(X:Cx)(st:PQ LP)(t:TS):Prop:=
 ∀ (pins:PQ (Ll×Obj)) (s:Lk) (σ:St) (H:Hp) (D:Ends),Inv X pins σ H s->t D σ H->Lm (Lo X.prog X.w) X.A (execs st X.env) (SP X pins D) X.xe s
~thn{t:Sem c}{Q Q'}(h:Lm M A t Q E s)(b:∀ a s,Q a s->Q' a s):Lm M A t Q' E s:=LG h b λ_ _ x=>x
section
variable {X:Cx}
inductive IVar(i:Nat)(σ:St)(H:Hp)(Q:VK):Prop
 |mk (v:V):(σ[i]?=PN (PN v))->(Q v H)->IVar i σ H Q
§II(i:Nat):TE:=λσ H Q=>IVar i σ H Q
§tC(v:V):TE:=λ_ H Q=>Q v H
~Bw{pos}(n:X.N[i]?=PN x)(q:Vis X.env.scope x)(j:(x == ("__debug__"))=false:=by decide)(g:(x == ("__classdict__"))=false:=by decide):PE X (.Name x pos) (II i):=by
 intro f s p H Q I h;&v,e,h:=h;&m,t,o:=I.loc;&u,r,l:=o i x v n e q;@b:EP X f p Q u s:=⟨v,H,I,r,h⟩;rcases l with⟨d,w⟩ | ⟨d,c,k,a⟩
 ·~OP (wpAny_loadName_local I.ok.kind d t w b) j
 ·rcases d with d | d
  ·~OP (wpAny_loadName_cell I.ok.kind d k a b) j
  ·~OP (wpAny_loadName_free I.ok.kind d k a b g) j
~rY:PE X (.Constant (.int i) j pos) (tC (.int i)):=λ_ _ _ H _ I h=>wpAny_Constant_int ⟨.int i,H,I.tok _,⟨_,rfl⟩,h⟩
~Aw:PE X (.Constant (.bool b) j pos) (tC (.bl b)):=λ_ _ _ H _ I h=>Constant_bool ⟨.bl b,H,I,rfl,h⟩
~jv:PE X (.Constant .none j pos) (tC .non):=λ_ _ _ H _ I h=>Constant_none ⟨.non,H,I,rfl,h⟩
~mE:PE X (.Constant (.str x) j pos) (tC (.str x)):=λ_ _ _ H _ I h=>Calls.Constant_str ⟨.str x,H,I.tok _,⟨_,rfl⟩,h⟩
§Gl(X:Cx)(x:Str):Prop:=X.env.kindOf x=PN .globalImplicit
~bj{d:St}(I:Inv X a d H s)(e:Gl X x)(b:X.mg x=PN u)(h:Q u s)
  (c:(x == ("__debug__"))=false:=by decide):Lm (Lo X.prog X.w) X.A (L3 (.Name x pos) X.env) Q E s:=
 Calls.Name_function_global I.ok.kind e (Calls.loadGlobal_global (by rw[I.ok.glob];~I.mod.glob.keeps I.bk) b h) c
~b6{E}{f:St}{pos}(I:Inv X a f H s)(i:Gl X x)(b:X.mg x=PR)(d:Mh x=PN u)(h:Q u s)
  (c:x≠ "__name__" :=by decide) (g:(x == ("__debug__"))=false:=by decide):Lm (Lo X.prog X.w) X.A (L3 (.Name x pos) X.env) Q E s:=by
 &k,e,j:=I.mod.blt;~Calls.Name_function_global I.ok.kind i (Calls.loadGlobal_builtin (by rw[I.ok.glob];~I.mod.glob.keeps I.bk) b (by rw[I.ok.blt];~e.keeps I.bk) ((j x c).trans d) h) g
~oE(b:Gl X x)(a:X.mg x=PN u)(r:RelV v u)(c:(x == ("__debug__"))=false:=by decide):PE X (.Name x pos) (tC v):=
 λ_ _ _ H _ I h=>bj I b a ⟨v,H,I,r,h⟩ c
~xa{pos}(d:Gl X x)(a:X.mg x=PR)(c:Mh x=PN u)(r:RelV v u)(b:x≠ "__name__" :=by decide)(e:(x == ("__debug__"))=false:=by decide):PE X (.Name x pos) (tC v):=
 λ_ _ _ H _ I h=>b6 I d a c ⟨v,H,I,r,h⟩ b e
variable {a b:Expr}{ta tb:TE}{pos:Pos}
§tB(t:TE):TT:=λσ H Q=>t σ H λx H1=>∃ c,x=.bl c/\Q c H1
~Bx(h:PE X e t)(j:∀ a,isTrue e X.env a=(do let v <- a;Na e.pos;Nb [v] (truthy v)):=by intro _;rfl):PT X e (tB t):=by
 intro b s l H Q I c;!isTrue_plain (thn (h b s l H _ I c) λv m ⟨x,i,g,f,k⟩=>?_) (j _);&d,rfl,q:=k
 #f
 ~LK ⟨i,g,q⟩
variable {tA tB':TT}{rest:PQ Expr}
§EI(t u:TT):TT:=λσ H Q=>t σ H λc H1=>if c=PU then u σ H1 Q else Q PV H1
§tOr(t u:TT):TT:=λσ H Q=>t σ H λc H1=>if c=PU then Q PU H1 else u σ H1 Q
§IJ(t:TT):TT:=λσ H Q=>t σ H λc H1=>Q (!c) H1
~xb(f:PT X a g):PW X (.BoolOp .And [a] pos) g:=by
 intro i b s d H Q I h;!isTrue_and (thn (f b s d H Q I h) λc j e=>?_)
 #c with
 |true=>~isTrue_and_nil e
 |false=>~e
~By(f:PT X a g):PW X (.BoolOp .Or [a] pos) g:=by
 intro i b s d H Q I h;!isTrue_or (thn (f b s d H Q I h) λc j e=>?_)
 #c with
 |false=>~isTrue_or_nil e
 |true=>~e
~Bz(o:PT X a tA)(p:PW X (.BoolOp .And (b :: e) pos) tB'):PW X (.BoolOp .And (a :: b :: e) pos) (EI tA tB'):=by
 intro l d s j H Q I h;!isTrue_and (thn (o d s j H _ I h) λc n ⟨k,i,g⟩=>?_)
 #c with
 |true=>~p l d n j k Q i g
 |false=>PM k,i,g
~EJ(o:PT X a tA)(p:PW X (.BoolOp .Or (b :: e) pos) tB'):PW X (.BoolOp .Or (a :: b :: e) pos) (tOr tA tB'):=by
 intro l d s j H Q I h;!isTrue_or (thn (o d s j H _ I h) λc n ⟨k,i,g⟩=>?_)
 #c with
 |true=>PM k,i,g
 |false=>~p l d n j k Q i g
~BA(e:PT X a c):PT X (.UnaryOp .Not a pos) (IJ c):=by
 intro b s d H Q I h;~isTrue_not (e b s d H _ I h)
§EK(ta tb:TE):TE:=λσ H Q=>ta σ H λx H1=>∃ c,x=.bl c/\if c=PU then tb σ H1 Q else Q (.bl PV) H1
§IK(ta tb:TE):TE:=λσ H Q=>ta σ H λx H1=>∃ c,x=.bl c/\if c=PU then Q (.bl PU) H1 else tb σ H1 Q
§EL(ta:TE):TE:=λσ H Q=>ta σ H λx H1=>∃ c,x=.bl c/\Q (.bl (!c)) H1
~rZ(h:PE X a t):PE X (.BoolOp op [a] pos) t:=λb s d H Q I c=>BoolOp_one (h b s d H Q I c)
~BB(n:PE X a ta)(k:PE X (.BoolOp .And (b :: e) pos) tb):PE X (.BoolOp .And (a :: b :: e) pos) (EK ta tb):=by
 intro d s g H Q I h;!BoolOp_and (thn (n d s g H _ I h) λv m ⟨x,i,j,l,f⟩=>?_);&c,rfl,f:=f
 #l
 !LK ?_
 #c with
 |true=>~k d m g i Q j f
 |false=>PM .bl PV,i,j,rfl,f
~EM(n:PE X a ta)(k:PE X (.BoolOp .Or (b :: e) pos) tb):PE X (.BoolOp .Or (a :: b :: e) pos) (IK ta tb):=by
 intro d s g H Q I h;!BoolOp_or (thn (n d s g H _ I h) λv m ⟨x,i,j,l,f⟩=>?_);&c,rfl,f:=f
 #l
 !LK ?_
 #c with
 |false=>~k d m g i Q j f
 |true=>PM .bl PU,i,j,rfl,f
~BC(j:PE X a ta):PE X (.UnaryOp .Not a pos) (EL ta):=by
 intro b s g H Q I h;!UnaryOp_ (thn (j b s g H _ I h) λv k ⟨x,e,f,i,d⟩=>?_);&c,rfl,d:=d
 #i
 ~not_of (LK ⟨.bl _,e,f,rfl,d⟩)
§tIf(t:TT)(ta tb:TE):TE:=λσ H Q=>t σ H λc H1=>if c=PU then ta σ H1 Q else tb σ H1 Q
~sa(m:PT X c tA)(n:PE X a ta)(l:PE X b tb):PE X (.IfExp c a b pos) (tIf tA ta tb):=by
 intro e s f H Q I h;!wpAny_IfExp (thn (m e s f H _ I h) λd j ⟨i,k,g⟩=>?_)
 #d with
 |true=>~n e j f i Q k g
 |false=>~l e j f i Q k g
end
§SqL(K:W.Frag)(H:Hp)(a:Ll)(xs:PQ V):Prop:=
 Rd H a (.lst xs) \/
  ∃ (o:Obj) (its:Array Li) (n:Nat),K.lookup a=PN o/\o.cls=.type "list" /\o.dict=PR/\o.data=.seq its n/\its.size<=Ld/\Vals xs its.toList
§SqT(K:W.Frag)(H:Hp)(a:Ll)(xs:PQ V):Prop:=
 Rd H a (.tup xs) \/
  ∃ (o:Obj) (its:Array Li) (n:Nat),K.lookup a=PN o/\o.cls=.type "tuple" /\o.data=.seq its n/\its.size<=Ld/\Vals xs its.toList
§IL:Li->PY V
 |.none=>PN .non
 |.bool b=>PN (.bl b)
 |.int i _=>PN (.int i)
 |.str x _=>PN (.str x)
 |.bytes b _=>PN (.byt b)
 |.float b _=>PN (.flt b)
 |.ref a=>PN (.ref a)
 |.type n=>PN (.ty n)
 |_=>PR
~RelV.abs(r:RelV x u):IL u=PN x:=by
 #x with
 |non=>cases r;rfl
 |bl _=>cases r;rfl
 |int _=>&t,rfl:=r;rfl
 |str _=>&t,rfl:=r;rfl
 |byt _=>&t,rfl:=r;rfl
 |flt _=>&t,rfl:=r;rfl
 |ref _=>cases r;rfl
 |ty _=>cases r;rfl
~RelV.inj(r:RelV x u)(q:RelV y u):x=y:=Option.some.inj (r.abs.symm.trans q.abs)
~Vals.inj:∀ {xs ys}{us},Vals xs us->Vals ys us->xs=ys
 |_,_,_,.nil,.nil=>rfl
 |_,_,_,.cons r t,.cons a b=>by rw[r.inj a,Vals.inj t b]
section
variable {X:Cx}{pins:PQ (Ll×Obj)}{σ:St}{H:Hp}{s:Lk}{a:Ll}{xs ys:PQ V}
~SqL.of{K}(h:H a=PN (.lst xs)):SqL K H a xs:=.inl (.inl h)
~SqT.of{K}(h:H a=PN (.tup xs)):SqT K H a xs:=.inl (.inl h)
~Inv.list(I:Inv X pins σ H s)(h:SqL X.K H a xs):∃ its:PQ Li,Vals xs its/\PlainL s.heap a its.toArray/\xs°<=Ld:=by
 rcases h with h | ⟨o,its,n,d,c,g,f,i,r⟩
 ·&z,its,n,r,e:=h.ok I.hok;PM its,r,⟨_,n,e,rfl,rfl,rfl⟩,z
 ·!⟨its.toList,r,⟨o,n,I.kIn a o d,c,g,by simpa using f⟩,?_⟩;@e:=r°;simp at e;on
~Inv.tuple(I:Inv X pins σ H s)(h:SqT X.K H a xs):∃ its:PQ Li,Vals xs its/\Mk s.heap a its.toArray/\xs°<=Ld:=by
 rcases h with h | ⟨o,its,n,d,f,c,g,r⟩
 ·&z,its,r,p:=h.ok I.hok;PM its,r,p,z
 ·!⟨its.toList,r,⟨o,I.kIn a o d,f,n,by simpa using c⟩,?_⟩;@e:=r°;simp at e;on
~Inv.list_inj(I:Inv X pins σ H s)(h:SqL X.K H a xs)(h':SqL X.K H a ys):xs=ys:=by
 &c,r,⟨o,n,e,_,_,d⟩,_:=I.list h;&b,j,⟨p,k,i,_,_,f⟩,_:=I.list h';rw[e]at i;#i;rw[d]at f;injection f with m _
 @:c=b:=by simp_all
 subst this;~r.inj j
~Inv.tuple_inj(I:Inv X pins σ H s)(h:SqT X.K H a xs)(h':SqT X.K H a ys):xs=ys:=by
 &c,r,⟨o,e,_,n,d⟩,_:=I.tuple h;&b,j,⟨p,i,_,k,f⟩,_:=I.tuple h';rw[e]at i;#i;rw[d]at f;injection f with m _
 @:c=b:=by simp_all
 subst this;~r.inj j
end
¶Cx.wish(X:Cx)(E:Li->Lk->Prop):Cx:={ X with xe:=E }
¶Cx.nox(X:Cx):Cx:=X.wish λ_ _=>False
~Cx.Ok.wish{X:Cx}(a:X.Ok)(E):(X.wish E).Ok:=
 ⟨a.mod,a.kind,a.glob,a.blt,a.above,a.inj,a.has,a.cab,a.hd,a.frames,a.stk,a.exf,a.bs,a.bsz,a.noex,a.exfs,a.funs,a.frf⟩
~Cx.Ok.unwish{X:Cx}(a:(X.wish E).Ok):X.Ok:=
 ⟨a.mod,a.kind,a.glob,a.blt,a.above,a.inj,a.has,a.cab,a.hd,a.frames,a.stk,a.exf,a.bs,a.bsz,a.noex,a.exfs,a.funs,a.frf⟩
section
variable {X:Cx}{pins:PQ (Ll×Obj)}{σ:St}{H:Hp}{s:Lk}{E:Li->Lk->Prop}
~Inv.wish(I:Inv X pins σ H s)(E):Inv (X.wish E) pins σ H s:=⟨I.ok.wish E,I.os,I.bare,I.base,I.loc,I.cell,I.free,I.freeC,I.pin,I.hok,I.len⟩
~Inv.unwish(I:Inv (X.wish E) pins σ H s):Inv X pins σ H s:=⟨I.ok.unwish,I.os,I.bare,I.base,I.loc,I.cell,I.free,I.freeC,I.pin,I.hok,I.len⟩
~SP.unwish(h:SP (X.wish E) pins D f s'):SP X pins D f s':=by
 #f with
 |next=>&a,b,I,q:=h;PM a,b,I.unwish,q
 |brk=>&a,b,I,q:=h;PM a,b,I.unwish,q
 |cont=>&a,b,I,q:=h;PM a,b,I.unwish,q
 |ret u=>&v,a,b,I,r,q:=h;PM v,a,b,I.unwish,r,q
~PE.nox(h:PE X.nox e t):PE X e t:=λa s d H Q I f =>
 LG (h a s d H Q (I.wish _) f) (λ_ _ ⟨v,b,c,r,q⟩=>⟨v,b,c.unwish,r,q⟩) λ_ _ z=>False.elim z
~PT.nox(h:PT X.nox e t):PT X e t:=λa s d H Q I f =>
 LG (h a s d H Q (I.wish _) f) (λ_ _ ⟨b,c,q⟩=>⟨b,c.unwish,q⟩) λ_ _ z=>False.elim z
end
section
variable {X:Cx}{st:LP}{rest:PQ LP}{t u:TS}{e:Expr}{te:TE}{pos:Pos}
§Ax:TS:=λD σ H=>D.nx σ H
§IM(t u:TS):TS:=λD σ H=>t { D with nx:=u D } σ H
~xc:PSs X [] Ax:=λ_ _ a H _ I h=>Ms ⟨a,H,I,h⟩
~sf(i:PS X st t)(j:PSs X rest u):PSs X (st :: rest) (IM t u):=by
 intro a s g H D I h;!ME (thn (i a s g H _ I h) λf d q=>?_)
 #f with
 |next =>
  &c,k,e,q:=q;~j a d c k D e q
 |ret v=>~q
 |brk=>~q
 |cont=>~q
~xf:PS X (.Pass pos) Ax:=λ_ _ a H _ I h=>wpAny_Pass ⟨a,H,I,h⟩
~Inv.quiet{b:St}(I:Inv X a b H s):interactive X.env=false:=by simp[interactive,I.ok.kind]
§EN(te:TE):TS:=λD σ H=>te σ H λ_ H1=>D.nx σ H1
~xg(i:PE X e te)(hs:Mw e PR pos.line X.env=pure false:=by rfl):PS X (.Expr e pos) (EN te):=by
 intro a s b H D I h;~OQ (thn (i a s b H _ I h) λv j ⟨x,f,d,k,g⟩=>⟨b,f,d,g⟩) I.quiet hs
§IN(te:TE):TS:=λD σ H=>te σ H D.rt
~BD(i:PE X e te):PS X (.Return (PN e) pos) (IN te):=by
 intro a s b H D I h;~Ol (thn (i a s b H _ I h) λv k ⟨x,f,d,j,g⟩=>⟨x,b,f,d,j,g⟩)
§EO:TS:=λD _ H=>D.rt .non H
~xh:PS X (.Return PR pos) EO:=λ_ _ a H _ I h=>wpAny_Return_none ⟨.non,a,H,I,rfl,h⟩
§IP(c:TT)(t u:TS):TS:=λD σ H=>c σ H λb H1=>if b=PU then t D σ H1 else u D σ H1
~EQ(m:PT X c o)(n:PSs X a t)(l:PSs X b u):PS X (.If c a b pos) (IP o t u):=by
 intro e s f H D I h;!wpAny_If (thn (m e s f H _ I h) λd j ⟨i,k,g⟩=>?_)
 #d with
 |true=>~n e j f i D k g
 |false=>~l e j f i D k g
end
¶TG:=V->St->Hp->(St->Hp->Prop)->Prop
¶TGs:=PQ V->St->Hp->(St->Hp->Prop)->Prop
§PG(X:Cx)(target:Expr)(t:TG):Prop:=
 ∀ (pins:PQ (Ll×Obj)) (s:Lk) (σ:St) (H:Hp) (v:V) (u:Li) (Q:St->Hp->Prop),Inv X pins σ H s->RelV v u->t v σ H Q ->
  Lm (Lo X.prog X.w) X.A (MR target X.env u) (λ_ s'=>∃ σ' H',Inv X pins σ' H' s'/\Q σ' H') X.xe s
§PGs(X:Cx)(ts:PQ Expr)(t:TGs):Prop:=
 ∀ (pins:PQ (Ll×Obj)) (s:Lk) (σ:St) (H:Hp) (vs:PQ V) (us:PQ Li) (Q:St->Hp->Prop),Inv X pins σ H s->Vals vs us->t vs σ H Q ->
  Lm (Lo X.prog X.w) X.A (assignInOrder ((Mj ts X.env).map (·.2)) us) (λ_ s'=>∃ σ' H',Inv X pins σ' H' s'/\Q σ' H') X.xe s
¶BE:=V->V->V->Hp->(Hp->Prop)->Prop
§BF(X:Cx)(t:BE):Prop:=
 ∀ (pins:PQ (Ll×Obj)) (s:Lk) (σ:St) (H:Hp) (o i v:V) (ov iv u:Li) (Q:Hp->Prop),Inv X pins σ H s->RelV o ov->RelV i iv->RelV v u->t o i v H Q ->
  Lm (Lo X.prog X.w) X.A (setItem ov iv u) (λ_ s'=>∃ H',Inv X pins σ H' s'/\Q H') X.xe s
section
variable {X:Cx}{pos:Pos}
§iC(i:Nat):TG:=λv σ H Q=>Q (σ.set i (PN v)) H
~xi(b:X.N.Nodup)(c:X.N[i]?=PN x)(e:Loc X.env.scope x)(d:X.fn x=PU\/X.env.scope.names.lookup x=PN .local:=by first | ~.inl rfl | ~.inr rfl | assumption):PG X (.Name x pos) (iC i):=by
 intro a s j H v u Q I r h;~Om (gb I b c e r (λg f=>⟨_,H,f,h⟩) d)
§IQ:TGs:=λvs σ H Q=>vs=[]/\Q σ H
§ER(t:TG)(u:TGs):TGs:=λvs σ H Q=>∃ v r,vs=v :: r/\t v σ H λσ' H'=>u r σ' H' Q
~xj:PGs X [] IQ:=by
 intro a s b H c d Q I r h;&e,h:=h;subst e;~assignInOrder_nil ⟨b,H,I,h⟩
~sg(g:PG X e t)(d:PGs X es u)
  (hs:(Mj (e :: es) X.env).map (·.2)=MR e X.env :: (Mj es X.env).map (·.2):=by rfl):PGs X (e :: es) (ER t u):=by
 intro a s m H o q Q I r h;&v,p,n,h:=h;subst n
 #r with
 |cons r k =>
  rw[hs];!assignInOrder_cons (thn (g a s m H _ _ _ I r h) λ_ i ⟨c,l,f,j⟩=>?_);~d a i c l _ _ Q f k j
§IR(K:W.Frag)(n:Nat)(t:TGs):TG:=λv σ H Q=>∃ a xs,v=.ref a/\SqT K H a xs/\xs°=n/\t xs σ H Q
~BG{k}(w:X.calm=PU)(h:PGs X es t)
  (m:(Mj es X.env)°=n:=by rfl) (g:(Mj es X.env).findIdx? (·.1)=none:=by rfl):PG X (.Tuple es k pos) (IR X.K n t):=by
 intro d s A H v u Q I r i;&a,q,B,l,y,i:=i;subst B
 #r
 &x,j,p,C:=I.tuple l;!assign_Tuple_tuple (I.ok.hd w) p (by simp[m,<- y,j°]) g λD z=>?_;~h d _ A H q _ Q (I.kept (t':=s.toks) λb o e=>z b o (aAs (aAd e)) e) (by simpa using j) i
§gSub(to ti:TE)(t:BE):TG:=λv σ H Q=>to σ H λo H1=>ti σ H1 λi H2=>t o i v H2 λH3=>Q σ H3
~BH(f:PE X o E)(C:PE X i w)(hs:BF X t)
  (G:∀ v,MR (.Subscript o i pos) X.env v=(do
   let b <- Nb [v] (L3 o X.env)
   let c <- Nb [v,b] (L3 i X.env)
   Na pos
   Nb [v,b,c] (setItem b c v)
   release [v,b,c] []):=by intro _;rfl):PG X (.Subscript o i pos) (gSub E w t):=by
 intro a s d H v u Q I r h;!KE (Lr (thn (f a s d H _ I h) λb m ⟨x,g,p,z,j⟩=>?_));!KE (Lr (thn (C a m d g _ p j) λc A ⟨y,e,D,q,n⟩=>?_));!KE (Mm (KE (Lr (thn (hs a A d e x y v b c u _ D z q r n) λ_ F ⟨k,l,B⟩=>?_))));~wpAny_release ⟨d,k,l,B⟩
§si(te:TE)(g:TG):TS:=λD σ H=>te σ H λx H1=>g x σ H1 D.nx
~sj(m:PE X e c)(o:PG X tg g)(hs:N6 [tg] e pos.line X.env=pure false:=by rfl)(p:O6 [tg] e X.env=pure none:=by rfl)
  (i:(Mj [tg] X.env).map (·.2)=[MR tg X.env]:=by rfl):PS X (.Assign [tg] e pos) (si c g):=by
 intro a s b H D I h;!wpAny_Assign_stores (thn (m a s b H _ I h) λv n ⟨x,k,f,d,l⟩=>?_) hs p;rw[i];~thn (o a n b k x v _ f d l) λ_ r q=>q
~BI(c:X.N.Nodup)(k:X.N[i]?=PN x)(f:Loc X.env.scope x)(o:PE X e d)(hs:Mw e (PN (.Name x b)) pos.line X.env=pure false:=by rfl)(p:X.fn x=PU\/X.env.scope.names.lookup x=PN .local:=by first | ~.inl rfl | ~.inr rfl | assumption) :
  PS X (.Assign [.Name x b] e pos) (si d (iC i)):=by
 intro a s l H D I h;!On (thn (o a s l H _ I h) λv r ⟨y,g,n,m,j⟩=>?_) hs;~gb n c k f m (λt q=>⟨_,g,q,j⟩) p
end
structure It where
 go:Nat->Hp->Prop
 yld:Nat->Hp->V->Hp->Prop
 stop:Nat->Hp->Prop
§dJ(X:Cx)(pins:PQ (Ll×Obj))(H:Hp)(b:Ll):Prop:=
 H b=PR/\b≠X.env.locals/\b∉X.fs/\(b∈X.ex\/X.s₀¢<=b)/\(∀ x c,X.env.cells.lookup x=PN c->c≠b)/\∀ p∈X.pn++pins,p.1≠b
~Inv.fpOk{h:St}{b:Ll}(I:Inv X d h H s)(a:s¢<=b)(g:H' b=PR):dJ X d H' b:=by
 !⟨g,aAx (aAm I.lt a),I.nofs a,.inr (aAq I.sz a),λx c e z=>?_,λp f z=>?_⟩
 ·&v,q:=I.cell x c e;~absurd (aAm q.lt (by rw[z];~a)) (aAN _)
 ·~absurd (aAm (aAd (I.pin p f).1) (by rw[z];~a)) (aAN _)
structure Turn(P:Lw)(w:Lu)(K:W.Frag)(tg:Expr)(J:It)(fp:PQ Ll)(it:Ll)(tn:Nat->LE->Prop):Prop where
 mem:it∈fp
 obj:∀ i h,tn i h->∀ b∈fp,∃ o,h.get? b=PN o/\∀ v,o.data≠.cell v
 keep:∀ i h h',tn i h->(∀ b∈fp,∀ o,h.get? b=PN o->h'.get? b=PN o)->tn i h'
 item:∀ (X:Cx),X.prog=P->X.w=w->X.K=K->X.calm=PU->∀ (i:Nat) (pins:PQ (Ll×Obj)) (s:Lk) (σ:St) (H:Hp) (E:Li->Lk->Prop),Inv X pins σ H s->(∀ b∈fp,dJ X pins H b)->tn i s.heap->J.go i H ->
  Lm (Lo P w) X.A (Md (.ref it)) (λr s1=>∃ u,r=PN u /\
   Lm (Lo P w) X.A (Ma tg (.ref it) u) (λ_ s2=>∃ x H',Inv X pins σ H' s2/\RelV x u/\J.yld i H x H'/\tn (i+1) s2.heap/\∀ b∈fp,H' b=PR) E s1) E s
 done:∀ (X:Cx),X.prog=P->X.w=w->X.K=K->X.calm=PU->∀ (i:Nat) (pins:PQ (Ll×Obj)) (s:Lk) (σ:St) (H:Hp) (E:Li->Lk->Prop),Inv X pins σ H s->(∀ b∈fp,dJ X pins H b)->tn i s.heap->J.stop i H ->
  Lm (Lo P w) X.A (Md (.ref it)) (λr s1=>r=PR/\Inv X pins σ H s1) E s
 self:∀ (A:LM) (i:Nat) (s:Lk) (Q:Li->Lk->Prop) (E:Li->Lk->Prop),tn i s.heap->Q (.ref it) s->Lm (Lo P w) A (OR (.ref it)) Q E s
¶TI:=St->Hp->(It->Hp->Prop)->Prop
§PIE(X:Cx)(pins:PQ (Ll×Obj))(σ:St)(tg:Expr)(R:It->Hp->Prop)(itv:Li)(s2:Lk):Prop:=
 ∃ (it:Ll) (fp:PQ Ll) (tn:Nat->LE->Prop) (J:It) (H':Hp),itv=.ref it/\Inv X pins σ H' s2/\Turn X.prog X.w X.K tg J fp it tn/\tn 0 s2.heap/\(∀ b∈fp,dJ X pins H' b)/\R J H'
§PI(X:Cx)(tg iter:Expr)(wi:TI):Prop:=
 ∀ (pins:PQ (Ll×Obj)) (s:Lk) (σ:St) (H:Hp) (R:It->Hp->Prop),Inv X pins σ H s->wi σ H R ->
  Lm (Lo X.prog X.w) X.A (L3 iter X.env) (λv s1=>Lm (Lo X.prog X.w) X.A (OR v) (PIE X pins σ tg R) X.xe s1) X.xe s
~kF(c:s.heap.get? b=PN o)(d:o.cls=.type n)(e:o.data=.fields vs)
    (f:["enumerate","zip","dict_itemiterator","dict_reverseitemiterator","odict_iterator","itertools.zip_longest","itertools.pairwise"].contains n=PV) (a:Q () s):Lm M A (Ma tg (.ref b) u) Q E s:=by
  cases tg <;> first
    |~Lg a
    |(cases u <;> first
        |~Lg a
        |(!KE (OS c ?_);rw[d,e];show Lm M A (if(["enumerate","zip","dict_itemiterator","dict_reverseitemiterator","odict_iterator","itertools.zip_longest","itertools.pairwise"].contains n && vs[0]? == PN _)=PU then _ else _) Q E s;rw[Ln (by simp_all)];~Lg a))
§Itl(K:W.Frag)(a:Ll):It:=
 ⟨λi H=>∃ xs x,SqL K H a xs/\xs[i]?=PN x,λi H x H'=>H'=H/\∀ xs,SqL K H a xs->xs[i]?=PN x,λi H=>∃ xs,SqL K H a xs/\xs°<=i⟩
§Itt(K:W.Frag)(a:Ll):It:=
 ⟨λi H=>∃ xs x,SqT K H a xs/\xs[i]?=PN x,λi H x H'=>H'=H/\∀ xs,SqT K H a xs->xs[i]?=PN x,λi H=>∃ xs,SqT K H a xs/\xs°<=i⟩
§Itr(lo:Int)(n:Nat):It:=⟨λi _=>i < n,λi H x H'=>H'=H/\x=.int (lo+i),λi _=>n<=i⟩
~qs{K:W.Frag}(a g):Turn P w K tg (Itl K a) [g] g (λi h=>h.IsListIter g a i) where
 mem:=by simp
 obj:=λi h st b f=>by
  @e:b=g:=by simpa using f
  subst e;&o,e,c,d:=st;~⟨o,e,λv z=>by simp_all⟩
 keep:=λi h N st k=>st.at λo e=>k g (by simp) o e
 item:=by
  intro X F r C M i l s R H E I n st L;subst F r C;&U,x,m,t:=L;&A,J,p,S:=I.list m;&u,V,Q:=J.get t;&B,G,T,y,q,D:=n g (by simp);!wpAny_pyNext_list_item st p.isList (by simpa using V) λN j O=>?_;&o,e,c,d:=id j;PM u,rfl,kF e c d (by decide) ⟨x,H,(I.turned (t':=s.toks) (λb o f e=>(O.2 b f).trans e) B G y q D),Q,⟨rfl,λys Z=>by rw[I.list_inj Z m];~t⟩,j,λb f=>(n b f).1⟩
 done:=by
  intro X F r C M i l s R H E I n st L;subst F r C;&U,m,t:=L;&A,J,p,S:=I.list m;&B,G,T,y,q,D:=n g (by simp);@hl:=J°;~wpAny_pyNext_list_end (I.ok.hd M) st p.isList (by simp;on) λN Y=>⟨rfl,I.turned (λb o f e=>Y b o f e) B G y q D⟩
 self:=λ_ _ _ _ _ st h=>wpAny_pyIter_listiter st h
~mF{P:Lw}{w:Lu}{K:W.Frag}(a g:Ll):Turn P w K tg (Itt K a) [g] g (λi h=>h.IsTupleIter g a i) where
 mem:=by simp
 obj:=λi h st b f=>by
  @e:b=g:=by simpa using f
  subst e;&o,e,c,d:=st;~⟨o,e,λv z=>by simp_all⟩
 keep:=λi h N st k=>st.at λo e=>k g (by simp) o e
 item:=by
  intro X F r C M i l s R H E I n st L;subst F r C;&U,x,m,t:=L;&A,J,p,S:=I.tuple m;&u,V,Q:=J.get t;&B,G,T,y,q,D:=n g (by simp);!Nk st (p) (x:=u) (by simpa using V) λN j O=>?_;&o,e,c,d:=id j;PM u,rfl,kF e c d (by decide) ⟨x,H,(I.turned (t':=s.toks) (λb o f e=>(O.2 b f).trans e) B G y q D),Q,⟨rfl,λys Z=>by rw[I.tuple_inj Z m];~t⟩,j,λb f=>(n b f).1⟩
 done:=by
  intro X F r C M i l s R H E I n st L;subst F r C;&U,m,t:=L;&A,J,p,S:=I.tuple m;&B,G,T,y,q,D:=n g (by simp);@hl:=J°;~Np (I.ok.hd M) st (p) (by simp;on) λN Y=>⟨rfl,I.turned (λb o f e=>Y b o f e) B G y q D⟩
 self:=λ_ _ _ _ _ st h=>wpAny_pyIter_tupleiter st h
~mG{K}(a)(lo)(n):Turn P w K tg (Itr lo n) [a] a (λi h=>IsRangeIter h a (lo+(i)*1) ((n) - (i)) 1) where
 mem:=by simp
 obj:=λi h st b c=>by simp_all
 keep:=λi h p st k=>k a (by simp) _ st
 item:=by
  intro X A y z r i d s D H E I g st u;subst A y z;&j,q,J,m,x,l:=g a (by simp);!(Walks.range (prog:=X.prog) (w:=X.w) (I.ok.hd r) a lo 1 n).item i s _ _ u st λv p F G f B=>?_;&t,rfl:=G;!⟨_,rfl,kF (s:={ s with heap:=p,toks:=F }) f rfl rfl (by decide) ⟨.int _,H,(I.turned (λb o c e=>B b o (by simpa using c) e) j q m x l),⟨t,?_⟩,⟨rfl,rfl⟩,f,λb c=>(g b c).1⟩⟩;rw[Int.mul_one]
 done:=by
  intro X A y z r i d s D H E I g st u;&j,q,J,m,x,l:=g a (by simp);~Nq (I.ok.hd r) st (by @:n<=i:=u;on) λp C=>⟨rfl,I.turned (λb o c e=>C b o c e) j q m x l⟩
 self:=λ_ _ _ _ _ st h=>Nr st h
section
variable {X:Cx}{tg:Expr}
§ES(K:W.Frag)(tl:TE):TI:=λσ H R=>tl σ H λx H1=>∃ a,x=.ref a/\(∃ xs,SqL K H1 a xs)/\R (Itl K a) H1
§IS(K:W.Frag)(tl:TE):TI:=λσ H R=>tl σ H λx H1=>∃ a,x=.ref a/\(∃ xs,SqT K H1 a xs)/\R (Itt K a) H1
~fJ(n:PE X l r):PI X tg l (ES X.K r):=by
 intro c s u H R I h;!thn (n c s u H _ I h) λv f ⟨x,i,d,j,m⟩=>?_;&a,e,⟨y,k⟩,q:=m;subst e
 #j
 &t,z,p,w:=d.list k;!L4 p.isList ?_;!⟨f¢,_,_,_,i,rfl,d.kept λb o e=>aAb _ e,qs a _,⟨_,aAp _ rfl,rfl,rfl⟩,λb g=>?_,q⟩;@e:b=f¢:=by simpa using g
 subst e;~d.fpOk (aAo _) (d.hok.fresh (aAo _))
~BJ(n:PE X l r):PI X tg l (IS X.K r):=by
 intro c s u H R I h;!thn (n c s u H _ I h) λv f ⟨x,i,d,j,m⟩=>?_;&a,e,⟨y,k⟩,q:=m;subst e
 #j
 &t,z,p,w:=d.tuple k;!M6 (p) ?_;!⟨f¢,_,_,_,i,rfl,d.kept λb o e=>aAb _ e,mF a _,⟨_,aAp _ rfl,rfl,rfl⟩,λb g=>?_,q⟩;@e:b=f¢:=by simpa using g
 subst e;~d.fpOk (aAo _) (d.hok.fresh (aAo _))
~sk{g:St}{lo c}(I:Inv X a g H s)(m:-(2 ^ 62)<=lo)(i:lo < 2 ^ 62)(n:-(2 ^ 62)<=c)(j:c < 2 ^ 62)
  (q:R (Itr lo (c - lo).toNat) H):Lm (Lo X.prog X.w) X.A (OR (.ref s¢)) (PIE X a g tg R) E { s with heap:=s.heap.push { cls:=.type "range",data:=.fields #[.int lo t,.int c u,.int 1 v] },toks:=tk }:=by
 !Oc (IsRange.new ..) (small_one m i n j) ?_;@f:Inv X a g H { s with heap:=s.heap.push { cls:=.type "range",data:=.fields #[.int lo t,.int c u,.int 1 v] },toks:=tk }:=I.kept λb o e=>aAb _ e;!⟨_,_,_,_,H,rfl,
  f.kept λb o e=>aAb _ e,mG _ lo _,?_,λb l=>?_,q⟩
 ·@k:lo+((0:Nat))*1=lo:=by simp
  @p:(((c - lo).toNat)) - ((0:Nat))=Builtin.Range.rangeSize lo c 1:=by rw[rangeSize_one];split <;> on
  rw[k,p];~aAp _ rfl
 ·@e:b=(s.heap.push { cls:=.type "range",data:=.fields #[.int lo t,.int c u,.int 1 v] }).objs.size:=by simpa using l
  subst e;~f.fpOk (aAo _) (f.hok.fresh (aAo _))
§ET(ta:TA):TI:=λσ H R=>ta σ H λvs H1=>∃ j:Int,vs=[.int j]/\-(2 ^ 62)<=j/\j < 2 ^ 62/\R (Itr 0 j.toNat) H1
~qt(n:Gl X "range")(f:X.mg "range" = PR)(k:PA X [a] ta)(hs:Lq [a] X.env=[(PV,L3 a X.env)]:=by rfl):PI X tg (.Call (.Name "range" p) [a] [] pos) (ET ta):=by
 intro b s i H R I h;!Call_ (b6 I n f boot_range (PyProof.Rows.callWith_type1 (thn (k pos b s i H _ I h) λu w ⟨v,o,l,m,c⟩=>?_) hs rfl));&j,e,c,d,q:=c;subst e
 #m with
 |cons r g =>
  #g
  &t,rfl:=r;~call_range_1 (sk l or or c d (by simpa using q))
§tFor(wi:TI)(g:TG)(tb:TS):TS:=λD σ H=>wi σ H λJ H1=>∃ W:Nat->Nat->St->Hp->Prop,(∃ m,W 0 m σ H1)/\∀ i m σ H,W i m σ H ->
 (J.stop i H/\D.nx σ H)\/(J.go i H/\∃ N:St->Hp->Prop,(∀ σ' H',N σ' H'->∃ m',m' < m/\W (i+1) m' σ' H')/\∀ x H',J.yld i H x H'->g x σ H' λσ2 H2=>tb { D with nx:=N,ct:=N,bk:=D.nx } σ2 H2)
§mH(fp:PQ Ll)(h:LE):PQ (Ll×Obj):=fp.filterMap λb=>(h.get? b).map λo=>(b,o)
~bG(a:b∈c)(e:h.get? b=PN o):(b,o)∈mH c h:=aAC.mpr ⟨b,a,by rw[e];rfl⟩
~qu(a:p∈mH c h):p.1∈c/\h.get? p.1=PN p.2:=by
 &b,f,e:=aAC.mp a
 #q:h.get? b with
 |none=>rw[q]at e;#e
 |some o =>
  rw[q]at e;@d:=Option.some.inj e;subst d;PM f,q
~Inv.pinned{g:St}(I:Inv X a g H s)(k:∀ b∈f,dJ X a H b)(n:∀ b∈f,∃ o,s.heap.get? b=PN o/\∀ v,o.data≠.cell v):Inv X (a++mH f s.heap) g H s:=
 I.pins_of λp j=>(aAG.mp j).elim (λz=>I.pin p (aAF _ z)) λz=>by
  &i,e:=qu z;&l,m,q,_:=k _ i;&o,h,d:=n _ i;rw[e]at h;#h;PM e,l,m,q,d
~Inv.unpinned{b:St}(I:Inv X (a++pl) b H s):Inv X a b H s:=I.pins_of λp c=>I.pin p (aAF _ (List.mem_append_left _ c))
~BK{wi:TI}{g:TG}{tb:TS}(B:Ox (Lo X.prog X.w) X.A X.env X.xe)(hc:X.calm=PU)(hi:PI X tg y wi)(hg:PG X tg g)(j:PSs X body tb)
  (hs:∀ x,Ml y X.env x=pure x:=by intro _;rfl):PS X (.For tg y body [] pos) (tFor wi g tb):=by
 intro c s σ H D I h;!wpAny_For (thn (hi c s σ H _ I h) λv s1 h1=>thn h1 λitv s2 h2=>?_) hs;&it,M,Y,J,H2,e,I2,T,U,f2,W,⟨m0,w0⟩,G:=h2;subst e;@p:∀ {w:Hp},(∀ b∈M,w b=PR)->∀ b∈M,dJ X c w b:=λhn b j=>⟨hn b j,(f2 b j).2⟩;!codeAny_forLoop_any (λn s'=>∃ i t w,Inv X c t w s'/\Y i s'.heap/\(∀ b∈M,w b=PR)/\W i n t w) ?_ m0 ⟨0,σ,H2,I2,U,λb j=>(f2 b j).1,w0⟩;rintro n s3 ⟨i,q,O,I3,L,C,w3⟩;rcases G i n q O w3 with⟨F,qn⟩ | ⟨go,N,hN,step⟩
 ·!MI B (thn (T.done X rfl rfl rfl hc i c s3 q O X.xe I3 (p C) L F) λr s4 ⟨P,I4⟩=>?_);subst P;~Ms ⟨q,O,I4,qn⟩
 ·!MI B (thn (T.item X rfl rfl rfl hc i c s3 q O X.xe I3 (p C) L go) λr s4 ⟨u,P,h4⟩=>?_);subst P;!MI B (thn h4 λ_ s5 ⟨x,Z,I5,r5,y5,A,S⟩=>?_);!MI B (thn (hg _ s5 q Z x u _ (I5.pinned (p S) (T.obj _ _ A)) r5 (step x Z y5)) λ_ s6 ⟨R,H6,I6,q6⟩=>?_);!MI B (thn (j _ s6 R H6 _ I6 q6) λf Q z=>?_);@NE:∀ {a:St}{l:Hp},Inv X _ a l Q->N a l->∃ m,m < n/\∃ i t w,Inv X c t w Q/\Y i Q.heap/\(∀ b∈M,w b=PR)/\W i m t w:=fun{a l} k E=>by
   &m',hm,w7:=hN a l E;!⟨m',hm,i+1,a,l,k.unpinned,T.keep _ _ _ A λb j o e=>(k.pin (b,o) (aAF _ (aAF _ (bG j e)))).1,λb j=>?_,w7⟩;&o,e,d:=T.obj _ _ A b j;~(k.pin (b,o) (aAF _ (aAF _ (bG j e)))).2.1
  #f with
  |next=>&a,l,k,E:=z;~NE k E
  |cont=>&a,l,k,E:=z;~NE k E
  |brk=>&a,l,k,z:=z;PM a,l,k.unpinned,z
  |ret v=>&x7,a,l,k,r7,z:=z;PM x7,a,l,k.unpinned,r7,z
end
¶R2:=V->V->Hp->VK->Prop
§OpR(X:Cx)(f:Li->Li->Sem Li)(r:R2):Prop:=
 ∀ (pins:PQ (Ll×Obj)) (s:Lk) (σ:St) (H:Hp) (x y:V) (v u:Li) (Q:VK),Inv X pins σ H s->RelV x v->RelV y u->r x y H Q ->
  Lm (Lo X.prog X.w) X.A (f v u) (EP X pins σ Q) X.xe s
§UnR(X:Cx)(f:Li->Sem Li)(r:V->Hp->VK->Prop):Prop:=
 ∀ (pins:PQ (Ll×Obj)) (s:Lk) (σ:St) (H:Hp) (x:V) (v:Li) (Q:VK),Inv X pins σ H s->RelV x v->r x H Q ->
  Lm (Lo X.prog X.w) X.A (f v) (EP X pins σ Q) X.xe s
§ax(X:Cx)(f:Li)(r:PQ V->Hp->VK->Prop):Prop:=
 ∀ (pins:PQ (Ll×Obj)) (s:Lk) (σ:St) (H:Hp) (xs:PQ V) (us:PQ Li) (Q:VK),Inv X pins σ H s->Vals xs us->r xs H Q ->
  Lm (Lo X.prog X.w) X.A (call f us) (EP X pins σ Q) X.xe s
§tOp(r:R2)(ta tb:TE):TE:=λσ H Q=>ta σ H λx H1=>tb σ H1 λy H2=>r x y H2 Q
§tUn(r:V->Hp->VK->Prop)(ta:TE):TE:=λσ H Q=>ta σ H λx H1=>r x H1 Q
inductive IRI(C:Int->Int->Prop)(g:Int->Int->V)(x y:V)(H:Hp)(Q:VK):Prop
 |mk (i j:Int):(x=.int i)->(y=.int j)->(C i j)->(Q (g i j) H)->IRI C g x y H Q
§rI(C:Int->Int->Prop)(g:Int->Int->V):R2:=λx y H Q=>IRI C g x y H Q
inductive IRI0(g:Int->Int->V)(x y:V)(H:Hp)(Q:VK):Prop
 |mk (i j:Int):(x=.int i)->(y=.int j)->(Q (g i j) H)->IRI0 g x y H Q
§rI0(g:Int->Int->V):R2:=λx y H Q=>IRI0 g x y H Q
§rU(g:Int->V):V->Hp->VK->Prop:=λx H Q=>∃ i,x=.int i/\Q (g i) H
section
variable {X:Cx}{a b c:Expr}{ta tb tc:TE}{pos:Pos}
~BL(p:PE X a ta)(w:PE X b tb){d:St}{R:V->V->Hp->Prop}(I:Inv X pins d H s)
  (h:ta d H λx j=>tb d j λy e=>R x y e) {f:Li->Li->Sem Li}
  (n:∀ v u s2 x y e,Inv X pins d e s2->RelV x v->RelV y u->R x y e->Lm (Lo X.prog X.w) X.A (f v u) Q X.xe s2) :
  Lm (Lo X.prog X.w) X.A (L3 a X.env) (λv i=>Lm (Lo X.prog X.w) X.A (L3 b X.env) (λu g=>Lm (Lo X.prog X.w) X.A (f v u) Q X.xe g) X.xe i) X.xe s:=by
 !thn (p pins s d H _ I h) λv k ⟨x,j,r,q,m⟩=>?_;!thn (w pins k d j _ r m) λu s2 ⟨y,e,o,l,t⟩=>?_;~n v u s2 x y e o q l t
~EU(f:OpR X (L0 op) r)(g:PE X a ta)(m:PE X b tb):PE X (.BinOp a op b pos) (tOp r ta tb):=by
 intro c s i H Q I h;~wpAny_BinOp (BL g m I h λv u e x y l k j d q=>f c e i l x y v u Q k j d q)
~EV(f:UnR X (unaryOp op) r)(j:PE X a ta):PE X (.UnaryOp op a pos) (tUn r ta):=by
 intro b s c H Q I h;~UnaryOp_ (thn (j b s c H _ I h) λv d ⟨x,g,e,k,i⟩=>f b d c g x v Q e k i)
~opI{g:Int->Int->Int}
  (rule:∀ (i j) (t u) (s) (Q) (E),C i j->Q (.int (g i j) s.toks) { s with toks:=s.toks+1 }->Lm (Lo X.prog X.w) X.A (f (.int i t) (.int j u)) Q E s) :
  OpR X f (rI C λi j=>.int (g i j)):=by
 intro a s k H x y v u Q I d b h;&i,j,rfl,rfl,c,q:=h;&t,rfl:=d;&e,rfl:=b;~rule i j t e s _ _ c ⟨.int _,H,I.tok _,⟨_,rfl⟩,q⟩
~EW{g:Int->Int->Int}
  (rule:∀ (i j) (t u) (s) (Q) (E),Q (.int (g i j) s.toks) { s with toks:=s.toks+1 }->Lm (Lo X.prog X.w) X.A (f (.int i t) (.int j u)) Q E s) :
  OpR X f (rI0 λi j=>.int (g i j)):=by
 intro a s e H x y v u Q I d b h;&i,j,rfl,rfl,q:=h;&t,rfl:=d;&c,rfl:=b;~rule i j t c s _ _ ⟨.int _,H,I.tok _,⟨_,rfl⟩,q⟩
~xk{g:Int->Int->Bool}
  (rule:∀ (i j) (t u) (s) (Q) (E),Q (.bool (g i j)) s->Lm (Lo X.prog X.w) X.A (f (.int i t) (.int j u)) Q E s) :
  OpR X f (rI0 λi j=>.bl (g i j)):=by
 intro a s e H x y v u Q I d b h;&i,j,rfl,rfl,q:=h;&t,rfl:=d;&c,rfl:=b;~rule i j t c s _ _ ⟨.bl _,H,I,rfl,q⟩
§IT(i j:Int):Prop:=0<=j/\j<=1000000/\i.natAbs < 2 ^ 64
~BM:OpR X (L0 .Add) (rI0 λi j=>.int (i+j)):=EW λ_ _ _ _ _ _ _ q=>add_int q
~BN:OpR X (L0 .Sub) (rI0 λi j=>.int (i - j)):=EW λ_ _ _ _ _ _ _ q=>sub_int q
~BO:OpR X (L0 .Mod) (rI (λ_ j=>0 < j) λi j=>.int (i % j)):=opI λi j _ _ _ _ _ a q=>by
 ~mod_int' or (by rw[Int.fmod_eq_emod_of_nonneg i or];~q)
~BP:OpR X (L0 .Pow) (rI IT λi j=>.int (i ^ j.toNat)):=opI λ_ _ _ _ _ _ _ a q=>pow_int_small a.1 a.2.1 a.2.2 q
~unI{g:Int->Int}
  (rule:∀ (i) (t) (s) (Q) (E),Q (.int (g i) s.toks) { s with toks:=s.toks+1 }->Lm (Lo X.prog X.w) X.A (f (.int i t)) Q E s) :
  UnR X f (rU λi=>.int (g i)):=by
 intro a s c H x v Q I b h;&i,rfl,q:=h;&t,rfl:=b;~rule i t s _ _ ⟨.int _,H,I.tok _,⟨_,rfl⟩,q⟩
~BQ:UnR X (unaryOp .USub) (rU λi=>.int (-i)):=unI λ_ _ _ _ _ q=>neg_int q
end
section
variable {X:Cx}{a b c:Expr}{ta tb tc:TE}{pos:Pos}
~gc{b:St}(I:Inv X pins b H s)(q:Q (.bl k) H)(e:k=k'):EP X pins b Q (.bool k') s:=by
 subst e;PM .bl k,H,I,rfl,q
~EX:OpR X (Ls .Lt) (rI0 λi j=>.bl (decide (i < j))):=xk λ_ _ _ _ _ _ _ q=>lt_int q
~EY:OpR X (Ls .LtE) (rI0 λi j=>.bl (decide (i<=j))):=xk λ_ _ _ _ _ _ _ q=>le_int q
~EZ:OpR X (Ls .Gt) (rI0 λi j=>.bl (decide (j < i))):=xk λ_ _ _ _ _ _ _ q=>gt_int q
~E3:OpR X (Ls .GtE) (rI0 λi j=>.bl (decide (j<=i))):=xk λ_ _ _ _ _ _ _ q=>ge_int q
~qv:OpR X (Ls .Lt) (λx y H Q=>∃ i j,x=.str i/\y=.str j/\Q (.bl (decide (i.cps.toList < j.cps.toList))) H):=by
 intro a s d H x y v u Q I c b h;&i,j,rfl,rfl,q:=h;&t,rfl:=c;&e,rfl:=b;~lt_str (gc I q rfl)
~qw:OpR X (Ls .In) (λx y H Q=>∃ i j,x=.str i/\y=.str j/\Q (.bl (!(Builtin.Str.occurrences j i 0 j° 1).isEmpty)) H):=by
 intro b s e H x y v u Q I d c h;&i,j,rfl,rfl,q:=h;&t,rfl:=d;&f,rfl:=c;~in_str (gc I q rfl)
~BR:OpR X (Ls .Is) (λx y H Q=>y=.non/\Q (.bl (decide (x=.non))) H):=by
 intro a s d H x y v u Q I c b h;&rfl,q:=h
 #b
 !is_none_gen (gc I q ?_)
 cases x <;> first
  |(rfl)
  |(&t,rfl:=c;rfl)
~xl:OpR X (Ls .IsNot) (λx y H Q=>y=.non/\Q (.bl (!decide (x=.non))) H):=by
 intro a s d H x y v u Q I c b h;&rfl,q:=h
 #b
 !isnot_none_gen (gc I q ?_)
 cases x <;> first
  |(rfl)
  |(&t,rfl:=c;rfl)
~oF(f:OpR X (Ls op) r)(g:PE X a ta)(m:PE X b tb)(n:N7 op b=PV):PE X (.Compare a [op] [b] pos) (tOp r ta tb):=by
 intro c s i H Q I h;~wpAny_Compare1 (BL g m I h λv u e x y l k j d q=>f c e i l x y v u Q k j d q) n
inductive IBl(x:V)(H':Hp)(Q:Bool->Hp->Prop):Prop
 |mk (k:Bool):(x=.bl k)->(Q k H')->IBl x H' Q
§Ay(t:TE):TT:=λσ H Q=>t σ H λx H'=>IBl x H' Q
~oG(j:OpR X (Ls op) r)(p:PE X a ta)(w:PE X b tb)(A:N7 op b=PV):PT X (.Compare a [op] [b] pos) (Ay (tOp r ta tb)):=by
 intro d s f H Q I h;!wpAny_isTrue_Compare1 (thn (p d s f H _ I h) λv o ⟨x,l,t,B,m⟩=>thn (w d o f l _ t m) λu E ⟨y,G,i,F,q⟩ =>
  thn (j d E f G x y v u _ i B F q) λc J ⟨z,n,C,g,k,e,D⟩=>?_) A
 subst e
 #g
 ~LK ⟨n,C,D⟩
§sr(r r':R2)(ta tb tc:TE):TE:=λσ H Q=>ta σ H λx H1=>tb σ H1 λy H2=>r x y H2 λz H3=>∃ k,z=.bl k /\
 (if k=PU then tc σ H3 λw' H4=>r' y w' H4 Q else Q (.bl PV) H3)
~sw(P:OpR X (Ls op) r)(j:OpR X (Ls i) U)(A:PE X a ta)(F:PE X b tb)(w:PE X c tc)
  (G:Pe [op,i] [b,c]=false:=by with_unfolding_all rfl):PE X (.Compare a [op,i] [b,c] pos) (sr r U ta tb tc):=by
 intro f s g H Q I h;!O7 (thn (A f s g H _ I h) λv q ⟨x,W,R,O,Y⟩=>OT (thn (F f q g W _ R Y) λu T ⟨y,H2,B,l,D⟩ =>
  thn (P f T g H2 x y v u _ B O l D) λd E ⟨z,o,n,p,k,e,m⟩=>?_)) G
 subst e
 #p
 !LK ?_
 #k with
 |false=>~Pz ⟨.bl PV,o,n,rfl,m⟩
 |true=>~PC (chain_last (thn (w f E g o _ n m) λS t ⟨Z,N,L,J,M⟩=>j f t g N y Z u S Q L l J M))
~sy(ho:OpR X (Ls op) r)(j:OpR X (Ls g) r')(F:PE X a ta)(N:PE X b tb)(D:PE X c tc)
  (P:Pe [op,g] [b,c]=false:=by with_unfolding_all rfl):PT X (.Compare a [op,g] [b,c] pos) (Ay (sr r r' ta tb tc)):=by
 intro f s i H Q I h;!isTrue_chain (thn (F f s i H _ I h) λv B ⟨x,t,Z,W,A⟩=>test_link (thn (N f B i t _ Z A) λu s2 ⟨y,H2,G,l,L⟩ =>
  thn (ho f s2 i H2 x y v u _ G W l L) λd M ⟨z,o,n,p,k,e,m⟩=>?_)) P
 subst e
 #p
 !LK ?_
 #k with
 |false =>
  &k',e',R:=m
  #e'
  ~Pz ⟨o,n,R⟩
 |true =>
  !PC (test_last (thn (D f M i o _ n m) λw' C ⟨z',U,S,q,T⟩=>thn (j f C i U y z' u w' _ S l q T) λd' s5 ⟨z2,O,E,r5,k2,w,Y⟩=>?_));subst w
  #r5
  ~LK ⟨O,E,Y⟩
~eJ:(Ld) < 2 ^ 63:=by decide
~mI:OpR X (L0 .Add) (λx y H Q=>∃ i j,x=.str i/\y=.str j/\i°+j°<=Ld/\Q (.str (i++j)) H):=by
 intro a s f H x y v u Q I d b h;&i,j,rfl,rfl,c,q:=h;&t,rfl:=d;&e,rfl:=b;~add_str (λe g=>⟨.str _,H,I.tok _,⟨_,rfl⟩,q⟩) c
~bt(r:Vals [x] us):∃ u,us=[u]/\RelV x u:=by
 #r with
 |cons a b=>cases b;PM _,rfl,a
~kG(r:Vals [x,y] us):∃ u w',us=[u,w']/\RelV x u/\RelV y w':=by
 #r with
 |cons d b =>
  #b with
  |cons a c=>cases c;PM _,_,rfl,d,a
~sA:ax X (.builtin "abs") (λxs H Q=>∃ i,xs=[.int i]/\Q (.int (if i < 0 then -i else i)) H):=by
 intro a s c H xs d Q I r h;&i,rfl,q:=h;&u,rfl,t,rfl:=bt r;~call_abs_int λu b=>⟨.int _,H,I.tok _,⟨_,rfl⟩,q⟩
~qx(c:X.calm=PU):ax X (.builtin "max") (λxs H Q=>∃ i j,xs=[.int i,.int j]/\Q (.int (if j > i then j else i)) H):=by
 intro b s l H xs g Q I r h;&i,j,rfl,q:=h;&u,e,rfl,⟨t,rfl⟩,⟨f,rfl⟩:=kG r;!max_two_ints (I.ok.hd c) λm d k=>⟨_,H,I.kept k,?_,q⟩
 by_cases a:j > i
 ·rw[Lj a,Lj a];PM _,rfl
 ·rw[Ln a,Ln a];PM _,rfl
~qy(c:X.calm=PU):ax X (.builtin "min") (λxs H Q=>∃ i j,xs=[.int i,.int j]/\Q (.int (if j < i then j else i)) H):=by
 intro b s l H xs g Q I r h;&i,j,rfl,q:=h;&u,e,rfl,⟨t,rfl⟩,⟨f,rfl⟩:=kG r;!min_two_ints (I.ok.hd c) λm d k=>⟨_,H,I.kept k,?_,q⟩
 by_cases a:j < i
 ·rw[Lj a,Lj a];PM _,rfl
 ·rw[Ln a,Ln a];PM _,rfl
~jw:ax X (.type "str") (λxs H Q=>∃ i,xs=[.int i]/\i.natAbs.log2 < 1920/\Q (.str (toString i)) H):=by
 intro a s d H xs c Q I r h;&i,rfl,b,q:=h;&u,rfl,t,rfl:=bt r;~PySem.P.str_of_int b ⟨.str _,H,I.tok _,⟨_,rfl⟩,q⟩
~sC:ax X (.builtin "ord") (λxs H Q=>∃ x,xs=[.str x]/\x°=1/\Q (.int (x.cps.getD 0 0)) H):=by
 intro a s d H xs c Q I r h;&x,rfl,b,q:=h;&u,rfl,t,rfl:=bt r;~ord_of_one b ⟨.int _,H,I.tok _,⟨_,rfl⟩,q⟩
end
~RelO.some_of(r:RelO (PN v) o):∃ u,o=PN u/\RelV v u:=by
 #o with
 |none=>~(r).elim
 |some u=>PM u,rfl,r
structure Room(k:Nat)(A:LM):Prop where
 hd:A.handled=PR
 dp:A.depth+3*k+5 < OU
 un:A.units+16*k+200 < LU
~Room.mono(r:Room k A)(h:j<=k):Room j A:=⟨r.hd,by @:=r.dp;on,by @:=r.un;on⟩
~Room.deeper(r:Room (k+1) A)(env):Room k (A.deeper env):=
 ⟨r.hd,by @:=r.dp;show A.depth+1+3*k+5 < _;on,by @:=r.un;show A.units+3+16*k+200 < _;on⟩
~Room.depth(r:Room k A):A.depth < OU:=by @:=r.dp;on
~Room.units(r:Room k A):A.units+64 < LU:=by @:=r.un;on
§IU:TA:=λ_ H Q=>Q [] H
§E4(ta:TE)(tr:TA):TA:=λσ H Q=>ta σ H λx H1=>tr σ H1 λxs H2=>Q (x :: xs) H2
section
variable {X:Cx}{e:Expr}{es:PQ Expr}{te:TE}{t:TA}{pos:Pos}
~pa_nil:PA X [] IU:=λ_ _ _ _ H Q I h=>Calls.spliced_nil ⟨[],H,I,.nil,h⟩
~a8(g:PE X e te)(l:PA X es t)(hs:Lq (e :: es) X.env=(PV,L3 e X.env) :: Lq es X.env:=by rfl):PA X (e :: es) (E4 te t):=by
 intro b a s c H Q I h;rw[hs];!Calls.spliced_cons (thn (g a s c H _ I h) λu j ⟨x,k,i,f,m⟩=>?_);~thn (l b a j c k _ i m) λv w ⟨r,p,n,o,d⟩=>⟨_,p,n,.cons f o,d⟩
§IV(t:TA):TE:=λσ H Q=>t σ H λxs H1=>xs°<=Ld/\∀ p,H1 p=PR->Q (.ref p) (upd H1 p (.lst xs))
~BS(h:PA X es t):PE X (.List es pos) (IV t):=by
 intro a s f H Q I d;!wpAny_List_spliced (thn (h pos a s f H _ I d) λg i ⟨j,k,c,r,z,q⟩=>⟨by rw[<- r°];~z,?_⟩);!⟨.ref _,_,c.laid (λb u e=>aAb _ e) (aAo _) ?_,rfl,q _ (c.hok.fresh (aAo _))⟩;PM z,g,0,r,aAp _ rfl
end
¶Sp:=PQ V->Hp->VK->XK->Prop
¶CXT:=PQ Env->Hp->Lk->XK->Li->Lk->Prop
structure Env0(P:Lw)(w:Lu)(K:W.Frag)(mg:Str->PY Li)(base:LE)(A:LM)(outer:PQ Env)(s:Lk)(H:Hp):Prop where
 frames:A.frames=PN outer
 mod:Mod K mg base
 bs:∀ b o,base.get? b=PN o->s.heap.get? b=PN o/\H b=PR
 bsz:base.objs.size<=s¢
 funs:s.heap.FunFrames base outer
 frf:∀ b∈frs outer,H b=PR
 hok:HOk P w H s.heap
 bare:MH s.gens
§CE(outer:PQ Env)(P:Lw)(w:Lu)(H:Hp)(s:Lk)(Q:VK)(u:Li)(s':Lk):Prop:=
 ∃ v H',s'.os=s.os/\MH s'.gens/\Un (frs outer) [] H H' s.heap s'.heap/\HOk P w H' s'.heap/\RelV v u/\Q v H'
§CR(CX:CXT)(outer:PQ Env)(P:Lw)(w:Lu)(H:Hp)(s:Lk)(Q:VK)(E:XK)(r:OV)(s':Lk):Prop:=
 match r with
 |.ok (.ret u)=>CE outer P w H s Q u s'
 |.ok _=>False
 |.error e=>CX outer H s E e s'
structure FnOk(P:Lw)(w:Lu)(K:W.Frag)(mg:Str->PY Li)(base:LE)(CX:CXT)(k:Nat)(f:Ll)(fd:MS)(ps:PQ Str)(sp:Sp):Prop where
 len:∀ vs H Q E,sp vs H Q E->vs°=ps°
 run:∀ (A:LM) (outer:PQ Env) (s:Lk) (H:Hp) (args:Args) (us:PQ Li) (vs:PQ V) (Q:VK) (E:XK),Room k A->Env0 P w K mg base A outer s H->Nt s fd args (ps.zip us)->Vals vs us->sp vs H Q E ->
  MT (Lo P w) A (.call (.ref f) args) (CR CX outer P w H s Q E) s
section
variable {X:Cx}{pins:PQ (Ll×Obj)}{σ:St}{H:Hp}{s s':Lk}
~Inv.env0(I:Inv X pins σ H s):Env0 X.prog X.w X.K X.mg X.base X.A X.stack s H:=
 ⟨I.ok.frames,I.ok.mod,I.bs,aAq I.ok.bsz I.sz,I.stack,I.stkFree,I.hok,I.bare⟩
~Inv.after(I:Inv X pins σ H s)(h:CE X.stack X.prog X.w H s Q u s'):EP X pins σ Q u s':=by
 &v,k,os,c,i,f,r,q:=h;&l,g,d,t,e:=s';obtain rfl:e=s.os:=os;PM v,k,I.call i f c (λb z=>absurd z (by simp)),r,q
end
§E7(sp:Sp)(dvs:PQ V)(E:XK)(t:TA):TE:=λσ H Q=>t σ H λvs H1=>sp (vs++dvs) H1 Q E
§Binds(K:W.Frag)(fd:MS)(ps:PQ Str)(ds:PQ Li):Prop:=
 ∀ (s:Lk) (us:PQ Li),K.In s.heap->(us++ds)°=ps°->Nt s fd ⟨us,[]⟩ (ps.zip (us++ds))
~Binds.all{K}(h:∀ us:PQ Li,us°=b°->Pp c ⟨us,[]⟩=pure (b.zip us)):Binds K c b []:=λs us _ a=>by
 rw[aAA]at a ⊢;~.of_eq (h us a)
§eK(CX:CXT)(X:Cx)(E:XK):Prop:=∀ (pins:PQ (Ll×Obj)) (σ:St) (H:Hp) (s:Lk) (e:Li) (s':Lk),Inv X pins σ H s->CX X.stack H s E e s'->X.xe e s'
section
variable {X:Cx}{CX:CXT}{k:Nat}{f C:Ll}{fd:MS}{ps:PQ Str}{sp:Sp}{dvs:PQ V}{ds:PQ Li}{E:XK}{x m:Str}{p pos apos:Pos}{e o:Expr}{es:PQ Expr}{ta:TE}{t:TA}
~BU{c:St}(F:FnOk X.prog X.w X.K X.mg X.base CX k f fd ps sp)(n:Room k X.A)(l:Binds X.K fd ps ds)(t:Vals dvs ds)(j:eK CX X E)
  (I:Inv X a c H s) (r:Vals vs us) (h:sp (vs++dvs) H Q E):Lm (Lo X.prog X.w) X.A (call (.ref f) us) (EP X a c Q) X.xe s:=by
 @g:=r.append t;!Nu (L6 (F.run _ _ s H _ _ _ Q E n I.env0 (l s us I.kIn (by rw[<- g°];~F.len _ _ _ _ h)) g h) λr q b=>?_)
 #r with
 |error e=>~j a c H s e q I b
 |ok o =>
  #o with
  |ret u=>~I.after b
  |next=>~False.elim b
  |brk=>~False.elim b
  |cont=>~False.elim b
~xm(F:FnOk X.prog X.w X.K X.mg X.base CX k f fd ps sp)(j:Room k X.A)(B:Gl X x)(w:X.mg x=PN (.ref f))(v:W.keepIn X.K (.ref f)=PU)(u:Binds X.K fd ps ds)(m:Vals dvs ds)(A:eK CX X E)
  (o:PA X (e :: es) t) (d:(x == ("__debug__"))=false:=by decide) (C:Lq (e :: es) X.env=(PV,L3 e X.env) :: Lq es X.env:=by rfl) (c:(Mc pos (Lq es X.env)).any (·.1)=false:=by rfl) :
  PE X (.Call (.Name x p) (e :: es) [] pos) (E7 sp dvs E t):=by
 intro a s n H Q I h;!LR (bj I B w ?_ d);!W.callWith_K I.ok.mod.kin v (thn (o pos a s n H _ I h) λJ G ⟨D,L,g,r,q⟩=>⟨g.kIn,?_⟩) C c;~BU F j u m A g r q
end
structure FnScope(N P:PQ Str)(sc:Scope):Prop where
 kind:sc.kind=.function
 co:sc.isCoroutine=PV
 gen:sc.isGenerator=PV
 nd:N.Nodup
 pre:N.take P°=P
 par:∀ x∈P,sc.names.lookup x=PN .local\/sc.names.lookup x=PN .cell
 nofree:∀ y∈sc.names,y.2≠.free
~iD{M7}:∀ {a}{m},(∀ v,(x,v)∉a)->Pf M7 a m x=m x
 |[],_,_=>rfl
 |(n,v) :: r,m,h=>by
  PL Pf;rw[iD λw b=>h w (aAk _ b)]
  split
  ·@:x≠n:=by rintro rfl;~h v aAe
   simp[this]
  ·rfl
~iE{M7}:∀ {a}{m},(∀ v,(x,v)∉a)->Pg M7 a m x=m x
 |[],_,_=>rfl
 |(n,v) :: r,m,h=>by
  PL Pg;rw[iE λw b=>h w (aAk _ b)]
  split
  ·rfl
  ·@:x≠n:=by rintro rfl;~h v aAe
   simp[this]
~iF{M7}:∀ {P:PQ Str}{vs}{i:Nat}{m},P.Nodup->P[i]?=PN x->vs[i]?=PN v->M7 x=PN .local ->
  Pf M7 (P.zip vs) m x=PN v
 |[],_,_,_,_,h,_,_=>by simp at h
 |_ :: _,[],_,_,_,_,h,_=>by simp at h
 |p :: P,w :: vs,0,m,d,a,b,c=>by
  simp at a b;subst a;subst b;show Pf M7 ((p,w) :: P.zip vs) m p=_;PL Pf;rw[iD λv e=>(aAY.mp d).1 (aBo e).1,Lj c];simp
 |p :: P,w :: vs,i+1,m,d,a,b,c=>by
  PL Pf;~iF (aAY.mp d).2 (by simpa using a) (by simpa using b) c
~iG{M7}:∀ {P:PQ Str}{vs}{i:Nat}{m},P.Nodup->P[i]?=PN x->vs[i]?=PN v->M7 x≠PN .local ->
  Pg M7 (P.zip vs) m x=PN v
 |[],_,_,_,_,h,_,_=>by simp at h
 |_ :: _,[],_,_,_,_,h,_=>by simp at h
 |p :: P,w :: vs,0,m,d,a,b,c=>by
  simp at a b;subst a;subst b;show Pg M7 ((p,w) :: P.zip vs) m p=_;PL Pg;rw[iE λv e=>(aAY.mp d).1 (aBo e).1,Ln c];simp
 |p :: P,w :: vs,i+1,m,d,a,b,c=>by
  PL Pg;~iG (aAY.mp d).2 (by simpa using a) (by simpa using b) c
§eZ(N:PQ Str)(vs:PQ V):St:=vs.map PN++List.replicate (N° - vs°) PR
§ii(CX:CXT)(P:Lw)(w:Lu)(K:W.Frag)(mg:Str->PY Li)(base:LE)(N:PQ Str)(qual:Str)(scope:Scope)(f:Ll)(cd:Li)(A:LM)(outer:PQ Env)(s:Lk)(H:Hp)(E:XK):Cx where
 prog:=P
 w:=w
 K:=K
 mg:=mg
 base:=base
 A:=A.deeper (Nv qual scope s¢ f cd)
 N:=N
 s₀:=s
 H₀:=H
 env:=Nv qual scope s¢ f cd
 outer:=outer
 stack:=Nv qual scope s¢ f cd :: outer
 ex:=[]
 calm:=PU
 fn:=λ_=>PU
 pn:=[]
 xe:=λe s'=>Lm (Lo P w) (A.deeper (Nv qual scope s¢ f cd)) (Oo (Nv qual scope s¢ f cd) e) (λ_ s''=>CX outer H s E e s'') (λe' s''=>CX outer H s E e' s'') s'
~kH{sc:Scope}(h:sc.names.lookup x=PN .cell):∃ c,(Ph n sc.names []).lookup x=PN c:=by
 ~Option.isSome_iff_exists.mp (W.cellsFrom_some _ n [] (.inl h))
~qz{K}
  (S:FnScope N t d) (U:A.handled=PR) (m:Env0 P w K M n A j s H) (Z:vs°=t°) (r:Vals vs us)
  (x:InCallC s s¢ (Pf (Nv l d s¢ f I).kindOf (t.zip us) λ_=>PR) (Ph (s¢+1) d.names []) (Pg (Nv l d s¢ f I).kindOf (t.zip us) λ_=>PR) O) :
  Inv (ii CX P w K M n N l d f I A j s H E) [] (eZ N vs) H O:=by
 @T:t°<=N°:=by @:=Mg List.length S.pre;rw[aA1]at this;on
 &G,Y,rfl,L:=x.done;@o:∀ b:Ll,b∉(ii CX P w K M n N l d f I A j s H E).ex:=λb z=>absurd (show b∈([])from z) (by simp);!⟨⟨m.mod,S.kind,rfl,rfl,aAo _,λy z c G g=>?_,λy D=>?_,λy c _ h=>?_,λ_=>U,Around.frames_deeper m.frames,.inr ⟨rfl,rfl⟩,λb z=>absurd z (o b),m.bs,m.bsz,λb _ _=>o b,λb z=>absurd z (o b),m.funs,m.frf⟩,
  rfl,m.bare,Un.kept L,⟨_,x.toInCall.ns,λi y v G g X=>?_⟩,λy c h=>⟨_,x.cell y c h⟩,m.hok.fresh (aAo _),λy c h=>?_,λp C=>absurd (show p∈([])from C) (by simp),m.hok.kept L,?_⟩
 ·~name_of_addr x.apart (PySem.mem_of_lookup G) (PySem.mem_of_lookup g)
 ·rcases D with D | D
  ·~kH D
  ·~absurd rfl (S.nofree _ (PySem.mem_of_lookup D))
 ·~aAU (x.above y c (PySem.mem_of_lookup h))
 ·@F:i < vs°:=by
   unfold eZ at g
   by_cases F:i < vs°
   ·~F
   ·rw[aAt (by simpa using F)]at g;rw[aBv]at g
    split at g <;> #g
  @Q:vs[i]?=PN v:=by
   unfold eZ at g;rw[aAw (by simpa using F),aAE]at g
   #e:vs[i]? with
   |none=>rw[e]at g;#g
   |some a=>rw[e]at g;#g;rfl
  &u,J,R:=r.get Q;@C:t[i]?=PN y:=by
   rw[<- S.pre,aBG or];~G
  @B:t.Nodup:=by rw[<- S.pre];~S.nd.sublist (List.take_sublist _ _)
  !⟨u,R,?_⟩;rcases S.par y (aAR C)with k | k
  ·~.inl ⟨k,iF B C J k⟩
  ·&c,e:=kH k;!.inr ⟨.inl k,c,e,?_⟩;@q:=x.cell y c e;rw[iG B C J (by show d.names.lookup y≠_;rw[k];decide)]at q;~q
 ·~m.hok.fresh (aAU (x.above y c (PySem.mem_of_lookup h)))
 ·PL eZ;show _=N°;rw[aAi,aAa,aAV];on
~Az{K}{X kV B U g Z oc}(lk:K.lookup f=PN ⟨oc,od,.func (W.fnOf name d i body a X kV B U an g Z),osl⟩)(M:W.codeIn K g d=PU)(S:FnScope N I a)
  (C:∀ vs H Q E,sp vs H Q E->vs°=I°)
  (m:∀ (A) (c) (s) (H) (vs) (Q) (E),Room k (A.deeper (Nv d a s¢ f g))->sp vs H Q E ->
   ∃ t,PSs (ii CX P w K G j N d a f g A c s H E) body t/\t { nx:=λ_ H'=>Q .non H',rt:=Q } (eZ N vs) H) :
  FnOk P w K G j CX (k+1) f (W.fnOf name d i body a X kV B U an g Z) I sp:=by
 !⟨C,λA c s H Y us vs Q E L z hb r D=>?_⟩;@KX:=z.mod.kin.keeps λb o e=>(z.bs b o e).1;@l:∀ y∈I.zip us,a.names.lookup y.1=PN _\/(a.names.lookup y.1=PN _/\((Ph (s¢+1) _ []).lookup y.1).isSome=PU):=fun⟨n,v⟩ hy=>by
  rcases S.par n (aBo hy).1 with q | q
  ·~.inl q
  ·~.inr ⟨q,W.cellsFrom_some _ _ _ (.inl q)⟩
 !codeAny_call_function L.depth (KX _ _ lk) rfl S.co S.gen rfl (W.codeRec_of KX M) (hb _ _ _ _ ?_);!wpAny_newFunctionEnv_cells S.kind l λenv he s1 x=>?_;subst he;!⟨(z.mod.nolimit.keeps λb o e=>(z.bs b o e).1).keeps x.toInCall.keep,codeAny_func ?_⟩;&t,ht,hq:=m A c s H vs Q E (L.deeper _) D;!LG (ht [] s1 _ H _ (qz S L.hd z (C _ _ _ _ D) r x) hq) (λfl R p=>?_) λe R p=>p;@F:∀ {h}{H'}{v}{u},Inv (ii CX P w K G j N d a f g A c s H E) [] h H' R->RelV v u->Q v H'->CE c P w H s Q u R:=
  fun{h H' v u} J O q=>⟨v,H',J.os,J.bare,J.base,J.hok,O,q⟩
 #fl with
 |ret u =>
  &v,h,H',J,O,q:=p;~F J O q
 |next =>
  &h,H',J,q:=p;~F (v:=V.non) J rfl q
 |brk =>
  &_,_,_,q:=p;~False.elim q
 |cont =>
  &_,_,_,q:=p;~False.elim q
section
variable {X:Cx}{x:Str}{p pos:Pos}{e:Expr}{es:PQ Expr}{t:TA}{id T:String}{r:PQ V->Hp->VK->Prop}
§tCB(r:PQ V->Hp->VK->Prop)(t:TA):TE:=λσ H Q=>t σ H λvs H1=>r vs H1 Q
~gf(j:ax X (.builtin id) r)(z:Gl X x)(n:X.mg x=PR)(o:Mh x=PN (.builtin id))(l:PA X (e :: es) t)(q:x≠ "__name__" :=by decide)(c:(x == ("__debug__"))=false:=by decide)
  (y:Lq (e :: es) X.env=(PV,L3 e X.env) :: Lq es X.env:=by rfl) (b:(Mc pos (Lq es X.env)).any (·.1)=false:=by rfl):PE X (.Call (.Name x p) (e :: es) [] pos) (tCB r t):=by
 intro a s d H Q I h;!LR (b6 I z n o ?_ q c);~PyProof.Rows.callWith_builtin1 (thn (l pos a s d H _ I h) λk m ⟨w,g,v,u,i⟩=>j a m d g w k Q v u i) y b
~iH(j:ax X (.type T) r)(z:Gl X x)(n:X.mg x=PR)(o:Mh x=PN (.type T))(l:PA X (e :: es) t)(q:x≠ "__name__" :=by decide)(c:(x == ("__debug__"))=false:=by decide)
  (y:Lq (e :: es) X.env=(PV,L3 e X.env) :: Lq es X.env:=by rfl) (b:(Mc pos (Lq es X.env)).any (·.1)=false:=by rfl):PE X (.Call (.Name x p) (e :: es) [] pos) (tCB r t):=by
 intro a s d H Q I h;!LR (b6 I z n o ?_ q c);~PyProof.Rows.callWith_type1 (thn (l pos a s d H _ I h) λk m ⟨w,g,v,u,i⟩=>j a m d g w k Q v u i) y b
end
end L2
namespace HT
open PySem PyProof.Rows
section
variable {prog:Lw}{w:Lu}{A:LM}{E:Li->Lk->Prop}{s:Lk}
~cat_tup(u:Mk s.heap t vs.toArray)(q:Mk s.heap b ws.toArray)(o:vs≠[])
  (v:ws=[]->Q (.ref t) s) (y:ws≠[]->Q (.ref s¢) { s with heap:=s.heap.push { cls:=.type "tuple",data:=.seq (vs++ws).toArray } })
  (hsz:vs°+ws°<=Ld):Lm (Lo prog w) A (L0 .Add (.ref t) (.ref b)) Q E s:=by
 &⟨cls,p,data,l⟩,h,x,n,r:=id u;&⟨k,d,data2,f⟩,c,i,m,j:=id q;subst x r i j;@e:vs.toArray++ws.toArray=(vs++ws).toArray:=by simp
 by_cases g:ws=[]
 ·~Nw ⟨_,h,rfl⟩ ⟨_,c,rfl⟩ Nl N8 PySem.F.slot_tuple_add PySem.F.entry_tuple_add (PySem.F.args_tuple_add_2 _ _)
   (tuple_addW1 t b _ _ n m p d l f (by simpa using o) (by simp[g])) ⟨h,c,v g⟩
 ·!Nw ⟨_,h,rfl⟩ ⟨_,c,rfl⟩ Nl N8 PySem.F.slot_tuple_add PySem.F.entry_tuple_add (PySem.F.args_tuple_add_2 _ _)
   (tuple_addW2 t b _ _ n m p d l f (by simpa using o) (by simpa using g) (by simp_all)) ⟨h,c,?_⟩
  rw[e];~y g
§sIx(n d:Nat):PY Int->Nat
 |none=>d
 |some v=>if v < 0 then(v+(n:Int)).toNat else min v.toNat n
~sIx_nat(n d k:Nat):sIx n d (PN (k))=min k n:=rfl
~IW(n d)(c:d<=n)(o):sIx n d o<=n:=by
 #o with
 |none=>~c
 |some v =>
  show(if v < 0 then(v+(n)).toNat else min _ n)<=n
  by_cases b:v < 0
  ·rw[Lj b];on
  ·rw[Ln b];~Nat.min_le_right _ _
~oH(v)(n d:Nat):(if v < 0 then max (v+(n:Int)) 0 else min v (n))=((sIx n d (PN v))):=by
 show(if v < 0 then max _ 0 else min v _)=(((if v < 0 then(v+(n)).toNat else min _ n)))
 by_cases b:v < 0
 ·PK[Lj b];on
 ·PK[Ln b];on
~mJ(lo a)(n:Nat):Builtin.Slice.sliceAdjust lo a 1 (n)=(((sIx n 0 lo):Int),((sIx n n a):Int)):=by
 @b:¬ ((1) < 0):=or
 !Prod.ext ?_ ?_
 ·#lo with
  |none=>rfl
  |some v=>~oH v n 0
 ·#a with
  |none=>rfl
  |some v=>~oH v n n
~mK(i j:Nat):Builtin.Slice.slicePlaces (i) (j) 1=j - i:=by
 PL Builtin.Slice.slicePlaces;@a:(1) > 0:=or
 split <;> on
~gh(p:Nx v o)(h:Q o s):Lm (Lo prog w) A (Builtin.Slice.slicePartIndex v) Q E s:=by
 #p with
 |none=>~OW h
 |int i t=>~slicePart_int h
~cf{lo c}{n:Nat}(hs:s.heap.IsSliceOf f i d .none)(pl:Nx i lo)(e:Nx d c)
  (h:Q (((sIx n 0 lo)),1,sIx n n c - sIx n 0 lo) s):Lm (Lo prog w) A (Builtin.Slice.sliceApplied (.ref f) (pure (n))) Q E s:=by
 &os,a,g,b:=id hs;!KE (KE (Ly a b rfl (KE (Ly a b rfl (KE (Ly a b rfl (Lg ?_)))))));!KE (OW ?_);!KE (gh pl (KE (gh e (KE (Lg ?_)))));show Lm _ _ (match Builtin.Slice.sliceAdjust lo c 1 _ with | (lo,c)=>pure (lo,(1:Int),Builtin.Slice.slicePlaces lo c 1)) _ _ s;rw[mJ lo c n];show Lm _ _ (pure _) _ _ s;rw[mK];~Lg h
~sD(xs:Array Li)(i k:Nat):((List.range k).filterMap fun(m:Nat)=>xs[((i:Int)+(m)*1).toNat]?).toArray=((xs.toList.drop i).take k).toArray:=by
 @e:(fun(m:Nat)=>xs[((i)+(m:Int)*1).toNat]?)=λm=>xs[i+m]?:=by
  funext m
  @:((i)+(m:Int)*1).toNat=i+m:=or
  rw[this]
 rw[e];@:=pick_run xs i k;rw[List.filterMap_map]at this;@f:((λx=>xs[x]?) ∘ λx=>i+x)=λm=>xs[i+m]?:=rfl;rw[f]at this;rw[this]
~getItem_tuple_cut{lo d}(e:Mk s.heap t items)(hs:s.heap.IsSliceOf l m i .none)(pl:Nx m lo)(k:Nx i d)
  (n:¬ (sIx items.size 0 lo=0/\sIx items.size items.size d=items.size))
  (h:Q (.ref s¢) { s with heap:=s.heap.push { cls:=.type "tuple",data:=.seq ((items.toList.drop (sIx items.size 0 lo)).take (sIx items.size items.size d - sIx items.size 0 lo)).toArray } })
  (hsz:items.size<=Ld):Lm (Lo prog w) A (Nc (.ref t) (.ref l)) Q E s:=by
 @c:sizeOk (.seq ((items.toList.drop (sIx items.size 0 lo)).take (sIx items.size items.size d - sIx items.size 0 lo)).toArray):=by
  show((items.toList.drop _).take _).toArray.size<=Ld;rw[aAB,aA1,aB1,aA7];on
 &os,f,g,j:=id hs;PL Nc
 try with_reducible !Lr ?_
 !KE (Op e.typeIs (by decide) ?_);!KE (LI e.typeIs PyProof.Rows.slot_tuple_getitem
  (LV PyProof.Rows.slot_tuple_getitem e.typeIs N1 ?_ (Od _ _)))
 show Lm _ _ (Builtin.Tuple.tupleItemsOf _ >>= _) _ _ s;!KE (O8 e ?_);!KE (L8 (⟨os,f,g⟩) ?_);!KE (cf hs pl k ?_);show Lm _ _ (if(((sIx _ 0 lo):Int) == 0 && (1) == 1 && (sIx items.size items.size d - sIx items.size 0 lo) == items.size)=PU then _ else _) _ _ s;rw[Ln (by simp_all),sD]
 first
  |~KE (LW (Lg ⟨_,rfl,Lg h⟩) c)
  |~KE _
  |~KE _
  |~KE _
end
end HT
namespace L2
open PySem PySem.Spec PyProof.Rows
¶TO:=St->Hp->(PY Int->Hp->Prop)->Prop
§PO(X:Cx)(e:PY Expr)(t:TO):Prop:=
 ∀ (pins:PQ (Ll×Obj)) (s:Lk) (σ:St) (H:Hp) (Q:PY Int->Hp->Prop),Inv X pins σ H s->t σ H Q ->
  Lm (Lo X.prog X.w) X.A (evalPart e X.env) (λu s'=>∃ o H',Inv X pins σ H' s'/\Nx u o/\Q o H') X.xe s
§xn:TO:=λ_ H Q=>Q PR H
inductive IPrt(x:V)(H1:Hp)(Q:PY Int->Hp->Prop):Prop
 |mk (i:Int):(x=.int i)->(Q (PN i) H1)->IPrt x H1 Q
§Fa(t:TE):TO:=λσ H Q=>t σ H λx H1=>IPrt x H1 Q
section
variable {X:Cx}{e:Expr}{te:TE}{lo hi:PY Expr}{tl th:TO}{pos p2:Pos}
~xo:PO X PR xn:=by
 intro a s b H Q I h;~Lg ⟨PR,H,I,.none,h⟩
~xp(h:PE X e b):PO X (PN e) (Fa b):=by
 intro a s j H Q I k;!thn (h a s j H _ I k) λu l ⟨x,g,f,d,c⟩=>?_;&i,rfl,q:=c;&t,rfl:=d;PM _,g,f,.int i t,q
§SlR(X:Cx)(r:V->PY Int->PY Int->Hp->VK->Prop):Prop:=
 ∀ (pins:PQ (Ll×Obj)) (s:Lk) (σ:St) (H:Hp) (x:V) (v vl vu:Li) (lo hi:PY Int) (sl:Ll) (Q:VK),Inv X pins σ H s->RelV x v->s.heap.IsSliceOf sl vl vu .none->Nx vl lo->Nx vu hi->r x lo hi H Q ->
  ∃ T id,ML (.type T) "__getitem__" = pure (PN (.builtin id))/\s.TypeIs v T/\Lm (Lo X.prog X.w) X.A (Nc v (.ref sl)) (EP X pins σ Q) X.xe s
§tSl(r:V->PY Int->PY Int->Hp->VK->Prop)(te:TE)(tl th:TO):TE:=λσ H Q=>te σ H λx H1=>tl σ H1 λl H2=>th σ H2 λu H3=>r x l u H3 Q
~sE(i:SlR X r)(M:PE X e te)(t:PO X lo tl)(O:PO X hi th):PE X (.Subscript e (.Slice lo hi PR p2) pos) (tSl r te tl th):=by
 intro a s c H Q I h;!Subscript_ (thn (M a s c H _ I h) λv n ⟨x,g,f,z,j⟩=>?_);!wpAny_Slice (thn (t a n c g _ f j) λE F ⟨l,d,P,D,p⟩=>thn (O a F c d _ P p) λy R ⟨u,k,B,w,C⟩=>?_);!Lg ?_;&T,id,L,A,N:=i a _ c k x v E y l u _ Q (B.kept λb U q=>aAb _ q) z (Heap.IsSliceOf.new ..) D w C;~tail_any A L N (by with_unfolding_all rfl)
§mL(xs:PQ V)(lo hi:PY Int):PQ V:=(xs.drop (HT.sIx xs° 0 lo)).take (HT.sIx xs° xs° hi - HT.sIx xs° 0 lo)
~e5(xs)(lo b):(mL xs lo b)°<=xs°:=by
 PL mL;rw[aA1,aB1];on
~Vals.nil_iff(r:Vals xs us):us=[]↔xs=[]:=by
 #r with
 |nil=>simp
 |cons _ _=>simp
end
§ixN(n:Nat)(i:Int):PY Nat:=if 0<=i then(if i < n then PN i.toNat else PR)else if -(n:Int)<=i then PN (i+n).toNat else PR
§atI{α:Type}(xs:PQ α)(i:Int):PY α:=(ixN xs° i).bind λj=>xs[j]?
~jx(h:ixN n i=PN j):seqIndex? i n=PN j/\j < n/\-(n)<=i/\i < n:=by
 unfold ixN at h
 by_cases b:0<=i
 ·rw[Lj b]at h
  by_cases a:i < n
  ·rw[Lj a]at h;@e:=Option.some.inj h;~⟨by rw[OF b a,e],or,or,a⟩
  ·rw[Ln a]at h;#h
 ·rw[Ln b]at h
  by_cases a:-(n)<=i
  ·rw[Lj a]at h;@e:=Option.some.inj h;~⟨by rw[Oq or a,e],or,a,or⟩
  ·rw[Ln a]at h;#h
~fK{xs}(h:atI xs i=PN v):∃ j,seqIndex? i xs°=PN j/\xs[j]?=PN v/\j < xs°/\-(xs°)<=i/\i < xs°:=by
 unfold atI at h
 #e:ixN _ i with
 |none=>rw[e]at h;#h
 |some j =>
  rw[e]at h;&a,d,b,c:=jx e;PM j,a,h,d,b,c
§oI(b:Expr):Prop:=∀ o i,OG b PV o i=operate [o,i] (Nc o i)
§IxR(X:Cx)(r:R2):Prop:=
 ∀ (value slice:Expr) (pins:PQ (Ll×Obj)) (s:Lk) (σ:St) (H:Hp) (x y:V) (v u:Li) (Q:VK),Inv X pins σ H s->RelV x v->RelV y u->r x y H Q ->
  OG slice PV v u=operate [v,u] (Nc v u)->Lm (Lo X.prog X.w) X.A (O9 value slice v u) (EP X pins σ Q) X.xe s
§MtR(X:Cx)(id:String)(r:V->PQ V->Hp->VK->Prop):Prop:=
 ∀ (pins:PQ (Ll×Obj)) (s:Lk) (σ:St) (H:Hp) (x:V) (xs:PQ V) (v:Li) (us:PQ Li) (Q:VK),Inv X pins σ H s->RelV x v->Vals xs us->r x xs H Q ->
  Lm (Lo X.prog X.w) X.A (call (.builtin id) (v :: us)) (EP X pins σ Q) X.xe s
section
variable {X:Cx}{a b:Expr}{ta tb:TE}{pos:Pos}
~Fb(f:IxR X r)(g:PE X a ta)(m:PE X b tb)(hs:oI b):PE X (.Subscript a b pos) (tOp r ta tb):=by
 intro c s i H Q I h;~Subscript_ (BL g m I h λv u e x y l k j d q=>f a b c e i l x y v u Q k j d q (hs _ _))
inductive IIxL(K:W.Frag)(x y:V)(H:Hp)(Q:VK):Prop
 |mk (p:Ll) (xs:PQ V) (i:Int) (v:V):(x=.ref p)->(y=.int i)->(SqL K H p xs)->(atI xs i=PN v)->(Q v H)->IIxL K x y H Q
§IX(K:W.Frag):R2:=λx y H Q=>IIxL K x y H Q
§IY(K:W.Frag):R2:=λx y H Q=>∃ p xs i v,x=.ref p/\y=.int i/\SqT K H p xs/\atI xs i=PN v/\Q v H
§IZ:R2:=λx y H Q=>∃ z i c,x=.str z/\y=.int i/\z°<=Ld/\atI z.cps.toList i=PN c/\Q (.str ⟨#[c]⟩) H
~xq:IxR X (IX X.K):=by
 intro l d a s G H x y v u Q I B L h n;&p,R,i,z,rfl,rfl,A,J,q:=h
 #B
 &t,rfl:=L;&e,r,k,M:=I.list A;&j,c,o,O,F,C:=fK J;&w,N,f:=r.get o;@E:=r°;@P:=eJ;@b:EP X a G Q w s:=⟨z,H,I,f,q⟩
 by_cases m:0<=i
 ·@D:i.toNat=j:=by
   rw[OF m C]at c;~Option.some.inj c
  ~item_listR k.isList m or (by simp_all) b n
 ·@D:(i+(e.toArray.size)).toNat=j:=by
   rw[Oq or F]at c;rw[aAB,<- E];~Option.some.inj c
  ~Ny k.isList.typeIs slot_list_getitem.lookup
   (wpAny_getItem_list_neg k.isList or (by rw[aAB] <;> on) or (by simp_all) ⟨rfl,b⟩) n
~sG:IxR X (IY X.K):=by
 intro c a e s B H x y v u Q I k l h o;&p,D,i,z,rfl,rfl,m,n,q:=h
 #k
 &t,rfl:=l;&A,r,d,L:=I.tuple m;&j,E,f,J,C,G:=fK n;&w,g,b:=r.get f;@F:=r°;@M:=eJ;~Ny d.typeIs slot_tuple_getitem.lookup
  (getItem_tuple (j:=j) d or or (by simp_all) (by simpa using g) ⟨rfl,(⟨z,H,I,b,q⟩)⟩) o
~BV:IxR X IZ:=by
 intro b a d s r H x y v u Q I n e h m;&z,i,c,rfl,rfl,A,l,q:=h;&t,rfl:=n;&p,rfl:=e;&j,f,B,w,k,o:=fK l;@g:z.cps.toList°=z°:=by simp[Str.length]
 rw[g]at f k o;@C:=eJ;~tail_any (OX s z t) slot_str_getitem.lookup (getItem_str (by
  rw[(Lv or),(Lv or),aBY]) (by simp_all) ⟨.str ⟨#[c]⟩,H,I.tok _,⟨_,rfl⟩,q⟩) m
~mO(its:PQ Li)(n j)(u):Obj.mapSeq (·.setIfInBounds j u) { cls:=.type "list",data:=.seq its.toArray n }={ cls:=.type "list",data:=.seq (its.set j u).toArray n }:=by
 simp[Obj.mapSeq]
~Inv.lst{b:St}{H}{s}{p}{xs}(I:Inv X pins b H s)(h:H p=PN (.lst xs)) :
  ∃ (its:PQ Li) (n:Nat),Vals xs its/\s.heap.get? p=PN { cls:=.type "list",data:=.seq its.toArray n }/\xs°<=Ld:=by
 &z,its,n,r,e:=I.hok p _ h;PM its,n,r,e,z
~Inv.lstUpd{g:St}{its its':PQ Li}(I:Inv X pins g H s)(h:H p=PN (.lst xs))
  (k:s.heap.get? p=PN { cls:=.type "list",data:=.seq its.toArray n }) (i:f { cls:=.type "list",data:=.seq its.toArray n }={ cls:=.type "list",data:=.seq its'.toArray d }) (r:Vals ys its') (hz:ys°<=Ld) (t) :
  Inv X pins g (upd H p (.lst ys)) { s with heap:=s.heap.update p f,toks:=t }:=by
 @e:(s.heap.update p f).get? p=PN { cls:=.type "list",data:=.seq its'.toArray d }:=by
  rw[aAI f k (by rw[i] <;> rfl),i]
 !I.write (by rw[h];trivial) (.inl rfl) (λb u j q=>(aAD _ _ (Ne.symm j)).trans q) ⟨_,e⟩ ?_;PM hz,its',d,r,e
inductive ISetL(o i v:V)(H:Hp)(Q:Hp->Prop):Prop
 |mk (p:Ll) (xs:PQ V) (k:Int) (j:Nat):(o=.ref p)->(i=.int k)->(H p=PN (.lst xs))->(ixN xs° k=PN j)->(Q (upd H p (.lst (xs.set j v))))->ISetL o i v H Q
§AA:V->V->V->Hp->(Hp->Prop)->Prop:=λo i v H Q=>ISetL o i v H Q
~sH:BF X AA:=by
 intro m s J H o i v L F u Q I D x y h;&p,E,k,j,rfl,rfl,f,A,q:=h
 #D
 &t,rfl:=x;&a,n,r,e,z:=I.lst f;&b,M,B,w:=jx A;@C:=r°;@G:=eJ;@g:=
  I.lstUpd f e (mO a n j u) (r.set y j) (by rw[aBd];~z) s.toks
 by_cases l:0<=k
 ·@d:k.toNat=j:=by
   rw[OF l w]at b;~Option.some.inj b
  ~W.ki_setAt e l or (by simp_all) (by rw[d];PM _,g,q)
 ·@d:(k+(a.toArray.size)).toNat=j:=by
   rw[Oq or B]at b;rw[aAB,<- C];~Option.some.inj b
  ~W.ki_setBack e or (by simp_all) or (by rw[d];PM _,g,q)
~jy(lo a)(n):(MP lo a PR n).1=((HT.sIx n 0 lo))/\(MP lo a PR n).2.1=((HT.sIx n n a))/\(MP lo a PR n).2.2=1:=by
 !⟨?_,?_,rfl⟩
 ·#lo with
  |none=>simp[MP,HT.sIx]
  |some i =>
   PK[MP,HT.sIx,aBP, Nd]
   by_cases h:i < 0
   ·PK[h,Nd] <;> on
   ·PK[h,M8] <;> on
 ·#a with
  |none=>simp[MP,HT.sIx]
  |some i =>
   PK[MP,HT.sIx,aBP, Nd]
   by_cases h:i < 0
   ·PK[h,Nd] <;> on
   ·PK[h,M8] <;> on
~ik(its:PQ Li)(lo b):slicePick its.toArray lo b PR=((its.drop (HT.sIx its° 0 lo)).take (HT.sIx its° its° b - HT.sIx its° 0 lo)).toArray:=by
 &d,e,f:=jy lo b _;PL slicePick;rw[d,e,f];PK[sliceRange_one,pick_run] <;> rfl
§I8(K:W.Frag):V->PY Int->PY Int->Hp->VK->Prop:=λx lo hi H Q=>∃ a xs,x=.ref a/\SqL K H a xs/\∀ p,H p=PR->Q (.ref p) (upd H p (.lst (mL xs lo hi)))
~xr:SlR X (I8 X.K):=by
 intro d s u H x v w z lo j t Q I n m p o h;&a,i,rfl,g,q:=h
 #n
 &l,r,f,k:=I.list g;@c:=r°;!⟨_,_,slot_list_getitem.lookup,f.isList.typeIs,?_⟩;!wpAny_getItem_list_slice f.isList m p o .none (by simp) ?_ (by rw[aAB] <;> on);rw[ik,<- c];!⟨.ref _,_,I.laid (λb y q=>aAb _ q) (aAo _) ?_,rfl,q _ (I.hok.fresh (aAo _))⟩;PM aAq (e5 i lo j) k,_,0,(r.drop _).take _,aAp _ rfl
§dz:V->Bool
 |.non=>PU
 |.bl _=>PU
 |.int _=>PU
 |.str _=>PU
 |_=>PV
§eqV:V->V->Bool
 |.non,.non=>PU
 |.bl a,.bl b=>a == b
 |.bl a,.int b=>(if a then 1 else 0) == b
 |.int a,.bl b=>a == (if b then 1 else 0)
 |.int a,.int b=>a == b
 |.str a,.str b=>a == b
 |_,_=>PV
~BY{A:LM}{s:Lk}{y x:V}{u v:Li}(f:RelV y u)(c:RelV x v)(g:dz y=PU)(e:dz x=PU):SeqAt.EqAt A s u v (eqV y x):=by
 #y with
 |non =>
  #f
  #x with
  |non=>cases c;~SeqAt.EqAt.same _
  |bl b=>cases c;~SeqAt.EqAt.none_bool b
  |int b=>&t,rfl:=c;~SeqAt.EqAt.none_int b t
  |str b=>&t,rfl:=c;~SeqAt.EqAt.none_str b t
  |_=>~absurd (show PV=PU from e) aBk
 |bl a =>
  #f
  #x with
  |non=>cases c;~SeqAt.EqAt.bool_none a
  |bl b=>cases c;~SeqAt.EqAt.bool_bool a b
  |int b=>&t,rfl:=c;~SeqAt.EqAt.bool_int a b t
  |str b=>&t,rfl:=c;~SeqAt.EqAt.bool_str a b t
  |_=>~absurd (show PV=PU from e) aBk
 |int a =>
  &d,rfl:=f
  #x with
  |non=>cases c;~SeqAt.EqAt.int_none a d
  |bl b=>cases c;~SeqAt.EqAt.int_bool a d b
  |int b=>&t,rfl:=c;~SeqAt.EqAt.int_int a d b t
  |str b=>&t,rfl:=c;~SeqAt.EqAt.int_str a d b t
  |_=>~absurd (show PV=PU from e) aBk
 |str a =>
  &d,rfl:=f
  #x with
  |non=>cases c;~SeqAt.EqAt.str_none a d
  |bl b=>cases c;~SeqAt.EqAt.str_bool a d b
  |int b=>&t,rfl:=c;~SeqAt.EqAt.str_int a d b t
  |str b=>&t,rfl:=c;~SeqAt.EqAt.str_str a d b t
  |_=>~absurd (show PV=PU from e) aBk
 |_=>~absurd (show PV=PU from g) aBk
§eqU(x:V)(u:Li):Bool:=match u with
 |.none=>eqV .non x
 |.bool b=>eqV (.bl b) x
 |.int i _=>eqV (.int i) x
 |.str z _=>eqV (.str z) x
 |_=>PV
~sI(r:RelV y u)(f:dz y=PU):eqU x u=eqV y x:=by
 #y with
 |non=>cases r;rfl
 |bl b=>cases r;rfl
 |int i=>&t,rfl:=r;rfl
 |str z=>&t,rfl:=r;rfl
 |_=>~absurd (f) aBk
~dZ:∀ {xs}{us},Vals xs us->xs.all dz=PU->us.any (eqU x)=xs.any λy=>eqV y x
 |_,_,.nil,_=>rfl
 |y :: xs,u :: us,.cons r t,f=>by
  rw[aAL,aAn]at f;rw[aAQ,aAQ,sI r f.1,dZ t f.2]
~cT(b:RelV x v)(c:dz x=PU):∀ {xs}{us},Vals xs us->xs.all dz=PU->∀ u∈us,SeqAt.EqAt A s u v (eqU x u)
 |_,_,.nil,_=>λu a=>by #a
 |y :: xs,u :: us,.cons r t,f=>λd a=>by
  rw[aAL,aAn]at f;rcases aAl.mp a with rfl | a
  ·rw[sI r f.1];~BY r b f.1 c
  ·~cT b c t f.2 d a
§inV(x:V)(xs:PQ V):Bool:=xs.any λy=>eqV y x
§rIn(K:W.Frag)(neg:Bool):R2:=λx y H Q=>∃ p xs,y=.ref p/\(SqL K H p xs\/SqT K H p xs)/\dz x=PU/\xs.all dz=PU/\Q (.bl (if neg then !inV x xs else inV x xs)) H
~qA:OpR X (Ls .In) (rIn X.K PV):=by
 intro i s l H x y v u Q I g j h;&p,m,rfl,b,f,c,q:=h
 #j
 rcases b with b | b
 ·&a,r,e,k:=I.list b;!SeqAt.in_listAt _ e.isList (λw d=>cT g f r c w (by simpa using d)) ⟨.bl _,H,I,rfl,?_⟩;rw[show a.toArray.any _=a.any (eqU x)by simp,dZ r c];~q
 ·&a,r,e,k:=I.tuple b;!SeqAt.in_tupleAt _ e (λw d=>cT g f r c w (by simpa using d)) ⟨.bl _,H,I,rfl,?_⟩;rw[show a.toArray.any _=a.any (eqU x)by simp,dZ r c];~q
~jz:OpR X (Ls .NotIn) (rIn X.K PU):=by
 intro i s l H x y v u Q I g j h;&p,m,rfl,b,f,c,q:=h
 #j
 rcases b with b | b
 ·&a,r,e,k:=I.list b;!SeqAt.notIn_listAt _ e.isList (λw d=>cT g f r c w (by simpa using d)) ⟨.bl _,H,I,rfl,?_⟩;rw[show a.toArray.any _=a.any (eqU x)by simp,dZ r c];~q
 ·&a,r,e,k:=I.tuple b;!SeqAt.notIn_tupleAt _ e (λw d=>cT g f r c w (by simpa using d)) ⟨.bl _,H,I,rfl,?_⟩;rw[show a.toArray.any _=a.any (eqU x)by simp,dZ r c];~q
~jA:OpR X (Ls .NotIn) (λx y H Q=>∃ i j,x=.str i/\y=.str j/\Q (.bl (!(!(Builtin.Str.occurrences j i 0 j° 1).isEmpty))) H):=by
 intro b s e H x y v u Q I d c h;&i,j,rfl,rfl,q:=h;&t,rfl:=d;&f,rfl:=c;~notIn_str ⟨.bl _,H,I,rfl,q⟩
~cz:ax X (.builtin "len") (λxs H Q=>∃ p ys,xs=[.ref p]/\(SqL X.K H p ys\/SqT X.K H p ys)/\Q (.int ys°) H):=by
 intro f s l H xs k Q I r h;&p,ys,rfl,b,q:=h;&u,rfl,i:=bt r
 #i
 @j:=eJ;rcases b with b | b
 ·&d,c,e,g:=I.list b;@a:=c°;~Calls.call_len_list e.isList (by simp <;> on) ⟨.int _,H,I.tok _,⟨_,by rw[aAB,a]⟩,q⟩
 ·&d,c,e,g:=I.tuple b;@a:=c°;~len_tuple e (by simp <;> on) ⟨.int _,H,I.tok _,⟨_,by rw[aAB,a]⟩,q⟩
~jB:ax X (.builtin "len") (λxs H Q=>∃ z,xs=[.str z]/\z°<=Ld/\Q (.int z°) H):=by
 intro a s e H xs d Q I r h;&z,rfl,b,q:=h;&u,rfl,t,rfl:=bt r;@c:=eJ;~len_str or ⟨.int _,H,I.tok _,⟨_,rfl⟩,q⟩
§tyV(K:W.Frag)(T:String)(x:V)(H:Hp):Prop:=match x with
 |.str _=>T= "str"
 |.int _=>T= "int"
 |.ref p=>(T= "list" /\∃ xs,SqL K H p xs)\/(T= "tuple" /\∃ o,K.lookup p=PN o/\o.cls=.type "tuple" /\o.dict=PR) \/
   (T= "dict" /\((∃ kvs,H p=PN (.dK kvs))\/∃ kvs,H p=PN (.dT kvs)))\/(T= "set" /\∃ S n,H p=PN (.set S n))
 |_=>False
~BZ{q:St}(I:Inv X l q H s)(r:RelV x v)(f:tyV X.K T x H) :
  s.TypeIs v T/\∀ a,v=.ref a->∃ ob,s.heap.get? a=PN ob/\ob.dict=none:=by
 #x with
 |str z =>
  &t,rfl:=r
  #(f)
  PM OX s z t,λ_ e=>nomatch e
 |int i =>
  &t,rfl:=r
  #(f)
  PM typeIs_int s i t,λ_ e=>nomatch e
 |ref p =>
  #r
  rcases f with⟨rfl,y,u⟩ | ⟨rfl,o,b,m,j⟩ | ⟨rfl,b⟩ | ⟨rfl,S,n,b⟩
  ·&w,_,k,_:=I.list u;!⟨k.isList.typeIs,λa e=>?_⟩
   #e
   &o,n,e,c,j,_:=k;PM o,e,j
  ·!⟨⟨o,I.kIn p o b,m⟩,λa e=>?_⟩
   #e
   PM o,I.kIn _ o b,j
  ·@z:∃ o,s.heap.get? p=PN o/\o.ExactDict:=by
    rcases b with⟨g,b⟩ | ⟨g,b⟩
    ·&_,_,_,_,o,_,_,e,d,_:=I.hok p _ b;PM o,e,d
    ·&_,_,_,_,o,_,_,e,d,_:=I.hok p _ b;PM o,e,d
   &o,e,d:=z;!⟨⟨o,e,d.1⟩,λa h=>?_⟩
   #h
   PM o,e,d.2.1
  ·&o,_,_,_,e,d,_:=I.hok p _ b;!⟨⟨o,e,d.1⟩,λa h=>?_⟩
   #h
   PM o,e,d.2.1
 |_=>~False.elim f
variable {o e:Expr}{es:PQ Expr}{to:TE}{t:TA}{name:Str}{apos cpos:Pos}{T id:String}{r:V->PQ V->Hp->VK->Prop}
end
§MtM(X:Cx)(id:String)(r:V->PQ V->Hp->VK->Prop):Prop:=
 ∀ (pins:PQ (Ll×Obj)) (s:Lk) (σ:St) (H:Hp) (x:V) (xs:PQ V) (v:Li) (us:PQ Li) (Q:VK),Inv X pins σ H s->RelV x v->Vals xs us->r x xs H Q ->
  Lm (Lo X.prog X.w) X.A (call (.builtin id) (v :: us)) (EP X pins σ Q) X.xe s
~Vals.one:∀ {x}{us},Vals [x] us->∃ u,us=[u]/\RelV x u:=by
 intro x us h
 #h with
 |cons r t =>
  #t
  PM _,rfl,r
~Vals.two:∀ {x y}{us},Vals [x,y] us->∃ u v,us=[u,v]/\RelV x u/\RelV y v:=by
 intro x y us h
 #h with
 |cons r t =>
  #t with
  |cons q t =>
   #t
   PM _,_,rfl,r,q
section
variable {X:Cx}{pins:PQ (Ll×Obj)}{σ:St}{H:Hp}{s:Lk}{l b:Ll}{xs ys zs:PQ V}
~Inv.lset{its its':PQ Li}(I:Inv X pins σ H s)(i:H l=PN (.lst xs))
  (e:s.heap.get? l=PN { cls:=.type "list",data:=.seq its.toArray n }) (g:f its.toArray=its'.toArray) (c:Vals ys its') (hz:ys°<=Ld) :
  Inv X pins σ (upd H l (.lst ys)) { s with heap:=s.heap.update l (Obj.mapSeq f),toks:=t' }:=by
 @q:=PySem.IsL.update e f;rw[g]at q;!I.write (by rw[i];~trivial) (.inl rfl) (λj u b d=>(aAD _ _ (Ne.symm b)).trans d) ⟨_,q⟩ ?_;PM hz,its',_,c,q
~Inv.lnew(I:Inv X pins σ H s)(b:Vals ys its)(hz:ys°<=Ld) :
  Inv X pins σ (upd H s¢ (.lst ys)) { s with heap:=s.heap.push { cls:=.type "list",data:=.seq its.toArray },toks:=t' }:=
 I.laid (λ_ _ q=>aAb _ q) (aAo _) ⟨hz,its,0,b,aAp _ rfl⟩
~Inv.fresh(I:Inv X pins σ H s):H s¢=none:=I.hok.fresh (aAo _)
~Inv.lstM(I:Inv X pins σ H s)(b:H l=PN (.lst xs)):xs°<=Ld/\∃ (its:PQ Li) (n:Nat),Vals xs its/\xs°=its°/\s.heap.get? l=PN { cls:=.type "list",data:=.seq its.toArray n }:=by
 &z,its,n,r,e:=I.hok l _ b;PM z,its,n,r,r°,e
end
section
variable {X:Cx}
inductive IApp(x:V)(vs:PQ V)(H:Hp)(Q:VK):Prop
 |mk (l:Ll) (xs:PQ V) (y:V):(x=.ref l)->(vs=[y])->(H l=PN (.lst xs))->(xs° < Ld)->(Q .non (upd H l (.lst (xs++[y]))))->IApp x vs H Q
§xt:V->PQ V->Hp->VK->Prop:=λx vs H Q=>IApp x vs H Q
~iI:MtM X "list.append" xt:=by
 intro a s o H x j v m Q I c d h;&l,k,y,rfl,rfl,b,p,q:=h
 #c
 &u,rfl,f:=d.one;&z,g,n,r,i,e:=I.lstM b;!Oe F.slot_list_append ⟨_,e,rfl⟩ F.entry_list_append (F.args_list_append_2 _ _) (PySem.list_append l _ n u (by rw[aAB];on)) ⟨e,?_⟩;!⟨.non,_,I.lset b e (by simp) (r.append (.cons f .nil)) ?_,rfl,q⟩;rw[aAi,aCf];on
end
end L2
namespace Att
open PySem PySem.W PySem.Calls PyProof.Rows
~fy:∀ (ns) (vs),WellAll P h vs (ns.map WData.int)->Nf vs ns:=by
 intro ns
 induction ns with
 |nil =>
  intro vs w
  #w
  ~.nil
 |cons n ns c =>
  intro vs w
  #w with
  |cons a b =>
   #a
   ~.cons _ _ (c _ b)
~qB{l:OpenLaw}(o:l.most=PN n)
  (b:l.row.toRowW.claim.pre args=PU) (j:WellAll P h f args) :
  ∃ a vs ns,f=[Value.ref a]/\args=[WData.list (ns.map WData.int)]/\h.get? a=PN { cls:=.type "list",data:=.seq vs.toArray }/\Nf vs ns/\ns°<=n:=by
 &d,r,rfl,q,u:=hasAllW_cons ((pre_splitW b).1);obtain rfl:=hasAllW_nil u;&w,rfl,s:=hasW_list q;&ns,rfl:=items_int s;@c:ns°<=n:=by
  @g:(WTm.not (.lt (.lit (.int (n))) (.len (.arg 0)))).holds [] { args:=[.list (ns.map .int)] }=true:=by
   @g:=(holds_andW ((pre_splitW b).2)).1;rw[o]at g;~g
  @k:=condW_of g (w_not (w_lt w_lit (w_len_list (w_arg rfl))))
  first
   |(rw[Lh v]at k)
   |(simp at k;on)
 #j with
 |cons p t =>
  #t
  #p with
  |list m e=>PM _,_,ns,rfl,rfl,m,fy ns _ e,c
~qC(l:OpenLaw)(a):l.row.toRowW.claim.post a (.bool PU) a=true:=
 postW_of
  (show WShape.has [] _ _=PU by first | rfl | decide | simp[ WShape.arms])
  (w_eq_bool (w_res rfl) w_lit) rfl
~attach_call{l:OpenLaw}
  (F:l.most=PN n) (y:d.params.defaults=[])
  (call:∀ (w) (c b) (s v) (i) (o) (z p h) (a) (vs) (ns),
   Ground q e [] E w c s v b.heap->J w b.heap ->
   b.heap.get? i=PN o->o.data=.func (docDef d.name d.params d.body d.scope z p h)->b.heap.CodeRec p d.name->s d.name=PN (.ref i) ->
   b.heap.get? a=PN { cls:=.type "list",data:=.seq vs.toArray }->Nf vs ns->ns°<=n->b.gens=#[] ->
   MT (Lo l.prog w) NY (.call (.ref i) ⟨[.ref a],[]⟩) (λr s'=>r=.ok (.ret (.bool PU))/\OldK b.heap s'.heap/\s'.os=b.os/\MH s'.gens) b) :
  WalkO q e E J l.row.toRowW d [] (λf vs=>PySem.call f vs):=by
 intro w c b s v G Y i o z p h Q L U S t B x N D C V k A O u T;obtain rfl:Q=.none:=Dflts.none B y;obtain rfl:L=.none:=Dflts.noKw B;&a,vs,ns,rfl,rfl,j,g,m:=qB F k u;!enter_call (L6 (call w c b s v i o z p h a vs ns G Y U (fd_plain S) t x j g m N) λr s' R=>?_);&rfl,P,M,I:=R;PM .inl ⟨_,_,[],rfl,λ_=>rfl,.bool PU,qC l _,λ_=>⟨List.Pairwise.nil,λ_ H=>(nomatch H)⟩⟩,P,M,I
end Att
namespace L2
open PySem PySem.Spec PyProof.Rows
~iJ:∀ {vs}{ns},Nf vs ns->Vals (ns.map V.int) vs
 |_,_,.nil=>.nil
 |_,_,.cons n t h=>.cons ⟨t,rfl⟩ (iJ h)
§sJ(H:Hp):Prop:=∀ b,H b=PR\/∃ o xs,H b=PN (.frz o (.lst xs))
~sK{P:Lw}{w:Lu}{K:W.Frag}{CX:CXT}{k:Nat}{O a:Ll}{fd:MS}{x:Str}{sp:Sp}{c:Lk}{vs:PQ Li}{ns:PQ Int}
  (KX:K.In c.heap) (C:c.heap.Ns LC mg) (g:c.heap.Ns Oa U) (Q:∀ x:Str,x≠ "__name__" ->U x=Mh x) (A:c.heap.NoLimit) (hg:c.gens=#[])
  (I:c.heap.get? a=PN { cls:=.type "list",data:=.seq vs.toArray }) (hi:Nf vs ns) (hl:ns°<=Ld) (hr:Room k NY)
  (F:∀ i:LE,K.In i->i.Ns LC mg->FnOk P w K mg i CX k O fd [x] sp) (p:∀ (s:Lk) (u:Li),Nt s fd ⟨[u],[]⟩ [(x,u)])
  (M:∀ H:Hp,sJ H->SqL K H a (ns.map V.int)->sp [.ref a] H (λv _=>v=.bl PU) λ_ _ _=>False)
  (L:∀ H e s',CX [] H c (λ_ _ _=>False) e s'->False) :
  MT (Lo P w) NY (.call (.ref O) ⟨[.ref a],[]⟩) (λr s'=>r=.ok (.ret (.bool PU))/\OldK c.heap s'.heap/\s'.os=c.os/\MH s'.gens) c:=by
 @Z:=iJ hi;@lenV:=hi°;have l:∀ H:Hp,sJ H->SqL K H a (ns.map V.int)->HOk P w H c.heap->(∀ b,H b≠PR->b=a)->(H a≠PR->K.lookup a=PR) ->
   MT (Lo P w) NY (.call (.ref O) ⟨[.ref a],[]⟩) (λr s'=>r=.ok (.ret (.bool PU))/\OldK c.heap s'.heap/\s'.os=c.os/\MH s'.gens) c:=by
  intro H hO hS B hA hK;@f:∀ {b:Ll}{o:Obj},c.heap.get? b=PN o->H b=PR->(qq c.heap H).get? b=PN o:=λe n=>rX e n;@N:∀ {b:Ll}{o:Obj}{J:Array Oy}{G:Nat},c.heap.get? b=PN o->o.data=.dict J G->H b=none:=fun{b o J G} e d=>by
   #q:H b with
   |none=>rfl
   |some u =>
    @T:b=a:=hA b (by rw[q];simp);subst T;rw[I]at e;#e
    #d
  @j:∀ {b:Ll}{m:Str->PY Li},c.heap.Ns b m->(qq c.heap H).Ns b m:=fun{b m} ⟨o,J,G,e,d,r⟩=>⟨o,J,G,f e (N e d),d,r⟩;@t:=λb o e=>f (KX b o e) (by
   #q:H b with
   |none=>rfl
   |some u =>
    @T:b=a:=hA b (by rw[q];simp);subst T;rw[hK (by rw[q];simp)]at e;#e)
  !L6 ((F _ t (j C)).run NY [] c H ⟨[.ref a],[]⟩ [.ref a] [.ref a] _ _ hr (⟨rfl,(⟨t,j C,⟨U,j g,Q⟩,let ⟨mc,h1,h2⟩:=A;⟨mc,j h1,h2⟩⟩),λb o e=>w9 e,aCi (qr _ _),trivial,λb g=>absurd (show b∈([]:PQ Ll)from g) (by simp),B,.of_eq hg⟩) (p c (.ref a)) (.cons rfl .nil) (M H hO hS)) λr s' h=>?_
  #r with
  |error e=>~(L H e s' h).elim
  |ok fl =>
   #fl with
   |next=>~False.elim h
   |brk=>~False.elim h
   |cont=>~False.elim h
   |ret u =>
    &v,H',os,E,Y,y,r',q:=h;subst q;obtain rfl:u=Value.bool true:=r';!⟨rfl,OldK.of_keep λb o e=>?_,os,E⟩
    #q:H b with
    |none=>~Y.keep b o e q (by intro z;~absurd (show b∈([]:PQ Ll)from z) (by simp)) (by simp)
    |some u =>
     rcases hO b with z | ⟨ob,xs,z⟩
     ·rw[q]at z;#z
     ·&D,_:=B b _ z;&e2,_:=y b _ (Y.frzs b ob _ z);rw[e]at D;#D;~e2
 #R:K.lookup a with
 |some o =>
  @e:=KX a o R;rw[I]at e
  #e
  !l (λ_=>PR) (λ_=>.inl rfl) (.inr ⟨_,vs.toArray,_,R,rfl,rfl,rfl,by simp_all,by simpa using Z⟩) (λb u z=>by simp_all) (λb z=>absurd rfl z) λz=>absurd rfl z
 |none =>
  !l (λb=>if b=a then PN _ else PR) (λb=>?_) (.inl (.inr ⟨{ cls:=.type "list",data:=.seq vs.toArray },Lj rfl⟩)) (λb u z=>?_) (λb z=>?_) λ_=>R
  ·by_cases g:b=a
   ·~.inr ⟨_,_,Lj g⟩
   ·~.inl (Ln g)
  ·by_cases g:b=a
   ·@S:=(Lj g).symm.trans z
    #S
    subst g;~⟨I,by rw[aAa];~hl,vs,_,Z,I⟩
   ·@S:=(Ln g).symm.trans z
    #S
  ·by_cases g:b=a
   ·~g
   ·~absurd (Ln g) z
¶KOf{K:W.Frag}{h:LE}(_:K.In h):W.Frag:=K
~xu{l:W.OpenLaw}{K:Me->W.Frag}{CX:Lu->CXT}{sp:Lu->Sp}
  (J:l.most=PN n) (y:n<=Ld) (z:d.params.defaults=[]) (T:Room k NY)
  (O:∀ (w) (h),N w h->(K w.params).In h)
  (F:∀ (w) (i) (p) (h),(K w.params).In h->h.Ns LC i->i d.name=PN (.ref p) ->
   ∃ t:MS,(∀ (s) (u),Nt s t ⟨[u],[]⟩ [(x,u)]) /\
    ∀ b:LE,(K w.params).In b->b.Ns LC i->FnOk l.prog w (K w.params) i b (CX w) k p t [x] (sp w))
  (r:∀ (w) (H) (a) (ns:PQ Int),ns°<=n->sJ H->SqL (K w.params) H a (ns.map V.int)->sp w [.ref a] H (λv _=>v=.bl PU) λ_ _ _=>False)
  (A:∀ (w) (H) (s) (e) (s'),CX w [] H s (λ_ _ _=>False) e s'->False) :
  W.WalkO q C W' N l.row.toRowW d [] (λf vs=>PySem.call f vs):=by
 !Att.attach_call J z λw D m i U p o pm X L a vs ns G Y Z hd Q B j g c I=>?_;@E:=O w _ Y;&t,S,M:=F w i p _ E G.T.g B;~sK E G.T.g G.T.b G.T.builtins G.T.nolimit I j g (aAq c y) T M S (λH P R=>r w H a ns c P R) λH e s'=>A w H m e s'
~Fc{l:W.OpenLaw}{K:Me->W.Frag}{sp:W.Frag->Sp}
  (y:l.most=PN n) (i:n<=Ld) (o:d.params.defaults=[]) (t:Room k NY)
  (B:∀ (w) (h),A w h->(K w.params).In h)
  (F:∀ (w) (c) (r) (h),(K w.params).In h->h.Ns LC c->c d.name=PN (.ref r) ->
   ∃ p:MS,(∀ (s) (u),Nt s p ⟨[u],[]⟩ [(x,u)]) /\
    ∀ b:LE,(K w.params).In b->b.Ns LC c->FnOk l.prog w (K w.params) c b CX k r p [x] (sp (K w.params)))
  (j:∀ (K) (H) (a) (ns:PQ Int),ns°<=n->sJ H->SqL K H a (ns.map V.int)->sp K [.ref a] H (λv _=>v=.bl PU) λ_ _ _=>False)
  (g:∀ (H) (s) (e) (s'),CX [] H s (λ_ _ _=>False) e s'->False) :
  W.WalkO q m E A l.row.toRowW d [] (λf vs=>PySem.call f vs):=
 xu y i o t B F (λw H a ns z D C=>j _ H a ns z D C) λ_ H s e s'=>g H s e s'
§bL(s:LP):Arguments:=match s with
 |.FunctionDef _ a _ _ _ _ _ _ _ _=>a
 |_=>{ posonlyargs:=[],args:=[],vararg:=PR,kwonlyargs:=[],kw_defaults:=[],kwarg:=PR,defaults:=[] }
§aM(s:LP):PQ LP:=match s with
 |.FunctionDef _ _ b _ _ _ _ _ _ _=>b
 |_=>[]
§ar(s:LP):Scope:=match s with
 |.FunctionDef _ _ _ _ _ _ sc _ _ _=>sc
 |_=>{ kind:=.function,names:=[],isGenerator:=PV,isCoroutine:=PV }
¶CX0:CXT:=λ_ _ _ _ _ _=>False
¶E0:XK:=λ_ _ _=>False
structure Fun(K:W.Frag)(x qual:Str)(st:LP)(f:Ll)(fd:MS):Prop where
 ex:∃ (oc:Li) (od:PY Ll) (kV doc pm:Li) (an:PY Ll) (cdv ct:Li) (osl:Array (PY Li)),
  fd=W.fnOf x qual (bL st) (aM st) (ar st) .none kV doc pm an cdv ct/\K.lookup f=PN ⟨oc,od,.func fd,osl⟩/\W.codeIn K cdv qual=PU
 kp:W.keepIn K (.ref f)=PU
section
variable {P:Lw}{w:Lu}{K:W.Frag}{mg:Str->PY Li}{base:LE}
~Fun.binds{st}(F:Fun K x c st f k)
  (h:∀ (kV a d) (e) (b g) (us),us°=i°->Pp (W.fnOf x c (bL st) (aM st) (ar st) .none kV a d e b g) ⟨us,[]⟩=pure (i.zip us)):Binds K k i []:=by
 &o,m,kV,a,d,e,b,g,j,rfl,n,l:=F.ex;~.all (h kV a d e b g)
~sL{st}{kV d e b g}(l:K.lookup f=PN ⟨j,od,.func (W.fnOf x a (bL st) (aM st) (ar st) .none kV d e i b g),h⟩)
  (c:W.codeIn K b a=PU) (k:W.keepIn K (.ref f)=PU):Fun K x a st f (W.fnOf x a (bL st) (aM st) (ar st) .none kV d e i b g):=⟨⟨j,od,kV,d,e,i,b,g,h,rfl,l,c⟩,k⟩
end
~ci(h:n<=1000):n < Ld:=aBH h (by decide)
§Same(H H':Hp):Prop:=∀ b o,H b=PN o->H' b=PN o
~Same.refl(H):Same H H:=λ_ _ h=>h
~Same.trans(a:Same H d)(b:Same d e):Same H e:=λc o h=>b c o (a c o h)
§cW(env:Env):PQ (Str×Pq)->PQ (Str×Ll)->PQ (Str×Ll)
 |[],cs=>cs
 |(n,k) :: r,cs=>cW env r (if k == .free then(n,(env.cells.lookup n).getD 0) :: cs else cs)
~gi(h:∀ x∈b.names,x.2=.free->∃ c,env.cells.lookup x.1=PN c):closureFor b env=pure (cW env b.names []):=by
 PK[closureFor];have t:∀ (l) (i),(∀ x∈l,x.2=.free->∃ c,env.cells.lookup x.1=PN c) ->
   (forIn l i fun(x) (r)=>(do
    let (d,f):=x
    if f == .free then
     let a <- cellOf env d
     pure (ForInStep.yield ((d,a) :: r))
    else pure (ForInStep.yield r):Sem _))=pure (cW env l i):=by
  intro l
  induction l with
  |nil=>intro i _;rfl
  |cons x r p =>
   intro i o;&n,k:=x;rw[aBe]
   by_cases j:k=.free
   ·&c,s:=o _ aAe j;subst j;@e:cellOf env n=pure c:=by PL cellOf;rw[s]
    PK[Lz,Nd,e,pure_bind];rw[p _ λy m=>o y (aAk _ m)];PK[cW,Lz,Nd,s,aB2]
   ·@q:(k == NameKind.free)=false:=by simpa using j
    PK[q,aA2,M8,pure_bind];rw[p _ λy m=>o y (aAk _ m)];PK[cW,q,aA2,M8]
 @g:=t _ [] h
 first
  |~(by rw[g]:_=_)
  |(rfl)
  |(PK[g,pure_bind])
~eL:∀ (l) (cs),(∀ x∈l,x.2=.free->∃ c,env.cells.lookup x.1=PN c)->(∀ x c,cs.lookup x=PN c->env.cells.lookup x=PN c) ->
  ∀ x c,(cW env l cs).lookup x=PN c->env.cells.lookup x=PN c
 |[],_,_,h=>h
 |(n,k) :: r,cs,b,h=>by
  !eL r _ (λy i=>b y (aAk _ i)) ?_;intro x c e
  by_cases a:k=.free
  ·&j,d:=b _ aAe a;subst a;PK[Lz,Nd,d]at e;rw[aAJ]at e
   #q:x == n with
   |true =>
    rw[q]at e;@g:x=n:=by simpa using q
    #e
    rw[g];~d
   |false=>rw[q]at e;~h x c e
  ·@f:(k == NameKind.free)=false:=by simpa using a
   PK[f,aA2]at e;~h x c e
~e6:∀ (l) (cs) (x),(∃ c,cs.lookup x=PN c)->∃ c,(cW env l cs).lookup x=PN c
 |[],_,_,h=>h
 |(n,k) :: r,cs,x,h=>by
  !e6 r _ x ?_
  split
  ·rw[aAJ]
   #q:x == n with
   |true=>PM _,rfl
   |false=>~h
  ·~h
~dc:∀ (l) (cs) (x),l.lookup x=PN .free->∃ c,(cW env l cs).lookup x=PN c
 |[],_,_,h=>by simp at h
 |(n,k) :: r,cs,x,h=>by
  rw[aAJ]at h
  #q:x == n with
  |true =>
   rw[q]at h
   #h
   !e6 r _ x ?_;simp;rw[aAJ,q];PM _,rfl
  |false=>rw[q]at h;~dc r _ x h
~cA{env:Env}:∀ {b:PQ (Str×Pq)}{x}{c},
  (b.map fun(n,k)=>if(k == NameKind.free && env.scope.kind == .function && env.kindOf n == PN .cell)then(n,NameKind.cell)else(n,k)).lookup x=PN c ->
  ∃ k,b.lookup x=PN k/\(c=k\/(k=.free/\c=.cell))
 |[],_,_,h=>by simp at h
 |(n,k) :: r,x,c,h=>by
  @e:=@cA env r x c;rw[aAr]at h
  by_cases d:(k == NameKind.free && env.scope.kind == .function && env.kindOf n == PN .cell)=PU
  ·@a:List.lookup x ((n,NameKind.cell) :: r.map fun(n,k)=>if(k == NameKind.free && env.scope.kind == .function && env.kindOf n == PN .cell)then(n,NameKind.cell)else(n,k))=PN c:=by
    simpa [d]using h
   rw[aAJ]at a;rw[aAJ]
   #q:x == n with
   |true =>
    rw[q]at a
    #a
    PM k,rfl,.inr ⟨(by simp_all),rfl⟩
   |false=>rw[q]at a;~e a
  ·@a:List.lookup x ((n,k) :: r.map fun(n,k)=>if(k == NameKind.free && env.scope.kind == .function && env.kindOf n == PN .cell)then(n,NameKind.cell)else(n,k))=PN c:=by
    simpa [d]using h
   rw[aAJ]at a;rw[aAJ]
   #q:x == n with
   |true=>rw[q]at a;#a;PM _,rfl,.inl rfl
   |false=>rw[q]at a;~e a
§ccx(X:Cx)(scope:Scope)(C:Ll)(N':PQ Str)(s₀:Lk)(H₀:Hp)(fp:PQ Ll):Cx:=
 { X with N:=N',s₀:=s₀,H₀:=H₀,env:=Pr scope (cW X.env scope.names []) C X.env,outer:=X.stack,stack:=X.stack,ex:=fp,fn:=λ_=>PV,pn:=[],xe:=λ_ _=>False }
§cst(k:Nat)(ρ:PQ Nat)(σ:St):St:=List.replicate k PR++ρ.map λj=>(σ[j]?).join
structure CScope(X:Cx)(scope:Scope)(NL:PQ Str)(ρ:PQ Nat)(N':PQ Str):Prop where
 kind:scope.kind=.function
 nocell:∀ x∈scope.names,x.2≠.cell
 locs:∀ x∈scope.names,x.2=.local->scope.names.lookup x.1=PN .local
 frees:∀ x∈scope.names,x.2=.free->X.env.kindOf x.1=PN .cell\/X.env.kindOf x.1=PN .free
 names:N'=NL++ρ.map λj=>X.N.getD j ""
 outs:∀ j∈ρ,∃ x,X.N[j]?=PN x/\scope.names.lookup x=PN .free/\(X.env.scope.names.lookup x=PN .cell\/X.env.scope.names.lookup x=PN .free)
section
variable {X:Cx}
~xv(S:CScope X a NL M G){F:St}{C:Ll}(I:Inv X h F H s)(u:∀ b∈D,dJ X h H b)
  (v:∀ b∈D,∃ o,s.heap.get? b=PN o) (w:s¢<=C):(ccx X a C G s H D).Ok:=by
 @f:=eL _ [] (λx n r=>I.ok.has _ (S.frees x n r)) (λx c e=>by simp at e);!⟨I.ok.mod,S.kind,I.ok.glob,I.ok.blt,w,?_,?_,?_,I.ok.hd,I.ok.frames,.inl rfl,?_,I.bs,?_,?_,?_,I.stack,I.stkFree⟩
 ·~λx y c i J=>I.ok.inj x y c (f x c i) (f y c J)
 ·intro x n;@d:∀ j,(relabel a X.env).names.lookup x=PN j->(j=.cell\/j=.free)->a.names.lookup x=PN _:=λj e r=>by
   &k,i,z:=cA e;rcases z with z | ⟨z,_⟩
   ·subst z;rcases r with z | z
    ·subst z;~absurd rfl (S.nocell _ (mem_of_lookup i))
    ·subst z;~i
   ·subst z;~i
  rcases n with e | e
  ·~dc _ [] x (d _ e (.inl rfl))
  ·~dc _ [] x (d _ e (.inr rfl))
 ·intro x c e;~absurd e (by show ¬ (PV=PU);decide)
 ·intro b g;&B,q,m,p,t,A:=u b g;!⟨?_,λx c e=>t x c (f x c e)⟩;&o,E:=v b g;~aAs (aAm (aAd E) w)
 ·~aAq I.ok.bsz I.sz
 ·intro b o e g;&B,q,m,p,t,A:=u b g;rcases p with z | z
  ·~I.ok.noex b o e z
  ·~absurd (aAm (aAd e) (aAq I.ok.bsz z)) (aAN _)
 ·intro b g z;&B,q,m,p,t,A:=u b g;rcases aAl.mp (I.stkSub b z)with e | e
  ·~q e
  ·~m e
end
section
variable {X:Cx}
~Inv.comp{a:Scope}{NL U:PQ Str}{M:PQ Nat}(S:CScope X a NL M U){L:St}{H:Hp}{s:Lk}{Y:PQ Ll}{C D:Ll}{h':LE}{t':Nat}(I:Inv X F L H s)(hf:∀ b∈Y,dJ X F H b)
  (hfo:∀ b∈Y,∃ o,s.heap.get? b=PN o) (Z:s¢<=C) (hD:s¢<=D) (hDC:D≠C) (k:∀ b u,s.heap.get? b=PN u->h'.get? b=PN u)
  (hd:h'.get? D=PN { cls:=.type "list",data:=.seq #[] 0 }) (hn:h'.Ns C λ_=>PR) :
  Inv (ccx X a C U s H Y) (X.pn++F) (cst NL.length M L) (upd H D (.lst [])) { s with heap:=h',toks:=t' }:=by
 @B:=eL (env:=X.env) a.names [] (λx hx hk=>I.ok.has x.1 (S.frees x hx hk)) (λx c e=>by simp at e);@fresh:∀ b,s¢<=b->H b=none:=λb hb=>I.hok.fresh hb;@J:∀ b o,s.heap.get? b=PN o->b≠D:=λb o e=>aAs (aAm (aAd e) hD);@G:∀ b u,H b=PN u->b≠D:=λb u e=>aG e (fresh D hD);!⟨(xv S I hf hfo Z),rfl,I.bare,⟨λb o e _ _ _=>k b o e,λb o e _ _ _=>⟨o.slots,k b o e⟩,λb o e n _=>?_,λb o e _=>⟨o,k b o e⟩,λb xs e=>?_,λb o u e=>?_,λb ps e=>⟨#[],?_⟩⟩,⟨_,hn,?_⟩,?_,?_,?_,?_,?_,?_⟩
 ·rw[ao (J b o e)];~n
 ·rw[ao (G b _ e)];~e
 ·rw[ao (G b _ e)];~e
 ·rw[ao (G b _ e)];@e':H b=PN (.tbl ps):=e;rw[e'];simp
 ·-- the names around
  intro i x v e1 e2 hv;&m,hm,hl:=I.loc;@P:(NL++M.map λj=>X.N.getD j "")[i]?=PN x:=by
   @R:U[i]?=PN x:=e1;rw[S.names]at R;~R
  @f:(List.replicate NL.length (none:PY V)++M.map λj=>(L[j]?).join)[i]?=PN (PN v):=e2
  by_cases hi:i < NL.length
  ·rw[aAw (by simpa using hi)]at f;rw[aBv]at f
   split at f <;> #f
  ·@Q:NL.length<=i:=Nat.le_of_not_lt hi;rw[aAt (by simpa using Q),aAV,aAE]at f;rw[aAt Q,aAE]at P
   #q:M[i - NL.length]? with
   |none=>rw[q]at P;#P
   |some j =>
    rw[q]at P f;&y,ey,f1,f2:=S.outs j (aAR q);@exx:X.N.getD j "" = x:=Option.some.inj P;@xy:x=y:=exx.symm.trans (by rw[aBb,ey];rfl);subst xy;@g:(L[j]?).join=PN v:=Option.some.inj f;@N:L[j]?=PN (PN v):=by
     #z:L[j]? with
     |none=>rw[z]at g;#g
     |some w=>rw[z]at g;~Mg PN g
    @vis:Vis X.env.scope x:=by
     rcases f2 with z | z
     ·~.inr (.inl z)
     ·~.inr (.inr z)
    &u,r,l:=hl j x v ey N vis;!⟨u,r,?_⟩;&c,hc:=dc (env:=X.env) a.names [] x f1;rcases l with⟨kl,_⟩ | ⟨_,c',hc',z⟩
    ·@t:X.env.scope.names.lookup x=PN .local:=kl;rcases f2 with z | z
     ·rw[z]at t;#t
     ·rw[z]at t;#t
    ·@e3:=B x c hc;rw[hc']at e3;obtain rfl:=Option.some.inj e3;&O,h,A:=z;!.inr ⟨?_,c',hc,O,k _ _ h,A⟩;rcases hv with z | z | z
     ·&k0,e4,T:=cA z;rw[f1]at e4
      #e4
      rcases T with T | ⟨_,T⟩ <;> #T
     ·~.inl z
     ·~.inr z
 ·intro x c e;&v,O,h,A:=I.cell x c (B x c e);PM v,O,k _ _ h,A
 ·show upd H D _ C=PR;rw[ao (Ne.symm hDC)];~fresh C Z
 ·intro x c e;&v,O,h,A:=I.cell x c (B x c e);rw[ao (J c O h)];~I.freeC x c (B x c e)
 ·intro p hp;&e,n,ne,nf,d:=I.pin p hp;!⟨k _ _ e,?_,?_,?_,d⟩
  ·rw[ao (J p.1 p.2 e)];~n
  ·~aAs (aAm (aAd e) Z)
  ·intro z;rcases aAl.mp (I.stkSub p.1 z)with q | q
   ·~ne q
   ·~nf q
 ·~I.hok.laid k hD ⟨aAM _,[],0,.nil,hd⟩
 ·show(List.replicate NL.length (none:PY V)++M.map λj=>(L[j]?).join)°=U°;rw[S.names];simp
~Inv.compEnd{m i:St}{C:Ll}(I:Inv X a m H s)(y:∀ b∈t,dJ X a H b)(x:s¢<=C)
  (J:Inv (ccx X h C M s H t) k i H' s') (hs:Heap.SameBut C s'.heap h'):Inv X a m H' { s' with heap:=h' }:=by
 @p:H' C=none:=J.free;@l:∀ b o,s.heap.get? b=PN o->b≠C:=λb o e=>aAs (aAm (aAd e) x);@B:=J.base;@U:Un _ t H H' _ h':=⟨λb o e n f d=>(hs.2 b (l b o e)).trans (B.keep b o e n f d),λb o e n f d=>by
   &z,q:=B.slot b o e n f d;~⟨z,(hs.2 b (l b o e)).trans q⟩,B.free,λb o e d=>by
   &w,q:=B.there b o e d;~⟨w,(hs.2 b (l b o e)).trans q⟩,B.tups,B.frzs,B.tbls⟩
 @j:=λb u e=>by
  !(J.hok b u e).stay (λc v g q=>(hs.2 c ?_).trans q) (λ_ q=>q) λ_ _ q=>q;rintro rfl;rcases g with rfl | g
  ·rw[p]at e;#e
  ·rw[p]at g;#g
 !Inv.call' I J.os U j J.bare λb f=>?_;&G,A,L,E,F,D:=y b f;PM E,A,F,D
§AB(k:Nat)(ρ:PQ Nat)(wi:TI)(g:TG)(tb:PQ V->Ll->St->Hp->(PQ V->St->Hp->Prop)->Prop):TE:=λσ H Q =>
 wi σ H λJ H1=>∀ l,H1 l=PR->∃ W:Nat->Nat->PQ V->St->Hp->Prop,(∃ m,W 0 m [] (cst k ρ σ) (upd H1 l (.lst []))) /\
  ∀ i m ys σ' H',W i m ys σ' H'->(J.stop i H'/\Q (.ref l) H')\/(J.go i H'/\∀ x H'',J.yld i H' x H''->g x σ' H'' λσ2 H2=>tb ys l σ2 H2 λys' σ3 H3=>∃ m',m' < m/\W (i+1) m' ys' σ3 H3)
§PB(X:Cx)(body:Li->Sem Unit)(tb:PQ V->Ll->St->Hp->(PQ V->St->Hp->Prop)->Prop):Prop:=
 ∀ (pins:PQ (Ll×Obj)) (s:Lk) (σ:St) (H:Hp) (l:Ll) (ys:PQ V) (N:PQ V->St->Hp->Prop),Inv X pins σ H s->tb ys l σ H N ->
  Lm (Lo X.prog X.w) X.A (body (.ref l)) (λ_ s'=>∃ ys' σ' H',Inv X pins σ' H' s'/\N ys' σ' H') X.xe s
~kJ(e a b)(c)(pos)(f d)(env) :
  NO (.ListComp e [⟨a,b,[],0⟩] c pos) 0 f d env=(Na b.pos >>= λ_=>Md f >>= λr=>match r with
   |none=>pure (.done .next)
   |some v=>Ma a f v >>= λ_=>MR a env v >>= λ_ =>
    (do let x <- L3 e env;let _ <- call (.builtin "list.append") [d,x];pure ()) >>= λ_=>NE (.compLoop (.ListComp e [⟨a,b,[],0⟩] c pos) 0 f d env)):=by rfl
~kL(g a d c)(e)(pos)(h f)(env) :
  NO (.ListComp g [⟨a,d,[c],0⟩] e pos) 0 h f env=(Na d.pos >>= λ_=>Md h >>= λr=>match r with
   |none=>pure (.done .next)
   |some v=>Ma a h v >>= λ_=>MR a env v >>= λ_ =>
    (do
     let b <- isTrue c env (L3 c env)
     if b then(do let x <- L3 g env;let _ <- call (.builtin "list.append") [f,x];pure ())else pure ()) >>= λ_=>NE (.compLoop (.ListComp g [⟨a,d,[c],0⟩] e pos) 0 h f env)):=by
 rw[compTurn_list]
 congr 1
 funext _
 congr 1
 funext r
 #r with
 |none=>rfl
 |some v =>
  !Mg (Ma a h v >>= ·) (funext λ_=>?_);!Mg _ (funext λ_=>?_);simp;!Mg _ (funext λb=>?_)
  #b
  ·simp
  ·simp
end
section
variable {X:Cx}
~sM{O t k:Expr}{U:PQ Expr}{a:Scope}{pos:Pos}{NL N:PQ Str}{ρ:PQ Nat}{wi:TI}{g:TG}{tb:PQ V->Ll->St->Hp->(PQ V->St->Hp->Prop)->Prop}{body:Li->Env->Sem Unit}
  (hc:X.calm=PU) (S:CScope X a NL ρ N) (hi:PI X t k wi)
  (hg:∀ C D E B,PG (ccx X a C N D E B) t g) (q:∀ C D E B,PB (ccx X a C N D E B) (λG=>body G (ccx X a C N D E B).env) tb)
  (he:∀ (it G:Li) (env:Env),NO (.ListComp O [⟨t,k,U,0⟩] a pos) 0 it G env=(Na k.pos >>= λ_=>Md it >>= λr=>match r with
   |none=>pure (.done .next)
   |some v=>Ma t it v >>= λ_=>MR t env v >>= λ_=>body G env >>= λ_=>NE (.compLoop (.ListComp O [⟨t,k,U,0⟩] a pos) 0 it G env)))
  (hs:∀ x,Ml k X.env x=pure x:=by intro _;rfl):PE X (.ListComp O [⟨t,k,U,0⟩] a pos) (AB NL.length ρ wi g tb):=by
 intro A s σ H Q I h;rw[eval_ListComp];!Ng (use:=PR) rfl hs (gi (λx hx hk=>I.ok.has x.1 (S.frees x hx hk))) S.kind S.locs ?_;!thn (hi A s σ H _ I h) λv s1 h1=>thn h1 λitv c h2=>?_;&it,B,tn,J,Z,e,I2,T,st2,f2,w:=h2;subst e;!LW (NQ S.nocell (by intro y hy;simp at hy) (λL l j=>?_) S.kind);dsimp only at l j ⊢;generalize hH2:c.heap.push { cls:=.type "list",dict:=PR,data:=.seq ([]:PQ Li).toArray }=f at l j ⊢;@hCs:f.objs.size=c¢+1:=by rw[<- hH2,aAK]
 @hDC:c¢≠f.objs.size:=by rw[hCs];~aAs (aBh _)
 @hC:c¢<=f.objs.size:=by rw[hCs];~aBj _
 @old:∀ b o,c.heap.get? b=PN o->L.get? b=PN o:=λb o e=>j.extBut b o (aAs (aAm (aAd e) hC)) (aAb _ (hH2 ▸ aAb _ e));@hfo:∀ b∈B,∃ o,c.heap.get? b=PN o:=λb q=>let ⟨o,e,_⟩:=T.obj _ _ st2 b q;⟨o,e⟩;@I4:Inv (ccx X a f.objs.size N c Z B) (X.pn++A) (cst NL.length ρ σ) (upd Z c¢ (.lst [])) { c with heap:=L,toks:=c.toks+([]:PQ (Str×Li))° }:=
  Inv.comp S I2 f2 hfo hC (aAo _) hDC old (j.extBut _ _ hDC (aAb _ (hH2 ▸ aAp _ rfl))) (by simpa using l)
 @nfp:c¢∉B:=λz=>by
  &o,e:=hfo _ z;~absurd (aAd e) (aAN _)
 &W,⟨m0,w0⟩,turn:=w c¢ (I2.hok.fresh (aAo _));@M:∀ {H':Hp},(∀ b∈B,H' b=PR)->∀ b∈B,dJ (ccx X a f.objs.size N c Z B) (X.pn++A) H' b:=fun{H'} hn b q=>by
  &f0,f1,f2',f3,f4,f5:=f2 b q;@ok:=I4.ok;!⟨hn b q,(ok.exf b q).1,ok.exfs b q,.inl q,(ok.exf b q).2,λp hp=>f5 p hp⟩
 @Y:∀ F:Lk,F={ c with heap:=L,toks:=c.toks+([]:PQ (Str×Li))° } ->
   MT (Lo X.prog X.w) X.A (.compLoop (.ListComp O [⟨t,k,U,0⟩] a pos) 0 (.ref it) (.ref c¢) (Pr a (cW X.env a.names []) f.objs.size X.env))
    (compPost (Lo X.prog X.w) X.A X.xe PR (EP X A σ Q) (.ref c¢) f.objs.size) F:=by
  rintro F rfl;!codeAny_loop rfl (λn s'=>∃ i ys σ' H',Inv (ccx X a f.objs.size N c Z B) (X.pn++A) σ' H' s'/\tn i s'.heap/\(∀ b∈B,H' b=PR)/\W i n ys σ' H') (λn s3 hI=>?_) m0
   ⟨0,[],_,_,I4,T.keep _ _ _ st2 (λb _ o e=>old b o e),λb q=>?_,w0⟩
  ·&i,ys,P,H3,I3,st3,fr3,w3:=hI;!wpAny_noted ?_;rw[he];!KE (Mm (KE ?_));rcases turn i n ys P H3 w3 with⟨stop,qn⟩ | ⟨go,step⟩
   ·!thn (T.done (ccx X a f.objs.size N c Z B) rfl rfl rfl hc i _ s3 P H3 _ I3 (M fr3) st3 stop) λr s4 ⟨hr,I5⟩=>?_;subst hr;!Lg ?_;&m,hm,_:=id I5.loc;PM m,hm,λh' hs'=>⟨.ref c¢,H3,Inv.compEnd I2 f2 hC I5 hs',rfl,qn⟩
   ·!thn (T.item (ccx X a f.objs.size N c Z B) rfl rfl rfl hc i _ s3 P H3 _ I3 (M fr3) st3 go) λr s4 ⟨u,hr,h4⟩=>?_;subst hr;!KE (thn h4 λ_ s5 ⟨x,H5,I5,r5,y5,st5,fr5⟩=>?_);!KE (LG (hg f.objs.size c Z B _ s5 P H5 x u _ (I5.pinned (M fr5) (T.obj _ _ st5)) r5 (step x H5 y5)) (λ_ s6 ⟨σ6,H6,I6,q6⟩=>?_) λ_ _ z=>z.elim);!KE (LG (q f.objs.size c Z B _ s6 σ6 H6 c¢ ys _ I6 q6) (λ_ s7 ⟨ys7,σ7,H7,I7,m',hm,w7⟩=>?_) λ_ _ z=>z.elim);!Lg ⟨rfl,m',hm,i+1,ys7,σ7,H7,I7.unpinned,T.keep _ _ _ st5 λb q o e=>(I7.pin (b,o) (aAF _ (aAF _ (bG q e)))).1,λb q=>?_,w7⟩;&o,e,d:=T.obj _ _ st5 b q;~(I7.pin (b,o) (aAF _ (aAF _ (bG q e)))).2.1
  ·rw[ao (show b≠c¢ from λz=>nfp (by rw[<- z];~q))];~(f2 b q).1
 !Nz (Y _ rfl) (T.self _ 0 _ _ _ ?_ (Y _ rfl));~T.keep _ _ _ st2 λb _ o e=>old b o e
end
section
variable {X:Cx}
inductive IsiB(K:W.Frag)(H:Hp):V->String->Bool->Prop
 |int_int {i}:IsiB K H (.int i) "int" PU
 |int_str {i}:IsiB K H (.int i) "str" PV
 |int_bool {i}:IsiB K H (.int i) "bool" PV
 |int_tuple {i}:IsiB K H (.int i) "tuple" PV
 |int_list {i}:IsiB K H (.int i) "list" PV
 |str_int {x}:IsiB K H (.str x) "int" PV
 |str_str {x}:IsiB K H (.str x) "str" PU
 |str_bool {x}:IsiB K H (.str x) "bool" PV
 |str_tuple {x}:IsiB K H (.str x) "tuple" PV
 |str_list {x}:IsiB K H (.str x) "list" PV
 |bl_int {b}:IsiB K H (.bl b) "int" PU
 |bl_bool {b}:IsiB K H (.bl b) "bool" PU
 |bl_str {b}:IsiB K H (.bl b) "str" PV
 |bl_tuple {b}:IsiB K H (.bl b) "tuple" PV
 |tup_int {a xs}:SqT K H a xs->IsiB K H (.ref a) "int" PV
 |tup_str {a xs}:SqT K H a xs->IsiB K H (.ref a) "str" PV
 |tup_bool {a xs}:SqT K H a xs->IsiB K H (.ref a) "bool" PV
 |tup_tuple {a xs}:SqT K H a xs->IsiB K H (.ref a) "tuple" PU
 |tup_list {a xs}:SqT K H a xs->IsiB K H (.ref a) "list" PV
 |lst_int {a xs}:SqL K H a xs->IsiB K H (.ref a) "int" PV
 |lst_str {a xs}:SqL K H a xs->IsiB K H (.ref a) "str" PV
 |lst_tuple {a xs}:SqL K H a xs->IsiB K H (.ref a) "tuple" PV
 |lst_list {a xs}:SqL K H a xs->IsiB K H (.ref a) "list" PU
~b7(a b)(h:LD (.type a) (.type b)=pure false:=by rw[NR];kernel_rfl):LD (.type a) (.type b)=pure false:=h
~qD(a b)(h:LD (.type a) (.type b)=pure true:=by rw[NR];kernel_rfl):LD (.type a) (.type b)=pure true:=h
~qE:LD (.type "int") (.type "str")=pure false:=b7 _ _
~mP:LD (.type "int") (.type "bool")=pure false:=b7 _ _
~kM:LD (.type "int") (.type "tuple")=pure false:=b7 _ _
~mQ:LD (.type "int") (.type "list")=pure false:=b7 _ _
~qF:LD (.type "str") (.type "int")=pure false:=b7 _ _
~mR:LD (.type "str") (.type "bool")=pure false:=b7 _ _
~kN:LD (.type "str") (.type "tuple")=pure false:=b7 _ _
~mS:LD (.type "str") (.type "list")=pure false:=b7 _ _
~mT:LD (.type "bool") (.type "str")=pure false:=b7 _ _
~jC:LD (.type "bool") (.type "tuple")=pure false:=b7 _ _
~kO:LD (.type "tuple") (.type "int")=pure false:=b7 _ _
~kP:LD (.type "tuple") (.type "str")=pure false:=b7 _ _
~jD:LD (.type "tuple") (.type "bool")=pure false:=b7 _ _
~jE:LD (.type "tuple") (.type "list")=pure false:=b7 _ _
~mU:LD (.type "list") (.type "int")=pure false:=b7 _ _
~mV:LD (.type "list") (.type "str")=pure false:=b7 _ _
~jF:LD (.type "list") (.type "tuple")=pure false:=b7 _ _
~Fd:LD (.type "int") (.type "int")=pure true:=qD _ _
~Fe:LD (.type "str") (.type "str")=pure true:=qD _ _
~B0:LD (.type "bool") (.type "bool")=pure true:=qD _ _
~mW:LD (.type "bool") (.type "int")=pure true:=qD _ _
~xw:LD (.type "tuple") (.type "tuple")=pure true:=qD _ _
~B1:LD (.type "list") (.type "list")=pure true:=qD _ _
~kQ:M4 (.type "int")=pure (.type "type"):=IO
~kR:M4 (.type "str")=pure (.type "type"):=IO
~jG:M4 (.type "bool")=pure (.type "type"):=IO
~d0:M4 (.type "tuple")=pure (.type "type"):=IO
~jH:M4 (.type "list")=pure (.type "type"):=IO
~sN:ax X (.builtin "isinstance") (λxs H Q=>∃ x T b,xs=[x,.ty T]/\IsiB X.K H x T b/\Q (.bl b) H):=by
 intro l s n H xs y Q I r h;&x,T,b,rfl,w,q:=h;&u,z,rfl,f,v:=kG r
 #v
 @d:∀ t,EP X l n Q (.bool b) { s with toks:=t }:=λt=>⟨.bl b,H,I.tok t,rfl,q⟩;@i:EP X l n Q (.bool b) s:=⟨.bl b,H,I,rfl,q⟩;@j:∀ {a xs},SqT X.K H a xs->∃ o,s.heap.get? a=PN o/\o.cls=.type "tuple" :=λg=>by
  &m,_,p,_:=I.tuple g;&o,e,c,_:=p;PM o,e,c
 @k:∀ {a xs},SqL X.K H a xs->∃ o,s.heap.get? a=PN o/\o.cls=.type "list" :=λg=>by
  &m,_,p,_:=I.list g;&o,e,c,_:=p.isList;PM o,e,c
 #w with
 |int_int=>&t,rfl:=f;~Lx (Mt (Tx:= "int") kQ Fd) ⟨rfl,i⟩
 |int_str=>&t,rfl:=f;~Lx (MA (by decide) kR qE) (d _)
 |int_bool=>&t,rfl:=f;~Lx (MA (by decide) jG mP) (d _)
 |int_tuple=>&t,rfl:=f;~Lx (MA (by decide) d0 kM) (d _)
 |int_list=>&t,rfl:=f;~Lx (MA (by decide) jH mQ) (d _)
 |str_int=>&t,rfl:=f;~Lx (MB (by decide) kQ qF) (d _)
 |str_str=>&t,rfl:=f;~Lx (Mt (Tx:= "str") kR Fe) ⟨rfl,i⟩
 |str_bool=>&t,rfl:=f;~Lx (MB (by decide) jG mR) (d _)
 |str_tuple=>&t,rfl:=f;~Lx (MB (by decide) d0 kN) (d _)
 |str_list=>&t,rfl:=f;~Lx (MB (by decide) jH mS) (d _)
 |bl_int=>cases f;~Lx (Mt (Tx:= "bool") kQ mW) ⟨rfl,i⟩
 |bl_bool=>cases f;~Lx (Mt (Tx:= "bool") jG B0) ⟨rfl,i⟩
 |bl_str=>cases f;~Lx (NG (by decide) kR mT) (d _)
 |bl_tuple=>cases f;~Lx (NG (by decide) d0 jC) (d _)
 |tup_int g=>cases f;~Lx (Mp (by decide) kQ kO) ⟨j g,d _⟩
 |tup_str g=>cases f;~Lx (Mp (by decide) kR kP) ⟨j g,d _⟩
 |tup_bool g=>cases f;~Lx (Mp (by decide) jG jD) ⟨j g,d _⟩
 |tup_tuple g=>cases f;~Lx (Mt (Tx:= "tuple") d0 xw) ⟨j g,i⟩
 |tup_list g=>cases f;~Lx (Mp (by decide) jH jE) ⟨j g,d _⟩
 |lst_int g=>cases f;~Lx (MX (by decide) kQ mU) ⟨k g,d _⟩
 |lst_str g=>cases f;~Lx (MX (by decide) kR mV) ⟨k g,d _⟩
 |lst_tuple g=>cases f;~Lx (MX (by decide) d0 jF) ⟨k g,d _⟩
 |lst_list g=>cases f;~Lx (Mt (Tx:= "list") jH B1) ⟨k g,i⟩
§Its(z:Str):It:=⟨λi _=>i < z.cps.size,λi H x H'=>H'=H/\∃ c,z.cps[i]?=PN c/\x=.str ⟨#[c]⟩,λi _=>i=z.cps.size⟩
§I9(te:TE):TI:=λσ H R=>te σ H λx H1=>∃ z,x=.str z/\R (Its z) H1
~kT{K}(T)(a)(z)(t)
  (W:∀ A:LM,A.handled=PR->Walks P w A a [a] [a] z.cps.size (SignAt z) (λi h=>h.IsStrIter a T z t i))
  (L:["enumerate","zip","dict_itemiterator","dict_reverseitemiterator","odict_iterator","itertools.zip_longest","itertools.pairwise"].contains T=PV)
  (hs:∀ (A) (i) (s) (Q) (E),s.heap.IsStrIter a T z t i->Q (.ref a) s->Lm (Lo P w) A (OR (.ref a)) Q E s) :
  Turn P w K tg (Its z) [a] a (λi h=>h.IsStrIter a T z t i) where
 mem:=by simp
 obj:=λi h st b f=>by
  @e:b=a:=by simpa using f
  subst e;&o,e,c,d:=st;~⟨o,e,λv z=>by simp_all⟩
 keep:=λi h D st k=>by
  &o,e,c,d:=st;PM o,k a (by simp) o e,c,d
 item:=by
  intro X S F R C i j s O H E I l st x;&r,y,J,q,B,n:=l a (by simp);!(W _ (I.ok.hd C)).item i s _ _ x st λv D N M g p=>?_;&c,u,m,rfl:=M;&o,e,G,d:=id g;PM _,rfl,kF e G d L ⟨.str _,H,(I.turned (λb o f e=>p b o (by simpa using f) e) r y q B n),⟨u,rfl⟩,⟨rfl,c,m,rfl⟩,g,λb f=>(l b f).1⟩
 done:=by
  intro X S F R C i j s O H E I l st x;&r,y,J,q,B,n:=l a (by simp);subst x;~(W _ (I.ok.hd C)).done s _ _ st λD N p=>⟨rfl,I.turned (λb o f e=>p b o (by simpa using f) e) r y q B n⟩
 self:=hs
~B2(m:PE X l u):PI X tg l (I9 u):=by
 intro a s r H R I h;!thn (m a s r H _ I h) λv c ⟨x,g,d,p,n⟩=>?_;&z,rfl,q:=n;&t,rfl:=p;@j:∀ (o:Obj),∀ b∈[c¢],dJ X a g b:=λo b k=>by
  @e:b=c¢:=by simpa using k
  subst e;~d.fpOk (aAo _) (d.hok.fresh (aAo _))
 #i:z.cps.all _
 ·!wpAny_pyIter_wide i ?_;~⟨c¢,[c¢],_,_,g,rfl,d.kept λb o e=>aAb _ e,
   kT _ _ z t (λA f=>Walks.strWide f _ z t) (by decide) (λ_ _ _ _ _ st h=>wpAny_pyIter_striter_wide st h),⟨_,aAp _ rfl,rfl,rfl⟩,j default,q⟩
 ·!wpAny_pyIter_ascii i ?_;~⟨c¢,[c¢],_,_,g,rfl,d.kept λb o e=>aAb _ e,
   kT "str_ascii_iterator" _ z t (λA f=>Walks.strAscii f _ z t) (by decide) (λ_ _ _ _ _ st h=>wpAny_pyIter_striter_ascii st h),⟨_,aAp _ rfl,rfl,rfl⟩,j default,q⟩
§bls:PQ Bool->PQ V:=List.map V.bl
~sO:ax X (.builtin "all") (λxs H Q=>∃ p ys,xs=[.ref p]/\X.calm=PU/\SqL X.K H p (bls ys)/\Q (.bl (ys.all id)) H):=by
 intro y s σ H xs W Q I r h;&p,ys,rfl,n,F,q:=h;&u,rfl,B:=bt r
 #B
 &c,t,l,S:=I.list F;@E:X.A.in1.handled=none:=I.ok.hd n;@m:p≠s¢:=by
  &o,e,_:=l.isList;~aAs (aAd e)
 @a:c°=ys°:=by rw[<- t°];simp[bls]
 !call_all_walk (L4 l.isList ⟨s¢,_,_,_,_,_,λi=>ys.getD i PU,rfl,Walks.list E _ p m _,⟨⟨_,aAp _ rfl,rfl,rfl⟩,l.isList.at λo e=>aAb _ e⟩,?_,?_⟩)
 ·intro i v G D Z J P;@f:c[i]?=PN v:=by simpa using J
  @d:i < ys°:=by
   rw[<- a];~(aAg.mp f).1
  @O:(bls ys)[i]?=PN (V.bl ys[i]):=by simp[bls]
  &u,w,R:=t.get O;rw[f]at w;obtain rfl:=Option.some.inj w
  #R
  !LK ?_;@L:ys.getD i PU=ys[i]:=by simp_all
  @k:D (ys.getD i PU) G:=P;rw[L]at k;~k
 ·intro T U A;@N:(List.range c.toArray.size).all (λi=>ys.getD i PU)=ys.all id:=by
   rw[aAB,a];rw[Bool.eq_iff_iff,aAf,aAf]
   constructor
   ·intro g x M;&i,d,rfl:=aAS.mp M;@:=g i (aBK.mpr d)
    simpa [aBb,d]using this
   ·intro g i d;@j:=aBK.mp d;@:=g _ (aA3 j)
    simpa [aBb,j]using this
  rw[N];!⟨.bl _,H,?_,rfl,q⟩;~I.kept λb o e=>A b o (by
   intro z;@Y:b=s¢:=by simpa using z
   ~absurd (aAd e) (by simp_all)) (aAb _ e)
end
section
variable {X:Cx}
~e8(ns:PQ Int):∀ n,n<=ns°->PD (λi=>ns.getD i 0) n=(ns.take n).sum
 |0,_=>by simp[PD]
 |n+1,h=>by
  @a:n < ns°:=h;rw[PD,e8 ns n (aAU a),List.take_add_one,aB9];simp[ a]
~sP:ax X (.builtin "sum") (λxs H Q=>∃ (p:Ll) (ns:PQ Int),xs=[.ref p]/\X.calm=PU/\SqL X.K H p (ns.map V.int)/\Q (.int ns.sum) H):=by
 intro l s L H xs P Q I r h;&p,ns,rfl,j,E,q:=h;&u,rfl,F:=bt r
 #F
 &c,k,g,J:=I.list E;@x:X.A.in1.handled=none:=I.ok.hd j;@f:p < s¢:=by
  &o,e,_:=g.isList;~aAd e
 @a:c°=ns°:=by rw[<- k°];simp
 !call_sum_walkG (L4 g.isList ⟨s¢,_,_,_,_,_,λi=>ns.getD i 0,rfl,Walks.list x _ p (aAs f) _,⟨⟨_,aAp _ rfl,rfl,rfl⟩,g.isList.at λo e=>aAb _ e⟩,?_,?_,?_⟩)
 ·intro b n;rw[aAK];rcases(by simpa using n)with e | e
  ·~e ▸ aBh _
  ·~aAX (e ▸ f)
 ·intro i v w;@d:c[i]?=PN v:=by simpa using w
  @B:i < ns°:=by
   rw[<- a];~(aAg.mp d).1
  @A:(ns.map V.int)[i]?=PN (V.int ns[i]):=by simp[B]
  &u,m,D:=k.get A;rw[d]at m;obtain rfl:=Option.some.inj m;&t,rfl:=D;~⟨t,by simp_all⟩
 ·intro N M G y;@C:PD (λi=>ns.getD i 0) c.toArray.size=ns.sum:=by
   rw[aAB,a,e8 ns _ (aAo _),aB3]
  rw[C];!⟨.int _,H,?_,⟨_,rfl⟩,q⟩;~I.kept λb o e=>y b o (by
   intro z;@O:b=s¢:=by simpa using z
   ~absurd (aAd e) (by simp_all)) (aAb _ e)
§Ja:V->PY Int->PY Int->Hp->VK->Prop:=λx lo hi H Q=>∃ z,x=.str z/\z°<=Ld/\Q (.str (Txt.slice z lo hi)) H
~B3:SlR X Ja:=by
 intro c s p H x v A r lo w y Q I n d o m h;&z,rfl,e,q:=h;&t,rfl:=n;!⟨"str",_,F.slot_str_getitem.lookup,OX _ _ _,?_⟩;@b:∀ a k,EP X c p Q _ { s with toks:=k }:=λa k=>⟨.str _,H,I.tok k,⟨a,rfl⟩,q⟩
 #o with
 |none =>
  #m with
  |none=>~Mn (l:=PR) (u:=PR) (st:=PR) d rfl (M5 ⟨aAq (Txt.slice_le z _ _) e,λa k=>b a k⟩)
  |int j f=>~Mn (l:=PR) (u:=PN (j,f)) (st:=PR) d rfl (M5 ⟨aAq (Txt.slice_le z _ _) e,λa k=>b a k⟩)
 |int i g =>
  #m with
  |none=>~Mn (l:=PN (i,g)) (u:=PR) (st:=PR) d rfl (M5 ⟨aAq (Txt.slice_le z _ _) e,λa k=>b a k⟩)
  |int j f=>~Mn (l:=PN (i,g)) (u:=PN (j,f)) (st:=PR) d rfl (M5 ⟨aAq (Txt.slice_le z _ _) e,λa k=>b a k⟩)
~sQ:OpR X (Ls .Is) (λx y H Q=>∃ b c,x=.bl b/\y=.bl c/\Q (.bl (b == c)) H):=by
 intro a s f H x y v u Q I e d h;&b,c,rfl,rfl,q:=h
 #e
 #d
 ~is_bool ⟨.bl _,H,I,rfl,q⟩
~kU:OpR X (Ls .IsNot) (λx y H Q=>∃ b c,x=.bl b/\y=.bl c/\Q (.bl (b != c)) H):=by
 intro a s f H x y v u Q I e d h;&b,c,rfl,rfl,q:=h
 #e
 #d
 ~isnot_bool ⟨.bl _,H,I,rfl,q⟩
end
~ay(h:H p=PR)(o):Same H (upd H p o):=λb u q=>by rw[ao (aG q h)];~q
~Same.tup{K}{H H'}{a}{xs}(e:Same H H')(h:SqT K H a xs):SqT K H' a xs:=by
 rcases h with(h | ⟨o,h⟩) | h
 ·~.inl (.inl (e _ _ h))
 ·~.inl (.inr ⟨o,e _ _ h⟩)
 ·~.inr h
~xx(b:Gl X x)(a:X.mg x=PN (.int i t))(c:(x == ("__debug__"))=false:=by decide):PE X (.Name x pos) (tC (.int i)):=oE b a ⟨_,rfl⟩ c
~xz(b:Gl X x)(a:X.mg x=PN (.str z t))(c:(x == ("__debug__"))=false:=by decide):PE X (.Name x pos) (tC (.str z)):=oE b a ⟨_,rfl⟩ c
~B4{pos}(c:Gl X x)(a:X.mg x=PR)(e:Mh x=PN (.type n))(d:x≠ "__name__" :=by decide)(b:(x == ("__debug__"))=false:=by decide):PE X (.Name x pos) (tC (.ty n)):=xa c a e rfl d b
structure Gn(K:W.Frag)(mg:Str->PY Li)(x:Str)(st:LP)(ps:PQ Str)(f:Ll)(fd:MS):Prop where
 F:Fun K x x st f fd
 b:Binds K fd ps []
 m:mg x=PN (.ref f)
inductive Dt where
 |non | bl (b:Bool) | int (i:Int) | str (z:Str) | tup (l:PQ Dt)
mutual
inductive IsD(K:W.Frag)(H:Hp):Dt->V->Prop
 |non:IsD K H .non .non
 |bl {b}:IsD K H (.bl b) (.bl b)
 |int {i}:IsD K H (.int i) (.int i)
 |str {z}:IsD K H (.str z) (.str z)
 |tup {l:PQ Dt}{a:Ll}{xs:PQ V}:SqT K H a xs->IsDs K H l xs->IsD K H (.tup l) (.ref a)
inductive IsDs(K:W.Frag)(H:Hp):PQ Dt->PQ V->Prop
 |nil:IsDs K H [] []
 |cons {d:Dt}{l:PQ Dt}{x:V}{xs:PQ V}:IsD K H d x->IsDs K H l xs->IsDs K H (d :: l) (x :: xs)
end
mutual
§Dt.dep:Dt->Nat
 |.tup l=>al l+1
 |_=>0
§al:PQ Dt->Nat
 |[]=>0
 |d :: l=>max d.dep (al l)
end
mutual
§eqD:Dt->Dt->Bool
 |.non,.non=>PU
 |.bl a,.bl b=>a == b
 |.bl a,.int i=>(if a then 1 else 0) == i
 |.int i,.bl a=>i == (if a then 1 else 0)
 |.int i,.int j=>i == j
 |.str x,.str y=>x == y
 |.tup l,.tup m=>bu l m
 |_,_=>PV
§bu:PQ Dt->PQ Dt->Bool
 |[],[]=>PU
 |d :: l,e :: m=>eqD d e && bu l m
 |_,_=>PV
end
mutual
~gj:∀ d:Dt,eqD d d=PU
 |.non=>rfl
 |.bl a=>by simp[eqD]
 |.int i=>by simp[eqD]
 |.str z=>by simp[eqD]
 |.tup l=>by PK[eqD];~iK l
~iK:∀ l:PQ Dt,bu l l=PU
 |[]=>rfl
 |d :: l=>by PK[bu,gj d,iK l,Bool.and_self]
end
section
variable {K:W.Frag}{H H':Hp}
~IsDs.length(h:IsDs K H l xs):l°=xs°:=by
 induction l generalizing xs with
 |nil=>cases h;rfl
 |cons d l a=>cases h with | cons _ r=>simp[a r]
~IsDs.get(h:IsDs K H l xs){i:Nat}(e:l[i]?=PN d):∃ x,xs[i]?=PN x/\IsD K H d x:=by
 induction l generalizing xs i with
 |nil=>simp at e
 |cons c l a =>
  #h with
  |cons h r =>
   #i with
   |zero=>simp at e;subst e;PM _,rfl,h
   |succ i=>~a r (by simpa using e)
end
section
variable {X:Cx}{pins:PQ (Ll×Obj)}{σ:St}{H:Hp}{s:Lk}
mutual
~IsD.inj(I:Inv X pins σ H s):∀ {d e:Dt}{v:V},IsD X.K H d v->IsD X.K H e v->d=e
 |_,_,_,.non,.non=>rfl
 |_,_,_,.bl,.bl=>rfl
 |_,_,_,.int,.int=>rfl
 |_,_,_,.str,.str=>rfl
 |_,_,_,.tup h r,.tup h' r'=>by
  @e:=I.tuple_inj h h';subst e;rw[IsDs.inj I r r']
~IsDs.inj(I:Inv X pins σ H s):∀ {l m:PQ Dt}{xs:PQ V},IsDs X.K H l xs->IsDs X.K H m xs->l=m
 |_,_,_,.nil,.nil=>rfl
 |_,_,_,.cons h r,.cons h' r'=>by rw[IsD.inj I h h',IsDs.inj I r r']
end
~bH:∀ (l m),bu l m=((List.range (min l° m°)).all (λj=>eqD (l.getD j .non) (m.getD j .non)) && l° == m°)
 |[],[]=>rfl
 |[],_ :: _=>by simp[bu]
 |_ :: _,[]=>by simp[bu]
 |d :: l,e :: m=>by
  PK[bu,aAv];rw[bH l m,Nat.succ_min_succ,List.range_succ_eq_map,aAL,aBz];@a:(l°+1 == m°+1)=(l° == m°):=by
   simp
  rw[a,Bool.and_assoc]
  rfl
~gm:∀ {l}{j},j < l°->(l.getD j .non).dep<=al l
 |[],_,h=>by simp at h
 |d :: l,0,_=>by PK[List.getD_cons_zero,al];on
 |d :: l,j+1,h=>by
  @q:=@gm l j (by simpa using h);PK[List.getD_cons_succ,al];on
~Inv.tup'(I:Inv X pins σ H s)(h:SqT X.K H a xs):∃ its:PQ Li,Vals xs its/\s.heap.IsTuple a its.toArray:=by
 &its,r,p,_:=I.tuple h;PM its,r,p
~de(A:LM):A.in1.units=A.units+1:=rfl
~sR(I:Inv X pins σ H s):∀ (n:Nat) (d e:Dt) (x y:V) (u v:Li) (A:LM),d.dep<=n->IsD X.K H d x->IsD X.K H e y->RelV x u->RelV y v->A.units+n < LU ->
  SeqAt.EqAt A s u v (eqD d e)/\SeqAt.RcAt A s u v (eqD d e)/\SeqAt.RcNeAt A s u v (!eqD d e):=by
 intro n
 induction n with
 |zero =>
  intro d e x y u v A hd hx hy rx ry hu;@hu0:A.units < LU:=or
  #hx with
  |tup h r=>simp[Dt.dep]at hd
  |non =>
   #rx
   #hy with
   |non=>cases ry;PM .same _,.none_none,.none_none
   |bl=>cases ry;PM .none_bool _,.none_bool _,.none_bool _
   |int=>&t,rfl:=ry;PM .none_int _ _,.none_int _ _,.none_int _ _
   |str=>&t,rfl:=ry;PM .none_str _ _,.none_str _ _,.none_str _ _
   |tup h r=>cases ry;&its,_,p:=I.tup' h;PM .none_tuple p hu0,.none_tuple p hu0,.none_tuple p hu0
  |bl =>
   #rx
   #hy with
   |non=>cases ry;PM .bool_none _,.bool_none _,.bool_none _
   |bl=>cases ry;PM .bool_bool _ _,.bool_bool _ _,.bool_bool _ _
   |int=>&t,rfl:=ry;PM .bool_int _ _ _,.bool_int _ _ _,.bool_int _ _ _
   |str=>&t,rfl:=ry;PM .bool_str _ _ _,.bool_str _ _ _,.bool_str _ _ _
   |tup h r=>cases ry;&its,_,p:=I.tup' h;PM .bool_tuple _ p hu0,.bool_tuple _ p hu0,.bool_tuple _ p hu0
  |int =>
   &t0,rfl:=rx
   #hy with
   |non=>cases ry;PM .int_none _ _,.int_none _ _,.int_none _ _
   |bl=>cases ry;PM .int_bool _ _ _,.int_bool _ _ _,.int_bool _ _ _
   |int=>&t,rfl:=ry;PM .int_int _ _ _ _,.int_int _ _ _ _,.int_int _ _ _ _
   |str=>&t,rfl:=ry;PM .int_str _ _ _ _,.int_str _ _ _ _,.int_str _ _ _ _
   |tup h r=>cases ry;&its,_,p:=I.tup' h;PM .int_tuple _ _ p hu0,.int_tuple _ _ p hu0,.int_tuple _ _ p hu0
  |str =>
   &t0,rfl:=rx
   #hy with
   |non=>cases ry;PM .str_none _ _,.str_none _ _,.str_none _ _
   |bl=>cases ry;PM .str_bool _ _ _,.str_bool _ _ _,.str_bool _ _ _
   |int=>&t,rfl:=ry;PM .str_int _ _ _ _,.str_int _ _ _ _,.str_int _ _ _ _
   |str=>&t,rfl:=ry;PM .str_str _ _ _ _,.str_str _ _ _ _,.str_str _ _ _ _
   |tup h r=>cases ry;&its,_,p:=I.tup' h;PM .str_tuple _ _ p hu0,.str_tuple _ _ p hu0,.str_tuple _ _ p hu0
 |succ n ih =>
  intro d e x y u v A hd hx hy rx ry hu;@hu0:A.units < LU:=or
  #hx with
  |tup h r =>
   rename_i l a xs
   #rx
   #hy with
   |non=>cases ry;&its,_,p:=I.tup' h;PM .tuple_none p hu0,.tuple_none p hu0,.tuple_none p hu0
   |bl=>cases ry;&its,_,p:=I.tup' h;PM .tuple_bool _ p hu0,.tuple_bool _ p hu0,.tuple_bool _ p hu0
   |int=>&t,rfl:=ry;&its,_,p:=I.tup' h;PM .tuple_int _ _ p hu0,.tuple_int _ _ p hu0,.tuple_int _ _ p hu0
   |str=>&t,rfl:=ry;&its,_,p:=I.tup' h;PM .tuple_str _ _ p hu0,.tuple_str _ _ p hu0,.tuple_str _ _ p hu0
   |tup h' r' =>
    rename_i m b ys
    #ry
    &its,q,p:=I.tup' h;&its',q',p':=I.tup' h';@l1:its°=l°:=by rw[<- q°,<- r°]
    @l2:its'°=m°:=by rw[<- q'°,<- r'°]
    @he:∀ j (h1:j < its.toArray.size) (h2:j < its'.toArray.size),SeqAt.EqAt A.in1 s its.toArray[j] its'.toArray[j] (eqD (l.getD j .non) (m.getD j .non)):=by
     intro j h1 h2;@j1:j < l°:=by simpa [l1]using h1
     @j2:j < m°:=by simpa [l2]using h2
     &x1,ex,dx:=r.get (i:=j) (d:=l.getD j .non) (by simp[aBb,j1]);&y1,ey,dy:=r'.get (i:=j) (d:=m.getD j .non) (by simp[aBb,j2]);&u1,eu,ru:=q.get ex;&v1,ev,rv:=q'.get ey;@e1:its.toArray[j]=u1:=by
      @:its[j]?=PN its[j]:=by simp[l1,j1]
      rw[this]at eu
      simpa using Option.some.inj eu
     @e2:its'.toArray[j]=v1:=by
      @:its'[j]?=PN its'[j]:=by simp[l2,j2]
      rw[this]at ev
      simpa using Option.some.inj ev
     rw[e1,e2];~(ih _ _ _ _ _ _ A.in1 (aAq (gm j1) (by PK[Dt.dep]at hd;on)) dx dy ru rv (by rw[de];on)).1
    @ev:eqD (.tup l) (.tup m)=((List.range (min its.toArray.size its'.toArray.size)).all (λj=>eqD (l.getD j .non) (m.getD j .non)) && its.toArray.size == its'.toArray.size):=by
     PK[eqD,aAB,l1,l2];~bH l m
    rw[ev];!⟨?_,SeqAt.RcAt.tuples p p' hu0 he,SeqAt.RcNeAt.tuples p p' hu0 he⟩
    by_cases hab:a=b
    ·subst hab;@e3:=I.tuple_inj h h';subst e3;@e4:=IsDs.inj I r r';subst e4;rw[<- ev,gj];~.same _
    ·~.of_refs hab (SeqAt.RcAt.tuples p p' hu0 he)
  |non=>~ih _ _ _ _ _ _ A (by simp[Dt.dep]) .non hy rx ry or
  |bl=>~ih _ _ _ _ _ _ A (by simp[Dt.dep]) .bl hy rx ry or
  |int=>~ih _ _ _ _ _ _ A (by simp[Dt.dep]) .int hy rx ry or
  |str=>~ih _ _ _ _ _ _ A (by simp[Dt.dep]) .str hy rx ry or
§Jb(K:W.Frag):R2:=λx y H Q=>∃ d e,IsD K H d x/\IsD K H e y/\d.dep<=60/\Q (.bl (eqD d e)) H
§Jc(K:W.Frag):R2:=λx y H Q=>∃ d e,IsD K H d x/\IsD K H e y/\d.dep<=60/\Q (.bl (!eqD d e)) H
~B5(j:X.A.units+64 < LU):OpR X (Ls .Eq) (Jb X.K):=by
 intro a s k H x y v u Q I i b h;&d,e,g,f,c,q:=h;~(sR I 60 d e x y v u _ c g f i b or).2.1 _ _ _ _ ⟨.bl _,H,I,rfl,q⟩
~B6(j:X.A.units+64 < LU):OpR X (Ls .NotEq) (Jc X.K):=by
 intro a s k H x y v u Q I i b h;&d,e,g,f,c,q:=h;~(sR I 60 d e x y v u _ c g f i b or).2.2 _ _ _ _ ⟨.bl _,H,I,rfl,q⟩
§Ff(K:W.Frag)(neg:Bool):R2:=λx y H Q=>∃ p b xs ys l m,x=.ref p/\y=.ref b/\SqL K H p xs/\SqL K H b ys/\IsDs K H l xs/\IsDs K H m ys/\al l<=60/\Q (.bl (if neg then !bu l m else bu l m)) H
~iL(D:X.A.units+64 < LU)(I:Inv X pins σ H s)(r:IsDs X.K H l xs)(a:IsDs X.K H m ys)(q:Vals xs its)(c:Vals ys its')(k:al l<=60) :
  ∀ j (b) (f:j < its'.toArray.size),SeqAt.EqAt X.A.in1 s its.toArray[j] its'.toArray[j] (eqD (l.getD j .non) (m.getD j .non)):=by
 @A:its°=l°:=by rw[<- q°,<- r°]
 @u:its'°=m°:=by rw[<- c°,<- a°]
 intro j b f;@y:j < l°:=by simpa [A]using b
 @B:j < m°:=by simpa [u]using f
 &F,g,o:=r.get (i:=j) (d:=l.getD j _) (by simp_all);&E,v,w:=a.get (i:=j) (d:=m.getD j _) (by simp_all);&h,G,x:=q.get g;&n,C,t:=c.get v;@p:its.toArray[j]=h:=by simp_all
 @z:its'.toArray[j]=n:=by simp_all
 rw[p,z];~(sR I 60 _ _ _ _ _ _ _ (aAq (gm y) k) o w x t (by rw[de];on)).1
~B7(E:X.A.units+64 < LU):OpR X (Ls .Eq) (Ff X.K PV):=by
 intro z s L H x y v u Q I A D h;&p,b,O,N,l,m,rfl,rfl,J,B,r,t,G,q:=h
 #A
 #D
 &c,k,n,_:=I.list J;&a,o,i,_:=I.list B;@F:c°=l°:=by rw[<- k°,<- r°]
 @M:a°=m°:=by rw[<- o°,<- t°]
 @d:X.A.units < LU:=or
 by_cases g:c°=a°
 ·@f:bu l m=(List.range c.toArray.size).all (λj=>eqD (l.getD j .non) (m.getD j .non)):=by
   rw[bH l m,aAB,F];@e:l°=m°:=or
   rw[<- e,Nat.min_self,Lz,aBx]
  !SeqAt.eq_listAt n.isList i.isList (by simpa using g) d (iL E I r t k o G) ?_;rw[<- f];PM .bl _,H,I,rfl,q
 ·@f:bu l m=false:=by
   @e:(l° == m°)=false:=by simp_all
   rw[bH l m,e,aBA]
  !SeqAt.eq_list_lengthsAt n.isList i.isList (by simpa using g) d ?_;@w:=q;rw[f]at w;PM .bl _,H,I,rfl,w
~B8(E:X.A.units+64 < LU):OpR X (Ls .NotEq) (Ff X.K PU):=by
 intro z s L H x y v u Q I A D h;&p,b,O,N,l,m,rfl,rfl,J,B,r,t,G,q:=h
 #A
 #D
 &c,k,n,_:=I.list J;&a,o,i,_:=I.list B;@F:c°=l°:=by rw[<- k°,<- r°]
 @M:a°=m°:=by rw[<- o°,<- t°]
 @d:X.A.units < LU:=or
 by_cases g:c°=a°
 ·@f:bu l m=(List.range c.toArray.size).all (λj=>eqD (l.getD j .non) (m.getD j .non)):=by
   rw[bH l m,aAB,F];@e:l°=m°:=or
   rw[<- e,Nat.min_self,Lz,aBx]
  !SeqAt.RcNeAt.lists n.isList i.isList (by simpa using g) d (iL E I r t k o G) _ _ _ _ ?_;rw[<- f];PM .bl _,H,I,rfl,q
 ·@f:bu l m=false:=by
   @e:(l° == m°)=false:=by simp_all
   rw[bH l m,e,aBA]
  !SeqAt.RcNeAt.lists_lengths n.isList i.isList (by simpa using g) d _ _ _ _ ?_;@w:=q;rw[f]at w;PM .bl _,H,I,rfl,w
end
end L2
namespace PySem.W
open PySem PySem.Spec PyProof.Rows PySem.Calls
structure ExcK(K:Frag)(C:Ll):Prop where
 ga:findIn K (.ref C) "__getattribute__" = PN (PN (.builtin "BaseException.__getattribute__"))
 gt:findIn K (.ref C) "__getattr__" = PN PR
 cl:findIn K (.ref C) "__class__" = PN (PN (.builtin "object.__class__"))
 sb:mroIn K C (.type "BaseException")=PN PU
 so:mroIn K C (.type "object")=PN PU
 cd:∃ c,clsIn K C=PN c
end PySem.W
namespace L2
open PySem PySem.Spec PyProof.Rows
§xO(a C:Ll):HO:=.ext λh=>∃ o,h.get? a=PN o/\o.cls=.ref C
¶bmV:PQ Li:=[.type "ValueError",.type "Exception",.type "BaseException",.type "object"]
structure ExC(K:W.Frag)(mg:Str->PY Li)(x:Str)(C:Ll):Prop where
 m:mg x=PN (.ref C)
 q:W.excIn K C bmV "ValueError.__new__" = PU
 k:W.ExcK K C
 kp:W.keepIn K (.ref C)=PU
~jI{K}(X:K.In h)(q:W.excIn K C e newId=PU) :
  ∃ bm N nm a bs d sn sub ab col dd k0 k1 k2 k3 k5 mN,h.get? C=PN (OH nm a C N bs bm d sn sub ab col dd k0 k1 k2 k3 k5 newId)/\h.Ns N mN/\mN "__init__" = PR/\OwnTail h e bm:=by
 unfold W.excIn at q
 split at q
 case h_2=>cases q
 case h_1 dd m r g =>
  split at q
  case h_2=>cases q
  case h_1 x bm k0 k1 k2 k3 n k5 o s =>
   simp at q;&⟨⟨⟨⟨i,k⟩,p⟩,t⟩,f⟩,w:=q;subst i k;&nm,bs,v,u,a,d,sn,sub,ab,col,j:=m;subst o p;&l:=r;subst s;PM bm,u,nm,a,bs,d,sn,sub,ab,col,dd,k0,k1,k2,k3,k5,_,X _ _ g,.of_isNs (W.isNs_of_in X f),W.nsMap_none_of_in X f w,W.tail_of_in X t
§CXE(P:Lw)(w:Lu):CXT:=λouter H s E e s'=>∃ (ea C:Ll) (a0:Li) (B:LE) (H':Hp),e=.ref ea/\Heap.FlyingW B outer ea (.ref C) a0 s'.heap/\s'.os=s.os/\MH s'.gens/\Un (frs outer) [] H H' s.heap s'.heap/\HOk P w H' B /\
 (∀ b o,s.heap.get? b=PN o->H b=PR->b∉frs outer->B.get? b=PN o)/\(∀ b o,s.heap.get? b=PN o->b∉frs outer->∃ o',B.get? b=PN o')/\E (.ref C) PR H'
~dM{h k h' B:LE}(u:Un fs [] H j h k)(i:∀ b o,h.get? b=PN o->H b=PR->b∉fs->B.get? b=PN o)(g:∀ b o,h.get? b=PN o->b∉fs->∃ c,B.get? b=PN c)
  (st:B.StaysIn h') (f:∀ b o,h.get? b=PN o->b∈fs->∃ d,h'.get? b=PN { o with slots:=d }):Un fs [] H j h h' where
 keep:=λb o q n a _=>st b o (i b o q n a)
 slot:=λb o q n a _=>f b o q a
 free:=u.free
 there:=λb o q l=>by
  by_cases a:b∈fs
  ·&d,e:=f b o q a;PM _,e
  ·&c,e:=g b o q a;PM c,st b c e
 tups:=u.tups
 frzs:=u.frzs
 tbls:=u.tbls
section
variable {X:Cx}{pins:PQ (Ll×Obj)}{σ:St}{H:Hp}{s:Lk}
~cX{a h:LE}(f:h.FunFrames a l)(e:b∈frs l):∃ o,h.get? b=PN o/\∀ vs,o.data≠.fields vs:=by
 &_,o,c,d:=f.mem e;PM o,c,d
§mX(C:Ll)(E:XK)(t:TA):TS:=λ_ σ H=>t σ H λxs H1=>xs°<=Ld/\E (.ref C) PR H1
end
~sT(g:HOk P w H h)(c:h.get? a=PR):H a=none:=by
 #q:H a with
 |none=>rfl
 |some u =>
  @b:=g a u q
  #u with
  |lst m=>&_,l,n,_,e:=b;rw[c]at e;#e
  |tup m=>&_,l,_,d,e,_:=b;rw[c]at e;#e
  |dK k=>&_,_,B,_,d,j,i,e,_:=b;rw[c]at e;#e
  |dT k=>&_,_,m,_,d,j,i,e,_:=b;rw[c]at e;#e
  |set S n=>&d,j,i,t,e,_:=b;rw[c]at e;#e
  |ins C r p=>&_,_,_,e,_:=b;rw[c]at e;#e
  |own y=>&d,e:=b;rw[c]at e;#e
  |xd p=>&A,⟨s,j,i,e,_⟩,_:=b;rw[c]at e;#e
  |rng lo z=>&t,u,v,e:=b;rw[c]at e;#e
  |frz d u=>&e,_:=b;rw[c]at e;#e
  |tbl D=>have e:h.get? a=PN _:=b;rw[c]at e;#e
  |met f y=>have e:h.get? a=PN _:=b;rw[c]at e;#e
  |ext x=>&_,⟨o,e⟩,_:=b;rw[c]at e;#e
§hcx(X:Cx)(ea:Ll):Cx:={ X with A:=X.A.mark (PN (.ref ea)),calm:=PV,xe:=λ_ _=>False }
section
variable {X:Cx}{pins:PQ (Ll×Obj)}{σ:St}{H:Hp}{s:Lk}
~Cx.Ok.hcx(a:X.Ok)(b):(hcx X b).Ok:=
 ⟨a.mod,a.kind,a.glob,a.blt,a.above,a.inj,a.has,a.cab,λz=>absurd z (by show ¬ (PV=PU);decide),a.frames,a.stk,a.exf,a.bs,a.bsz,a.noex,a.exfs,a.funs,a.frf⟩
~Inv.hcx(I:Inv X pins σ H s)(b):Inv (hcx X b) pins σ H s:=⟨I.ok.hcx b,I.os,I.bare,I.base,I.loc,I.cell,I.free,I.freeC,I.pin,I.hok,I.len⟩
~Inv.unhcx(I:Inv (L2.hcx X d) pins σ H s)(c:X.Ok):Inv X pins σ H s:=⟨c,I.os,I.bare,I.base,I.loc,I.cell,I.free,I.freeC,I.pin,I.hok,I.len⟩
¶TX:=St->Hp->VK->XK->Prop
§PX(X:Cx)(e:Expr)(t:TX):Prop:=
 ∀ (pins:PQ (Ll×Obj)) (s:Lk) (σ:St) (H:Hp) (Q:VK) (E:XK),Inv X pins σ H s->t σ H Q E ->
  Lm (Lo X.prog X.w) X.A (L3 e X.env) (EP X pins σ Q) (λex s'=>∃ H1 s1,Inv X pins σ H1 s1/\CXE X.prog X.w X.stack H1 s1 E ex s') s
~oJ{p pos:Pos}{t:TA}(F:FnOk X.prog X.w X.K X.mg X.base (CXE X.prog X.w) k f v w sp)(M:Room k X.A)(N:Gl X x)(A:X.mg x=PN (.ref f))
  (G:W.keepIn X.K (.ref f)=PU) (D:Binds X.K v w []) (C:PA X.nox (e :: es) t) (j:(x == ("__debug__" : Str))=false:=by decide) (L:Lq (e :: es) X.env=(PV,L3 e X.env) :: Lq es X.env:=by rfl)
  (o:(Mc pos (Lq es X.env)).any (·.1)=false:=by rfl):PX X (.Call (.Name x p) (e :: es) [] pos) (λn H Q E=>t n H λvs i=>sp vs i Q E):=by
 intro d s n H Q E I h;!LR (bj I N A ?_ j);!W.callWith_K I.ok.mod.kin G (LG (C pos d s n H _ (I.wish _) h) (λa g ⟨vs,i,l,r,q⟩=>?_) λ_ _ z=>z.elim) L o;@b:=Inv.unwish l;!⟨b.kIn,?_⟩;@m:Nt g v ⟨a,[]⟩ (w.zip a):=by
  @z:=D g a b.kIn (by rw[aAA];~(by rw[<- r°];~F.len _ _ _ _ q))
  rwa [aAA]at z
 !Nu (L6 (F.run X.A X.stack g i ⟨a,[]⟩ a vs Q E M b.env0 m r q) λB P c=>?_)
 #B with
 |error O=>PM i,g,b,c
 |ok J =>
  #J with
  |ret u=>~b.after c
  |next=>~False.elim c
  |brk=>~False.elim c
  |cont=>~False.elim c
end
section
variable {X:Cx}{a b c d:Expr}{ta tb tc td:TE}{pos:Pos}
§xA(r r' r'':R2)(ta tb tc td:TE):TE:=λσ H Q=>ta σ H λx H1=>tb σ H1 λy H2=>r x y H2 λz H3=>∃ k,z=.bl k /\
 (if k=PU then tc σ H3 λy' H4=>r' y y' H4 λz' H5=>∃ k',z'=.bl k'/\(if k'=PU then td σ H5 λw' H6=>r'' y' w' H6 Q else Q (.bl PV) H5)else Q (.bl PV) H3)
~qG(M:OpR X (Ls op) r)(m:OpR X (Ls j) r')(l:OpR X (Ls g) n)(N:PE X a ta)(T:PE X b tb)(J:PE X c tc)(L:PE X d td)
  (W:Pe [op,j,g] [b,c,d]=false:=by with_unfolding_all rfl):PE X (.Compare a [op,j,g] [b,c,d] pos) (xA r r' n ta tb tc td):=by
 intro f s i H Q I h;!O7 (thn (N f s i H _ I h) λv s1 ⟨x,Z,I1,r1,q1⟩=>OT (thn (T f s1 i Z _ I1 q1) λu s2 ⟨y,H2,I2,p,R⟩ =>
  thn (M f s2 i H2 x y v u _ I2 r1 p R) λd' S ⟨z,w,C,r3,k,e,D⟩=>?_)) W
 subst e
 #r3
 !LK ?_
 #k with
 |false=>~Pz ⟨.bl PV,w,C,rfl,D⟩
 |true =>
  !PC (OT (thn (J f S i w _ C D) λB G ⟨E,H4,I4,q,q4⟩=>thn (m f G i H4 y E u B _ I4 p q q4) λd2 s5 ⟨z2,o,A,r5,Y,e2,t⟩=>?_));subst e2
  #r5
  !LK ?_
  #Y with
  |false=>~Pz ⟨.bl PV,o,A,rfl,t⟩
  |true=>~PC (chain_last (thn (L f s5 i o _ A t) λU s6 ⟨z3,F,I6,r6,q6⟩=>l f s6 i F E z3 B U Q I6 q r6 q6))
end
§im(D:PQ (Str×Int)):PQ (Str×KTD.Dat):=D.map λp=>(p.1,.flat (.int p.2))
§iM(K:W.Frag)(a:Ll)(D:PQ (Str×Int)):Prop:=∀ h,K.In h->KTD.TextTab h a (im D)
~sU{K}(e:KTD.tabLook (KTD.datLooks λb=>K.lookup b) (λb=>K.lookup b) a (im D)=PU):iM K a D:=λh X=>KTD.text_of_look (λb o q=>X b o q) e
§dB(k:Str):PQ (Str×Int)->V
 |[]=>.non
 |(x,i) :: D=>if k=x then .int i else dB k D
~iN:∀ {D}{d},KTD.datumAt k (im D)=PN d->∃ i,d=.flat (.int i)/\dB k D=.int i
 |[],_,h=>by simp[im,KTD.datumAt]at h
 |(x,i) :: D,d,h=>by
  PK[im,aAr,KTD.datumAt,L9]at h
  by_cases a:k=x
  ·rw[Lj a]at h;~⟨i,(Option.some.inj h).symm,by simp[dB,a]⟩
  ·rw[Ln a]at h;&j,e,c:=iN h;~⟨j,e,by simp[dB,a,c]⟩
~iO:∀ {D},KTD.datumAt k (im D)=PR->dB k D=.non
 |[],_=>rfl
 |(x,i) :: D,h=>by
  PK[im,aAr,KTD.datumAt,L9]at h
  by_cases a:k=x
  ·rw[Lj a]at h;#h
  ·rw[Ln a]at h;simp[dB,a,iO h]
section
variable {X:Cx}
§Fg(D:PQ (Str×Int))(t:TA):TE:=λσ H Q=>t σ H λvs H1=>∃ k,vs=[.str k]/\Q (dB k D) H1
~xB{x:Str}{ad:Ll}{D:PQ (Str×Int)}{e:Expr}{t:TA}{p apos cpos:Pos}(hD:iM X.K ad D)(hg:Gl X x)(hm:X.mg x=PN (.ref ad))(ha:PA X [e] t)(hdb:(x == ("__debug__" : Str))=false:=by decide)
  (hbase:Nh (.Name x p) "get" X.env (L3 (.Name x p) X.env)=L3 (.Name x p) X.env:=by rfl)
  (hfew:((Mc cpos (Lq [e] X.env)).all (λx=>!x.1) && (Nn cpos (MQ [] X.env)).all (λx=>x.1.isSome)
   && decide (([e]:PQ Expr)°+([]:PQ Mx)°+(if([]:PQ Mx).isEmpty then 0 else 1) < 30))=true:=by rfl)
  (hline:(apos.endLine == cpos.line)=true:=by rfl) (hs:Lq [e] X.env=(PV,L3 e X.env) :: Lq [] X.env:=by rfl) :
  PE X (.Call (.Attribute (.Name x p) "get" apos) [e] [] cpos) (Fg D t):=by
 intro pins s σ H Q I h;!Mq hbase hfew hline rfl (bj I hg hm ?_ hdb);@T:∀ {s':Lk}{σ':St}{H':Hp}{pins':PQ (Ll×Obj)},Inv X pins' σ' H' s'->KTD.Here X.base s'.heap ad (im D):=λJ=>⟨hD _ J.ok.mod.kin,J.bk⟩;!⟨"dict","dict.get",PySem.F.plainAttrs_dict,PySem.F.slot_dict_get,PySem.F.type_dict_get,(T I).typeIs,(T I).noDict,?_⟩;@hA:=ha cpos pins s σ H _ I h;rw[hs]at hA ⊢;!Calls.callWith_builtin (by rfl) (Calls.evalArgs_plain ?_);!thn hA λus s2 ⟨vs,H2,I2,r2,k,e2,q2⟩=>?_;subst e2;&u,rfl,ru:=bt r2;&tk,rfl:=ru;!Os PySem.F.slot_dict_get (T I2).typeIs PySem.F.entry_dict_get (PySem.F.args_dict_get_2 _ _) (KTD.meets_get1 (h₀:=X.base) (D:=im D)) ⟨T I2,λdd v hdd hv=>?_,λhn=>?_⟩
 ·&i,rfl,el:=iN hdd;obtain⟨t0,rfl⟩:∃ t0,v=.int i t0:=by #(hv s2.heap);PM _,rfl
  rw[el]at q2;PM .int i,H2,I2.tok _,⟨_,rfl⟩,q2
 ·rw[iO hn]at q2;PM .non,H2,I2.tok _,rfl,q2
end
end L2
namespace HT
open PySem PySem.Spec PyProof.Rows
section
variable {prog:Lw}{w:Lu}{A:LM}{E:Li->Lk->Prop}{s:Lk}
~cat_nil{ws:PQ Li}(r:Mk s.heap t ([]).toArray)(u:Mk s.heap b ws.toArray)(h:Q (.ref b) s):Lm (Lo prog w) A (L0 .Add (.ref t) (.ref b)) Q E s:=by
 &⟨l,v,j,m⟩,i,o,n,p:=id r;&⟨k,d,data2,e⟩,a,g,q,f:=id u;subst o p g f;~Nw ⟨_,i,rfl⟩ ⟨_,a,rfl⟩ Nl N8 PySem.F.slot_tuple_add PySem.F.entry_tuple_add (PySem.F.args_tuple_add_2 _ _) (tuple_addW0 t b _ _ n q v d m e (by rfl)) ⟨i,a,h⟩
~getItem_tuple_all{lo c}(b:Mk s.heap t items)(hs:s.heap.IsSliceOf f l k .none)(pl:Nx l lo)(j:Nx k c)
  (i:sIx items.size 0 lo=0) (m:sIx items.size items.size c=items.size) (h:Q (.ref t) s):Lm (Lo prog w) A (Nc (.ref t) (.ref f)) Q E s:=by
 &os,d,e,g:=id hs;PL Nc
 try with_reducible !Lr ?_
 !KE (Op b.typeIs (by decide) ?_);!KE (LI b.typeIs PyProof.Rows.slot_tuple_getitem (LV PyProof.Rows.slot_tuple_getitem b.typeIs N1 ?_ (Od _ _)));show Lm _ _ (Builtin.Tuple.tupleItemsOf _ >>= _) _ _ s;!KE (O8 b ?_);!KE (L8 (⟨os,d,e⟩) ?_);!KE (cf hs pl j ?_);@a:(((sIx items.size 0 lo):Int) == 0 && (1:Int) == 1 && (sIx items.size items.size c - sIx items.size 0 lo) == items.size)=true:=by
  rw[i,m];simp
 show Lm _ _ (if(((sIx _ 0 lo):Int) == 0 && (1) == 1 && (sIx _ _ c - sIx _ 0 lo) == items.size)=PU then _ else _) _ _ s;rw[Lj a];!KE (KE (L8 b.typeIs ?_));!Lg ?_;~KE (MM (Lg ⟨_,rfl,Lg h⟩))
end
end HT
namespace L2
open PySem PySem.Spec PyProof.Rows
section
variable {X:Cx}
~IsD.unref{K}(h:IsD K H (.tup l) v):∃ a xs,v=.ref a/\SqT K H a xs/\IsDs K H l xs:=by
 #h with
 |tup h r=>PM _,_,rfl,h,r
§io(l:PQ Dt)(lo hi:PY Int):PQ Dt:=(l.drop (HT.sIx l° 0 lo)).take (HT.sIx l° l° hi - HT.sIx l° 0 lo)
~qH:ax X (.builtin "len") (λxs H Q=>∃ x l,xs=[x]/\IsD X.K H (.tup l) x/\Q (.int l°) H):=by
 intro b s g H xs e Q I r h;&x,l,rfl,c,q:=h;&a,i,rfl,d,f:=c.unref;~cz b s g H _ e Q I r ⟨a,i,rfl,.inr d,by rw[<- f°];~q⟩
end
end L2
namespace PySem
open Sem (wp)
end PySem
namespace L2
open PySem PySem.Spec PyProof.Rows
section
variable {X:Cx}{E:XK}
~fM(a:∀ b∈frs X.outer,X.H₀ b=PR)(u:Un (frs X.outer) [] X.H₀ H' X.s₀.heap h)(F:h.FunFrames B (X.env :: X.outer))(p:h.UpToSlots j)(st:B.StaysIn j)
  (q:∀ b o,X.s₀.heap.get? b=PN o->X.H₀ b=PR->b∉frs X.outer->B.get? b=PN o) (s:∀ b o,X.s₀.heap.get? b=PN o->b∉frs X.outer->∃ r,B.get? b=PN r):Un (frs X.outer) [] X.H₀ H' X.s₀.heap j:=by
 !dM u q s st λb o e f=>?_;&w,k:=u.slot b o e (a b f) f (by simp);@g:b∈frs (X.env :: X.outer):=by
  &c,n,l:=aAC.mp f;~aAC.mpr ⟨c,aAk _ n,l⟩
 &v,i,m:=cX F g;rw[k]at i;obtain rfl:=Option.some.inj i;&d,t:=p b _ k m;PM d,t
variable {pins:PQ (Ll×Obj)}{σ:St}{H:Hp}{s:Lk}
end
section
variable {κ:Type}[DecidableEq κ]
§aY(kvs:PQ (κ×V))(k:κ):PY V:=(kvs.find? λkv=>decide (kv.1=k)).map (·.2)
§d5(kvs:PQ (κ×V))(k:κ)(v:V):PQ (κ×V):=
 if(kvs.any λkv=>decide (kv.1=k))=PU then kvs.map (λkv=>if kv.1=k then(kv.1,v)else kv)else kvs++[(k,v)]
~gn{k:κ}(e:p.1=k):aY (p :: r) k=PN p.2:=by simp[aY, e]
~gq{k:κ}(e:¬ p.1=k):aY (p :: r) k=aY r k:=by simp[aY, e]
~kW(k:κ):∀ kvs:PQ _,(kvs.any λb=>decide (b.1=k))=(aY kvs k).isSome
 |[]=>rfl
 |p :: r=>by
  rw[aAQ]
  by_cases e:p.1=k
  ·PK[gn e,Lh e,Bool.true_or,Option.isSome_some]
  ·rw[gq e,Lv e,Bool.false_or];~kW k r
~e9(kvs)(k:κ)(v):(d5 kvs k v)°<=kvs°+1:=by
 PL d5
 split
 ·rw[aAa];on
 ·rw[aAi,aAv,List.length_nil];on
~RelO.isSome_eq(r:RelO o u):o.isSome=u.isSome:=by
 #o with
 |none=>cases u with
  |none=>rfl
  |some _=>~(r).elim
 |some _=>cases u with
  |none=>~(r).elim
  |some _=>rfl
~KV.val(r:KV kvs vs)(k:κ):RelO (aY kvs k) (Ot vs k):=by
 induction r with
 |nil=>~True.intro
 |@cons p q j c h t f =>
  &d,g:=h
  by_cases e:p.1=k
  ·@a:=d.symm.trans e;@b:Ot (q :: c) k=PN q.2:=by simp[Ot, a]
   rw[gn e,b];~g
  ·@a:¬ q.1=k:=λz=>e (d.trans z);@b:Ot (q :: c) k=Ot c k:=by simp[Ot, a]
   rw[gq e,b];~f
~KV.any(r:KV kvs vs)(k:κ):(kvs.any λa=>decide (a.1=k))=vs.any λa=>decide (a.1=k):=by
 induction r with
 |nil=>rfl
 |cons h t b=>rw[aAQ,aAQ,b,h.1]
~KV.repl(r:KV kvs vs)(k:κ)(c:RelV y u) :
  KV (kvs.map λa=>if a.1=k then(a.1,y)else a) (vs.map λa=>if a.1=k then(a.1,u)else a):=by
 induction r with
 |nil=>~.nil
 |@cons p q g i h t f =>
  rw[aAr,aAr];!.cons ?_ f;&b,d:=h
  by_cases e:p.1=k
  ·rw[Lj e,Lj (b.symm.trans e)];PM b,c
  ·rw[Ln e,Ln (λz=>e (b.trans z))];PM b,d
~KV.put(r:KV kvs vs)(k:κ)(a:RelV y u):KV (d5 kvs k y) (PF vs k u):=by
 PL d5 PF;rw[r.any k]
 by_cases e:(vs.any λb=>decide (b.1=k))=PU
 ·rw[Lj e,Lj e];~r.repl k a
 ·rw[Ln e,Ln e];~Paired.snoc r ⟨rfl,a⟩
~KV.keys{kvs:PQ (κ×V)}(r:KV kvs vs):kvs.map (·.1)=vs.map (·.1):=by
 induction r with
 |nil=>rfl
 |cons h t a=>rw[aAr,aAr,a,h.1]
~KV.length{kvs:PQ (κ×V)}(r:KV kvs vs):kvs°=vs°:=Paired.length r
end
~fb(r:RelV (kV k) u):(aq P w).is k u=true:=by
 #k with
 |inl i=>&t,e:=(r);subst e;~kB P w i t
 |inr x=>&t,e:=(r);subst e;~kC P w x t
~eM:∀ {ks}{us},Vals (ks.map kV) us->ItemsAre (aq P w) ks us
 |[],_,r=>by #r;~.nil
 |k :: ks,_,r=>by
  #r with
  |cons h t=>~.cons (fb h) (eM t)
¶KT(H:Hp):PQ (PQ Key×V)->PQ (PQ Key×Ll×Li)->Prop:=OO λp q=>p.1=q.1/\H q.2.1=PN (.tup (p.1.map kV))/\RelV p.2 q.2.2
~KT.val(r:KT H kvs xs)(k):RelO (aY kvs k) ((OY xs k).map (·.2)):=by
 induction r with
 |nil=>~True.intro
 |@cons p q j a h t f =>
  &d,_,g:=h
  by_cases e:p.1=k
  ·@c:=d.symm.trans e;@b:OY (q :: a) k=PN q.2:=by simp[OY, c]
   rw[gn e,b];~g
  ·@c:¬ q.1=k:=λz=>e (d.trans z);@b:OY (q :: a) k=OY a k:=by simp[OY, c]
   rw[gq e,b];~f
~KT.repl(r:KT H kvs xs)(k)(d:RelV y u) :
  KT H (kvs.map λb=>if b.1=k then(b.1,y)else b) (xs.map (putAt k u)):=by
 induction r with
 |nil=>~.nil
 |@cons p q i j h t f =>
  rw[aAr,aAr];!.cons ?_ f;&a,c,g:=h;PL putAt
  by_cases e:p.1=k
  ·rw[Lj e,Lj (a.symm.trans e)];PM a,c,d
  ·rw[Ln e,Ln (λz=>e (a.trans z))];PM a,c,g
~KT.put(r:KT H kvs xs)(k)(g:H b=PN (.tup (k.map kV)))(d:RelV y u) :
  KT H (d5 kvs k y) (storedH xs k b u):=by
 @e:(kvs.any λf=>decide (f.1=k))=(OY xs k).isSome:=by
  rw[kW,(r.val k).isSome_eq,aBZ]
 PL d5 storedH;rw[e]
 by_cases q:(OY xs k).isSome=PU
 ·rw[Lj q,Lj q];~r.repl k d
 ·rw[Ln q,Ln q];~Paired.snoc r ⟨rfl,g,d⟩
~KT.keeps(r:KT H kvs xs)(a:∀ b ys,H b=PN (.tup ys)->H' b=PN (.tup ys)):KT H' kvs xs:=
 Paired.mapP r λ_ _ z=>⟨z.1,a _ _ z.2.1,z.2.2⟩
section
variable {P:Lw}{w:Lu}{H:Hp}{h:LE}{a:Ll}
~AC(b:HOk P w H h)(e:Rd H a u):ObjOk P w H h a u:=e.ok b
~iP(b:HOk P w H h)(e:Rd H a (.dK kvs)):kvs°<=Ld/\(a == Mi)=PV/\∃ vs,KV kvs vs/\h.DictOf (aq P w) a vs:=
 AC b e
~sV(b:HOk P w H h)(e:H a=PN (.dK kvs)):kvs°<=Ld/\(a == Mi)=PV/\∃ vs,KV kvs vs/\h.DictOf (aq P w) a vs:=iP b (.inl e)
~gr(g:HOk P w H h)(e:H a=PN (.tup (ks.map kV))):(NX (aq P w)).is h ks a:=by
 &_,b,r,o,c,f,n,d:=(g a _ e);~⟨o,b.toArray,n,c,f,d,by simpa using eM r⟩
~kX(d:HOk P w H h)(e:Rd H a (.dT kvs)):kvs°<=Ld/\(a == Mi)=PV /\
  ∃ xs,KT H kvs xs/\h.DictOfH (NX (aq P w)) a xs:=by
 &z,y,xs,r,o,u,s,n,k,j,g,f:=(AC d e);!⟨z,y,xs,r,o,u,s,n,k,j,g,λx b=>?_,f⟩;@c:∀ {l}{m},KT H l m->∀ x∈m,(NX (aq P w)).is h x.1 x.2.1:=by
  intro l m q
  induction q with
  |nil=>intro x b;~nomatch b
  |@cons p q C A v t i =>
   intro x b;rcases aAl.mp b with e | b
   ·~gr d (by simp_all)
   ·~i x b
 ~c r x b
~Fh(b:HOk P w H h)(e:H a=PN (.dT kvs)):kvs°<=Ld/\(a == Mi)=PV /\
  ∃ xs,KT H kvs xs/\h.DictOfH (NX (aq P w)) a xs:=kX b (.inl e)
end
§DGet(H:Hp)(a:Ll)(y:V)(r:PY V):Prop:=
 (∃ kvs k,Rd H a (.dK kvs)/\y=kV k/\r=aY kvs k)\/∃ kvs k b,Rd H a (.dT kvs)/\y=.ref b/\H b=PN (.tup (k.map kV))/\r=aY kvs k
§DPut(H:Hp)(a:Ll)(y v:V)(H':Hp):Prop:=
 (∃ kvs k,H a=PN (.dK kvs)/\y=kV k/\kvs° < Ld/\H'=upd H a (.dK (d5 kvs k v))) \/
 ∃ kvs k b,H a=PN (.dT kvs)/\y=.ref b/\H b=PN (.tup (k.map kV))/\kvs° < Ld/\H'=upd H a (.dT (d5 kvs k v))
~DGet.k{k}(e:H a=PN (.dK kvs)):DGet H a (kV k) (aY kvs k):=.inl ⟨kvs,k,.inl e,rfl,rfl⟩
~DPut.k{k}(e:H a=PN (.dK kvs))(b:kvs° < Ld):DPut H a (kV k) v (upd H a (.dK (d5 kvs k v))):=.inl ⟨kvs,k,e,rfl,b,rfl⟩
section
variable {X:Cx}{pins:PQ (Ll×Obj)}{σ:St}{H:Hp}{s:Lk}{a:Ll}{y v:V}{u r:Li}{o:PY V}{A:LM}{E:Li->Lk->Prop}
~Inv.big(I:Inv X pins σ H s):Mi < s¢:=by
 ~aBl (by decide) ((I.mod.glob.keeps I.bk).lt)
~qI(x:A.units+1 < LU)(I:Inv X pins σ H s)(g:DGet H a y (PN v))(q:RelV y u)(h:∀ w' s',Inv X pins σ H s'->RelV v w'->Q w' s') :
  Lm (Lo X.prog X.w) A (Nc (.ref a) u) Q E s:=by
 rcases g with⟨o,k,e,n,l⟩ | ⟨o,k,b,e,n,B,l⟩
 ·subst n;&z,t,C,d,j:=iP I.hok e;&w',i,c:=RelO.some_of (by rw[l];~d.val k);~wpAny_getItem_of (fb q) j.mapOf i (h w' _ (I.tok _) c)
 ·subst n
  #(q)
  &z,t,D,d,j:=kX I.hok e;&w',i,c:=RelO.some_of (by rw[l];~d.val k);&p,r,m:=aBO.mp i;!wpAny_getItem_heap (MN x) (gr I.hok B) j r ?_;rw[m];~h w' _ (I.tok _) c
~Jd(t:A.units+1 < LU)(I:Inv X pins σ H s)(g:DGet H a y o)(p:RelV y u)(h:∀ s',Inv X pins σ H s'->Q (.bool o.isSome) s') :
  Lm (Lo X.prog X.w) A (Ls .In u (.ref a)) Q E s:=by
 rcases g with⟨n,k,e,i,l⟩ | ⟨n,k,b,e,i,v,l⟩
 ·subst i;&z,j,w,d,m:=iP I.hok e;!wpAny_in_of (fb p) j m.mapOf ?_;rw[<- (d.val k).isSome_eq,<- l];~h _ (I.tok _)
 ·subst i
  #(p)
  &z,j,x,d,m:=kX I.hok e;!wpAny_in_heap (MN t) (gr I.hok v) j m ?_;@q:=(d.val k).isSome_eq;rw[aBZ]at q;rw[<- q,<- l];~h _ (I.tok _)
~xC(t:A.units+1 < LU)(I:Inv X pins σ H s)(g:DGet H a y o)(p:RelV y u)(h:∀ s',Inv X pins σ H s'->Q (.bool (!o.isSome)) s') :
  Lm (Lo X.prog X.w) A (Ls .NotIn u (.ref a)) Q E s:=by
 rcases g with⟨n,k,e,i,l⟩ | ⟨n,k,b,e,i,v,l⟩
 ·subst i;&z,j,w,d,m:=iP I.hok e;!wpAny_notIn_of (fb p) j m.mapOf ?_;rw[<- (d.val k).isSome_eq,<- l];~h _ (I.tok _)
 ·subst i
  #(p)
  &z,j,x,d,m:=kX I.hok e;!wpAny_notIn_heap (MN t) (gr I.hok v) j m ?_;@q:=(d.val k).isSome_eq;rw[aBZ]at q;rw[<- q,<- l];~h _ (I.tok _)
~oK(I:Inv X pins σ H s)(h:Mut (H a))(hs:Heap.SameBut a s.heap h')(g:∃ q,h'.get? a=PN q)(d:ObjOk X.prog X.w (upd H a ob) h' a ob) :
  Inv X pins σ (upd H a ob) { s with heap:=h',toks:=t' }:=
 I.write h (.inl rfl) (λb q e z=>(hs.2 b e).trans z) g d
~mY(z:kvs°<=Ld)(c:(a == Mi)=PV)(b:KV kvs vs)(dd:h'.DictOf (aq P w) a vs) :
  ObjOk P w H' h' a (.dK kvs):=⟨z,c,vs,b,dd⟩
~qJ{H':Hp}(hu:A.units+1 < LU)(I:Inv X pins σ H s)(g:DPut H a y v H')(F:RelV y u)(D:RelV v r)(h:∀ s',Inv X pins σ H' s'->Q () s') :
  Lm (Lo X.prog X.w) A (setItem (.ref a) u r) Q E s:=by
 rcases g with⟨f,k,e,o,l,p⟩ | ⟨f,k,b,e,o,J,l,p⟩
 ·subst o p;&z,t,vs,d,w:=sV I.hok e;@hz:vs°<=Ld:=by rw[<- d°];~z
  @B:(d5 f k v)°<=Ld:=by @:=e9 f k v;on
  !wpAny_setItem_pairs (fb F) w λh' j x=>h _ ?_;~oK I (by rw[e];~True.intro) x (let ⟨q,_,_,n,_⟩:=j;⟨q,n⟩) (mY B t (d.put k D) j)
 ·subst o p
  #(F)
  &z,t,xs,d,w:=Fh I.hok e;@hz:xs°<=Ld:=by rw[<- Paired.length d];~z
  @B:(d5 f k v)°<=Ld:=by @:=e9 f k v;on
  !wpAny_setItem_heap (MN hu) (gr I.hok J) w λh' j x=>h _ ?_;&q,es,ep,n,h2,h3,h4,_,h5:=j;!oK I (by rw[e];~True.intro) x ⟨q,n⟩ ⟨B,t,_,(d.put k J D).keeps λc ys G=>?_,q,es,ep,n,h2,h3,h4,h5⟩;rw[ao (EH G e (λz=>nomatch z))];~G
end
section
variable {X:Cx}{pins:PQ (Ll×Obj)}{σ:St}{H:Hp}{s:Lk}{a:Ll}{kvs:PQ (Key×V)}{k:Key}{u:Li}{A:LM}{E:Li->Lk->Prop}
~Fi(I:Inv X pins σ H s)(e:Rd H a (.dK kvs))(h:∀ t s',Inv X pins σ H s'->Q (.int kvs° t) s'):Lm (Lo X.prog X.w) A (call (.builtin "len") [.ref a]) Q E s:=by
 &z,d,i,c,f:=iP I.hok e;!call_len_dict d f (by rw[<- c°];rw[sizeLine_eq]at z;on) ?_;rw[<- c°];~h _ _ (I.tok _)
end
~kY{h:St}(I:Inv X f h H s)(g:DGet H a y o):s.TypeIs (.ref a) "dict" :=by
 rcases g with⟨c,k,e,_,_⟩ | ⟨c,k,b,e,_,_,_⟩
 ·&_,_,j,_,d:=iP I.hok e;~d.typeIs
 ·&_,_,i,_,d:=kX I.hok e;~d.typeIs
~sW(h:LE)(a:Mi < h.objs.size):ObjOk P w H (h.push { cls:=.type "dict",data:=.dict #[] }) h.objs.size (.dK []):=
 ⟨aAM _,beq_eq_false_iff_ne.mpr (Ne.symm (aAs a)),[],.nil,Heap.DictOf.new h⟩
§B9:TE:=λ_ H Q=>∀ p,H p=PR->Q (.ref p) (upd H p (.dK []))
section
variable {X:Cx}{pos:Pos}
~sX:PE X (.Dict [] [] pos) B9:=λa s b H Q I h =>
 wpAny_Dict_empty ⟨.ref _,_,I.laid (λ_ _ q=>aAb _ q) (aAo _) (sW _ I.big),rfl,h _ (I.hok.fresh (aAo _))⟩
end
structure M2(X:Cx)(o:Expr)(m:Str)(apos:Pos)(e f:Expr)(cpos:Pos):Prop where
 base:Nh o m X.env (L3 o X.env)=L3 o X.env
 few:((Mc cpos (Lq [e,f] X.env)).all (λx=>!x.1) && (Nn cpos (MQ [] X.env)).all (λx=>x.1.isSome)
  && decide (([e,f]:PQ Expr)°+([]:PQ Mx)°+(if([]:PQ Mx).isEmpty then 0 else 1) < 30))=PU
 line:(apos.endLine == cpos.line)=PU
 trees:Mc cpos (Lq [e,f] X.env)=[(PV,L3 e X.env),(PV,L3 f X.env)]
end L2
namespace PySem
open Sem (wp)
namespace F
~entry_dict_update_loop:Ps table "dict.update.loop" = PN Builtin.«dict.update.loop»:=Oz (IO)
~plain_dict_update_loop:plainId "dict.update.loop" = true:=by decide +kernel
~miss_keys_tuple:ML (.type "tuple") "keys" = pure none:=IO
end F
~fA{prog:Lw}{w:Lu}{A:LM}{E:Li->Lk->Prop}{s:Lk}{a:Ll}{o:Obj}{xs:Array Li}{k:Nat}{Q:PY Li->Lk->Prop}
  (hx:s.heap.get? a=PN o) (hc:o.cls=.type "tuple") (hdat:o.data=.seq xs k) (hd:o.dict=PR) (hA:A.handled=PR)
  (h:∀ h' tk e,Heap.NewExcOf s.heap h' e "AttributeError" ->Q PR { s with heap:=h',toks:=tk }) :
  Lm (Lo prog w) A (OZ (.ref a) "keys") Q E s:=by
 &c,dct,dat,sl:=o;simp only at hc hdat hd;subst hc hdat hd;&hp,g,d,tk,os:=s;@hT:∀ tk',(⟨hp,g,d,tk',os⟩:Lk).TypeIs (.ref a) "tuple" :=λ_=>⟨_,hx,rfl⟩;@f1:=Of;@f3:=F.slot_tuple_getattribute.lookup;@f4:=F.slot_tuple_getattribute.bind (.ref a);@f5:=am_tuple_getattr_none;unfold OZ getAttrBy? getAttrBy
 repeat (any_goals (first | assumption | ~hT _ | ((with_reducible show Lm _ _ (call (Value.builtin "tuple.__getattribute__") _ _) _ _ _);!Oe F.slot_tuple_getattribute (hT _) am_entry_tuple_getattribute (F.args_tuple_getattribute_2 _ _) (meets_getattribute_miss_tuple a xs k sl "keys" _ F.miss_keys_tuple (by decide)) ⟨hx,hA,λh' tk' e hx'=>?_⟩) | wp_step))
 &t',u',he:=hx'.there;show Lm _ _ (MO _ _ _ _ _ _ _) _ _ _;PL MO
 repeat (any_goals (first | assumption | wp_step))
 all_goals ~h _ _ _ hx'.of
end PySem
namespace PySem
open Sem (wp)
section
variable {prog:Lw}{w:Lu}{K:Type}[DecidableEq K]{knd:KeyKind prog w K}{A:LM}{E:Li->Lk->Prop}
§Heap.PairItems(h:LE)(knd:KeyKind prog w K)(items:Array Li)(kvs:PQ (K×Li)):Prop:=
 items.size=kvs°/\∀ (i:Nat) (kv:K×Li),kvs[i]?=PN kv->∃ (a:Ll) (key:Li),items[i]?=PN (.ref a)/\h.IsTuple a #[key,kv.2]/\knd.is kv.1 key=PU
~Heap.PairItems.stay{h h':LE}(x:h.PairItems knd items kvs)(k:∀ (i:Nat) (a) (o),items[i]?=PN (.ref a)->h.get? a=PN o->h'.get? a=PN o):h'.PairItems knd items kvs:=
 ⟨x.1,λi d e=>by
  &a,b,c,⟨o,f,r⟩,g:=x.2 i d e;~⟨a,b,c,⟨o,k i a o c f,r⟩,g⟩⟩
~d6{t h d:Ll}{items:Array Li}{kvs:PQ (K×Li)}{R:OV->Lk->Prop}(hh:A.handled=PR)(Q:t≠d)(W:t≠h)(y:d≠h)(v:∀ (i:Nat) (a:Ll),items[i]?=PN (.ref a)->a≠d/\a≠h)(hsz:kvs°+kvs°<=Ld) :
  ∀ (n i:Nat) (s:Lk) (c:PQ (K×Li)),kvs° - i=n->i<=kvs°->c°<=i->s.heap.IsTuple t items->s.heap.PairItems knd items kvs->s.heap.IsTupleIter h t i->s.heap.DictOf knd d c ->
   (∀ h' tk,h'.DictOf knd d (PH c (kvs.drop i))->(∀ b o,b≠d->b≠h->s.heap.get? b=PN o->h'.get? b=PN o)->R (.ok (.ret .none)) { s with heap:=h',toks:=tk }) ->
   MT (Lo prog w) A (.builtin "dict.update.loop" ⟨[.ref d,.ref h,LY i,.none],[]⟩) R s:=by
 intro n
 induction n with
 |zero =>
  intro i s c hn hi ha J I Y P V;@e:i=kvs°:=or
  !LA F.entry_dict_update_loop ?_;rw[Around.under_plainId F.plain_dict_update_loop _];show Lm _ A.in1 (Md (.ref h) >>= _) _ _ s;!KE (Np (by first | ~hh | simpa using hh) Y J (by rw[e,<- I.1];simp) λh' eb=>?_);show Lm _ _ (Builtin.Dict.addKeywords d [] >>= _) _ _ _;@x:h'.DictOf knd d c:=by
   &o,es,L,C,r:=P;PM o,es,L,eb d o y C,r
  @q:=V h' s.toks (by rw[e,aBQ];~x) λb o _ p z=>eb b o p z;~KE (Lg (Lg q))
 |succ n ih =>
  intro i s c hn hi ha J I Y P V;@l:i < kvs°:=or
  obtain⟨k,B⟩:∃ k,kvs[i]?=PN k:=⟨_,aAh l⟩;&a,E,hx,u,H:=I.2 i k B;!LA F.entry_dict_update_loop ?_;rw[Around.under_plainId F.plain_dict_update_loop _];show Lm _ A.in1 (Md (.ref h) >>= _) _ _ s;!KE (Nk Y J hx λU Z sb=>?_);&av1,M:=v i a hx;@g:∀ b o,b≠h->s.heap.get? b=PN o->U.get? b=PN o:=λb o p z=>(sb.2 b p).trans z;&po,pe,pc,pn,pd:=u;@G:=g a po M pe;@N:U.DictOf knd d c:=by
   &o,es,L,C,r:=P;PM o,es,L,g d o y C,r
  !KE (Lr ?_);!KE (O0 ?_);PL Builtin.Dict.pairItems;!KE (L8 (T:= "tuple") ⟨_,G,pc⟩ ?_);rw[Lj (by decide)];!KE (LJ G pd ?_);!Lg ?_;show Lm _ _ (Nb [E,k.2] (dictSet d E k.2)) _ _ _;!Lr (N2 (s:={ s with heap:=U }) H N (λX O D=>?_) or);!Lg ⟨LX F.plain_dict_update_loop _,?_⟩;@f:=λb o p m z=>(D.2 b p).trans (g b o m z);@S:X.IsTuple t items:=by
   &o,C,r:=J;PM o,f t o Q W C,r
  @hs2:X.IsTupleIter h t (i+1):=by
   &o,C,r:=Z;PM o,(D.2 h (Ne.symm y)).trans C,r
  @e:LY ((i:Int)+1)=LY ((i+1:Nat):Int):=by rw[aCa];rfl
  rw[e];!ih (i+1) { s with heap:=X,toks:=s.toks+1 } (PF c k.1 k.2) or l (by @:=OA c k.1 k.2;on) S (I.stay λj b o z z2=>f b o (v j b z).1 (v j b z).2 z2) hs2 O λh' tk x k'=>?_;@q:=V h' tk (by
   @z:kvs.drop i=k :: kvs.drop (i+1):=by
    rw[aBc l];rw[aAh l]at B;rw[Option.some.inj B]
   rw[z];~x) λb o p m z=>k' b o p m (f b o p m z)
  ~q
~fB{s:Lk}{t:Ll}{o:Obj}{items:Array Li}{n:Nat}{kvs:PQ (K×Li)}{Q:Li->Lk->Prop}(x:A.handled=PR)(L:s.heap.get? t=PN o)(v:o.cls=.type "tuple")(d:o.data=.seq items n)(O:o.dict=PR)
  (C:s.heap.PairItems knd items kvs) (hsz:kvs°+kvs°<=Ld)
  (h:∀ h' tk,h'.DictOf knd s¢ (PH [] kvs)->(∀ b o,s.heap.get? b=PN o->h'.get? b=PN o)->Q (.ref s¢) { s with heap:=h',toks:=tk }) :
  Lm (Lo prog w) A (call (.type "dict") [.ref t]) Q E s:=by
 !O1 (Q₁:=λp k=>p=.ref s¢/\k={ s with heap:=s.heap.push _ }) F.kt_called_dict (F.kt_typeCall_dict_1 _) F.entry_dict_init (OB _ ⟨rfl,rfl⟩) ?_;rintro p k ⟨rfl,rfl⟩;@c:(s.heap.push _).DictOf knd s¢ []:=Heap.DictOf.new s.heap;@g:(s.heap.push { cls:=.type "dict",data:=.dict #[] }).get? t=PN o:=aAb _ L;@q:t < s¢:=aAd L;!⟨c.typeIs,F.args_dict_init_2 _ _,?_⟩;unfold Builtin.«dict.__init__»;!KE ?_;PL Builtin.Dict.selfAndRest;!KE (NH c.typeIs ?_);!Lg ?_;show Lm _ _ (Builtin.Dict.updateFrom "dict.__init__" s¢ (.ref t) [] .none) _ _ _;PL Builtin.Dict.updateFrom;!KE (L8 (T:= "tuple") ⟨_,g,v⟩ ?_);rw[Lj (by decide)];!KE (fA g v d O (by first | ~x | simpa using x) λS V e N=>?_);rw[Lj (by rfl)];!KE (MM ?_);@f:=λb o z=>N.keeps b o z;!KE (M6 (⟨o,f t o g,v,n,d⟩) ?_);@j:s¢ < S.objs.size:=by
  &y,I,J,l,_:=c;~aAd (f _ _ l)
 @m:=λb o z=>f b o (aAb _ z);!Lg ⟨LX F.plain_dict_update_loop _,?_⟩;!d6 (knd:=knd) (t:=t) (items:=items) (kvs:=kvs) (by first | ~x | simpa using x) (aAs q) (aAs (aBl q j)) (aAs j) (λi a z=>?_) hsz kvs° 0 _ [] or (aAM _) (aAo _)
  ⟨o,aAb _ (f t o g),v,n,d⟩ (C.stay λi a y _ z=>aAb _ (m a y z)) ⟨_,aAp _ rfl,rfl,rfl⟩ ?_ λh' tk B P=>⟨rfl,?_⟩
 ·@U:i < kvs°:=by
   rw[<- C.1];~(aAW.mp z).1
  &b,W,G,⟨D,R,_⟩,_:=C.2 i _ (aAh U);rw[z]at G;@M:a=b:=by injection (Option.some.inj G)
  subst M;@:=aAd R;PM aAs this,aAs (aBl this j)
 ·&y,I,J,l,r:=c;PM y,I,J,aAb _ (f _ _ l),r
 ·!h h' tk B λb D z=>P b D (aAs (aAd z)) (aAs (aBl (aAd z) j)) (aAb _ (m b D z))
end
end PySem
namespace L2
open PySem PySem.Spec PyProof.Rows
§Pl(H:Hp)(a:Ll):Prop:=∃ o u,H a=PN (.frz o u)/\o.dict=PR
mutual
inductive IsP(K:W.Frag)(H:Hp):Dt->V->Prop
 |non:IsP K H .non .non
 |bl {b}:IsP K H (.bl b) (.bl b)
 |int {i}:IsP K H (.int i) (.int i)
 |str {z}:IsP K H (.str z) (.str z)
 |tup {l:PQ Dt}{a:Ll}{xs:PQ V}:SqT K H a xs->Pl H a->IsPs K H l xs->IsP K H (.tup l) (.ref a)
inductive IsPs(K:W.Frag)(H:Hp):PQ Dt->PQ V->Prop
 |nil:IsPs K H [] []
 |cons {d:Dt}{l:PQ Dt}{x:V}{xs:PQ V}:IsP K H d x->IsPs K H l xs->IsPs K H (d :: l) (x :: xs)
end
section
variable {K:W.Frag}{H H':Hp}
mutual
~IsP.d:∀ {d:Dt}{v:V},IsP K H d v->IsD K H d v
 |_,_,.non=>.non
 |_,_,.bl=>.bl
 |_,_,.int=>.int
 |_,_,.str=>.str
 |_,_,.tup h _ r=>.tup h (IsPs.d r)
~IsPs.d:∀ {l:PQ Dt}{xs:PQ V},IsPs K H l xs->IsDs K H l xs
 |_,_,.nil=>.nil
 |_,_,.cons h r=>.cons (IsP.d h) (IsPs.d r)
end
~Pl.same(g:Same H H')(h:Pl H a):Pl H' a:=by
 &o,u,e,d:=h;PM o,u,g _ _ e,d
mutual
~IsP.same(g:Same H H'):∀ {d:Dt}{v:V},IsP K H d v->IsP K H' d v
 |_,_,.non=>.non
 |_,_,.bl=>.bl
 |_,_,.int=>.int
 |_,_,.str=>.str
 |_,_,.tup h p r=>.tup (g.tup h) (p.same g) (IsPs.same g r)
~IsPs.same(g:Same H H'):∀ {l:PQ Dt}{xs:PQ V},IsPs K H l xs->IsPs K H' l xs
 |_,_,.nil=>.nil
 |_,_,.cons h r=>.cons (IsP.same g h) (IsPs.same g r)
end
~IsPs.length(h:IsPs K H l xs):l°=xs°:=h.d°
~IsPs.get(h:IsPs K H l xs){i:Nat}{d}(e:l[i]?=PN d):∃ x,xs[i]?=PN x/\IsP K H d x:=by
 induction l generalizing xs i with
 |nil=>simp at e
 |cons c l a =>
  #h with
  |cons h r =>
   #i with
   |zero=>simp at e;subst e;PM _,rfl,h
   |succ i=>~a r (by simpa using e)
~IsPs.append(h:IsPs K H l xs)(h':IsPs K H m ys):IsPs K H (l++m) (xs++ys):=by
 induction l generalizing xs with
 |nil=>cases h;~h'
 |cons d l a=>cases h with | cons h r=>~.cons h (a r)
~IsPs.drop:∀ {l}{xs}(n),IsPs K H l xs->IsPs K H (l.drop n) (xs.drop n)
 |_,_,0,h=>h
 |_,_,_+1,.nil=>.nil
 |_,_,n+1,.cons _ r=>IsPs.drop n r
~IsPs.take:∀ {l}{xs}(n),IsPs K H l xs->IsPs K H (l.take n) (xs.take n)
 |_,_,0,_=>.nil
 |_,_,_+1,.nil=>.nil
 |_,_,n+1,.cons h r=>.cons h (IsPs.take n r)
~IsP.unref(h:IsP K H (.tup l) v):∃ a xs,v=.ref a/\SqT K H a xs/\Pl H a/\IsPs K H l xs:=by
 #h with
 |tup h p r=>PM _,_,rfl,h,p,r
end
§plO(xs:PQ V)(us:PQ Li):HO:=.frz { cls:=.type "tuple",data:=.seq us.toArray } (.tup xs)
section
variable {X:Cx}{pins:PQ (Ll×Obj)}{σ:St}{H:Hp}{s:Lk}
~Inv.plain(I:Inv X pins σ H s)(r:Vals xs us)(z:xs°<=Ld) :
  Inv X pins σ (upd H s¢ (plO xs us)) { s with heap:=s.heap.push { cls:=.type "tuple",data:=.seq us.toArray },toks:=t' }/\H s¢=none:=
 ⟨I.laid (λb d q=>aAb _ q) (aAo _) ⟨aAp _ rfl,z,us,r,IsTup.new _ _⟩,I.hok.fresh (aAo _)⟩
~cZ(a:H p=PR)(d:IsPs X.K H l xs):Same H (upd H p (plO xs us))/\IsP X.K (upd H p (plO xs us)) (.tup l) (.ref p):=
 ⟨ay a _,.tup (.inl (.inr ⟨_,aw⟩)) ⟨_,_,aw,rfl⟩ (d.same (ay a _))⟩
variable {e:Expr}{es:PQ Expr}{t:TA}{pos:Pos}
inductive ITup(K:W.Frag)(xs:PQ V)(H1:Hp)(Q:VK):Prop
 |mk (l:PQ Dt):(IsPs K H1 l xs)->(xs°<=Ld)->(∀ v H',Same H1 H'->IsP K H' (.tup l) v->Q v H')->ITup K xs H1 Q
§Fj(K:W.Frag)(t:TA):TE:=λσ H Q=>t σ H λxs H1=>ITup K xs H1 Q
~xD(h:PA X es t):PE X (.Tuple es k pos) (Fj X.K t):=by
 intro a s f H Q I j;!wpAny_Tuple_spliced (thn (h pos a s f H _ I j) λn p ⟨m,o,e,r,l,d,z,q⟩=>⟨by rw[<- r°];~z,?_⟩);&c,i:=e.plain r z;&g,b:=cZ i d;PM .ref _,_,c,rfl,q _ _ g b
~kZ:ax X (.type "tuple") (λxs H Q=>∃ p ys l,xs=[.ref p]/\SqL X.K H p ys/\IsPs X.K H l ys/\∀ v H',Same H H'->IsP X.K H' (.tup l) v->Q v H'):=by
 intro b s y H xs x Q I r h;&p,ys,l,rfl,m,d,q:=h;&u,rfl,n:=bt r
 #n
 &i,c,f,e:=I.list m;@a:=c°;!call_tuple_list f.isList (λw j=>?_) (by simp_all);&t,o:=(I.kept (t':=s.toks) j).plain c e;&g,k:=cZ o d;PM .ref _,_,t,rfl,q _ _ g k
~xE:OpR X (L0 .Add) (λx y H Q=>∃ l m,IsP X.K H (.tup l) x/\IsP X.K H (.tup m) y/\l°+m°<=Ld/\∀ v H',Same H H'->IsP X.K H' (.tup (l++m)) v->Q v H'):=by
 intro e s U H x y v u Q I C J h;&l,m,t,r,B,q:=h;&a,A,rfl,R,W,w:=t.unref;&b,T,rfl,E,S,j:=r.unref
 #C
 #J
 &M,c,k,_:=I.tuple R;&p,d,f,_:=I.tuple E;@i:=w°;@o:=j°
 by_cases n:A=[]
 ·subst n;@N:=c.nil_iff.mpr rfl;subst N;@O:=aBg.mp (by rw[i];rfl);subst O;~HT.cat_nil k f ⟨.ref b,H,I,rfl,q _ H (Same.refl H) r⟩
 ·!HT.cat_tup k f (λz=>n (c.nil_iff.mp z)) (λz=>?_) (λz=>?_) (by rw[<- c°,<- d°,<- i,<- o];~B)
  ·@D:=d.nil_iff.mp z;subst D;@G:=aBg.mp (by rw[o];rfl);subst G;PM .ref a,H,I,rfl,q _ H (Same.refl H) (by rw[aAA];~t)
  ·&F,P:=I.plain (c.append d) (by simp_all);&g,L:=cZ P (w.append j);PM .ref _,_,F,rfl,q _ _ g L
~xF:SlR X (λx lo d H Q=>∃ l,IsP X.K H (.tup l) x/\∀ v H',Same H H'->IsP X.K H' (.tup (io l lo d)) v->Q v H'):=by
 intro z s L H x v G N lo d J Q I A o p t h;&l,u,q:=h;&a,c,rfl,B,M,y:=id u.unref
 #A
 @n:=y°;&k,r,m,w:=I.tuple B;@b:k.toArray.size=c°:=by ~r°.symm
 !⟨_,_,PyProof.Rows.slot_tuple_getitem.lookup,m.typeIs,?_⟩
 by_cases j:HT.sIx c° 0 lo=0/\HT.sIx c° c° d=c°
 ·!HT.getItem_tuple_all m o p t (by simp_all) (by simp_all) ⟨.ref a,H,I,rfl,q _ H (Same.refl H) ?_⟩;@e:io l lo d=l:=by
   PL io;rw[n,j.1,j.2,List.drop_zero,Nat.sub_zero,<- n,aB3]
  rw[e];~u
 ·!HT.getItem_tuple_cut m o p t (by rw[b];~j) ?_ (by rw[b];~w);rw[b];&D,C:=I.plain ((r.drop _).take _) (aAq (e5 c lo d) w);@E:IsPs X.K H (io l lo d) (mL c lo d):=by
   PL io mL;rw[n];~(y.drop _).take _
  &g,F:=cZ C E;PM .ref _,_,D,rfl,q _ _ g F
~xG:IxR X (λx y H Q=>∃ l i d,IsP X.K H (.tup l) x/\y=.int i/\atI l i=PN d/\∀ v,IsP X.K H d v->Q v H):=by
 intro c b f s G H x y v u Q I r t h D;&l,i,d,A,rfl,e,q:=h;&a,o,rfl,C,L,n:=id A.unref;&j,B,F,_:=fK e;&g,p,w:=n.get F;@k:atI o i=PN g:=by
  unfold atI at e ⊢;rw[<- n°]
  #z:ixN _ i with
  |none=>rw[z]at e;#e
  |some J =>
   @E:=e;@m:=jx z;rw[B]at m;@:=Option.some.inj m.1;subst this;~p
 ~sG c b f s G H _ _ v u Q I r t ⟨a,o,i,g,rfl,rfl,C,k,q g w⟩ D
~xH:OpR X (L0 .Mult) (rI IntMulOk λi j=>.int (i*j)):=opI λ_ _ _ _ _ _ _ a q=>mul_int q a
end
§bo(fs:PQ (Str×Dt))(z:Str):PY Dt:=(fs.find? λp=>decide (p.1=z)).map (·.2)
¶prD(p:Str×Dt):Dt:=.tup [.str p.1,p.2]
section
variable {X:Cx}{pins:PQ (Ll×Obj)}{σ:St}{H:Hp}{s:Lk}
~sY(I:Inv X pins σ H s):∀ {fs:PQ (Str×Dt)}{xs:PQ V}{its:PQ Li},IsPs X.K H (fs.map prD) xs->Vals xs its ->
  ∃ (kvs:PQ (Key×V)) (vs:PQ (Key×Li)),KV kvs vs/\kvs.map (·.1)=fs.map (λp=>Sum.inr p.1)/\kvs°=fs° /\
   (∀ z,(bo fs z=PR->aY kvs (Sum.inr z:Key)=PR)/\∀ d,bo fs z=PN d->∃ v,aY kvs (Sum.inr z:Key)=PN v/\IsP X.K H d v) /\
   its°=vs°/\∀ (i:Nat) (b),vs[i]?=PN b->∃ (a:Ll) (e:Li),its[i]?=PN (.ref a)/\s.heap.IsTuple a #[e,b.2]/\(aq X.prog X.w).is b.1 e=true:=by
 intro fs
 induction fs with
 |nil =>
  intro xs its h r
  #h
  #r
  ~⟨[],[],.nil,rfl,rfl,λz=>⟨λ_=>rfl,λd q=>by #q⟩,rfl,λi b q=>by simp at q⟩
 |cons f fs F =>
  intro xs its h r
  #h with
  |cons x N =>
   #r with
   |cons E o =>
    &kvs,vs,y,M,O,C,G,L:=F N o;&a,ys,rfl,t,pa,g:=x.unref
    #E
    &m,c,J,_:=I.tuple t
    #g with
    |cons w g =>
     #g with
     |@cons _ _ v _ d2 g =>
      #g
      #w
      #c with
      |cons D c =>
       #c with
       |@cons _ u _ _ A c =>
        #c
        &B,rfl:=D;!⟨(Sum.inr f.1,v) :: kvs,(Sum.inr f.1,u) :: vs,.cons ⟨rfl,A⟩ y,by simp[M],by simp[O],λz=>?_,by simp[G],λi b q=>?_⟩
        ·by_cases j:f.1=z
         ·subst j;@k:bo (f :: fs) f.1=PN f.2:=by simp[bo]
          @l:aY ((Sum.inr f.1,v) :: kvs) (Sum.inr f.1:Key)=PN v:=by simp[aY]
          PM λq=>(by rw[k]at q;#q),λd q=>(by simp_all)
         ·@k:bo (f :: fs) z=bo fs z:=by simp[bo,j]
          @l:aY ((Sum.inr f.1,v) :: kvs) (Sum.inr z:Key)=aY kvs (Sum.inr z:Key):=by simp[aY,j]
          rw[k,l];~C z
        ·#i with
         |zero =>
          simp at q;subst q;PM a,_,rfl,J,fb ⟨B,rfl⟩
         |succ i=>~L i b (by simpa using q)
end
end L2
namespace PySem
open Sem (wp)
open Builtin
end PySem
namespace L2
open PySem PySem.Spec PyProof.Rows
section
variable {X:Cx}
§Cc(lo c:Int)(n:Nat):It:=⟨λi _=>i < n,λi H x H'=>H'=H/\x=.int (lo+i*c),λi _=>n<=i⟩
~la{K}(a)(lo c)(n):Turn P w K tg (Cc lo c n) [a] a (λi h=>IsRangeIter h a (lo+(i)*c) ((n) - (i)) c) where
 mem:=by simp
 obj:=λi h st b d=>by simp_all
 keep:=λi h z st k=>k a (by simp) _ st
 item:=by
  intro X A y B u i f s F H E I j st p;subst A y B;&l,q,J,r,x,m:=j a (by simp);!(Walks.range (prog:=X.prog) (w:=X.w) (I.ok.hd u) a lo c n).item i s _ _ p st λv z L G g C=>?_;&t,rfl:=G;PM _,rfl,kF g rfl rfl (by decide) ⟨.int _,H,(I.turned (λb o d e=>C b o (by simpa using d) e) l q r x m),⟨t,rfl⟩,⟨rfl,rfl⟩,g,λb d=>(j b d).1⟩
 done:=by
  intro X A y B u i f s F H E I j st p;&l,q,J,r,x,m:=j a (by simp);~Nq (I.ok.hd u) st (by @:n<=i:=p;on) λz D=>⟨rfl,I.turned (λb o d e=>D b o d e) l q r x m⟩
 self:=λ_ _ _ _ _ st h=>Nr st h
§rngN(a b c:Int):Nat:=(Builtin.Range.rangeSize a b c).toNat
~xI(e:0 < c):(rngN a b c)<=if a < b then b - a else 0:=by
 PL rngN Builtin.Range.rangeSize;rw[Lj (e)]
 by_cases d:a < b
 ·@f:(b - a - 1) / c<=b - a - 1:=Int.ediv_le_self _ or;on
 ·rw[Ln d,Ln d];simp
variable {tg:Expr}
§Fk(ta:TA):TI:=λσ H R=>ta σ H λvs H1=>∃ i j c:Int,vs=[.int i,.int j,.int c]/\(0<=i/\i < 2 ^ 62/\0<=j/\j < 2 ^ 62/\0 < c/\c < 1073741824)/\R (Cc i c (rngN i j c)) H1
~qK{ta:TA}{p pos:Pos}(B:Gl X "range")(L:X.mg "range" = PR)(M:PA X [a,b,c] ta)(hs:Lq [a,b,c] X.env=[(PV,L3 a X.env),(PV,L3 b X.env),(PV,L3 c X.env)]:=by rfl)(f:Lq [b,c] X.env=[(PV,L3 b X.env),(PV,L3 c X.env)]:=by rfl) :
  PI X tg (.Call (.Name "range" p) [a,b,c] [] pos) (Fk ta):=by
 intro d s x H R I h;!Call_ (b6 I B L boot_range (PyProof.Rows.callWith_type1 (thn (M pos d s x H _ I h) λP m ⟨Q,y,J,F,z⟩=>?_) (by rw[hs,f]) (by rw[f];rfl)));&i,j,c,e,⟨z,S,T,O,v,U⟩,q:=z;subst e
 #F with
 |cons r l =>
  #l with
  |cons N l =>
   #l with
   |cons u l =>
    #l
    &t,rfl:=r;&t',rfl:=N;&k,rfl:=u;@D:=xI (a:=i) (b:=j) v;@g:Builtin.Range.rangeSize i j c=((rngN i j c:Nat):Int):=rangeSize_toNat i j c;!call_range_3 or ?_ (.inl (PyProof.noPylong_small or));@G:Builtin.Range.small i j c=true:=by
     PL Builtin.Range.small Builtin.Range.rangeFitsLong;rw[g,Lj (v)];PK[aAn,aBp,L9,LO];!⟨⟨⟨⟨⟨?_,?_⟩,?_,?_⟩,?_,?_⟩,?_,?_⟩,.inr ⟨?_,?_⟩⟩ <;> on
    !Oc (IsRange.new ..) G ?_;@n:Inv X d x y { m with heap:=m.heap.push { cls:=.type "range",data:=.fields #[.int i t,.int j t',.int c k] } }:=J.kept (t':=m.toks) λb o e=>aAb _ e;!⟨_,_,_,_,y,rfl,
     n.kept (t':=m.toks) λb o e=>aAb _ e,la _ i c (rngN i j c),?_,λb C=>?_,q⟩
    ·@E:i+((0:Nat):Int)*c=i:=by simp
     @A:((rngN i j c:Nat):Int) - ((0:Nat):Int)=Builtin.Range.rangeSize i j c:=by rw[g];simp
     rw[E,A];~aAp _ rfl
    ·@e:b=(m.heap.push { cls:=.type "range",data:=.fields #[.int i t,.int j t',.int c k] }).objs.size:=by simpa using C
     subst e;~n.fpOk (aAo _) (n.hok.fresh (aAo _))
end
~Fm{st}(h:X.Ok->PS X st t):PS X st t:=λa s c H D I b=>h I.ok a s c H D I b
~dh{K}(h:∀ vs H Q E,¬ sp vs H Q E):FnOk P w K e d CX k f m j sp:=
 ⟨λvs H Q E z=>(h vs H Q E z).elim,λA b s H c l vs Q E i g n r z=>(h vs H Q E z).elim⟩
section
variable {X:Cx}
~sZ:OpR X (L0 .FloorDiv) (rI (λ_ j=>0 < j/\j < 10000000000000000000000000000000000000000000000000000000000000) λi j=>.int (i / j)):=opI λi j _ _ _ _ _ hc q=>by
 !floordiv_int or (by rw[Int.fdiv_eq_ediv_of_nonneg i or];~q) (.inl (PyProof.noPylong_of_log2 ?_));~(aCd or).mpr (aAm (show j.natAbs < 10000000000000000000000000000000000000000000000000000000000000 by on) (by decide +kernel))
inductive ICatS(K:W.Frag)(x y:V)(H:Hp)(Q:VK):Prop
 |mk (l b:Ll) (xs zs:PQ V):(x=.ref l)->(y=.ref b)->(SqL K H l xs)->(SqL K H b zs)->(xs°+zs°<=Ld)->(∀ p,H p=PR->Q (.ref p) (upd H p (.lst (xs++zs))))->ICatS K x y H Q
§Fn(K:W.Frag):R2:=λx y H Q=>ICatS K x y H Q
~xJ:OpR X (L0 .Add) (Fn X.K):=by
 intro t s P H x y v u Q I C e h;&l,b,W,S,rfl,rfl,O,A,R,q:=h
 #C
 #e
 &c,r,M,z:=I.list O;&a,o,f,T:=I.list A;&⟨B,D,m,G⟩,w,J,n,N:=M.isList;&⟨p,i,data2,g⟩,d,k,E,j:=f.isList;subst J N k j;@U:=r°;@Y:=o°;@L:c.toArray++a.toArray=(c++a).toArray:=by simp
 !Nw ⟨_,w,rfl⟩ ⟨_,d,rfl⟩ noFill_list_add seq_list_add PySem.F.slot_list_add PySem.F.entry_list_add (PySem.F.args_list_add_2 _ _) (list_addW l b _ _ n E D i G g (by simp_all)) ⟨w,d,?_⟩;rw[L];PM .ref _,_,I.lnew (r.append o) (by rw[aAi];on),rfl,q _ I.fresh
end
open PySem.NumText
§dg(m:Nat):PQ Nat:=(Nat.toDigits 10 m).map Char.toNat
~tj:∀ d:Nat,d < 10->(Nat.digitChar d).toNat=48+d:=by decide
~gu(h:m < 10):dg m=[48+m]:=by
 PL dg;rw[Nat.toDigits_of_lt_base h];show[(Nat.digitChar m).toNat]=_;rw[tj m h]
~xK(h:10<=m):dg m=dg (m / 10)++[48+m % 10]:=by
 @a:m % 10 < 10:=Nat.mod_lt m (by decide);@t:Nat.toDigits 10 (m / 10)++Nat.toDigits 10 _=Nat.toDigits 10 _:=Nat.toDigits_append_toDigits (by decide) or a;rw[Nat.div_add_mod]at t;PL dg;rw[<- t,aAH]
 congr 1
 ~gu a
~tq:∀ (k m),m < 10 ^ (k+1)->(dg m)°<=k+1
 |0,m,h=>by rw[gu (by simpa using h)];~aAo 1
 |k+1,m,h=>by
  by_cases b:m < 10
  ·rw[gu b];~aB4 (aAM _)
  ·rw[xK or,aAi,aCf];@:m / 10 < 10 ^ (k+1):=by
    ~Nat.div_lt_of_lt_mul (by rw[Nat.mul_comm];~h)
   @:=tq k _ this;on
§xL(n:Int):PQ Nat:=if n < 0 then 45 :: dg n.natAbs else dg n.natAbs
~qL(n):(Str.ofString (toString n)).cps.toList=xL n:=by
 rw[signs_ofString]
 #n with
 |ofNat m =>
  @:¬ (Int.ofNat m < 0):=by simp
  show(Nat.repr m).toList.map _=_;rw[Nat.toList_repr]
  rfl
 |negSucc m =>
  @:=Int.negSucc_lt_zero m;PL xL;rw[Lj this];show("-" ++Nat.repr _).toList.map _=_;rw[String.toList_append,aAH,Nat.toList_repr]
  rfl
section
variable {X:Cx}{pins:PQ (Ll×Obj)}{σ:St}{H:Hp}{s:Lk}{h':LE}
~Inv.turnedT{i:PQ Ll}{T:Ll}(I:Inv X pins σ H s)(k:∀ b u,b∉i->s.heap.get? b=PN u->h'.get? b=PN u)(f:∀ b∈i,dJ X pins H b)
  (t:s¢<=T) (j:ObjOk X.prog X.w (upd H T o) h' T o):Inv X pins σ (upd H T o) { s with heap:=h',toks:=t' }:=by
 @A:∀ b u,s.heap.get? b=PN u->b≠T:=λb u e z=>absurd (aAm (aAd e) (z ▸ t)) (aAN _);@g:∀ b u,H b=PN u->b≠T:=λb u e z=>absurd (aAm (I.hok.lt e) (z ▸ t)) (aAN _);@l:∀ b u,H b=PN u->b∉i:=λb u e z=>by rw[(f b z).1]at e;#e
 !I.step (λb h=>?_) (λb u _ _ d e _=>k b u d e) (λb u _ _ d e _=>⟨u.slots,k b u d e⟩) (λb u _ e n=>by rw[ao (A b u e)];~n)
  (λb u d e=>⟨u,k b u d e⟩) (λb C e=>by rw[ao (g b _ e)];~e) (λb u v e=>by rw[ao (g b _ e)];~e) (λb M e=>⟨#[],by rw[ao (g b _ e),e];simp⟩) (λm B=>?_) (λb u e=>?_) I.bare
 ·&L,w,N,D,G,y:=f b h;PM D,w,G,y
 ·&u,J,E,x,r:=B;PM u,J,E,k _ u (λz=>(f _ z).2.1 rfl) x,r
 ·by_cases h:b=T
  ·subst h;rw[aw]at e
   #e
   ~j
  ·rw[ao h]at e;!(I.hok b u e).stay (λc v d q=>k c v ?_ q) (λc q=>?_) λc C q=>by rw[ao (g c _ q)];~q
   ·rcases d with z | z
    ·rw[z];~l b u e
    ·~l c _ z
   ·rw[ao (g c _ q)];~q
~Inv.turnedL{g:PQ Ll}(I:Inv X pins σ H s)(k:∀ b u,b∉g->s.heap.get? b=PN u->h'.get? b=PN u)(f:∀ b∈g,dJ X pins H b):Inv X pins σ H { s with heap:=h',toks:=t' }:=by
 @i:∀ b u,H b=PN u->b∉g:=λb u e z=>by rw[(f b z).1]at e;#e
 !I.step (λb B=>?_) (λb u _ _ d e _=>k b u d e) (λb u _ _ d e _=>⟨u.slots,k b u d e⟩) (λ_ _ _ _ n=>n)
  (λb u d e=>⟨u,k b u d e⟩) (λ_ _ e=>e) (λ_ _ _ e=>e) (λb D e=>⟨#[],by rw[e];simp⟩) (λm j=>?_) (λb u e=>?_) I.bare
 ·&E,l,C,p,o,A:=f b B;PM p,l,o,A
 ·&u,y,t,x,r:=j;PM u,y,t,k _ u (λz=>(f _ z).2.1 rfl) x,r
 ·!(I.hok b u e).stay (λc v d q=>k c v ?_ q) (λ_ q=>q) λ_ _ q=>q;rcases d with z | z
  ·rw[z];~i b u e
  ·~i c _ z
end
§met:PQ Key->PQ Key
 |[]=>[]
 |k :: r=>if r.any (λj=>decide (j=k))then met r else k :: met r
~jJ(k):∀ l:PQ Key,(met l).any (λj=>decide (j=k))=l.any (λj=>decide (j=k))
 |[]=>rfl
 |a :: r=>by
  PL met
  split
  ·rename_i h
   rw[jJ k r,aAQ]
   by_cases e:a=k
   ·subst e;rw[h];simp
   ·simp[e]
  ·rw[aAQ,aAQ,jJ k r]
~tu:∀ l:PQ Key,(met l)°<=l°
 |[]=>aAo _
 |a :: r=>by
  PL met;@:=tu r
  split
  ·rw[aAv];on
  ·rw[aAv,aAv];on
¶fC(ks:PQ Key)(i:Nat):PQ Key:=met (ks.take i).reverse
~iQ(h:ks[i]?=PN k):fC ks (i+1)=if(fC ks i).any (λj=>decide (j=k))then fC ks i else k :: fC ks i:=by
 @e:(ks.take (i+1)).reverse=k :: (ks.take i).reverse:=by rw[List.take_add_one,h];simp
 show met _=_;rw[e];show(if(ks.take i).reverse.any _ then met _ else k :: met _)=_;rw[<- jJ k _]
~xM(ks)(i):(fC ks i)°<=i:=by
 @h:=tu (ks.take i).reverse;rw[List.length_reverse,aA1]at h;show(met _)°<=i;on
section
variable {P:Lw}{w:Lu}{A:LM}{R:OV->Lk->Prop}{it:Ll}{fp wr:PQ Ll}{G:Array NN->Array NN->Prop}{n:Nat}{Pt:Nat->Li->Prop}{St:Nat->Lk->Prop}
¶SetK(P:Lw)(w:Lu)(h:LE)(a:Ll)(l:PQ Key):Prop:=h.SetOf (aq P w) a (λk=>l.any λj=>decide (j=k)) l°
~SetK.kept(x:SetK P w h a l)(k:∀ o,h.get? a=PN o->h'.get? a=PN o):SetK P w h' a l:=by
 &o,e,d,c,b,rest:=x;PM o,e,d,c,k o b,rest
~tv{h:LE}(x:h.SetOf (aq P w) a S n)(e:∀ k,S k=S' k)(b:n=c):h.SetOf (aq P w) a S' c:=by
 #b
 #(funext e)
 ~x
~tw(W:WalksS P w A.in1 it fp wr G n Pt St)(S:Ll)(e:S∉fp)(ks:PQ Key)(hks:ks°=n)(hv:∀ i v,Pt i v->∃ k,ks[i]?=PN k/\(aq P w).is k v=PU/\v.scannable=PU)(hn:n+1 < Pi) :
  ∀ (d i:Nat) (s:Lk),n - i=d->i<=n->St i s->SetK P w s.heap S (fC ks i) ->
   (∀ s',Moved (S :: wr) G s s'->SetK P w s'.heap S (fC ks n)->R (.ok (.ret .none)) s')->MT (Lo P w) A (.builtin "set.update.loop" ⟨[.ref S,.ref it],[]⟩) R s:=by
 @nw:S∉wr:=λz=>e (W.sub _ z);@up:∀ b∈wr,b∈S :: wr:=λb z=>aAk _ z;intro d
 induction d with
 |zero =>
  intro i s e1 e2 st l hR;obtain rfl:i=n:=or
  !LA PyProof.Rows.F.entry_set_update_loop (by
   rw[Around.under_plainId PyProof.Rows.F.plain_set_update_loop _];show Lm _ A.in1 (Md (.ref it) >>= _) _ _ s;!KE (W.done s _ _ st λs' f=>?_);~Lg (hR s' (f.mono up) (l.kept λo q=>f.heap S o nw q)))
 |succ d ih =>
  intro i s e1 e2 st l hR;@lt:i < n:=or
  !LA PyProof.Rows.F.entry_set_update_loop (by
   rw[Around.under_plainId PyProof.Rows.F.plain_set_update_loop _];show Lm _ A.in1 (Md (.ref it) >>= _) _ _ s;!KE (W.item i s _ _ lt st λv s' pv st' f=>?_);&k,ek,kv,sc:=hv i v pv;show Lm _ A.in1 (Nb [v] (PJ S v) >>= _) _ _ s';!KE (Lr (by
    PL PJ;!Lr (KE ((aq P w).pyHash kv ?_));!wpAny_setAddHashed_of (knd:=aq P w) (s:={ s' with toks:=s'.toks+1 }) kv sc (l.kept (h':=s'.heap) λo q=>f.heap S o nw q) (by @:=xM ks i;on) λh2 sb hS2=>?_;@h:SetK P w h2 S (fC ks (i+1)):=by
     !tv hS2 (λj=>?_) ?_
     ·rw[iQ ek]
      split
      ·rename_i c
       by_cases z:j=k
       ·subst z;rw[c];simp
       ·simp[z]
      ·rw[aAQ,Bool.or_comm]
       congr 1
       ~decide_eq_decide.mpr eq_comm
     ·rw[iQ ek]
      split <;> rfl
    !Lg ⟨LX PyProof.Rows.F.plain_set_update_loop _,ih (i+1) _ or lt (W.frame _ s' _ _ st' (aBj _) λb hb o q=>?_) h λs3 mv3 m=>?_⟩
    ·rw[sb.2 b (λz:b=S=>e (by rw[<- z];~hb))];~q
    ·!hR s3 (Moved.trans W.gtrans ((f.mono up).then_heap (aBj _) λb o hb q=>?_) mv3) m;rw[sb.2 b (λz:b=S=>hb (by rw[z];~aAe))];~q)))
~ip:LD (.type "tuple") (.type "set")=pure false:=b7 _ _
~dt:LD (.type "tuple") (.type "frozenset")=pure false:=b7 _ _
end
section
variable {P:Lw}{w:Lu}{A:LM}{E:Li->Lk->Prop}{s:Lk}
§cB(b:Bool):Obj:={ cls:=.type "set",dict:=PR,data:=.set #[] 0 (.fresh 0 0 b) }
set_option maxHeartbeats 3200000 in
~jK{t:Ll}{its:Array Li}{ks:PQ Key}{Q:Li->Lk->Prop}(hh:A.handled=PR)(ht:s.heap.IsTuple t its)(hl:ks°=its.size)(hv:∀ (i:Nat) v,its[i]?=PN v->∃ k,ks[i]?=PN k/\(aq P w).is k v=PU/\v.scannable=PU)
  (hn:its.size+1 < Pi) (h:∀ (h':LE) (tk:Nat),SetK P w h' s¢ (fC ks its.size)->(∀ b o,s.heap.get? b=PN o->h'.get? b=PN o)->Q (.ref s¢) { s with heap:=h',toks:=tk }) :
  Lm (Lo P w) A (call (.type "set") [.ref t]) Q E s:=by
 &c0,tl,hmro:=PySem.F.called_set.mro;@k1:=PySem.F.called_set.made;@k2:=PySem.F.called_set.sub;!Nu (NF (by
  show Lm _ _ (callAny (.type "set") _) _ _ _;!Lg ⟨Code.quiet_builtin _ (by decide +kernel),LA PySem.F.entry_type_call ?_⟩;rw[Around.under_plain (NI "set" [.ref t] []) rfl];@k3:=PySem.F.called_set.notType;@k4:=PySem.F.called_set.canCreate;@k5:=PySem.F.typeCall_set_1 (.ref t)
  repeat (any_goals (first | assumption | wp_step))
  !L6 (code_set_new_1 (.ref t) (E:=E) (Q₁:=λob s1=>∃ b:Bool,ob=.ref s¢/\s1={ s with heap:=s.heap.push (cB b) }) λb=>⟨b,rfl,rfl⟩) λr s1 hr=>?_
  #r with
  |error e=>~hr
  |ok fl =>
   #fl with
   |ret ob =>
    &b,rfl,rfl:=hr;@g1:(s.heap.push (cB b)).get? s¢=PN (cB b):=aAp _ rfl;@tS:Shared.TypeIs { s with heap:=s.heap.push (cB b) } (.ref s¢) "set" :=⟨_,g1,rfl⟩;@k6:=PySem.F.called_set.init.lookup;@k7:=PySem.F.called_set.init.bind (.ref s¢)
    repeat (any_goals (first | assumption | wp_step))
    !L6 (NS (R:=wants (λr s2=>r=.none/\∃ h' tk,s2={ s with heap:=h',toks:=tk }/\SetK P w h' s¢ (fC ks its.size)/\(∀ b o,s.heap.get? b=PN o->h'.get? b=PN o)) E)
     PySem.F.called_set.init.plain PySem.F.entry_set_init (OC tS ?_)) λr2 s2 hr2=>?_
    ·&⟨oc,od,oa,osl⟩,ho,hcl,nl,hdt:=id ht;simp only at hcl hdt;subst hcl hdt;@ht1:(s.heap.push (cB b)).IsTuple t its:=⟨_,aAb _ ho,rfl,nl,rfl⟩;@ho1:(s.heap.push (cB b)).get? t=PN { cls:=.type "tuple",dict:=od,data:=.seq its nl,slots:=osl }:=aAb _ ho;@k8:=ip;@k9:=dt;@ka:(Value.type "tuple" == Value.type "dict")=false:=by decide
     unfold Builtin.«set.__init__» noKeywords Builtin.Frozenset.updateFrom;generalize hPI:OR=PI
     wp_walk
     subst hPI;!M6 ht1 ?_;!KE (MU ?_);@lt:s¢ > t:=aAd ho;@hh3:A.in1.in1.in1.handled=none:=by simp[hh]
     @sz:(s.heap.push (cB b)).objs.size=s¢+1:=aAK ..;@ne1:t≠(s.heap.push (cB b)).objs.size:=by rw[sz];~aAs (aAX lt)
     @nS:s¢∉[(s.heap.push (cB b)).objs.size,t]:=by
      rw[sz];intro z;rcases aAl.mp z with z | z
      ·~absurd z (aAs (aBh _))
      ·~absurd (aAy.mp z) (aAx lt)
     !tw ((Walks.tuple hh3 _ t ne1 its).toS) s¢ nS ks hl hv hn (its.size - 0) 0 _ rfl (aAM _) ⟨⟨_,aAp _ rfl,rfl,rfl⟩,ht1.push _⟩ ?_ ?_
     ·~⟨_,#[],0,_,aAb _ g1,⟨rfl,rfl,rfl⟩,rfl,(λe he=>by simp at he),(λk=>⟨λz=>Bool.noConfusion (show PV=PU from z),fun⟨e,he,_⟩=>(aAu he).elim⟩),by decide,rfl,rfl⟩
     ·intro s3 mv hS3;&h3,g3,d3,t3,o3:=s3
      #(mv.gens:g3=s.gens)
      #(mv.drawn:d3=s.drawn)
      #(mv.os:o3=s.os)
      !Lg (Lg ⟨rfl,h3,t3,rfl,hS3,λc o q=>?_⟩);@lc:s¢ > c:=aAd q;!mv.heap c o ?_ (aAb _ (aAb _ q));intro z;rcases aAl.mp z with z | z
      ·~absurd z (aAs lc)
      ·~absurd ((aAy.mp z).trans sz) (aAs (aAX lc))
    ·#r2 with
     |error e=>~hr2
     |ok fl2 =>
      #fl2 with
      |ret r =>
       &rfl,h',tk,rfl,q1,q2:=hr2
       repeat (any_goals (first | assumption | wp_step))
       ~h _ _ q1 q2
      |_=>~hr2.elim
   |_=>~hr.elim))
end
§Fp(P:Lw)(w:Lu)(p:Ll)(n:Nat):HO:=.ext λh=>∃ l,SetK P w h p l/\l°=n
section
variable {X:Cx}
~xN(r:RelV (kV k) u):u.scannable=true:=by
 #k with
 |inl i=>&t,rfl:=r;rfl
 |inr z=>&t,rfl:=r;rfl
~qM(A:X.calm=PU):ax X (.type "set") (λxs H Q=>∃ a ks,xs=[.ref a]/\SqT X.K H a (ks.map kV)/\ks°<=1000/\∀ p,H p=PR->Q (.ref p) (upd H p (Fp X.prog X.w p (fC ks ks°)°))):=by
 intro x s M H xs P Q I r h;&a,ks,rfl,D,n,q:=h;&u,rfl,E:=bt r
 #E
 &b,g,C,L:=I.tuple D;@f:=g°;rw[aAa]at f;@j:b.toArray.size=ks°:=by rw[aAB,f]
 !jK (I.ok.hd A) (C) j.symm (λi v e=>?_) (by PL Pi;on) λG F d z=>?_
 ·@y:b[i]?=PN v:=by simpa using e
  @w:i < ks°:=by rw[f];~(aAg.mp y).1
  &N,m,t:=g.get (by rw[aAE,aAh w];rfl);rw[y]at m
  #m
  PM _,aAh w,fb t,xN t
 ·rw[j]at d;!⟨.ref _,_,I.laid z (aAo _) ?_,rfl,q _ (I.hok.fresh (aAo _))⟩;&o,_,_,_,B,_:=id d;PM⟨_,d,rfl⟩,⟨o,B⟩,λJ O ⟨l,n,e⟩ k=>⟨l,n.kept k,e⟩
~qN:ax X (.builtin "len") (λxs H Q=>∃ p n,xs=[.ref p]/\H p=PN (Fp X.prog X.w p n)/\Q (.int n) H):=by
 intro b s z H xs y Q I r h;&p,n,rfl,e,q:=h;&u,rfl,t:=bt r
 #t
 &⟨l,g,k⟩,_,_:=I.hok p _ e;&o,v,x,w,i,a,j,_,_,c,m,f:=g;@d:v.size < 4096:=c;~call_len_set i a j m or ⟨.int n,H,I.tok _,⟨_,by rw[(f.trans k)]⟩,q⟩
end
section
variable {X:Cx}
~tz{U D l:Expr}{Y:PQ Expr}{f:Scope}{pos spos py:Pos}{NL N':PQ Str}{ρ:PQ Nat}{wi:TI}{g:TG}{tb:PQ V->Ll->St->Hp->(PQ V->St->Hp->Prop)->Prop}{body:Li->Env->Sem Unit}{j:Nat}{y:Str}
  (hN:X.N.Nodup) (hj:X.N[j]?=PN y) (hy:Loc X.env.scope y) (hfn:X.fn y=PU\/X.env.scope.names.lookup y=PN .local)
  (hsw:Mw (.ListComp U [⟨D,l,Y,0⟩] f pos) (PN (.Name y py)) spos.line X.env=pure PU)
  (hc:X.calm=PU) (S:CScope X f NL ρ N') (hi:PI X D l wi)
  (hg:∀ C M L G,PG (ccx X f C N' M L G) D g) (F:∀ C M L G,PB (ccx X f C N' M L G) (λP=>body P (ccx X f C N' M L G).env) tb)
  (he:∀ (it P:Li) (env:Env),NO (.ListComp U [⟨D,l,Y,0⟩] f pos) 0 it P env=(Na l.pos >>= λ_=>Md it >>= λr=>match r with
   |none=>pure (.done .next)
   |some v=>Ma D it v >>= λ_=>MR D env v >>= λ_=>body P env >>= λ_=>NE (.compLoop (.ListComp U [⟨D,l,Y,0⟩] f pos) 0 it P env)))
  (hs:∀ x,Ml l X.env x=pure x:=by intro _;rfl):PS X (.Assign [.Name y py] (.ListComp U [⟨D,l,Y,0⟩] f pos) spos) (si (AB NL.length ρ wi g tb) (iC j)):=by
 intro B s σ H D0 I h;rw[exec_Assign_Name_used _ _ _ _ hsw];!KE (Mm (KE ?_));rw[arm_evalThenUse_ListComp];!KE (thn (Q:=λ_ Z=>SP X B D0 .next Z) ?_ λ_ Z q0=>Lg (Lg q0));!Ng (use:=PN (MR (.Name y py) X.env)) (Q:=λ_ Z=>SP X B D0 .next Z) rfl hs (gi (λx hx hk=>I.ok.has x.1 (S.frees x hx hk))) S.kind S.locs ?_;!thn (hi B s σ H _ I h) λv s1 h1=>thn h1 λitv t h2=>?_;&it,G,tn,J,H2,e,I2,T,st2,f2,w:=h2;subst e;!LW (NQ S.nocell (by intro y hy;simp at hy) (λR E A=>?_) S.kind);dsimp only at E A ⊢;generalize hH2:t.heap.push { cls:=.type "list",dict:=PR,data:=.seq ([]:PQ Li).toArray }=k at E A ⊢;@hCs:k.objs.size=t¢+1:=by rw[<- hH2,aAK]
 @hDC:t¢≠k.objs.size:=by rw[hCs];~aAs (aBh _)
 @hC:t¢<=k.objs.size:=by rw[hCs];~aBj _
 @old:∀ b o,t.heap.get? b=PN o->R.get? b=PN o:=λb o e=>A.extBut b o (aAs (aAm (aAd e) hC)) (aAb _ (hH2 ▸ aAb _ e));@hfo:∀ b∈G,∃ o,t.heap.get? b=PN o:=λb F=>let ⟨o,e,_⟩:=T.obj _ _ st2 b F;⟨o,e⟩;@I4:Inv (ccx X f k.objs.size N' t H2 G) (X.pn++B) (cst NL.length ρ σ) (upd H2 t¢ (.lst [])) { t with heap:=R,toks:=t.toks+([]:PQ (Str×Li))° }:=
  Inv.comp S I2 f2 hfo hC (aAo _) hDC old (A.extBut _ _ hDC (aAb _ (hH2 ▸ aAp _ rfl))) (by simpa using E)
 @nfp:t¢∉G:=λz=>by
  &o,e:=hfo _ z;~absurd (aAd e) (aAN _)
 &W,⟨m0,w0⟩,turn:=w t¢ (I2.hok.fresh (aAo _));@O:∀ {H':Hp},(∀ b∈G,H' b=PR)->∀ b∈G,dJ (ccx X f k.objs.size N' t H2 G) (X.pn++B) H' b:=fun{H'} hn b F=>by
  &f0,f1,f2',f3,f4,f5:=f2 b F;@ok:=I4.ok;!⟨hn b F,(ok.exf b F).1,ok.exfs b F,.inl F,(ok.exf b F).2,λp hp=>f5 p hp⟩
 @loop:∀ N:Lk,N={ t with heap:=R,toks:=t.toks+([]:PQ (Str×Li))° } ->
   MT (Lo X.prog X.w) X.A (.compLoop (.ListComp U [⟨D,l,Y,0⟩] f pos) 0 (.ref it) (.ref t¢) (Pr f (cW X.env f.names []) k.objs.size X.env))
    (compPost (Lo X.prog X.w) X.A X.xe (PN (MR (.Name y py) X.env)) (λ_ Z=>SP X B D0 .next Z) (.ref t¢) k.objs.size) N:=by
  rintro N rfl;!codeAny_loop rfl (λn Z=>∃ i ys σ' H',Inv (ccx X f k.objs.size N' t H2 G) (X.pn++B) σ' H' Z/\tn i Z.heap/\(∀ b∈G,H' b=PR)/\W i n ys σ' H') (λn s3 hI=>?_) m0
   ⟨0,[],_,_,I4,T.keep _ _ _ st2 (λb _ o e=>old b o e),λb F=>?_,w0⟩
  ·&i,ys,σ3,H3,I3,st3,fr3,w3:=hI;!wpAny_noted ?_;rw[he];!KE (Mm (KE ?_));rcases turn i n ys σ3 H3 w3 with⟨stop,qn⟩ | ⟨go,step⟩
   ·!thn (T.done (ccx X f k.objs.size N' t H2 G) rfl rfl rfl hc i _ s3 σ3 H3 _ I3 (O fr3) st3 stop) λr s4 ⟨hr,I5⟩=>?_;subst hr;!Lg ?_;&m,hm,_:=id I5.loc;@cne:∀ x c,X.env.cells.lookup x=PN c->c≠k.objs.size:=λx c ec z=>by
     &v0,oc,hoc,_:=I2.cell x c ec;~absurd (aAm (aAd hoc) hC) (by rw[z];~aAN _)
    @lne:k.objs.size≠X.env.locals:=aAx (aAm I2.lt hC);!Om (iB (Inv.compEnd I2 f2 hC I5 (Heap.SameBut.refl _ _)) hN hj hy (v:=.ref t¢) rfl (λs5 I6 ⟨a,sb,ha⟩=>?_) hfn);@na:k.objs.size≠a:=λz=>by
     rcases ha with e | e
     ·~lne (z.trans e)
     ·~cne _ _ e z.symm
    !⟨m,hm.at' λo e=>(sb.2 _ na).trans e,λh' hs'=>⟨_,H3,?_,qn⟩⟩;~I6.turned (t':=s5.toks) (λb o hb' e=>(hs'.2 b hb').trans e) I5.free lne (.inr (aAq I2.sz hC)) cne λq hq z=>by
     &e,_:=I2.pin q hq;~absurd (aAm (aAd e) hC) (by rw[z];~aAN _)
   ·!thn (T.item (ccx X f k.objs.size N' t H2 G) rfl rfl rfl hc i _ s3 σ3 H3 _ I3 (O fr3) st3 go) λr s4 ⟨u,hr,h4⟩=>?_;subst hr;!KE (thn h4 λ_ s5 ⟨x,H5,I5,r5,y5,st5,fr5⟩=>?_);!KE (LG (hg k.objs.size t H2 G _ s5 σ3 H5 x u _ (I5.pinned (O fr5) (T.obj _ _ st5)) r5 (step x H5 y5)) (λ_ s6 ⟨σ6,H6,I6,q6⟩=>?_) λ_ _ z=>z.elim);!KE (LG (F k.objs.size t H2 G _ s6 σ6 H6 t¢ ys _ I6 q6) (λ_ s7 ⟨ys7,σ7,H7,I7,m',hm,w7⟩=>?_) λ_ _ z=>z.elim);!Lg ⟨rfl,m',hm,i+1,ys7,σ7,H7,I7.unpinned,T.keep _ _ _ st5 λb F o e=>(I7.pin (b,o) (aAF _ (aAF _ (bG F e)))).1,λb F=>?_,w7⟩;&o,e,d:=T.obj _ _ st5 b F;~(I7.pin (b,o) (aAF _ (aAF _ (bG F e)))).2.1
  ·rw[ao (show b≠t¢ from λz=>nfp (by rw[<- z];~F))];~(f2 b F).1
 !Nz (loop _ rfl) (T.self _ 0 _ _ _ ?_ (loop _ rfl));~T.keep _ _ _ st2 λb _ o e=>old b o e
end
section
variable {X:Cx}
~iR:∀ {ss}{us},Vals (ss.map V.str) us->N0 us ss
 |[],us,h=>by #h;~.nil
 |z :: ss,us,h=>by
  #h with
  |cons r a =>
   &t,rfl:=r;~.cons z t (iR a)
~di:∀ {ss}{us},N0 us ss->Vals (ss.map V.str) us
 |_,_,.nil=>.nil
 |_,_,.cons z t r=>.cons ⟨t,rfl⟩ (di r)
~mZ:ax X (.builtin "sorted") (λxs H Q=>∃ (p:Ll) (ss:PQ Str),xs=[.ref p]/\SqL X.K H p (ss.map V.str)/\ss° < 64/\∀ a d,H a=PR->d.Perm ss->ON d=PU->Q (.ref a) (upd H a (.lst (d.map V.str)))):=by
 intro j s A H xs z Q I r h;&p,ss,rfl,k,m,q:=h;&u,rfl,y:=bt r
 #y
 &f,g,v,B:=I.list k;@t:=g°;rw[aAa]at t;!sorted_strs v.isList (iR g) or λc d l i x=>?_;&e,w:=sortedAll_at _ f c;!⟨.ref _,_,I.laid (λb o=>sortedAll_old) (aBj _) ?_,rfl,q _ _ (I.hok.fresh (aBj _)) i x⟩;@n:M9 "list" c e=M9 "list" c.toList.toArray e:=by rw[aBC]
 !⟨?_,c.toList,e,di l,?_⟩
 ·rw[aAa,i.length_eq];~aAU (aBl m (by decide))
 ·rw[w,n]
end
section
variable {prog:Lw}{w:Lu}{A:LM}{E:Li->Lk->Prop}{s:Lk}
~bU(d:LH s.heap b t k)(h:Mk s.heap t its)(e:its[k]?=PN v)
  (q:∀ h',LH h' b t (k+1)->Heap.SameBut b s.heap h'->Q v { s with heap:=h' }):Lm (Lo prog w) A (Builtin.SmallTypes.nextOf (.ref b)) Q E s:=by
 &l,c,i,a:=id d;&j,g,_,m,f:=h;!KE (LI d.typeIs MG (LV MG d.typeIs NU ?_ (N3 _)));!show Lm _ _ (Ou _ 0 >>= _) _ _ s from KE (Ly c a rfl ?_);!KE (Ly c a rfl ?_);!KE (LJ g f ?_);PK[e,aBy];!KE (MC c a (by simp) (Lg ⟨v,rfl,Lg (q _ ⟨_,aAI _ c (Obj.isFreed_of_fields (Obj.data_mapFields a _)),(Obj.cls_mapFields ..).trans i,?_⟩ (Heap.SameBut.update ..))⟩));rw[Obj.data_mapFields a];simp[LY]
~eO(j:A.handled=PR)(d:LH s.heap b t k)(l:Mk s.heap t its)(h:its[k]?=PR)
  (q:∀ h' e,Heap.ExtBut b s.heap h'->(∃ o,h'.get? e=PN o/\o.cls=.type "StopIteration")->E (.ref e) { s with heap:=h' }):Lm (Lo prog w) A (Builtin.SmallTypes.nextOf (.ref b)) Q E s:=by
 &u,c,r,f:=id d;&n,i,_,p,m:=l;!KE (LI d.typeIs MG (LV MG d.typeIs NU ?_ (N3 _)));!show Lm _ _ (Ou _ 0 >>= _) _ _ s from KE (Ly c f rfl ?_);!KE (Ly c f rfl ?_);!KE (LJ i m ?_);PK[h,aBy];!KE (MM (KE (MC c f (by simp) ?_)));!KE ?_;!KE (LW (KE (wpAny_of_eq (rfl) (LW ?_ (by size_fits)))) (by size_fits));!KE (Pa ?_);rw[j];~KE (Lg (wpAny_throw (q _ _ (((Heap.SameBut.update ..).extBut.push _).push _) ⟨_,aAp _ rfl,rfl⟩)))
§Cd(t:Bool):String:=if t then "tuple_iterator" else "list_iterator"
§Je(t:Bool):String:=if t then "tuple" else "list"
§ItXe(t:Bool)(h:LE)(a l:Ll)(i:Nat):Prop:=∃ o,h.get? a=PN o/\o.cls=.type (Cd t)/\o.data=.fields #[.ref l,.int i 0]
§TsXe(t:Bool)(h:LE)(a:Ll)(items:Array Li):Prop:=∃ o,h.get? a=PN o/\o.cls=.type (Je t)/\∃ n,o.data=.seq items n
~ItXe.extBut(x:ItXe t h a l i)(hs:Heap.ExtBut b h h')(c:a≠b):ItXe t h' a l i:=let ⟨o,d,r⟩:=x;⟨o,hs a o c d,r⟩
~TsXe.extBut(x:TsXe t h a items)(hs:Heap.ExtBut b h h')(c:a≠b):TsXe t h' a items:=let ⟨o,d,r⟩:=x;⟨o,hs a o c d,r⟩
~c3(a:ItXe t' s.heap b t k)(d:TsXe t' s.heap t its)(c:its[k]?=PN v)
  (q:∀ h',ItXe t' h' b t (k+1)->Heap.SameBut b s.heap h'->Q v { s with heap:=h' }):Lm (Lo prog w) A (Builtin.SmallTypes.nextOf (.ref b)) Q E s:=by
 #t'
 ·~wpAny_nextOf_list_item a d c q
 ·~bU a d c q
~gw(c:A.handled=PR)(a:ItXe t' s.heap b t k)(f:TsXe t' s.heap t its)(d:its[k]?=PR)
  (q:∀ h' e,Heap.ExtBut b s.heap h'->(∃ o,h'.get? e=PN o/\o.cls=.type "StopIteration")->E (.ref e) { s with heap:=h' }):Lm (Lo prog w) A (Builtin.SmallTypes.nextOf (.ref b)) Q E s:=by
 #t'
 ·~wpAny_nextOf_list_end c a f d q
 ·~eO c a f d q
~gx{ta tb:Bool}{z i f u v l m:Ll}{k:Nat}{xs ys:Array Li}{x y a b:Li}{Q:PY Li->Lk->Prop}(D:Mu z i f u v l m)(Z:MY s.heap z i f .none)(I0:LQ s.heap i (.ref u) (.ref v))(I1:LQ s.heap f a b)
  (wu:ItXe ta s.heap u l k) (wv:ItXe tb s.heap v m k) (tl:TsXe ta s.heap l xs) (tm:TsXe tb s.heap m ys) (ex:xs[k]?=PN x) (ey:ys[k]?=PN y)
  (q:∀ h',MY h' z i f (LY s¢)->LQ h' f x y->ItXe ta h' u l (k+1)->ItXe tb h' v m (k+1)->LQ h' s¢ x y->h'.objs.size=s¢+1 ->
   (∀ c o,c≠z->c≠f->c≠u->c≠v->s.heap.get? c=PN o->h'.get? c=PN o)->Q (PN (.ref s¢)) { s with heap:=h' }):Lm (Lo prog w) A (Md (.ref z)) Q E s:=by
 @Y:s.TypeIs (.ref z) "zip" :=⟨_,Z,rfl⟩;PL Md;!KE (Ni (LI (name:=Str.ofString "__next__") Y F.slot_zip_next (LV F.slot_zip_next Y F.entry_zip_next ?_ (F.args_zip_next_1 _))));!show Lm _ _ (Ou (.ref z) 2 >>= _) _ _ _ from KE (Ly Z rfl (x:=.bool PV) rfl ?_);!show Lm _ _ (Ou (.ref z) 3 >>= _) _ _ _ from KE (Ly Z rfl (x:=.ref i) rfl (KE (LJ I0 rfl ?_)));!show Lm _ _ (Builtin.SmallTypes.ownedTupleIsFree (.ref z) >>= _) _ _ _ from KE ?_;PL Builtin.SmallTypes.ownedTupleIsFree;!KE (Ly Z rfl (x:=.none) rfl (Lg ?_));rw[Lj rfl];!KE (MM (KE (Ly Z rfl (x:=.ref f) rfl (KE (LZ Z (by simp) λha S p=>?_)))));replace S:MY ha z i f .ellipsis:=S;!KE ?_;PK[List.zipIdx_cons,aBe,List.zipIdx_nil,aBB];!KE (KE (Nj ?_));!show Lm _ _ (Builtin.SmallTypes.nextOf (.ref u) >>= _) _ _ _ from KE (c3 (wu.extBut p.extBut D.i1z) (tl.extBut p.extBut D.l1z) ex λhb wb t=>Lg ?_);@Ib:LQ hb f a b:=t.extBut _ _ D.TOi1 (p.extBut _ _ D.TOz I1);!KE (LJ Ib rfl (KE (M3 Ib λhc U B=>KE (OI (Lg ?_)))));replace U:LQ hc f x b:=U;!KE (KE (Nj ?_));!show Lm _ _ (Builtin.SmallTypes.nextOf (.ref v) >>= _) _ _ _ from KE (c3 (((wv.extBut p.extBut D.i2z).extBut t.extBut D.i12.symm).extBut B.extBut D.TOi2.symm) (((tm.extBut p.extBut D.l2z).extBut t.extBut D.l2i1).extBut B.extBut D.l2TO) ey λhd wd C=>Lg ?_);@Id:LQ hd f x b:=C.extBut _ _ D.TOi2 U;!KE (LJ Id rfl (KE (M3 Id λh N G=>KE (OI (Lg (Lg ?_))))));replace N:LQ h f x y:=N;!KE (LJ N rfl (KE (NV ?_)));@j:h.objs.size=s¢:=by rw[G.1,C.1,B.1,t.1,p.1]
 @Ze:MY h z i f .ellipsis:=G.extBut _ _ D.TOz.symm (C.extBut _ _ D.i2z.symm (B.extBut _ _ D.TOz.symm (t.extBut _ _ D.i1z.symm S)));@I:z < h.objs.size:=aAd Ze;!show Lm _ _ (Builtin.SmallTypes.ownedTupleHandOut (.ref z) (.ref h.objs.size) >>= _) _ _ _ from KE ?_;PL Builtin.SmallTypes.ownedTupleHandOut;!KE (LZ (aAb _ Ze) (by simp) λhg W P=>?_);replace W:MY hg z i f (LY h.objs.size):=W;!LZ W (by simp) λH O R=>?_;replace O:MY H z i f (LY h.objs.size):=O;@J:∀ c o,c≠z->h.get? c=PN o->H.get? c=PN o:=λc o n e=>R.extBut _ _ n (P.extBut _ _ n (aAb _ e));@Ti:LQ H h.objs.size x y:=R.extBut _ _ (aAx I) (P.extBut _ _ (aAx I) (aAp _ rfl));@g:H.objs.size=h.objs.size+1:=by rw[R.1,P.1,aAK]
 !Lg ⟨_,rfl,Lg ?_⟩;rw[j]at O Ti g;@go:=q H O (J _ _ D.TOz N) (by &o,e,r:=(((wb.extBut B.extBut D.TOi1.symm).extBut C.extBut D.i12).extBut G.extBut D.TOi1.symm);PM o,J _ o D.i1z e,r) (by &o,e,r:=(wd.extBut G.extBut D.TOi2.symm);PM o,J _ o D.i2z e,r) Ti g λc o M L T X e=>J c o M ((λc o M L T X e=>G.extBut _ _ L (C.extBut _ _ X (B.extBut _ _ L (t.extBut _ _ T (p.extBut _ _ M e))))) c o M L T X e);rw[<- j]at go;~go
~iS{ta tb:Bool}{z j f u v l m:Ll}{k:Nat}{xs ys:Array Li}{a b:Li}{Q:PY Li->Lk->Prop}(U:A.handled=PR)(D:Mu z j f u v l m)(Z:MY s.heap z j f .none)(I0:LQ s.heap j (.ref u) (.ref v))(I1:LQ s.heap f a b)
  (N:ItXe ta s.heap u l k) (wv:ItXe tb s.heap v m k) (W:TsXe ta s.heap l xs) (tm:TsXe tb s.heap m ys) (no:xs[k]?=PR\/ys[k]?=PR)
  (q:∀ h',(∀ c o,c≠z->c≠f->c≠u->c≠v->s.heap.get? c=PN o->h'.get? c=PN o)->Q PR { s with heap:=h' }):Lm (Lo prog w) A (Md (.ref z)) Q E s:=by
 @O:s.TypeIs (.ref z) "zip" :=⟨_,Z,rfl⟩;PL Md;!KE (Ni (LI (name:=Str.ofString "__next__") O F.slot_zip_next (LV F.slot_zip_next O F.entry_zip_next ?_ (F.args_zip_next_1 _))));!show Lm _ _ (Ou (.ref z) 2 >>= _) _ _ _ from KE (Ly Z rfl (x:=.bool PV) rfl ?_);!show Lm _ _ (Ou (.ref z) 3 >>= _) _ _ _ from KE (Ly Z rfl (x:=.ref j) rfl (KE (LJ I0 rfl ?_)));!show Lm _ _ (Builtin.SmallTypes.ownedTupleIsFree (.ref z) >>= _) _ _ _ from KE ?_;PL Builtin.SmallTypes.ownedTupleIsFree;!KE (Ly Z rfl (x:=.none) rfl (Lg ?_));rw[Lj rfl];!KE (MM (KE (Ly Z rfl (x:=.ref f) rfl (KE (LZ Z (by simp) λha G g=>?_)))));replace G:MY ha z j f .ellipsis:=G;!KE ?_;PK[List.zipIdx_cons,aBe,List.zipIdx_nil,aBB];!KE (KE (Nj ?_));@i:∀ {h':LE}{e:Ll},(∃ o,h'.get? e=PN o/\o.cls=.type "StopIteration")->MY h' z j f .ellipsis->e≠z:=λn hz c=>by simp_all
 have t:∀ {h':LE}{e:Ll},(∃ o,h'.get? e=PN o/\o.cls=.type "StopIteration")->(∀ c o,c≠z->c≠f->c≠u->c≠v->s.heap.get? c=PN o->h'.get? c=PN o) ->
   Lm (Lo prog w) A (do if(<- isInstance (.ref e) (.type "StopIteration"))then pure PR else throw (.ref e)) Q E { s with heap:=h' }:=fun{h' e} n hk=>by
  &o,p,C:=n;~KE (MZ (T:= "StopIteration") (b:=PU) ⟨o,p,C⟩ NW (Lg (q _ hk)))
 #L:xs[k]? with
 |none =>
  !show Lm _ _ (Builtin.SmallTypes.nextOf (.ref u) >>= _) _ _ _ from KE (gw U (N.extBut g.extBut D.i1z) (W.extBut g.extBut D.l1z) L λI e h n=>?_);@X:MY I z j f .ellipsis:=h _ _ D.i1z.symm G;@H:=i n X;&o,p,C:=n;~LZ X (by simp) λP _ y=>t ⟨o,y.extBut _ _ H p,C⟩ λc o r _ M _ e=>y.extBut _ _ r (h _ _ M (g.extBut _ _ r e))
 |some x =>
  !show Lm _ _ (Builtin.SmallTypes.nextOf (.ref u) >>= _) _ _ _ from KE (c3 (N.extBut g.extBut D.i1z) (W.extBut g.extBut D.l1z) L λI wb h=>Lg ?_);@S:LQ I f a b:=h.extBut _ _ D.TOi1 (g.extBut _ _ D.TOz I1);!KE (LJ S rfl (KE (M3 S λC Ic B=>KE (OI (Lg (KE (KE (Nj ?_))))))));!show Lm _ _ (Builtin.SmallTypes.nextOf (.ref v) >>= _) _ _ _ from KE (gw U (((wv.extBut g.extBut D.i2z).extBut h.extBut D.i12.symm).extBut B.extBut D.TOi2.symm) (((tm.extBut g.extBut D.l2z).extBut h.extBut D.l2i1).extBut B.extBut D.l2TO) (no.resolve_left (by rw[L];simp)) λP e y n=>?_);@Y:MY P z j f .ellipsis:=y _ _ D.i2z.symm (B.extBut _ _ D.TOz.symm (h.extBut _ _ D.i1z.symm G));@H:=i n Y;&o,p,J:=n;~LZ Y (by simp) λhf _ R=>t ⟨o,R.extBut _ _ H p,J⟩ λc o r n2 M n4 e=>R.extBut _ _ r (y _ _ n4 (B.extBut _ _ n2 (h.extBut _ _ M (g.extBut _ _ r e))))
¶Ce(ta:Bool)(h:LE)(l:Ll):LE:=h.push { cls:=.type (Cd ta),data:=.fields #[.ref l,.int 0 0] }
¶Cf(ta tb:Bool)(h:LE)(l m:Ll):LE:=(Ce ta h l).push { cls:=.type (Cd tb),data:=.fields #[.ref m,.int 0 0] }
¶Cg(ta tb:Bool)(h:LE)(l m:Ll):LE:=(Cf ta tb h l m).push { cls:=.type "tuple",data:=.seq #[.ref h.objs.size,.ref (Ce ta h l).objs.size] }
¶m7(ta tb:Bool)(h:LE)(l m:Ll):LE:=(Cg ta tb h l m).push { cls:=.type "tuple",data:=.seq #[.none,.none] }
¶jL(ta tb:Bool)(h:LE)(l m:Ll):LE:=(m7 ta tb h l m).push { cls:=.type "zip",data:=.fields #[.none,.bool PV,.bool PV,.ref (Cf ta tb h l m).objs.size,.ref (Cg ta tb h l m).objs.size] }
~Fq(l m:Ll)(xs ys:Array Li) :
  Pj (Builtin.«zip.__new__» ⟨[.type "zip",.ref l,.ref m],[]⟩) (λ_ R s=>TsXe PV s.heap l xs/\TsXe PV s.heap m ys/\R (.ok (.ret (.ref (m7 PV PV s.heap l m).objs.size))) { s with heap:=jL PV PV s.heap l m }):=
 .of_wp λprog w A R s h=>by
  &hp,g,d,tk,os:=s;&tl,tm,h:=h;@sub:=Pm;@T1:Heap.IsList (Shared.heap ⟨hp,g,d,tk,os⟩) l xs:=tl;@T2:Heap.IsList (Shared.heap ⟨hp.push { cls:=.type "list_iterator",data:=.fields #[.ref l,.int 0 0] },g,d,tk,os⟩) m ys:=Heap.IsList.push tm _
  wp_walk using L4 T1,L4 T2
  PM _,rfl,h
~Fr(l m:Ll)(xs ys:Array Li) :
  Pj (Builtin.«zip.__new__» ⟨[.type "zip",.ref l,.ref m],[]⟩) (λ_ R s=>TsXe PV s.heap l xs/\TsXe PU s.heap m ys/\R (.ok (.ret (.ref (m7 PV PU s.heap l m).objs.size))) { s with heap:=jL PV PU s.heap l m }):=
 .of_wp λprog w A R s h=>by
  &hp,g,d,tk,os:=s;&tl,tm,h:=h;@sub:=Pm;@T1:Heap.IsList (Shared.heap ⟨hp,g,d,tk,os⟩) l xs:=tl;@T2:Mk (Shared.heap ⟨hp.push { cls:=.type "list_iterator",data:=.fields #[.ref l,.int 0 0] },g,d,tk,os⟩) m ys:=IsTup.push tm _
  wp_walk using L4 T1,Og T2
  PM _,rfl,h
~Ft(l m:Ll)(xs ys:Array Li) :
  Pj (Builtin.«zip.__new__» ⟨[.type "zip",.ref l,.ref m],[]⟩) (λ_ R s=>TsXe PU s.heap l xs/\TsXe PV s.heap m ys/\R (.ok (.ret (.ref (m7 PU PV s.heap l m).objs.size))) { s with heap:=jL PU PV s.heap l m }):=
 .of_wp λprog w A R s h=>by
  &hp,g,d,tk,os:=s;&tl,tm,h:=h;@sub:=Pm;@T1:Mk (Shared.heap ⟨hp,g,d,tk,os⟩) l xs:=tl;@T2:Heap.IsList (Shared.heap ⟨hp.push { cls:=.type "tuple_iterator",data:=.fields #[.ref l,.int 0 0] },g,d,tk,os⟩) m ys:=Heap.IsList.push tm _
  wp_walk using Og T1,L4 T2
  PM _,rfl,h
~Fu(l m:Ll)(xs ys:Array Li) :
  Pj (Builtin.«zip.__new__» ⟨[.type "zip",.ref l,.ref m],[]⟩) (λ_ R s=>TsXe PU s.heap l xs/\TsXe PU s.heap m ys/\R (.ok (.ret (.ref (m7 PU PU s.heap l m).objs.size))) { s with heap:=jL PU PU s.heap l m }):=
 .of_wp λprog w A R s h=>by
  &hp,g,d,tk,os:=s;&tl,tm,h:=h;@sub:=Pm;@T1:Mk (Shared.heap ⟨hp,g,d,tk,os⟩) l xs:=tl;@T2:Mk (Shared.heap ⟨hp.push { cls:=.type "tuple_iterator",data:=.fields #[.ref l,.int 0 0] },g,d,tk,os⟩) m ys:=IsTup.push tm _
  wp_walk using Og T1,Og T2
  PM _,rfl,h
~lg(ta tb)(l m)(xs ys) :
  Pj (Builtin.«zip.__new__» ⟨[.type "zip",.ref l,.ref m],[]⟩) (λ_ R s=>TsXe ta s.heap l xs/\TsXe tb s.heap m ys/\R (.ok (.ret (.ref (m7 ta tb s.heap l m).objs.size))) { s with heap:=jL ta tb s.heap l m }):=by
 cases ta <;> #tb
 ·~Fq l m xs ys
 ·~Fr l m xs ys
 ·~Ft l m xs ys
 ·~Fu l m xs ys
~dN{l m:Ll}(r:TsXe ta s.heap l xs)(p:TsXe tb s.heap m ys)
  (q:∀ h',MY h' (s¢+4) (s¢+2) (s¢+3) .none->LQ h' (s¢+2) (.ref s¢) (.ref (s¢+1))->LQ h' (s¢+3) .none .none ->
   ItXe ta h' s¢ l 0->ItXe tb h' (s¢+1) m 0->h'.objs.size=s¢+5->(∀ c o,s.heap.get? c=PN o->h'.get? c=PN o)->Q (.ref (s¢+4)) { s with heap:=h' }) :
  Lm (Lo prog w) A (call (.type "zip") [.ref l,.ref m]) Q E s:=by
 !callType_new F.called_zip (by decide) (F.typeCall_zip_2 _ _) (F.newCall_zip_2 _ _) (λg=>F.args_object_init_3 g _ _) F.entry_zip_new (lg ta tb l m xs ys) ⟨r,p,?_⟩;@h:(Ce ta s.heap l).objs.size=s¢+1:=aAK ..;@e:(Cf ta tb s.heap l m).objs.size=s¢+2:=by rw[aAK,h]
 @f:(Cg ta tb s.heap l m).objs.size=s¢+3:=by rw[aAK,e]
 @d:(m7 ta tb s.heap l m).objs.size=s¢+4:=by rw[aAK,f]
 @i:(jL ta tb s.heap l m).get? _=PN _:=aAp _ rfl;@j:(jL ta tb s.heap l m).get? _=PN _:=aAb _ (aAp _ rfl);@n:(jL ta tb s.heap l m).get? _=PN _:=aAb _ (aAb _ (aAp _ rfl));@k:(jL ta tb s.heap l m).get? _=PN _:=aAb _ (aAb _ (aAb _ (aAp _ rfl)));rw[e,f,d]at i;rw[h,e]at n;rw[f]at j;rw[h]at k;rw[d];PM⟨_,i,rfl⟩,q _ i n j ⟨_,(aAb _ (aAb _ (aAb _ (aAb _ (aAp _ rfl))))),rfl,rfl⟩ ⟨_,k,rfl,rfl⟩ (by rw[aAK,d]) λc o x=>aAb _ (aAb _ (aAb _ (aAb _ (aAb _ x))))
end
section
variable {X:Cx}{K:W.Frag}
~qO:OpR X (Ls .LtE) (λx y H Q=>∃ i j,x=.str i/\y=.str j/\Q (.bl (!decide (j.cps.toList < i.cps.toList))) H):=by
 intro a s d H x y v u Q I c b h;&i,j,rfl,rfl,q:=h;&t,rfl:=c;&e,rfl:=b;~PySem.P.le_str (gc I q rfl)
end
section
variable {prog:Lw}{w:Lu}{A:LM}{E:Li->Lk->Prop}{s:Lk}
~iq:ML (.type "dict") "__len__" = pure (PN (.builtin "dict.__len__")):=IO
~lh{d:Ll}{kvs:PQ (Key×Li)}{Q:PQ Li->Lk->Prop}(hh:A.handled=PR)(hd:(d == Mi)=PV)(hm:s.heap.DictOf (aq prog w) d kvs)(hn:kvs°<=Ld)
  (q:∀ s' acc,(∀ b o,s.heap.get? b=PN o->s'.heap.get? b=PN o)->s¢ < s'¢->s'.gens=s.gens->s'.drawn=s.drawn->s'.os=s.os->ItemsOf (λi v=>∃ k x,kvs[i]?=PN (k,x)/\(aq prog w).is k v=PU) acc kvs°->Q acc.toList s') :
  Lm (Lo prog w) A (Pn (.ref d)) Q E s:=by
 &ep,at0:=hm.dictAt;@hdT:s.TypeIs (.ref d) "dict" :=hm.typeIs;PL Pn;!KE (MU (LA F.entry_proto_collect ?_));rw[Around.under_plainId F.plain_proto_collect _];!show Lm _ A.in1 (newList [] >>= λl=>NE (.builtin "list.__iadd__" ⟨[l,.ref d],[]⟩)) _ _ s from KE (LW ?_);!Lg ⟨LX F.plain_list_iadd _,LA F.entry_list_iadd ?_⟩;rw[Around.under_plainId F.plain_list_iadd _];@ltd:d < s¢:=at0.lt_size;@at1:=at0.push { cls:=.type "list",data:=.seq ([]:PQ Li).toArray };generalize hH:s.heap.push { cls:=.type "list",data:=.seq ([]:PQ Li).toArray }=G at at1 ⊢;!show Lm _ A.in1 (Builtin.List.listExtendWith (.ref s¢) (.ref d) (.ref s¢)) _ _ _ from ?_;PL Builtin.List.listExtendWith;!KE (L8 at1.dictOf.typeIs ?_);@n1:Builtin.List.listSameRef (.ref s¢) (.ref d)=false:=by simp[Builtin.List.listSameRef];~aAx ltd
 PK[n1,show(Value.type "dict" == Value.type "list")=PV by decide,show(Value.type "dict" == Value.type "tuple")=PV by decide,aBY,aA2,M8];!KE (wpAny_pyIter_dict hd at1 ?_);!KE (Lr ?_);@at2:=at1.push { cls:=.type "dict_keyiterator",data:=.fields #[.ref d,.int 0 0,.int kvs° 0,.int ep 0] };@k2:Heap.IsKeyIter (G.push { cls:=.type "dict_keyiterator",data:=.fields #[.ref d,.int 0 0,.int kvs° 0,.int ep 0] }) G.objs.size d 0 kvs° ep:=⟨_,aAp _ rfl,rfl,rfl⟩;@S2:(G.push { cls:=.type "dict_keyiterator",data:=.fields #[.ref d,.int 0 0,.int kvs° 0,.int ep 0] }).get? s¢=PN { cls:=.type "list",data:=.seq ([]:PQ Li).toArray }:=aAb _ (hH ▸ aAp _ rfl);@keep2:∀ b o,s.heap.get? b=PN o->(G.push { cls:=.type "dict_keyiterator",data:=.fields #[.ref d,.int 0 0,.int kvs° 0,.int ep 0] }).get? b=PN o:=λb o e=>aAb _ (hH ▸ aAb _ e);@sizeG:G.objs.size=s¢+1:=by rw[<- hH,aAK]
 generalize G.push { cls:=.type "dict_keyiterator",data:=.fields #[.ref d,.int 0 0,.int kvs° 0,.int ep 0] }=G2 at at2 k2 S2 keep2 ⊢;@hT2:Shared.TypeIs { s with heap:=G2 } (.ref d) "dict" :=at2.dictOf.typeIs;PL Builtin.List.listLengthHint;!KE (MJ hT2 iq ?_)
 wp_delta
 !KE (MZ (b:=PU) hT2 (by rw[NR];kernel_rfl) ?_);!show Lm _ A.in1 (M4 (Value.ref d) >>= _) _ _ _ from KE (L8 hT2 (Lg ?_));rw[Lj (by decide)];!KE (MM (KE ?_));!show Lm _ A.in1 (OD s¢ (·.push .none) >>= λ_=>OD s¢ (·.pop)) _ _ _ from KE (MK S2 rfl ?_);@S3:=aAI (Obj.mapSeq (·.push Value.none)) S2 rfl;!MK (hz:=by seq_fits) S3 rfl ?_;@S4:=aAI (Obj.mapSeq (·.pop)) S3 rfl;@oth:∀ b o,b≠s¢->G2.get? b=PN o->((G2.update s¢ (Obj.mapSeq (·.push Value.none))).update s¢ (Obj.mapSeq (·.pop))).get? b=PN o:=λb o n e=>(aAD _ _ (Ne.symm n)).trans ((aAD _ _ (Ne.symm n)).trans e);@nG:G.objs.size≠s¢:=by rw[sizeG];~Nat.succ_ne_self _
 @Wk:=Walks.dictKeys (prog:=prog) (w:=w) (A:=A.in1) (knd:=aq prog w) hh G.objs.size d (by rw[sizeG];~aAs (aAX ltd)) kvs ep;@hSf:s¢∉[G.objs.size,d]:=by
  PK[aAl,aAu,LN,not_or];PM nG.symm,aAx ltd
 !Lg ⟨LX F.plain_extend_loop _,codeAny_extend_loopS Wk.toS hn _ hSf _ kvs° 0 _ _ _ rfl (aAM _) ⟨k2.at λo e=>oth _ o nG e,at2.at' λo e=>oth _ o (aAs ltd) e⟩ S4 (ItemsOf.nil _) λs' acc' c' hmv S5 hacc=>?_⟩;!show Lm _ A (load s¢ >>= _) _ _ s' from KE (OS S5 (Lg (q s' acc' (λb o e=>hmv.heap b o (λhb=>?_) (oth b o (aAs (aAd e)) (keep2 b o e))) (aAd S5) hmv.gens hmv.drawn hmv.os hacc)));@hlt:=aAd e;PK[aAl,aAu,LN]at hb;rcases hb with h | h
 ·~absurd hlt (h ▸ aAN _)
 ·rw[h,sizeG]at hlt;~absurd hlt (Nat.not_lt.mpr (aBj _))
~xP(h:(aq P w).is (Sum.inr z) v=PU):∃ t,v=.str z t:=by
 rcases aD (show eY (Sum.inr z) v=PU from h)with⟨i,t,e,_⟩ | ⟨x,t,e,rfl⟩
 ·#e
 ·#e
  PM t,rfl
~iT:∀ {ss}{us},us°=ss°->(∀ (j:Nat) (v),us[j]?=PN v->∃ z,ss[j]?=PN z/\(aq P w).is (Sum.inr z) v=PU)->N0 us ss
 |[],us,a,_=>by
  #us with
  |nil=>~.nil
  |cons u us=>cases a
 |z :: ss,us,a,h=>by
  #us with
  |nil=>cases a
  |cons u us =>
   &b,e,d:=h 0 u rfl;obtain rfl:z=b:=Option.some.inj e;&t,rfl:=xP d;~.cons z t (iT (Nat.succ.inj a) λj v c=>by simpa using h (j+1) v (by simpa using c))
~xQ{d:Ll}{kvs:PQ (Key×Li)}{ss:PQ Str}{Q:Li->Lk->Prop}(hh:A.handled=PR)(hd:(d == Mi)=PV)(hm:s.heap.DictOf (aq prog w) d kvs)(g:kvs.map (·.1)=ss.map Sum.inr)(t:ss° < 64)
  (q:∀ (h':LE) (t':Nat) (a:Ll) (out:Array Li) (f:PQ Str) (n:Nat),(∀ b o,s.heap.get? b=PN o->h'.get? b=PN o)->s¢<=a->h'.get? a=PN (M9 "list" out n)->N0 out.toList f->f.Perm ss->ON f=PU->Q (.ref a) { s with heap:=h',toks:=t' }) :
  Lm (Lo prog w) A (call (.builtin "sorted") [.ref d]) Q E s:=by
 @I:kvs°=ss°:=by @:=Mg List.length g;simpa using this
 !Calls.call_function_entry kind_sorted plain_sorted entry_sorted (args_sorted1 _) ?_;unfold Builtin.«sorted»;!KE (m:=checkCount "sorted" 1 1 _) (Lg (KE (lh hh hd hm (by rw[I];~aAU (aBl t (by decide))) λr h D C g1 M o1 c=>?_)));@B:N0 h.toList ss:=iT (P:=prog) (w:=w) (by rw[aA7,c.1,I]) λj v hj=>by
  &k,x,e,hk:=c.2 j v (by simpa using hj);@p:(kvs.map (·.1))[j]?=PN k:=by rw[aAE,e];rfl
  rw[g,aAE]at p;&z,hz,rfl:=aBO.mp p;PM z,hz,hk
 @l:h.toList° < 64:=by
  @:=c.1;PK[aA7];on
 !KE (Pb ?_);@i:(r.heap.push (M9 "list" h.toList.toArray 0)).get? r¢=PN (M9 "list" h.toList.toArray 0):=aAp _ rfl;!KE (Lr (LV O2 ⟨_,i,rfl⟩ OK (list_sort_treeK strKind_oneLt i B.keysOf (λF H rest e=>keyKind_strs (by rw[<- e];~B)) l λu hp hs=>⟨_,rfl,?_⟩) (O3 _)));&f,h1,h2,O:=sorted_out_str B hp hs;&e,he:=Pc (out:=(arrOf u).map (·.2)) i;&hp1,g',d',y,N:=r;@p:d'=s.drawn:=M;subst g1 p o1;!Lg ⟨_,rfl,q _ y _ _ f e (λb o G=>?_) (aAU C) he h1 h2 O⟩;@L:=aAd (D b o G);rw[O4 (aAs L) (by rw[aAK];~aAX L)];~aAb _ (D b o G)
end
section
variable {X:Cx}
~m9(t:X.calm=PU):ax X (.builtin "sorted") (λxs H Q=>∃ (p:Ll) (kvs:PQ _) (ss:PQ Str),xs=[.ref p]/\H p=PN (.dK kvs)/\kvs.map (·.1)=ss.map Sum.inr/\ss° < 64/\∀ a b,H a=PR->b.Perm ss->ON b=PU->Q (.ref a) (upd H a (.lst (b.map V.str)))):=by
 intro g s D H xs E Q I r h;&p,kvs,ss,rfl,z,d,i,q:=h;&u,rfl,m:=bt r
 #m
 &A,w,F,l,f:=sV I.hok z;!xQ (I.ok.hd t) w f (by rw[<- l.keys];~d) i λC B a c b n y e k v j x=>?_;!⟨.ref a,_,I.laid y e ?_,rfl,q a b (I.hok.fresh e) j x⟩;@o:M9 "list" c n=M9 "list" c.toList.toArray n:=by rw[aBC]
 !⟨?_,c.toList,n,di v,?_⟩
 ·rw[aAa,j.length_eq];~aAU (aBl i (by decide))
 ·rw[k,o]
§DicQ(K:W.Frag)(H:Hp)(p:Ll)(fs:PQ (Str×Dt)):Prop:=
 ∃ kvs,H p=PN (.dK kvs)/\kvs.map (·.1)=fs.map (λp=>(Sum.inr p.1:Key))/\∀ z,(bo fs z=PR->aY kvs (Sum.inr z:Key)=PR)/\∀ d,bo fs z=PN d->∃ v,aY kvs (Sum.inr z:Key)=PN v/\IsP K H d v
end
section
variable {prog:Lw}{w:Lu}{A:LM}{E:Li->Lk->Prop}{s:Lk}
~AD(h:Q (s.heap.get? a) s):Lm (Lo prog w) A (loadIfAlive a) Q E s:=λb p _=>by
 show Sem.wp _ _ (.loadIfAlive a _) _ _ _ _;~h
end
§lay(H:Hp):PQ (Ll×HO)->Hp
 |[]=>H
 |p :: r=>lay (upd H p.1 p.2) r
~oM:∀ {r}{H}{b}{o},lay H r b=PN o->H b=PN o\/(b,o)∈r
 |[],_,_,_,h=>.inl h
 |p :: r,H,b,o,h=>by
  rcases oM (r:=r) h with h | h
  ·by_cases a:b=p.1
   ·subst a;rw[aw]at h;obtain rfl:=Option.some.inj h;~.inr aAe
   ·rw[ao a]at h;~.inl h
  ·~.inr (aAk _ h)
~jM:∀ {r}{H},(∀ p∈r,H p.1=PR)->(r.map (·.1)).Nodup->Same H (lay H r)
 |[],H,_,_=>Same.refl H
 |p :: r,H,f,n=>by
  @c:=aAY.mp (n);!(ay (f p aAe) _).trans (jM (λq b=>?_) c.2);rw[ao (λe=>c.1 (aAc.mpr ⟨q,b,e⟩))];~f q (aAk _ b)
~tF:∀ {r}{H},(∀ p∈r,H p.1=PR)->(r.map (·.1)).Nodup->∀ p∈r,lay H r p.1=PN p.2
 |[],H,_,_=>λp g=>by #g
 |p :: r,H,f,n=>λq a=>by
  @c:=aAY.mp (n);@d:∀ q∈r,upd H _ p.2 _=none:=λq a=>by
   rw[ao (λe=>c.1 (aAc.mpr ⟨q,a,e⟩))];~f q (aAk _ a)
  rcases aAl.mp a with rfl | a
  ·~jM d c.2 _ _ aw
  ·~tF d c.2 q a
section
variable {X:Cx}{pins:PQ (Ll×Obj)}{σ:St}{H H':Hp}{s:Lk}{h':LE}
~Inv.many(I:Inv X pins σ H s)(k:∀ b u,s.heap.get? b=PN u->h'.get? b=PN u)(old:Same H H')(d:∀ b o,H' b=PN o->H b=PN o\/s¢<=b/\ObjOk X.prog X.w H' h' b o):Inv X pins σ H' { s with heap:=h',toks:=t' }:=by
 !I.un ⟨λb u q _ _ _=>k b u q,λb u q _ _ _=>⟨u.slots,k b u q⟩,λb u q n _=>?_,λb u q _=>⟨u,k b u q⟩,λb h q=>old _ _ q,λb u h q=>old _ _ q,λb m q=>⟨#[],by rw[old _ _ q];simp⟩⟩ λb o e=>?_
 ·#e:H' b with
  |none=>rfl
  |some o =>
   rcases d b o e with f | ⟨l,_⟩
   ·rw[n]at f;#f
   ·~absurd (aAd q) (Nat.not_lt.mpr l)
 ·rcases d b o e with f | ⟨_,i⟩
  ·~(I.hok b o f).stay (λc v _ q=>k c v q) (λc q=>old _ _ q) λc h q=>old _ _ q
  ·~i
end
~iU:∀ (r:PQ (Ll×HO)),Vals (r.map λp=>V.ref p.1) (r.map λp=>Value.ref p.1)
 |[]=>.nil
 |p :: r=>.cons rfl (iU r)
~xR(h:(aq P w).is (Sum.inl i) v=PU):∃ t,v=.int i t:=by
 rcases aD (show eY (Sum.inl i) v=PU from h)with⟨j,t,e,rfl⟩ | ⟨x,t,e,rfl⟩
 ·#e
  PM t,rfl
 ·#e
~iV:∀ {ns}{us},us°=ns°->(∀ (j:Nat) (v),us[j]?=PN v->∃ z,ns[j]?=PN z/\(aq P w).is (Sum.inl z) v=PU)->Nf us ns
 |[],us,a,_=>by
  #us with
  |nil=>~.nil
  |cons u us=>cases a
 |z :: ns,us,a,h=>by
  #us with
  |nil=>cases a
  |cons u us =>
   &b,e,d:=h 0 u rfl;obtain rfl:z=b:=Option.some.inj e;&t,rfl:=xR d;~.cons z t (iV (Nat.succ.inj a) λj v c=>by simpa using h (j+1) v (by simpa using c))
~AE:∀ {us}{ns},Nf us ns->Vals (ns.map V.int) us
 |_,_,.nil=>.nil
 |_,_,.cons _ t r=>.cons ⟨t,rfl⟩ (AE r)
section
variable {prog:Lw}{w:Lu}{A:LM}{E:Li->Lk->Prop}{s:Lk}
~tG{d:Ll}{ns:PQ Int}{Q:Li->Lk->Prop}(S:A.handled=PR)(N:(d == Mi)=PV)(R:s.heap.DictOf (aq prog w) d kvs)(f:kvs.map (·.1)=ns.map Sum.inl)(t:ns° < 64)
  (q:∀ (h':LE) (t':Nat) (a:Ll) (out:Array Li) (g:PQ Int) (n:Nat),(∀ b o,s.heap.get? b=PN o->h'.get? b=PN o)->s¢<=a->h'.get? a=PN (M9 "list" out n)->Nf out.toList g->g.Perm ns->g.Pairwise (·<=·)->Q (.ref a) { s with heap:=h',toks:=t' }) :
  Lm (Lo prog w) A (call (.builtin "sorted") [.ref d]) Q E s:=by
 @F:kvs°=ns°:=by @:=Mg List.length f;simpa using this
 !Calls.call_function_entry kind_sorted plain_sorted entry_sorted (args_sorted1 _) ?_;unfold Builtin.«sorted»;!KE (m:=checkCount "sorted" 1 1 _) (Lg (KE (lh S N R (by rw[F];~aAU (aBl t (by decide))) λr h B u I H J c=>?_)));@Z:Nf h.toList ns:=iV (P:=prog) (w:=w) (by rw[aA7,c.1,F]) λj v U=>by
  &k,x,e,Y:=c.2 j v (by simpa using U);@p:(kvs.map (·.1))[j]?=PN k:=by rw[aAE,e];rfl
  rw[f,aAE]at p;&z,T,rfl:=aBO.mp p;PM z,T,Y
 @l:h.toList° < 64:=by
  @:=c.1;PK[aA7];on
 !KE (Pb ?_);@i:(r.heap.push (M9 "list" h.toList.toArray 0)).get? r¢=PN (M9 "list" h.toList.toArray 0):=aAp _ rfl;!KE (Lr (LV O2 ⟨_,i,rfl⟩ OK (list_sort_tree i Z l λout g X O L=>⟨_,rfl,?_⟩) (O3 _)));&e,he:=Pc (out:=out) i;&hp1,g',M,y,W:=r;@p:M=s.drawn:=H;subst I p J;!Lg ⟨_,rfl,q _ y _ _ g e (λb o C=>?_) (aAU u) he X O L⟩;@D:=aAd (B b o C);rw[O4 (aAs D) (by rw[aAK];~aAX D)];~aAb _ (B b o C)
end
section
variable {X:Cx}
~lj(k:X.calm=PU):ax X (.builtin "sorted") (λxs H Q=>∃ (p:Ll) (kvs:PQ _) (ns:PQ Int),xs=[.ref p]/\H p=PN (.dK kvs)/\kvs.map (·.1)=ns.map Sum.inl/\ns° < 64/\∀ (a) (b:PQ Int),H a=PR->b.Perm ns->b.Pairwise (·<=·)->Q (.ref a) (upd H a (.lst (b.map V.int)))):=by
 intro g s C H xs B Q I r h;&p,kvs,ns,rfl,z,d,i,q:=h;&u,rfl,m:=bt r
 #m
 &A,x,E,v,f:=sV I.hok z;!tG (I.ok.hd k) x f (by rw[<- v.keys];~d) i λD F a c b n y e o t j l=>?_;!⟨.ref a,_,I.laid y e ?_,rfl,q a b (I.hok.fresh e) j l⟩;@w:M9 "list" c n=M9 "list" c.toList.toArray n:=by rw[aBC]
 !⟨?_,c.toList,n,AE t,?_⟩
 ·rw[aAa,j.length_eq];~aAU (aBl i (by decide))
 ·rw[o,w]
end
section
variable {X:Cx}{K:W.Frag}
~oN:∀ {a}{its},Vals (a.map V.str) its->N0 its a
 |[],its,h=>by #h;~.nil
 |z :: a,its,h=>by
  #h with
  |cons c b =>
   &t,rfl:=c;~.cons z t (oN b)
~gy:∀ {b}{its},N0 its b->∀ (m:Nat) (a) (k),isStrOf k its[m]=decide (b[m]?=PN k)
 |_,_,.nil,m,a,_=>absurd a (Nat.not_lt_zero _)
 |_,_,.cons z t h,0,a,k=>by
  show(z == k)=decide (PN z=PN k)
  by_cases e:z=k
  ·subst e;simp
  ·rw[Lv (λc=>e (Option.some.inj c))]
   simpa using e
 |_,_,.cons z t h,m+1,a,k=>gy h m _ k
~qP:MtM X "list.index" (λx vs H Q=>∃ (l:Ll) (a:PQ Str) (z:Str) (j:Nat),x=.ref l/\vs=[.str z]/\H l=PN (.lst (a.map V.str))/\a[j]?=PN z/\(∀ m,m < j->a[m]?≠PN z)/\a°<=1000/\Q (.int (j)) H):=by
 intro k s G H x vs v J Q I B A h;&l,a,z,j,rfl,rfl,o,i,f,C,q:=h
 #B
 &u,rfl,t,rfl:=A.one;&_,b,n,r,p,e:=I.lstM o;@g:=oN r;@E:b°=a°:=by rw[<- p,aAa]
 @c:j < b°:=by @:=(aAg.mp i).1;on
 !Oe F.slot_list_index ⟨_,e,rfl⟩ F.entry_list_index (F.args_list_index_2 _ _) (MeetsSeq.list_index l _ n _ _ (λy w=>eq_isStrOf z t g y (by simpa using w)) j (by simpa using c) (Int.lt_of_le_of_lt (show(j:Int)<=1000 by on) (by decide)) ?_ ?_) ⟨e,.int _,H,I.tok _,⟨_,rfl⟩,q⟩
 ·rw[List.getElem_toArray,gy g j c];~Lh i
 ·intro m D d;rw[List.getElem_toArray,gy g m _];~Lv (f m d)
end
end L2
namespace PySem
open Sem (wp)
namespace F
end F
section
variable {prog:Lw}{w:Lu}{K:Type}[DecidableEq K]{kd:KeyKind prog w K}{A:LM}{E:Li->Lk->Prop}
~c4(x:LS kd h ks a)(k:∀ o,h.get? a=PN o->h'.get? a=PN o):LS kd h' ks a:=by
 &o,b,n,e,r:=x;PM o,b,n,k o e,r
end
end PySem
namespace L2
open PySem PySem.Spec PyProof.Rows
§kDt:Key->Dt
 |.inl i=>.int i
 |.inr z=>.str z
~xS{K}(h:IsP K H (kDt k) v):v=kV k:=by
 cases k <;> (cases h;rfl)
~iW{K}:∀ {ks:PQ Key}{xs},IsPs K H (ks.map kDt) xs->xs=ks.map kV
 |[],_,h=>by #h;rfl
 |k :: ks,_,h=>by
  #h with
  |cons h r=>rw[xS h,iW r];rfl
section
variable {X:Cx}{pins:PQ (Ll×Obj)}{σ:St}{H:Hp}{s:Lk}
~xT(I:Inv X pins σ H s)(h:IsP X.K H (.tup (ks.map kDt)) (.ref a)):LS (aq X.prog X.w) s.heap ks a:=by
 &b,l,e,k,_,i:=h.unref
 #e
 &c,r,⟨o,g,f,n,j⟩,_:=I.tuple k;rw[iW i]at r;~⟨o,c.toArray,n,g,f,j,by simpa using eM r⟩
end
end L2
namespace PySem
open Sem (wp)
end PySem
namespace L2
open PySem PySem.Spec PyProof.Rows
end L2
namespace PySem
open Sem (wp)
open PyProof.Rows
section
variable {prog:Lw}{w:Lu}{A:LM}{E:Li->Lk->Prop}{s:Lk}{δ:Type}{R:δ->Li->Prop}{h₀:LE}{a:Ll}{D:PQ (Str×δ)}{k:Str}{tk:Tok}
~ff(T:KTD.TabOf R h₀ a D)(u:∀ b o,h₀.get? b=PN o->s.heap.get? b=PN o)(B:∀ d v,KTD.datumAt k D=PN d->R d v->Q (PN v) { s with toks:=s.toks+1 })
  (C:KTD.datumAt k D=PR->Q PR { s with toks:=s.toks+1 }):Lm (Lo prog w) A (Po a (.str k tk)) Q E s:=by
 &_,o,y,F,p,G,t,m:=T;@q:=u _ _ p;&l:=y;PL Po;!KE (Ow (KE (KTD.kt_dictFind_strs q t (by simpa using m.exact) ?_)));@g:Q (findBy (λk v=>v.isStr k) (Array.mk l) k) { s with toks:=s.toks+1 }:=by
  rw[show findBy _ (Array.mk l) k=(l.find? λe=>e.key.isStr k).map (·.val)by simp[findBy]]
  #c:KTD.datumAt k D with
  |none=>rw[show(l.find? λe=>e.key.isStr k).map (·.val)=PR by @:=m.find_none c;simpa using this];~C c
  |some d =>
   &v,z,x:=m.find_some c;rw[z];~B d v c x
 rw[findBy_of_findIdx?]at g
 #r:(Array.mk l).findIdx? λe=>e.key.isStr k with
 |some i=>rw[r]at g;~KE (wpAny_dictEntries q t (Lg g))
 |none=>rw[r]at g;~Lg g
~nc{dflt}:MeetsIn prog w (Builtin.«dict.get» ⟨[.ref a,.str k tk,dflt],[]⟩) (λ_ e s=>KTD.TabOf R h₀ a D/\(∀ b o,h₀.get? b=PN o->s.heap.get? b=PN o)/\(∀ d v,KTD.datumAt k D=PN d->R d v->e (.ok (.ret v)) { s with toks:=s.toks+1 }) /\
  (KTD.datumAt k D=PR->e (.ok (.ret dflt)) { s with toks:=s.toks+1 })):=
 .of_wp λA e s ⟨T,h,g,f⟩=>by
  show Lm _ _ (Po a _ >>= _) _ _ s;!KE (ff T h (λd v l j=>Lg ⟨v,rfl,g d v l j⟩) λi=>KE (Oh T.1 (Lg ⟨dflt,rfl,f i⟩)))
end
end PySem
namespace L2
open PySem PySem.Spec PyProof.Rows
§cC(K:W.Frag)(a:Ll)(D:PQ (Str×Ll)):Prop:=∀ h,K.In h->KTD.TabOf (λb v=>v=Value.ref b) h a D
~EF{K}(e:KTD.tabLook (λb v=>v == Value.ref b) (λb=>K.lookup b) a D=PU):cC K a D:=
 λ_ X=>KTD.tab_of_look (λ_ _ z=>eq_of_beq z) (λb o q=>X b o q) e
§oP(K:W.Frag)(b:Ll)(ws:PQ Str):Bool:=match K.lookup b with
 |some o=>o.cls == .type "tuple" && (match o.data with | .seq vs _=>KTD.strsLook vs.toList ws && decide (vs.size<=1000) | _=>PV)
 |none=>PV
§tH(K:W.Frag)(D:PQ (Ll×PQ Str)):Bool:=D.all λp=>oP K p.1 p.2
§tJ(K:W.Frag)(D:PQ (Ll×PQ Str)):Prop:=∀ p∈D,∀ H:Hp,SqT K H p.1 (p.2.map V.str)
~Fw{K}(e:tH K D=PU):tJ K D:=by
 intro p c H;@b:=aAf.mp e p c;unfold oP at b
 split at b
 ·rename_i o g
  PK[aAn]at b;&f,a:=b
  split at a
  ·rename_i d n h
   PK[aAn]at a;~.inr ⟨o,d,n,g,eq_of_beq f,h,aAU (ci (My a.2)),di (KTD.strs_of_look a.1)⟩
  ·#a
 ·#b
§fh(k:Str):PQ (Str×Ll)->PY Ll
 |[]=>PR
 |(x,b) :: D=>if k=x then PN b else fh k D
~c5:∀ D:PQ _,KTD.datumAt k D=fh k D
 |[]=>rfl
 |(x,b) :: D=>by
  show(if decide _=PU then PN b else KTD.datumAt k D)=_
  by_cases h:k=x
  ·simp[fh,h]
  ·simp[fh, c5 D]
§Ch(D:PQ (Str×Ll))(ty tx:TE):TE:=λσ H Q=>ty σ H λy H1=>tx σ H1 λz H2=>∃ k,y=.str k/\Q (match fh k D with | PN b=>.ref b | PR=>z) H2
section
variable {X:Cx}
~tK{x:Str}{ad:Ll}{D:PQ (Str×Ll)}{e f:Expr}{C A:TE}{p d i:Pos}(W:cC X.K ad D)(hg:Gl X x)(hm:X.mg x=PN (.ref ad))(he:PE X e C)(hf:PE X f A)(m:M2 X (.Name x p) "get" d e f i)(u:(x == ("__debug__" : Str))=false:=by decide) :
  PE X (.Call (.Attribute (.Name x p) "get" d) [e,f] [] i) (Ch D C A):=by
 intro g s B H Q I h;@T:∀ {l:Lk}{c:St}{r:Hp}{a:PQ (Ll×Obj)},Inv X a c r l->KTD.TabOf (λb v=>v=Value.ref b) X.base ad D:=λJ=>W _ J.ok.mod.kin;@j:∀ {l:Lk}{c:St}{r:Hp}{a:PQ (Ll×Obj)},Inv X a c r l->l.TypeIs (.ref ad) "dict" /\(∀ b,Value.ref ad=.ref b->∃ G,l.heap.get? b=PN G/\G.dict=PR):=fun{l c r a} J=>by
  &_,o,_,_,V,E,_:=T J;!⟨⟨o,J.bk _ _ V,E.1⟩,λb q=>?_⟩;injection q with q
  subst q;PM o,J.bk _ _ V,E.2.1
 !Mq m.base m.few m.line rfl (bj I hg hm ?_ u);!⟨"dict","dict.get",PySem.F.plainAttrs_dict,PySem.F.slot_dict_get,PySem.F.type_dict_get,(j I).1,(j I).2,?_⟩;rw[m.trees];!Calls.callWith_builtin rfl (Calls.evalArgs_plain (Calls.spliced_cons (thn (he g s B H _ I h) λiv P ⟨y,L,U,N,Z⟩ =>
  Calls.spliced_cons (thn (hf g P B L _ U Z) λfv s3 ⟨z,w,n,M,k,O,t⟩=>Calls.spliced_nil ?_))))
 subst O;&tk,rfl:=N;!Os PySem.F.slot_dict_get (j n).1 PySem.F.entry_dict_get (PySem.F.args_dict_get_3 _ _ _) (nc (h₀:=X.base) (D:=D) (R:=λb v=>v=Value.ref b)) ⟨T n,λb o z=>n.bk b o z,λb v S hv=>?_,λY=>?_⟩
 ·subst hv;rw[<- c5,S]at t;PM .ref b,w,n.tok _,rfl,t
 ·rw[<- c5,Y]at t;PM z,w,n.tok _,M,t
end
section
variable {prog:Lw}{w:Lu}{A:LM}{E:Li->Lk->Prop}{s:Lk}
¶zpO(f0:Li)(f1:Bool)(P0 P1:Ll):Obj:={ cls:=.type "zip",dict:=PR,data:=.fields #[f0,.bool f1,.bool PV,.ref P0,.ref P1],slots:=#[] }
§ZS(h:LE)(z P0 P1 u v:Ll):Prop:=∃ (T:Nat) (f1:Bool) (o:Obj),h.get? z=PN (zpO (LY T) f1 P0 P1)/\h.get? T=PN o/\T≠z/\T≠u/\T≠v/\o.cls=.type "tuple"
~qQ{z p L u v l m:Ll}{k:Nat}{xs ys:Array Li}{x y:Li}{Q:PY Li->Lk->Prop}(D:Mu z p L u v l m)(Z:ZS s.heap z p L u v)(I0:LQ s.heap p (.ref u) (.ref v))
  (wu:LH s.heap u l k) (wv:LH s.heap v m k) (tl:Mk s.heap l xs) (tm:Mk s.heap m ys) (ex:xs[k]?=PN x) (ey:ys[k]?=PN y)
  (q:∀ h',ZS h' z p L u v->LH h' u l (k+1)->LH h' v m (k+1)->LQ h' s¢ x y->h'.objs.size=s¢+1 ->
   (∀ c o,c≠z->c≠u->c≠v->s.heap.get? c=PN o->h'.get? c=PN o)->Q (PN (.ref s¢)) { s with heap:=h' }):Lm (Lo prog w) A (Md (.ref z)) Q E s:=by
 &T,f1,N,H,gT,n1,n2,n3,n4:=Z;@hT:s.TypeIs (.ref z) "zip" :=⟨_,H,rfl⟩;&n,g,d,tk,os:=s;PL Md;!KE (Ni (LI (name:=Str.ofString "__next__") hT F.slot_zip_next (LV F.slot_zip_next hT F.entry_zip_next ?_ (F.args_zip_next_1 _))));!show Lm _ _ (Ou (.ref z) 2 >>= _) _ _ _ from KE (Ly H rfl (x:=.bool PV) rfl ?_);!show Lm _ _ (Ou (.ref z) 3 >>= _) _ _ _ from KE (Ly H rfl (x:=.ref p) rfl (KE (LJ I0 rfl ?_)));!show Lm _ _ (Builtin.SmallTypes.ownedTupleIsFree (.ref z) >>= _) _ _ _ from KE ?_;PL Builtin.SmallTypes.ownedTupleIsFree;!KE (Ly H rfl (x:=LY T) rfl ?_);!show Lm _ _ (loadIfAlive (T:Int).toNat >>= _) _ _ _ from KE (AD ?_);rw[aBy];rw[show n.get? T=PN N from gT,Ln (by simp)];!show Lm _ _ (Ou (.ref z) 1 >>= _) _ _ _ from KE (Ly H rfl (x:=.bool f1) rfl ?_)
 #f1 with
 |true =>
  !Lg ?_;rw[Ln (by decide)];!KE ?_;rw[<- aBm];PK[aBe,aBB];!KE (KE (Lr ?_));!show Lm _ _ (Builtin.SmallTypes.nextOf (.ref u) >>= _) _ _ _ from KE (bU (s:=⟨n,g,d,tk,os⟩) (wu) (tl) ex λG wb i=>Lg ?_);!Lg ?_;!KE (KE (Lr ?_));!show Lm _ _ (Builtin.SmallTypes.nextOf (.ref v) >>= _) _ _ _ from KE (bU (s:=⟨G,g,d,tk,os⟩) ((wv).extBut i.extBut D.i12.symm) ((tm).extBut i.extBut D.l2i1) ey λh wd j=>Lg ?_);!Lg (Lg ?_);!KE (NV (hsz:=by show 2<=Ld;decide) ?_);replace i:Heap.SameBut u n G:=i;replace j:Heap.SameBut v G h:=j;@a:h.objs.size=n.objs.size:=by rw[j.1,i.1]
  @f:∀ c o,c≠z->c≠u->c≠v->n.get? c=PN o->h.get? c=PN o:=λc o M J C e=>j.extBut _ _ C (i.extBut _ _ J (e));@B:h.get? z=PN (zpO (LY T) PU p L):=j.extBut _ _ D.i2z.symm (i.extBut _ _ D.i1z.symm H);@we:LH h u l (k+1):=wb.extBut j.extBut D.i12;@e:=q (h.push { cls:=.type "tuple",data:=.seq #[x,y] }) ⟨T,PU,N,aAb _ B,aAb _ (f T N n1 n2 n3 gT),n1,n2,n3,n4⟩
   (by &o,I,r:=we;PM o,aAb _ I,r) (by &o,I,r:=wd;PM o,aAb _ I,r)
   (by show(h.push _).get? n.objs.size=_;rw[<- a];~aAp _ rfl) (by rw[aAK,a]) λc o M J C ec=>aAb _ (f c o M J C ec)
  !Lg ⟨_,rfl,Lg ?_⟩;rw[<- a]at e;~e
 |false =>
  !show Lm _ _ (Pv (.ref z) 1 (.bool PU) >>= _) _ _ _ from KE (LZ H (by simp) λha ga t=>Lg ?_);replace t:Heap.SameBut z n ha:=t;replace ga:ha.get? z=PN (zpO (LY T) PU p L):=ga;rw[Ln (by decide)];!KE ?_;rw[<- aBm];PK[aBe,aBB];!KE (KE (Lr ?_));!show Lm _ _ (Builtin.SmallTypes.nextOf (.ref u) >>= _) _ _ _ from KE (bU (s:=⟨ha,g,d,tk,os⟩) (wu.extBut t.extBut D.i1z) (tl.extBut t.extBut D.l1z) ex λG wb i=>Lg ?_);!Lg ?_;!KE (KE (Lr ?_));!show Lm _ _ (Builtin.SmallTypes.nextOf (.ref v) >>= _) _ _ _ from KE (bU (s:=⟨G,g,d,tk,os⟩) ((wv.extBut t.extBut D.i2z).extBut i.extBut D.i12.symm) ((tm.extBut t.extBut D.l2z).extBut i.extBut D.l2i1) ey λh wd j=>Lg ?_);!Lg (Lg ?_);!KE (NV (hsz:=by show 2<=Ld;decide) ?_);replace i:Heap.SameBut u ha G:=i;replace j:Heap.SameBut v G h:=j;@a:h.objs.size=n.objs.size:=by rw[j.1,i.1,t.1]
  @f:∀ c o,c≠z->c≠u->c≠v->n.get? c=PN o->h.get? c=PN o:=λc o M J C e=>j.extBut _ _ C (i.extBut _ _ J (t.extBut _ _ M e));@B:h.get? z=PN (zpO (LY T) PU p L):=j.extBut _ _ D.i2z.symm (i.extBut _ _ D.i1z.symm ga);@we:LH h u l (k+1):=wb.extBut j.extBut D.i12;@e:=q (h.push { cls:=.type "tuple",data:=.seq #[x,y] }) ⟨T,PU,N,aAb _ B,aAb _ (f T N n1 n2 n3 gT),n1,n2,n3,n4⟩
   (by &o,I,r:=we;PM o,aAb _ I,r) (by &o,I,r:=wd;PM o,aAb _ I,r)
   (by show(h.push _).get? n.objs.size=_;rw[<- a];~aAp _ rfl) (by rw[aAK,a]) λc o M J C ec=>aAb _ (f c o M J C ec)
  !Lg ⟨_,rfl,Lg ?_⟩;rw[<- a]at e;~e
~tM{z h y u v l m:Ll}{k:Nat}{xs:Array Li}(J:A.handled=PR)(D:Mu z h y u v l m)(Z:ZS s.heap z h y u v)(S:LQ s.heap h (.ref u) (.ref v))
  (L:LH s.heap u l k) (N:Mk s.heap l xs) (H:xs[k]?=PR)
  (q:∀ h',(∀ c o,c≠z->c≠u->c≠v->s.heap.get? c=PN o->h'.get? c=PN o)->Q PR { s with heap:=h' }):Lm (Lo prog w) A (Md (.ref z)) Q E s:=by
 &T,I,U,f,P,n1,X,n3,W:=Z;@M:s.TypeIs (.ref z) "zip" :=⟨_,f,rfl⟩;&C,g,d,B,os:=s;PL Md;!KE (Ni (LI (name:=Str.ofString "__next__") M F.slot_zip_next (LV F.slot_zip_next M F.entry_zip_next ?_ (F.args_zip_next_1 _))));!show Lm _ _ (Ou (.ref z) 2 >>= _) _ _ _ from KE (Ly f rfl (x:=.bool PV) rfl ?_);!KE (Ly f rfl (x:=.ref h) rfl (KE (LJ S rfl ?_)));!KE ?_;PL Builtin.SmallTypes.ownedTupleIsFree;!KE (Ly f rfl (x:=LY T) rfl ?_);!KE (AD ?_);rw[aBy];rw[show C.get? T=PN U from P,Ln (by simp)];!KE (Ly f rfl (x:=.bool I) rfl ?_)
 #I with
 |true =>
  !Lg ?_;rw[Ln (by decide)];!KE ?_;rw[<- aBm];PK[aBe,aBB];!KE (KE (Lr ?_));!KE (eO (s:=⟨C,g,d,B,os⟩) J (L) (N) H λn e p a=>?_);&o,i,r:=a;~KE (MZ (T:= "StopIteration") (b:=PU) ⟨o,i,r⟩ NW (Lg (q n λc o G j O e=>p _ _ j (e))))
 |false =>
  !KE (LZ f (by simp) λR Y t=>Lg ?_);rw[Ln (by decide)];!KE ?_;rw[<- aBm];PK[aBe,aBB];!KE (KE (Lr ?_));!KE (eO (s:=⟨R,g,d,B,os⟩) J (L.extBut t.extBut D.i1z) (N.extBut t.extBut D.l1z) H λn e p a=>?_);&o,i,r:=a;~KE (MZ (T:= "StopIteration") (b:=PU) ⟨o,i,r⟩ NW (Lg (q n λc o G j O e=>p _ _ j (t.extBut _ _ G e))))
end
~gA:ML (.type "zip") "__getattr__" = pure none:=IO
~lm:ML (.type "zip") "keys" = pure none:=IO
~tN:Ps table "zip.__getattribute__" = PN Builtin.«object.__getattribute__»:=entryFor_alias (id':= "object.__getattribute__") (IO) (by decide +kernel) (by decide +kernel) (IO)
~ng(a:Ll)(fs:Array Li)(sl:Array (PY Li))(u:Tok) :
  Pj (Builtin.«object.__getattribute__» ⟨[.ref a,.str "keys" u],[]⟩) (λA R s=>s.heap.get? a=PN { cls:=.type "zip",dict:=PR,data:=.fields fs,slots:=sl }/\raisesAttr (.ref a) "keys" A R s):=
 Meets.of_wp λprog w A R s hs=>by
  &hp,g,d,tk,os:=s;&hx,hr:=hs;@miss:=lm;unfold Builtin.«object.__getattribute__»;repeat (any_goals (first | assumption | wp_step))
  (try PK[nm,aA2,M8]);repeat (any_goals (first | assumption | wp_step))
  ~wpAny_raiseAttrError hr.1 hr.2 (attrMsg_fits (by decide +kernel) (by decide))
section
variable {prog:Lw}{w:Lu}{A:LM}{E:Li->Lk->Prop}{s:Lk}
~iu{a:Ll}{fs:Array Li}{sl:Array (PY Li)}{Q:PY Li->Lk->Prop}
  (hx:s.heap.get? a=PN { cls:=.type "zip",dict:=PR,data:=.fields fs,slots:=sl }) (hA:A.handled=PR)
  (h:∀ h' tk e,Heap.NewExcOf s.heap h' e "AttributeError" ->Q PR { s with heap:=h',toks:=tk }) :
  Lm (Lo prog w) A (OZ (.ref a) "keys") Q E s:=by
 &hp,g,d,tk,os:=s;@hT:∀ tk',(⟨hp,g,d,tk',os⟩:Lk).TypeIs (.ref a) "zip" :=λ_=>⟨_,hx,rfl⟩;@f1:=Of;@f3:=PySem.F.slot_zip_getattribute.lookup;@f4:=PySem.F.slot_zip_getattribute.bind (.ref a);@f5:=gA;unfold OZ getAttrBy? getAttrBy
 repeat (any_goals (first | assumption | ~hT _ | ((with_reducible show Lm _ _ (call (Value.builtin "zip.__getattribute__") _ _) _ _ _);!Oe PySem.F.slot_zip_getattribute (hT _) tN (PySem.F.args_zip_getattribute_2 _ _) (ng a fs sl _) ⟨hx,hA,λh' tk' e hx'=>?_⟩) | wp_step))
 &t',u',he:=hx'.there;show Lm _ _ (MO _ _ _ _ _ _ _) _ _ _;PL MO
 repeat (any_goals (first | assumption | wp_step))
 all_goals ~h _ _ _ hx'.of
§ZQ(h:LE)(z P0 P1 u v:Ll):Prop:=(MY h z P0 P1 .none/\∃ a b,LQ h P1 a b)\/ZS h z P0 P1 u v
~iX(D:Mu z j g u v l m)(Z:ZQ s.heap z j g u v)(C:LQ s.heap j (.ref u) (.ref v))
  (i:LH s.heap u l k) (p:LH s.heap v m k) (F:Mk s.heap l xs) (G:Mk s.heap m ys) (B:xs[k]?=PN x) (H:ys[k]?=PN y)
  (q:∀ h',ZS h' z j g u v->LH h' u l (k+1)->LH h' v m (k+1)->LQ h' s¢ x y->h'.objs.size=s¢+1 ->
   (∀ c o,c≠z->c≠g->c≠u->c≠v->s.heap.get? c=PN o->h'.get? c=PN o)->Q (PN (.ref s¢)) { s with heap:=h' }):Lm (Lo prog w) A (Md (.ref z)) Q E s:=by
 rcases Z with⟨Z,a,b,I⟩ | Z
 ·~gx (ta:=PU) (tb:=PU) D Z C I i p F G B H λh' n _ t r d f h=>q h' ⟨_,PV,_,n,d,aAx (aAd Z),aAx (by &o,e,_:=i;~aAd e),aAx (by &o,e,_:=p;~aAd e),rfl⟩ t r d f h
 ·~qQ D Z C i p F G B H λh' n t r d f h=>q h' n t r d f λc o J _ M L e=>h c o J M L e
~ln(d:A.handled=PR)(D:Mu z h f u v l m)(Z:ZQ s.heap z h f u v)(i:LQ s.heap h (.ref u) (.ref v))
  (g:LH s.heap u l k) (y:LH s.heap v m k) (n:Mk s.heap l xs) (t:Mk s.heap m ys) (j:xs[k]?=PR)
  (q:∀ h',(∀ c o,c≠z->c≠f->c≠u->c≠v->s.heap.get? c=PN o->h'.get? c=PN o)->Q PR { s with heap:=h' }):Lm (Lo prog w) A (Md (.ref z)) Q E s:=by
 rcases Z with⟨Z,a,b,x⟩ | Z
 ·~iS (ta:=PU) (tb:=PU) d D Z i x g y n t (.inl j) q
 ·~tM d D Z i g n j λh' r=>q h' λc o B _ p C e=>r c o B p C e
end
section
variable {prog:Lw}{w:Lu}{K:Type}[DecidableEq K]{knd:KeyKind prog w K}{A:LM}{E:Li->Lk->Prop}
structure ZOff(d z P0 P1 u v l m:Ll):Prop where
 z:d≠z
 P0:d≠P0
 P1:d≠P1
 u:d≠u
 v:d≠v
 l:d≠l
 m:d≠m
~dO{z I J u v l m d:Ll}{xs ys:Array Li}{kvs:PQ (K×Li)}{R:OV->Lk->Prop}(hh:A.handled=PR)(D:Mu z I J u v l m)(O:ZOff d z I J u v l m)
  (hx:xs.size=kvs°) (hk:∀ (i:Nat) (g:K×Li),kvs[i]?=PN g->∃ j,xs[i]?=PN j/\ys[i]?=PN g.2/\knd.is g.1 j=PU) (hsz:kvs°+kvs°<=Ld) :
  ∀ (n i:Nat) (s:Lk) (f:PQ (K×Li)),kvs° - i=n->i<=kvs°->f°<=i->ZQ s.heap z I J u v->LQ s.heap I (.ref u) (.ref v)->LH s.heap u l i->LH s.heap v m i->Mk s.heap l xs->Mk s.heap m ys->s.heap.DictOf knd d f ->
   (∀ h' tk,h'.DictOf knd d (PH f (kvs.drop i))->(∀ b o,b≠d->b≠z->b≠J->b≠u->b≠v->s.heap.get? b=PN o->h'.get? b=PN o)->R (.ok (.ret .none)) { s with heap:=h',toks:=tk }) ->
   MT (Lo prog w) A (.builtin "dict.update.loop" ⟨[.ref d,.ref z,LY i,.none],[]⟩) R s:=by
 intro n
 induction n with
 |zero =>
  intro i s f hn hi ha Z Q Y wv W U N X;@e:i=kvs°:=or
  !LA F.entry_dict_update_loop ?_;rw[Around.under_plainId F.plain_dict_update_loop _];show Lm _ A.in1 (Md (.ref z) >>= _) _ _ s;!KE (ln (by first | ~hh | simpa using hh) D Z Q Y wv W U (by rw[e,<- hx];simp) λh' eb=>?_);show Lm _ _ (Builtin.Dict.addKeywords d [] >>= _) _ _ _;@t:h'.DictOf knd d f:=by
   &o,es,ep,h,r:=N;PM o,es,ep,eb d o O.z O.P1 O.u O.v h,r
  @q:=X h' s.toks (by rw[e,aBQ];~t) λb o _ C B y p z=>eb b o C B y p z;~KE (Lg (Lg q))
 |succ n ih =>
  intro i s f hn hi ha Z Q Y wv W U N X;@k:i < kvs°:=or
  obtain⟨g,x⟩:∃ g,kvs[i]?=PN g:=⟨_,aAh k⟩;&j,ex,ey,G:=hk i g x;!LA F.entry_dict_update_loop ?_;rw[Around.under_plainId F.plain_dict_update_loop _];show Lm _ A.in1 (Md (.ref z) >>= _) _ _ s;!KE (iX D Z Q Y wv W U ex ey λP Z1 wu1 wv1 H sz1 L=>?_);@M:P.DictOf knd d f:=by
   &o,es,ep,h,r:=N;PM o,es,ep,L d o O.z O.P1 O.u O.v h,r
  @ld:d < s¢:=by &o,_,_,e,_:=N;~aAd e
  !KE (Lr ?_);!KE (O0 ?_);PL Builtin.Dict.pairItems;!KE (L8 (T:= "tuple") ⟨_,H,rfl⟩ ?_);rw[Lj (by decide)];!KE (LJ H rfl ?_);!Lg ?_;show Lm _ _ (Nb [j,g.2] (dictSet d j g.2)) _ _ _;!Lr (N2 (s:={ s with heap:=P }) G M (λh2 hd2 sb2=>?_) or);!Lg ⟨LX F.plain_dict_update_loop _,?_⟩;@a:∀ b o,b≠d->P.get? b=PN o->h2.get? b=PN o:=λb o S z=>(sb2.2 b S).trans z;@Z2:ZQ h2 z I J u v:=by
   &T,f1,oT,gz,gT,C,B,y,p:=Z1;!.inr ⟨T,f1,oT,a _ _ O.z.symm gz,a _ _ (λc=>?_) gT,C,B,y,p⟩;&o,_,_,h,hc,_:=M;@E:P.get? d=PN oT:=by rw[<- c];~gT
   rw[h]at E;obtain rfl:=Option.some.inj E;rw[hc.1]at p;~absurd (Value.type.inj p) (by decide)
  @e:LY ((i:Int)+1)=LY ((i+1:Nat):Int):=by rw[aCa];rfl
  rw[e];!ih (i+1) { s with heap:=h2,toks:=s.toks+1 } (PF f g.1 g.2) or k (by @:=OA f g.1 g.2;on) Z2 (a _ _ O.P0.symm (L _ _ D.TIz D.TITO D.TIi1 D.TIi2 Q)) (by &o,h,r:=wu1;PM o,a _ _ O.u.symm h,r) (by &o,h,r:=wv1;PM o,a _ _ O.v.symm h,r) (by &o,h,r:=W;PM o,a _ _ O.l.symm (L _ _ D.l1z D.l1TO D.l1i1 D.l1i2 h),r) (by &o,h,r:=U;PM o,a _ _ O.m.symm (L _ _ D.l2z D.l2TO D.l2i1 D.l2i2 h),r) hd2 λh' tk t k'=>?_;@q:=X h' tk (by
   @z:kvs.drop i=g :: kvs.drop (i+1):=by
    rw[aBc k];rw[aAh k]at x;rw[Option.some.inj x]
   rw[z];~t) λb o S C B y p z=>k' b o S C B y p (a b o S (L b o C B y p z))
  ~q
end
section
variable {prog:Lw}{w:Lu}{K:Type}[DecidableEq K]{knd:KeyKind prog w K}{A:LM}{E:Li->Lk->Prop}
~iw{s:Lk}{xs ys:Array Li}{a b:Li}{kvs:PQ (K×Li)}(hh:A.handled=PR)(D:Mu z N x u v l m)(Z:MY s.heap z N x .none)(L:LQ s.heap N (.ref u) (.ref v))(P:LQ s.heap x a b)
  (I:LH s.heap u l 0) (R:LH s.heap v m 0) (O:Mk s.heap l xs) (J:Mk s.heap m ys)
  (hx:xs.size=kvs°) (hk:∀ (i:Nat) (C:K×Li),kvs[i]?=PN C->∃ n,xs[i]?=PN n/\ys[i]?=PN C.2/\knd.is C.1 n=PU) (hsz:kvs°+kvs°<=Ld)
  (h:∀ h' tk,h'.DictOf knd s¢ (PH [] kvs)->(∀ b o,b≠z->b≠x->b≠u->b≠v->s.heap.get? b=PN o->h'.get? b=PN o)->Q (.ref s¢) { s with heap:=h',toks:=tk }) :
  Lm (Lo prog w) A (call (.type "dict") [.ref z]) Q E s:=by
 !O1 (Q₁:=λp g=>p=.ref s¢/\g={ s with heap:=s.heap.push _ }) F.kt_called_dict (F.kt_typeCall_dict_1 _) F.entry_dict_init (OB _ ⟨rfl,rfl⟩) ?_;rintro p g ⟨rfl,rfl⟩;@f:(s.heap.push _).DictOf knd s¢ []:=Heap.DictOf.new s.heap;!⟨f.typeIs,F.args_dict_init_2 _ _,?_⟩;unfold Builtin.«dict.__init__»;!KE ?_;PL Builtin.Dict.selfAndRest;!KE (NH f.typeIs ?_);!Lg ?_;show Lm _ _ (Builtin.Dict.updateFrom "dict.__init__" s¢ (.ref z) [] .none) _ _ _;PL Builtin.Dict.updateFrom;@G:∀ b o,s.heap.get? b=PN o->(s.heap.push { cls:=.type "dict",data:=.dict #[] }).get? b=PN o:=λb o e=>aAb _ e;!KE (L8 (T:= "zip") ⟨_,G _ _ Z,rfl⟩ ?_);rw[Lj (by decide)];!KE (iu (G _ _ Z) (by simp_all) λh1 W e y=>?_);rw[Lj (by rfl)];!KE (MM ?_);@k:=λb o z=>y.keeps b o z;@d:=λb o z=>k b o (G b o z);!KE (MF (d _ _ Z) ?_);!Lg ⟨LX F.plain_dict_update_loop _,?_⟩;@j:∀ {c:Ll}{o:Obj},s.heap.get? c=PN o->s¢≠c:=λe=>aAx (aAd e);!dO (knd:=knd) (kvs:=kvs) (l:=l) (m:=m) (by simp_all) D ⟨j Z,j L,j P,?_,?_,?_,?_⟩ hx hk hsz kvs° 0 _ [] or (aAM _) (aAo _) (.inl ⟨d _ _ Z,_,_,d _ _ P⟩) (d _ _ L) ?_ ?_ ?_ ?_ ?_ λh' tk B U=>⟨rfl,?_⟩
 ·&o,e,_:=I;~j e
 ·&o,e,_:=R;~j e
 ·&o,e,_:=O;~j e
 ·&o,e,_:=J;~j e
 ·&o,e,r:=I;PM o,d _ _ e,r
 ·&o,e,r:=R;PM o,d _ _ e,r
 ·&o,e,r:=O;PM o,d _ _ e,r
 ·&o,e,r:=J;PM o,d _ _ e,r
 ·&Y,es,X,t,r:=f;PM Y,es,X,k _ _ t,r
 ·~h h' tk B λb H n1 n2 S n4 e=>U b H (aAs (aAd e)) n1 n2 S n4 (d b H e)
end
section
variable {X:Cx}
~qR{K:W.Frag}:∀ {ws:PQ Str}{us}{xs ys}{its a},IsPs K H (ws.map Dt.str) xs->Vals xs its->IsPs K H us ys->Vals ys a->us°=ws° ->
  ∃ (kvs:PQ (Key×V)) (vs:PQ _),KV kvs vs/\kvs.map (·.1)=(ws.zip us).map (λp=>Sum.inr p.1)/\kvs°=ws° /\
   (∀ z,(bo (ws.zip us) z=PR->aY kvs (Sum.inr z:Key)=PR)/\∀ d,bo (ws.zip us) z=PN d->∃ v,aY kvs (Sum.inr z:Key)=PN v/\IsP K H d v) /\
   its°=vs°/\∀ (i:Nat) (b),vs[i]?=PN b->∃ c,its[i]?=PN c/\a[i]?=PN b.2/\(aq X.prog X.w).is b.1 c=true:=by
 intro ws
 induction ws with
 |nil =>
  intro us xs ys its a h g l j e
  #h
  #g
  ~⟨[],[],.nil,rfl,rfl,λz=>⟨λ_=>rfl,λd q=>by #q⟩,rfl,λi b q=>by simp at q⟩
 |cons f ws C =>
  intro us xs ys its a h g l j e
  #us with
  |nil=>cases e
  |cons t us =>
  #h with
  |cons D h =>
  #l with
  |@cons _ _ v _ J l =>
  #g with
  |cons B g =>
  #j with
  |@cons _ u _ _ w j =>
  &kvs,vs,s,A,G,y,F,E:=C h g l j (Nat.succ.inj e)
  #D
  &x,rfl:=B;!⟨(Sum.inr f,v) :: kvs,(Sum.inr f,u) :: vs,.cons ⟨rfl,w⟩ s,by simp[A],by simp[G],λz=>?_,by simp[F],λi b q=>?_⟩
  ·by_cases n:f=z
   ·subst n;@o:bo ((f :: ws).zip (t :: us)) f=PN t:=by simp[bo]
    @r:aY ((Sum.inr f,v) :: kvs) (Sum.inr f:Key)=PN v:=by simp[aY]
    PM λq=>(by rw[o]at q;#q),λd q=>(by simp_all)
   ·@o:bo ((f :: ws).zip (t :: us)) z=bo (ws.zip us) z:=by simp[bo,n]
    @r:aY ((Sum.inr f,v) :: kvs) (Sum.inr z:Key)=aY kvs (Sum.inr z:Key):=by simp[aY,n]
    rw[o,r];~y z
  ·#i with
   |zero =>
    simp at q;subst q;PM _,rfl,rfl,fb (k:=Sum.inr f) ⟨x,rfl⟩
   |succ i=>~E i b (by simpa using q)
§Ci(K:W.Frag)(ta:TA):TE:=λσ H Q=>ta σ H λvs H1=>∃ (x y:V) (ws:PQ Str) (us:PQ Dt),vs=[x,y]/\IsP K H1 (.tup (ws.map Dt.str)) x/\IsP K H1 (.tup us) y/\us°=ws°/\ws.Nodup/\ws°<=1000 /\
 ∀ p H',Same H1 H'->H1 p=PR->DicQ K H' p (ws.zip us)->Q (.ref p) H'
~tO{a b:Expr}{ta:TA}{p Z pos c:Pos}(hc:X.calm=PU)(F:Gl X "dict")(O:X.mg "dict" = PR)(J:Gl X "zip")(hmz:X.mg "zip" = PR)(ha:PA X [a,b] ta)
  (hs:Lq [a,b] X.env=[(PV,L3 a X.env),(PV,L3 b X.env)]:=by rfl) (B:Lq [b] X.env=[(PV,L3 b X.env)]:=by rfl)
  (ho:Lq [.Call (.Name "zip" Z) [a,b] [] c] X.env=[(PV,L3 (.Call (.Name "zip" Z) [a,b] [] c) X.env)]:=by rfl) :
  PE X (.Call (.Name "dict" p) [.Call (.Name "zip" Z) [a,b] [] c] [] pos) (Ci X.K ta):=by
 intro A s σ H Q I h;!LR (b6 I F O boot_dict ?_ (by decide) (by decide));!PyProof.Rows.callWith_type1 ?_ (by rw[ho];rfl) rfl;rw[ho];!Calls.spliced_cons ?_;!LR (b6 I J hmz Pw ?_ (by decide) (by decide));!PyProof.Rows.callWith_type1 (thn (ha c A s σ H _ I h) λus j ⟨m,H1,g,r1,q1⟩=>?_) (by rw[hs,B]) (by rw[B];rfl);&x,y,W,ds,e,hx,hy,el,nd,T,q:=q1;subst e;&M,zs,rfl,L,_,ra:=hx.unref;&l2,zs2,rfl,P,_,rb:=hy.unref;&u,v,rfl,ru,rv:=r1.two
 #ru
 #rv
 &R,rr,G,_:=g.tuple L;&t,U,f,_:=g.tuple P;@lt1:j¢ > M:=by &o,e,_:=G;~aAd e
 @lt2:j¢ > l2:=by &o,e,_:=f;~aAd e
 !dN (ta:=PU) (tb:=PU) G f λY z1 z2 z3 z4 z5 zs N=>?_;!Calls.spliced_nil ?_;&kvs,m,S,k2,k3,k4,k5,k6:=qR (X:=X) ra rr rb U el;@hl:m°=W°:=by rw[<- S°,k3]
 !iw (s:={ j with heap:=Y }) (knd:=aq X.prog X.w) (xs:=R.toArray) (ys:=t.toArray) (kvs:=m) (g.ok.hd hc) ?D z1 z2 z3 z4 z5 ?T1 ?T2 (by rw[aAB];~k5) (λi kv z=>?_) (aAq (Nat.add_le_add (hl ▸ T) (hl ▸ T)) (by decide)) λh2 tk dd kp=>?_
 case D=>constructor <;> (show ¬ (@Eq Nat _ _)) <;> on
 case T1=>&o,e,r:=G;PM o,N _ _ e,r
 case T2=>&o,e,r:=f;PM o,N _ _ e,r
 ·&key,w1,w2,w3:=k6 i kv z;~⟨key,by simpa using w1,by simpa using w2,w3⟩
 ·@E:(m.map (·.1)).Nodup:=by
   rw[<- S.keys,k2];@z:(W.zip ds).map (λp=>(Sum.inr p.1:Key))=((W.zip ds).map (·.1)).map Sum.inr:=by rw[aAz];rfl
   rw[z,aBR or];~List.Pairwise.map _ (λa b n q=>n (Sum.inr.inj q)) nd
  rw[N4 m E]at dd;@k:∀ b o,j.heap.get? b=PN o->h2.get? b=PN o:=λb o e=>by
   @lb:j¢ > b:=aAd e;!kp b o ?_ ?_ ?_ ?_ (N b o e) <;> (show ¬ (@Eq Nat _ _)) <;> on
  @C:j¢<=Y.objs.size:=or
  @hf:=g.hok.fresh C;@I2:=g.laid (t':=tk) k C
   (mY (by rw[k3];~aAU (ci T)) (by simp;~aAx (aAm g.big C)) S dd)
  !⟨.ref Y.objs.size,_,I2,rfl,q _ _ (ay hf _) hf ⟨kvs,aw,k2,λz=>⟨(k4 z).1,λd l=>?_⟩⟩⟩;&v,M,l2:=(k4 z).2 d l;PM v,M,l2.same (ay hf _)
end
open AutoSeq1 (wpAny_loadPart')
~nh:ML (.type "zip") "__len__" = pure none:=IO
~lq:ML (.type "zip") "__length_hint__" = pure none:=IO
¶lsO(acc:Array Li)(c:Nat):Obj:={ cls:=.type "list",dict:=PR,data:=.seq acc c,slots:=#[] }
structure ZOut(lo:Nat)(xs ys acc:Array Li)(h:LE):Prop where
 pr:∀ (j:Nat) (e:Li),acc[j]?=PN e->∃ (T:Ll) (x y:Li),e=.ref T/\lo<=T/\xs[j]?=PN x/\ys[j]?=PN y/\LQ h T x y
 ij:∀ (j k:Nat) (e:Li),acc[j]?=PN e->acc[k]?=PN e->j=k
~ZOut.keep{lo}(Z:ZOut lo xs ys g h)(k:∀ T x y,lo<=T->LQ h T x y->LQ h' T x y):ZOut lo xs ys g h' :=
 ⟨λj e i=>by &T,x,y,a,b,c,d,f:=Z.pr j e i;~⟨T,x,y,a,b,c,d,k T x y b f⟩,Z.ij⟩
structure ZpL(h0:LE)(z P0 P1 u v l m S:Ll)(xs ys:Array Li)(i:Nat)(acc:Array Li)(h:LE):Prop where
 zq:ZQ h z P0 P1 u v
 i0:LQ h P0 (.ref u) (.ref v)
 wu:LH h u l i
 wv:LH h v m i
 tl:Mk h l xs
 tm:Mk h m ys
 ls:∃ c,h.get? S=PN (lsO acc c)
 sz:acc.size=i
 ot:ZOut h0.objs.size xs ys acc h
 kp:∀ c o,c≠z->c≠P1->c≠u->c≠v->c≠S->h0.get? c=PN o->h.get? c=PN o
 bg:h0.objs.size<=h.objs.size
section
variable {prog:Lw}{w:Lu}{A:LM}{E:Li->Lk->Prop}{s:Lk}
~zp_loop{R:OV->Lk->Prop}{h0:LE}{z P0 P u v l m S:Ll}{xs ys:Array Li}{U:Li}(hh:A.handled=PR)(hn:xs.size<=Ld)(hxy:xs.size=ys.size)(D:Mu z P0 P u v l m)(O:ZOff S z P0 P u v l m)
  (lz:z < h0.objs.size) (lP:P < h0.objs.size) (lu:u < h0.objs.size) (lv:v < h0.objs.size) (lS:S < h0.objs.size) :
  ∀ (k i:Nat) (s:Lk) (b:Array Li),xs.size - i=k->i<=xs.size->ZpL h0 z P0 P u v l m S xs ys i b s.heap ->
  (∀ (h':LE) (tk:Nat) (g:Array Li),(∃ c,h'.get? S=PN (lsO g c))->g.size=xs.size->ZOut h0.objs.size xs ys g h'->(∀ c o,c≠z->c≠P->c≠u->c≠v->c≠S->h0.get? c=PN o->h'.get? c=PN o)->R (.ok (.ret U)) { s with heap:=h',toks:=tk }) ->
  MT (Lo prog w) A (.builtin "list.extend.loop" ⟨[.ref S,.ref z,U],[]⟩) R s:=by
 intro k
 induction k with
 |zero =>
  intro i s b p hi L q;obtain rfl:i=xs.size:=or
  !LA F.entry_extend_loop ?_;rw[Around.under_plainId F.plain_extend_loop _];!show Lm _ A.in1 (Md (.ref z) >>= _) _ _ s from KE (ln (by first | ~hh | simpa using hh) D L.zq L.i0 L.wu L.wv L.tl L.tm (by simp) λh' sx=>?_);&c,lc:=L.ls;!Lg (q h' s.toks b ⟨c,sx _ _ O.z O.P1 O.u O.v lc⟩ L.sz (L.ot.keep λT x y lo e=>sx _ _ (aAx (aAm lz lo)) (aAx (aAm lP lo)) (aAx (aAm lu lo)) (aAx (aAm lv lo)) e) λc o H C E t X N=>sx _ _ H C E t (L.kp c o H C E t X N))
 |succ k ih =>
  intro i s b p hi L q;@lt:i < xs.size:=or
  @M:i < ys.size:=or
  !LA F.entry_extend_loop ?_;rw[Around.under_plainId F.plain_extend_loop _];!show Lm _ A.in1 (Md (.ref z) >>= _) _ _ s from KE (iX D L.zq L.i0 L.wu L.wv L.tl L.tm (aAT lt) (aAT M) λh' a1 a2 a3 a4 a5 I=>?_);&c,lc:=L.ls;@B:=I _ _ O.z O.P1 O.u O.v lc;@S':=aAI (Obj.mapSeq (·.push (Value.ref s¢))) B rfl;@a:∀ c o,c≠S->h'.get? c=PN o->(h'.update S (Obj.mapSeq (·.push (Value.ref s¢)))).get? c=PN o:=λc o n N=>(aAD _ _ (Ne.symm n)).trans N;@zu:(h'.update S (Obj.mapSeq (·.push (Value.ref s¢)))).objs.size=h'.objs.size:=(Heap.SameBut.update ..).1;@bg:=L.bg;!KE ?_;!MK B rfl (Lg ⟨LX F.plain_extend_loop _,ih (i+1) _ (b.push (.ref s¢)) or lt ?_ λh2 tk2 W r1 Y r3 Z=>q h2 tk2 W r1 Y r3 Z⟩) (by rw[L.sz];on) (by show(b.push (Value.ref s¢)).size<=Ld+1;rw[Array.size_push,L.sz];on);generalize h'.update S (Obj.mapSeq (·.push (Value.ref s¢)))=h2 at S' a zu ⊢;@nw:∀ j:Nat,b[j]?=PN (Value.ref s¢)->False:=λj d=>by
   &T,x,y,e,_,_,_,f:=L.ot.pr j _ d;injection e with e
   @:=aAd f;rw[<- e]at this;~aAN _ this
  !⟨?_,?_,?_,?_,?_,?_,⟨_,S'⟩,by rw[Array.size_push,L.sz],⟨λj e d=>?_,λj k e d p=>?_⟩,λc' o H C E t X N=>a _ _ X (I _ _ H C E t (L.kp c' o H C E t X N)),by rw[zu,a5];~Nat.le_succ_of_le bg⟩
  ·&T,f1,oT,gz,gT,H,C,E,t:=a1;!.inr ⟨T,f1,oT,a _ _ O.z.symm gz,a _ _ (λc=>?_) gT,H,C,E,t⟩;@J:h'.get? S=PN oT:=by rw[<- c];~gT
   rw[B]at J;obtain rfl:=Option.some.inj J;~absurd (Value.type.inj t) (by decide)
  ·~a _ _ O.P0.symm (I _ _ D.TIz D.TITO D.TIi1 D.TIi2 L.i0)
  ·&o,G,r:=a2;PM o,a _ _ O.u.symm G,r
  ·&o,G,r:=a3;PM o,a _ _ O.v.symm G,r
  ·&o,G,r:=L.tl;PM o,a _ _ O.l.symm (I _ _ D.l1z D.l1TO D.l1i1 D.l1i2 G),r
  ·&o,G,r:=L.tm;PM o,a _ _ O.m.symm (I _ _ D.l2z D.l2TO D.l2i1 D.l2i2 G),r
  ·rw[Array.getElem?_push]at d
   split at d
   ·rename_i ej
    rw[L.sz]at ej
    #d
    subst ej;PM _,xs[j],ys[j],rfl,bg,aAT lt,aAT M,a _ _ (aAx (aAm lS bg)) a4
   ·&T,x,y,r1,Y,r3,Z,r5:=L.ot.pr j e d;PM T,x,y,r1,Y,r3,Z,(λT x y lo e=>a _ _ (aAx (aAm lS lo)) (I _ _ (aAx (aAm lz lo)) (aAx (aAm lP lo)) (aAx (aAm lu lo)) (aAx (aAm lv lo)) e)) T x y Y r5
  ·rw[Array.getElem?_push]at d p
   split at d
   ·#d
    split at p
    ·on
    ·~(nw k p).elim
   ·split at p
    ·#p
     ~(nw j d).elim
    ·~L.ot.ij j k e d p
~tR{z P0 P1 u v l m:Ll}{xs ys:Array Li}{a b:Li}{Q:PQ Li->Lk->Prop}(hh:A.handled=PR)(hn:xs.size<=Ld)(hxy:xs.size=ys.size)(D:Mu z P0 P1 u v l m)(Z:MY s.heap z P0 P1 .none)(I0:LQ s.heap P0 (.ref u) (.ref v))(I1:LQ s.heap P1 a b)
  (wu:LH s.heap u l 0) (wv:LH s.heap v m 0) (tl:Mk s.heap l xs) (tm:Mk s.heap m ys)
  (q:∀ (h':LE) (tk:Nat) (acc:Array Li),(∀ c o,c≠z->c≠P1->c≠u->c≠v->s.heap.get? c=PN o->h'.get? c=PN o)->acc.size=xs.size->ZOut s¢ xs ys acc h'->Q acc.toList { s with heap:=h',toks:=tk }) :
  Lm (Lo prog w) A (Pn (.ref z)) Q E s:=by
 @lt:∀ {c:Ll}{o:Obj},s.heap.get? c=PN o->c < s¢:=λe=>aAd e;@lz:=lt Z;@lP1:=lt I1;@lu:u < s¢:=by &o,e,_:=wu;~lt e
 @lv:v < s¢:=by &o,e,_:=wv;~lt e
 PL Pn;!KE (MU (LA F.entry_proto_collect ?_));rw[Around.under_plainId F.plain_proto_collect _];!show Lm _ A.in1 (newList [] >>= λl=>NE (.builtin "list.__iadd__" ⟨[l,.ref z],[]⟩)) _ _ s from KE (LW ?_);!Lg ⟨LX F.plain_list_iadd _,LA F.entry_list_iadd ?_⟩;rw[Around.under_plainId F.plain_list_iadd _];@hS:(s.heap.push { cls:=.type "list",data:=.seq ([]:PQ Li).toArray }).get? s¢=PN (lsO #[] 0):=aAp _ rfl;@k0:∀ c o,s.heap.get? c=PN o->(s.heap.push { cls:=.type "list",data:=.seq ([]:PQ Li).toArray }).get? c=PN o:=λc o e=>aAb _ e;@z0:(s.heap.push { cls:=.type "list",data:=.seq ([]:PQ Li).toArray }).objs.size=s¢+1:=aAK ..;generalize s.heap.push { cls:=.type "list",data:=.seq ([]:PQ Li).toArray }=G at hS k0 z0 ⊢;@hT1:Shared.TypeIs { s with heap:=G } (.ref z) "zip" :=⟨_,k0 _ _ Z,rfl⟩;!show Lm _ A.in1 (Builtin.List.listExtendWith (.ref s¢) (.ref z) (.ref s¢)) _ _ _ from ?_;PL Builtin.List.listExtendWith;!KE (L8 hT1 ?_);@n1:Builtin.List.listSameRef (.ref s¢) (.ref z)=false:=by simp[Builtin.List.listSameRef];~aAx lz
 PK[n1,show(Value.type "zip" == Value.type "list")=PV by decide,show(Value.type "zip" == Value.type "tuple")=PV by decide,aBY,aA2,M8];!KE (MF (k0 _ _ Z) ?_);!KE (Lr ?_);PL Builtin.List.listLengthHint;!KE (MJ hT1 nh ?_);!show Lm _ A.in1 (specialOf (Value.ref z) (Str.ofString "__length_hint__") >>= _) _ _ _ from KE (MJ hT1 lq (Lg ?_));!show Lm _ A.in1 (rule "list.extend.makes-room" >>= λ_=>Builtin.List.listTouch (.ref s¢) >>= λ_=>NE (.builtin "list.extend.loop" ⟨[.ref s¢,.ref z,.ref s¢],[]⟩)) _ _ _ from KE (MM (KE ?_));!show Lm _ A.in1 (OD s¢ (·.push .none) >>= λ_=>OD s¢ (·.pop)) _ _ _ from KE (MK hS rfl ?_);@S2:=aAI (Obj.mapSeq (·.push Value.none)) hS rfl;!MK S2 rfl ?_;@S3:=aAI (Obj.mapSeq (·.pop)) S2 rfl;@o3:∀ c o,s.heap.get? c=PN o->((G.update s¢ (Obj.mapSeq (·.push Value.none))).update s¢ (Obj.mapSeq (·.pop))).get? c=PN o:=λc o ec=>(aAD _ _ (Ne.symm (aAs (lt ec)))).trans ((aAD _ _ (Ne.symm (aAs (lt ec)))).trans (k0 c o ec));@z3:((G.update s¢ (Obj.mapSeq (·.push Value.none))).update s¢ (Obj.mapSeq (·.pop))).objs.size=s¢+1:=((Heap.SameBut.update ..).1).trans (((Heap.SameBut.update ..).1).trans z0);!show Lm _ _ _ _ _ { s with heap:=(G.update s¢ (Obj.mapSeq (·.push Value.none))).update s¢ (Obj.mapSeq (·.pop)) }from ?_;generalize(G.update s¢ (Obj.mapSeq (·.push Value.none))).update s¢ (Obj.mapSeq (·.pop))=G3 at S3 o3 z3 ⊢;@g1:∀ {c:Ll},c < s¢->c < G3.objs.size:=λh=>z3 ▸ aAX h;!Lg ⟨LX F.plain_extend_loop _,zp_loop (h0:=G3) hh hn hxy D (⟨aAx lz,aAx (lt I0),aAx lP1,aAx lu,aAx lv,aAx (by &o,e,_:=tl;~lt e),aAx (by &o,e,_:=tm;~lt e)⟩) (g1 lz) (g1 lP1) (g1 lu) (g1 lv) (z3 ▸ aBh _) xs.size 0 _ #[] rfl (aAM _) ?_ λh' tk acc' r1 r2 r3 r4=>?_⟩
 ·!⟨.inl ⟨o3 _ _ Z,a,b,o3 _ _ I1⟩,o3 _ _ I0,?_,?_,?_,?_,⟨_,S3⟩,rfl,⟨λj e hj=>by simp at hj,λj k e hj=>by simp at hj⟩,λc o _ _ _ _ _ ec=>ec,aAo _⟩
  ·&o,ho,r:=wu;PM o,o3 _ _ ho,r
  ·&o,ho,r:=wv;PM o,o3 _ _ ho,r
  ·&o,ho,r:=tl;PM o,o3 _ _ ho,r
  ·&o,ho,r:=tm;PM o,o3 _ _ ho,r
 ·&c,ls:=r1;!show Lm _ A (load s¢ >>= _) _ _ _ from KE (OS ls (Lg (q h' tk acc' (λc o n1 n2 n3 n4 ec=>r4 c o n1 n2 n3 n4 (aAs (lt ec)) (o3 c o ec)) r2 ⟨λj e hj=>?_,r3.ij⟩)));&T,x,y,p1,p2,p3,p4,p5:=r3.pr j e hj;~⟨T,x,y,p1,by rw[z3]at p2;~Nat.le_of_succ_le p2,p3,p4,p5⟩
end
structure ZNew(h:LE)(z P0 P1 u v l m:Ll)(xs ys:Array Li):Prop where
 D:Mu z P0 P1 u v l m
 Z:MY h z P0 P1 .none
 I0:LQ h P0 (.ref u) (.ref v)
 I1:∃ a b,LQ h P1 a b
 wu:LH h u l 0
 wv:LH h v m 0
 tl:Mk h l xs
 tm:Mk h m ys
~jN(z P0 P1 u v l m:Ll)(xs ys:Array Li)(hn:xs.size<=Ld)(hxy:xs.size=ys.size) :
  Pj (Builtin.«tuple.__new__» ⟨[.type "tuple",.ref z],[]⟩)
   (λA R s=>A.handled=PR/\ZNew s.heap z P0 P1 u v l m xs ys/\∀ (h':LE) (tk:Nat) (acc:Array Li),(∀ c o,c≠z->c≠P1->c≠u->c≠v->s.heap.get? c=PN o->h'.get? c=PN o)->acc.size=xs.size->ZOut s¢ xs ys acc h' ->
    R (.ok (.ret (.ref h'.objs.size))) { s with heap:=h'.push { cls:=.type "tuple",data:=.seq acc },toks:=tk }):=
 .of_wp λprog w A R s h=>by
  &hh,N,h:=h;&D,Z,I0,⟨a,b,I1⟩,wu,wv,tl,tm:=N;@hsub:=sub_tuple_self;@hinit:=init_tuple_lookup;@hmh:=madeHere_tuple;@hh1:A.in1.handled=none:=hh
  wp_walk using L8 (⟨_,Z,rfl⟩),tR hh1 hn hxy D Z I0 I1 wu wv tl tm
  intro h' tk acc kp sz ot;show Lm _ _ (Builtin.Tuple.tupleExact acc.toList.toArray >>= λv=>ret v) _ _ _;PL Builtin.Tuple.tupleExact;!KE (LW ?_ (show acc.toList.toArray.size<=Ld by PK[aBC];rw[sz];~hn));!Lg ⟨_,rfl,?_⟩;@e:acc.toList.toArray=acc:=by simp
  rw[e];~h h' tk acc kp sz ot
section
variable {prog:Lw}{w:Lu}{A:LM}{E:Li->Lk->Prop}{s:Lk}
~lr(f:A.handled=PR)(j:xs.size<=Ld)(b:xs.size=ys.size)(N:ZNew s.heap z i e u v l m xs ys)
  (h:∀ (h') (tk) (a),(∀ c o,c≠z->c≠e->c≠u->c≠v->s.heap.get? c=PN o->h'.get? c=PN o)->a.size=xs.size->ZOut s¢ xs ys a h'->Q (.ref h'.objs.size) { s with heap:=h'.push { cls:=.type "tuple",data:=.seq a },toks:=tk }) :
  Lm (Lo prog w) A (call (.type "tuple") [.ref z]) Q E s:=
 callType_new F.called_tuple (by decide) (F.typeCall_tuple_1 _) (F.newCall_tuple_1 _) (λd=>F.args_object_init_2 d _) F.entry_tuple_new
  (jN z i e u v l m xs ys j b) ⟨f,N,λh' tk a g k n=>⟨⟨_,aAp _ rfl,rfl⟩,h h' tk a g k n⟩⟩
end
¶AF(x y:Li):Obj:={ cls:=.type "tuple",data:=.seq #[x,y] }
inductive RwZ(h:LE)(lo:Nat):PQ V->PQ V->PQ (Ll×HO)->Prop
 |nil:RwZ h lo [] [] []
 |cons {T:Nat}{x y:Li}{v u:V}{vs us:PQ V}{r:PQ (Ll×HO)}:lo<=T->RelV v x->RelV u y->h.get? T=PN (AF x y)->RwZ h lo vs us r->RwZ h lo (v :: vs) (u :: us) ((T,plO [v,u] [x,y]) :: r)
~RwZ.low{lo}(R:RwZ h lo vs us r):∀ p∈r,lo<=p.1:=by
 induction R with
 |nil=>~λp a=>nomatch a
 |cons l _ _ _ _ b =>
  intro p a;rcases aAl.mp a with rfl | a
  ·~l
  ·~b p a
~RwZ.length{lo}(R:RwZ h lo vs us r):r°=vs°:=by
 induction R with
 |nil=>rfl
 |cons _ _ _ _ _ a=>rw[aAv,aAv,a]
~RwZ.ok{lo}(R:RwZ h lo vs us r):∀ p∈r,ObjOk P w H' h p.1 p.2:=by
 induction R with
 |nil=>~λp a=>nomatch a
 |cons l c b e _ d =>
  intro p a;rcases aAl.mp a with rfl | a
  ·~⟨e,by simp[Ld],_,.cons c (.cons b .nil),_,e,rfl,_,rfl⟩
  ·~d p a
§zD(ls ms:PQ Dt):PQ Dt:=(ls.zip ms).map λp=>.tup [p.1,p.2]
~RwZ.isPs{K}{lo}(c:Same H H')(R:RwZ h lo vs us r):∀ {ls ms},IsPs K H ls vs->IsPs K H ms us->(∀ p∈r,H' p.1=PN p.2)->IsPs K H' (zD ls ms) (r.map λp=>V.ref p.1):=by
 induction R with
 |nil =>
  intro ls ms a b _
  #a
  ~.nil
 |cons l m k e _ i =>
  intro ls ms a b f
  #a with
  |cons g a =>
  #b with
  |cons j b =>
  ~.cons (.tup (.inl (.inr ⟨_,f _ aAe⟩)) ⟨_,_,f _ aAe,rfl⟩ (.cons (g.same c) (.cons (j.same c) .nil))) (i a b λp d=>f p (aAk _ d))
~RwZ.of{lo:Nat}:∀ {xs ys}{its j us},Vals xs its->Vals ys j->us°=its°->its°=j°->(∀ (i:Nat) (e),us[i]?=PN e->∃ (T:Ll) (x y:Li),e=.ref T/\lo<=T/\its[i]?=PN x/\j[i]?=PN y/\h.get? T=PN (AF x y))->∃ r,RwZ h lo xs ys r/\us=r.map λp=>Value.ref p.1:=by
 intro xs
 induction xs with
 |nil =>
  intro ys its j us l k n m _
  #l
  obtain rfl:=aBg.mp n;obtain rfl:=aBg.mp m.symm
  #k
  PM [],.nil,rfl
 |cons a xs A =>
  intro ys its j us l k n m f
  #l with
  |@cons _ o _ _ z l =>
  #k with
  |nil=>cases m
  |@cons c u _ _ t k =>
  #us with
  |nil=>cases n
  |cons e us =>
  &T,x,y,rfl,w,q,E,s:=f 0 e rfl;obtain rfl:o=x:=by simpa using q
  obtain rfl:u=y:=by simpa using E
  &r,B,D:=A l k (Nat.succ.inj n) (Nat.succ.inj m) λi v C=>by
   &T,x,y,a,b,c,d,g:=f (i+1) v (by simpa using C);~⟨T,x,y,a,b,by simpa using c,by simpa using d,g⟩
  ~⟨_,.cons w z t s B,by rw[D];rfl⟩
section
variable {X:Cx}
§Fx(K:W.Frag)(ta:TA):TE:=λσ H Q=>ta σ H λvs H1=>∃ (x y:V) (ls ms:PQ Dt),vs=[x,y]/\IsP K H1 (.tup ls) x/\IsP K H1 (.tup ms) y/\ls°=ms°/\ls°<=1000/\∀ v H',Same H1 H'->IsP K H' (.tup (zD ls ms)) v->Q v H'
~xU{a b:Expr}{ta:TA}{p p' pos k:Pos}(hc:X.calm=PU)(S:Gl X "tuple")(hmd:X.mg "tuple" = PR)(W:Gl X "zip")(R:X.mg "zip" = PR)(ha:PA X [a,b] ta)
  (hs:Lq [a,b] X.env=[(PV,L3 a X.env),(PV,L3 b X.env)]:=by rfl) (L:Lq [b] X.env=[(PV,L3 b X.env)]:=by rfl)
  (ho:Lq [.Call (.Name "zip" p') [a,b] [] k] X.env=[(PV,L3 (.Call (.Name "zip" p') [a,b] [] k) X.env)]:=by rfl) :
  PE X (.Call (.Name "tuple" p) [.Call (.Name "zip" p') [a,b] [] k] [] pos) (Fx X.K ta):=by
 intro J s σ H Q I h;!LR (b6 I S hmd boot_tuple ?_ (by decide) (by decide));!PyProof.Rows.callWith_type1 ?_ (by rw[ho];rfl) rfl;rw[ho];!Calls.spliced_cons ?_;!LR (b6 I W R Pw ?_ (by decide) (by decide));!PyProof.Rows.callWith_type1 (thn (ha k J s σ H _ I h) λus w ⟨vs,H1,E,r1,q1⟩=>?_) (by rw[hs,L]) (by rw[L];rfl);&x,y,ls,ms,e,hx,hy,el,hz,q:=q1;subst e;&l1,N,rfl,Y,_,ra:=hx.unref;&l2,zs2,rfl,hl2,_,rb:=hy.unref;&u,v,rfl,ru,rv:=r1.two
 #ru
 #rv
 &F,rr,U,_:=E.tuple Y;&n,G,z,_:=E.tuple hl2;@lt1:w¢ > l1:=by &o,e,_:=U;~aAd e
 @lt2:w¢ > l2:=by &o,e,_:=z;~aAd e
 !dN (ta:=PU) (tb:=PU) U z λh' z1 z2 z3 z4 z5 N O=>?_;!Calls.spliced_nil ?_;@l:F°=ls°:=by rw[<- rr°,ra°]
 @t:n°=ls°:=by rw[<- G°,el,rb°]
 !lr (s:={ w with heap:=h' }) (xs:=F.toArray) (ys:=n.toArray) (E.ok.hd hc) (by rw[aAB,l];~aAU (ci hz)) (by rw[aAB,aAB,l,t]) ⟨?D,z1,z2,⟨_,_,z3⟩,z4,z5,?T1,?T2⟩ λC tk m kp sz ot=>?_
 case D=>constructor <;> (show ¬ (@Eq Nat _ _)) <;> on
 case T1=>&o,e,r:=U;PM o,O _ _ e,r
 case T2=>&o,e,r:=z;PM o,O _ _ e,r
 replace N:h'.objs.size=w¢+5:=N;&r,M,A:=RwZ.of (h:=C) (lo:=h'.objs.size) (us:=m.toList) rr G (by rw[aA7,sz,aAB]) (by rw[l,t]) λi e hi=>by
  &T,x,y,a,b,c,d,f:=ot.pr i e (by simpa using hi);~⟨T,x,y,a,b,by simpa using c,by simpa using d,f⟩
 @nd:(r.map (·.1)).Nodup:=by
  !List.pairwise_iff_getElem.mpr λi j hi hj hij e=>?_;@h1:m.toList[i]?=PN (Value.ref (r.map (·.1))[i]):=by rw[A,aAE,aAh (by simpa using hi)];simp
  @C:m.toList[j]?=PN (Value.ref (r.map (·.1))[i]):=by rw[A,aAE,aAh (by simpa using hj),e];simp
  @:=ot.ij i j _ (by simpa using h1) (by simpa using C);on
 @B:∀ p∈r,w¢<=p.1:=λp Z=>by @:=M.low p Z;rw[N]at this;on
 @fr:∀ p∈r,H1 p.1=none:=λp Z=>E.hok.fresh (B p Z);@P:Same H1 (lay H1 r):=jM fr nd;@kk2:∀ b o,w.heap.get? b=PN o->C.get? b=PN o:=λb o e=>by
  @lb:w¢ > b:=aAd e;~kp b o (show ¬ (@Eq Nat _ _)by on) (show ¬ (@Eq Nat _ _)by on) (show ¬ (@Eq Nat _ _)by on) (show ¬ (@Eq Nat _ _)by on) (O b o e)
 @I2:=E.many (t':=tk) kk2 P λb o eb=>by
  rcases oM eb with e | e
  ·~.inl e
  ·~.inr ⟨B _ e,M.ok _ e⟩
 &I3,hf:=I2.plain (t':=tk) (A ▸ iU r) (by rw[aAa,M°,<- ra°];~aAU (ci hz));&g,dp:=cZ (X:=X) (us:=m.toList) hf (M.isPs P ra rb (tF fr nd));~⟨.ref C.objs.size,_,by simpa using I3,rfl,q _ _ (P.trans g) dp⟩
end
open AutoSeq1 (wpAny_loadPart')
section
variable {P:Lw}{w:Lu}{A:LM}{E:Li->Lk->Prop}{s:Lk}
~tT(a:Li){Q₁:Li->Lk->Prop}(h:Q₁ (.ref s¢) { s with heap:=s.heap.push (cB (!w.params.followText "set-order")) }) :
  MT (Lo P w) A (.call (.builtin "set.__new__") ⟨[.type "set",a],[]⟩) (wants Q₁ E) s:=by
 !NF ?_;show Lm _ A.in1 (do checkBuiltinCall "set.__new__" ⟨[.type "set",a],[]⟩;NE (.builtin "set.__new__" ⟨[.type "set",a],[]⟩)) _ _ s;!KE (wpAny_of_eq (PySem.F.newCall_set_1 a) (Lg ⟨LX PySem.F.plain_set_new _,LA PySem.F.entry_set_new ?_⟩));rw[Around.under_plainId PySem.F.plain_set_new _];unfold Builtin.«set.__new__» Builtin.Frozenset.newClass;@hsub:=sub_set_self;&hp,g,d,tk,os:=s;dsimp only
 wp_walk
 !wpAny_askSetting (Lg ?_);dsimp only;PK[newObj];~KE (wpAny_alloc (Lg (Lg h)))
end
§SqE:Bool->W.Frag->Hp->Ll->PQ V->Prop
 |true=>SqT
 |false=>SqL
end L2
namespace PySem
open Sem (wp)
§Heap.Tr(h base:LE)(e:Ll)(cls:Li)(ws:Array Li)(fl:Li):Prop:=
 ∃ oe vs T oT ts,h.get? e=PN oe/\oe.cls=cls/\oe.data=.fields vs/\(∀ i,i≠1->vs[i]?=ws[i]?)/\vs[1]?=PN (.ref T)/\base.get? T=PR/\T≠e/\h.get? T=PN oT/\oT.data=.fields ts/\ts[3]?=PN fl
§Heap.Fl(base:LE)(l:PQ Env)(e:Ll)(cls:Li)(ws:Array Li)(fl:Li)(h:LE):Prop:=
 base.StaysIn h/\base.get? e=PR/\h.FunFrames base l/\h.Tr base e cls ws fl
~Heap.Fl.flying(x:Heap.Fl a l e b ws .none h)(h0:ws[0]?=PN i):Heap.FlyingW a l e b i h:=by
 &c,j,g,f,k,T,m,d,o,n,p,q,r:=x;PM c,j,g,f,k,T,m,d,o,⟨n,by simp_all⟩,p,r
section
variable {M:Model}{A:LM}{E:Li->Lk->Prop}{s:Lk}
~d7{d:LE}{env:Env}{L e:Ll}{J:Obj}{l:Li}{g:Bool}
  (hfr:A.frames=PN (env :: f)) (D:s.heap.FunFrames d (env :: f)) (hf:env.frame=PN L)
  (he:s.heap.get? e=PN J) (F:d.StaysIn s.heap) (hen:d.get? e=PR) (I:J.data=.fields vs) (hsz:1 < vs.size) (hw:∀ i,i≠1->vs[i]?=ws[i]?)
  (h:∀ h',Heap.Fl d (env :: f) e J.cls ws (LY L) h'->s.heap.UpToSlots h'->Q () { s with heap:=h' }) :
  Lm M A (do let a <- frameOf env;let pl <- entryPlaceOf L g;let b <- EntryCells.newEntry l a .none (LY L) .none pl;Pv (.ref e) 1 b) Q E s:=by
 @nf:e∉(env :: f).filterMap (·.frame):=λhm=>by
  &_,o,ho,r:=D.mem hm;rw[he]at ho
  #ho
  ~r vs I
 !KE (wpAny_frameOf_fun hfr D hf λk n=>?_);!KE (wpAny_entryPlaceOf λpl hpl=>?_);PL EntryCells.newEntry newFields;!KE (LW ?_ (hpl.sizeOk5 _ _ _ _ _));generalize hts:([l,Value.ref L,Value.none,LY L,Value.none]++(if pl.isEmpty then List.replicate 6 Value.none else pl)).toArray=H;@u:=(n.2.1 e nf).trans he;@C:=aAb (h:=k) { cls:=.type "traceback",dict:=PR,data:=.fields H } u;@B:k.objs.size≠e:=aAx (aAd u);@y:d.StaysIn k:=λb o j=>(n.2.1 b λhm=>by rw[(D.mem hm).1]at j;#j).trans (F b o j);@t:∀ b o,b≠e->k.get? b=PN o->((k.push { cls:=.type "traceback",dict:=PR,data:=.fields H }).update e (Obj.mapFields (·.setIfInBounds 1 (Value.ref k.objs.size)))).get? b=PN o:=λb o ne m=>(aAD _ _ (Ne.symm ne)).trans (aAb _ m);@w:∀ b o,s.heap.get? b=PN o->(∀ vs,o.data≠.fields vs)->b≠e:=λb o m r q=>by simp_all
 @up:∀ b o,s.heap.get? b=PN o->(∀ vs,o.data≠.fields vs)->∃ G,((k.push _).update e _).get? b=PN _:=λb o m r=>by
  &G,q:=n.2.2 b o m;PM G,t b _ (w b o m r) q
 @x:=Obj.data_mapFields I (·.setIfInBounds 1 (Value.ref k.objs.size));!MC C I hsz (h _ ⟨λb o j=>t b o (λq=>by simp_all) (y b o j),hen,D.of_keeps λb o m r=>?_,?_⟩ up)
 ·&G,q:=up b o m r;PM _,q,rfl
 ·!⟨_,_,k.objs.size,_,H,aAI _ C (Obj.isFreed_of_fields x),Obj.cls_mapFields _ _,x,λi hi=>?_,?_,y.fresh,B,(aAD _ _ (Ne.symm B)).trans (aAp k rfl),rfl,(by rw[<- hts];simp)⟩
  ·rw[Array.getElem?_setIfInBounds_ne (Ne.symm hi)];~hw i hi
  ·simp[hsz]
~bI(x:Heap.Fl k l e u ws O s.heap)
  (h:∀ h',Heap.Fl k l e u ws (fr.elim Value.none λf=>LY f) h'->s.heap.UpToSlots h'->Q () { s with heap:=h' }):Lm M A (Pk (.ref e) fr) Q E s:=by
 &K,I,D,J,r,T,L,N,C,F,y,G,w,p,i,B,j,H:=x;@z:=(aAW.mp H).1;@c:∀ b,b≠T->(s.heap.update T (Obj.mapFields (·.setIfInBounds 3 (fr.elim Value.none λf=>LY f)))).get? b=s.heap.get? b:=λb d=>aAD _ _ (Ne.symm d);@g:∀ b o,s.heap.get? b=PN o->(∀ r,o.data≠.fields r)->b≠T:=λb o d n q=>by simp_all
 @m:=Obj.data_mapFields j (·.setIfInBounds 3 (fr.elim Value.none λf=>LY f));!KE (Ly C y w ?_);!MC B j z (h _ ⟨λb o t=>(c b λq=>by simp_all).trans (K b o t),I,D.of_keeps λb o d n=>⟨o,(c b (g b o d n)).trans d,rfl⟩,?_⟩ λb o d n=>⟨o.slots,(c b (g b o d n)).trans d⟩);~⟨J,r,T,_,_,(c e (Ne.symm i)).trans C,F,y,G,w,p,i,aAI _ B (Obj.isFreed_of_fields m),m,by simp[z]⟩
~jO(l:A.frames=PN (env :: c))(z:env.frame=PN L)(x:Heap.Fl i (env :: c) e n ws .none s.heap)
  (h:∀ h',Heap.Fl i (env :: c) e n ws (LY L) h'->s.heap.UpToSlots h'->Q () { s with heap:=h' }):Lm M A (M0 (.ref e) env) Q E s:=by
 &H,I,J,P,y,T,O,N,C,F,r,G,w,D,p,v,k,B:=x;@d:∀ b,b≠T->(s.heap.update T (Obj.mapFields (·.setIfInBounds 3 Value.none))).get? b=s.heap.get? b:=λb g=>aAD _ _ (Ne.symm g);@f:∀ b o,s.heap.get? b=PN o->(∀ y,o.data≠.fields y)->b≠T:=λb o g j q=>by simp_all
 subst F;PL M0;PK[z];!KE (Ly C r w ?_);!KE (Ly v k B ?_);!KE (MC v k ((aAW.mp B).1) ?_);!d7 l (J.of_keeps λb o g j=>⟨o,(d b (f b o g j)).trans g,rfl⟩) z ((d e (Ne.symm p)).trans C)
  (λb o m=>(d b λq=>by simp_all).trans (H b o m)) I r (aAW.mp w).1 G λh' K u=>h h' K λb o g j=>u b o ((d b (f b o g j)).trans g) j
~xV(f:A.frames=PN (env :: a))(i:env.frame=PN L)(p:s.heap.FunFrames b (env :: a))
  (k:s.heap.get? e=PN j) (c:b.StaysIn s.heap) (d:b.get? e=PR) (l:j.data=.fields vs) (g:vs[1]?=PN .none)
  (h:∀ h',Heap.Fl b a e j.cls vs .none h'->s.heap.UpToSlots h'->Q () { s with heap:=h' }):Lm M A (Oo env (.ref e)) Q E s:=by
 PL Oo M0;PK[i];!KE (KE (Ly k l g ?_));!d7 f p i k c d l (aAW.mp g).1 (λ_ _=>rfl) λx n r=>?_;!bI n λq o v=>?_;&w,m,⟨_,_,t⟩,u:=o;~h q ⟨w,m,t,u⟩ (r.trans v)
end
end PySem
namespace PySem
open Sem (wp)
~ix:Ps table "proto.unchain" = PN Builtin.«proto.unchain»:=Oz (IO)
section
variable {prog:Lw}{w:Lu}{A:LM}{E:Li->Lk->Prop}{s:Lk}{env:Env}
variable {nm q:Str}{C N:Ll}{bs bm bmB:PQ Li}{hdct:Bool}{sn:PQ Str}{sub:PQ Li}{ab:Bool}{col:PY Bool}{dd:PY Ll}{k0 k1 k2 k3 k5:PY Li}{B newId initId:String}
~ni{x c:Sem Li}{Q:Flow->Lk->Prop}{ea:Ll}(hbase:bm.contains (.type "BaseException")=PU)(hh:A.handled=PN (.ref ea))
  (hc:∀ {s:Lk}{Q:Li->Lk->Prop},Q .none s->Lm (Lo prog w) A c Q E s)
  (h:Lm (Lo prog w) A x (λv s₁=>∃ e t oa wa,v=.ref e/\s₁.heap.get? C=PN (OH nm q C N bs bm hdct sn sub ab col dd k0 k1 k2 k3 k5 newId)/\e≠C/\e≠ea/\s₁.heap.get? ea=PN oa/\oa.data=.fields wa/\wa[2]?=PN .none /\
   s₁.heap.get? e=PN { cls:=.ref C,data:=.fields #[.ref t,.none,.none,.none,.bool PV,.none] } /\
   ∀ h',(∀ b,b≠e->h'.get? b=s₁.heap.get? b)->h'.get? e=PN { cls:=.ref C,data:=.fields #[.ref t,.none,.ref ea,.none,.bool PU,.none] }->E (.ref e) { s₁ with heap:=h' }) E s) :
  Lm (Lo prog w) A (raiseStmt env (PN x) (PN c)) Q E s:=by
 @hcB:(Value.ref C :: bm).contains (.type "BaseException")=true:=by rw[List.contains_cons,hbase,Bool.or_true]
 PL raiseStmt;!KE (LG h (λv s₁ h₁=>?_) λ_ _ x=>x);&e,t,oa,wa,rfl,hC,neC,neA,ha,hda,h2,he,hE:=h₁;&hp,g,d,tk,os:=s₁;!KE (Lr (hc ?_))
 repeat (first | with_reducible !Ov he ?_ | with_reducible !Ov hC ?_ | (with_reducible !wpAny_isSubtype_exc hC ?_;rw[hcB]) | wp_step)
 PL raiseNew;!KE (Pa ?_);rw[hh];@bne:(Value.ref ea != Value.ref e)=true:=by simp[Ne.symm neA]
 dsimp only;rw[Lj bne];@he3:=aAI (Obj.mapFields (·.setIfInBounds 3 Value.none)) he rfl;@he4:=aAI (Obj.mapFields (·.setIfInBounds 4 (Value.bool PU))) he3 rfl;@oth:∀ b,b≠e->((hp.update e (Obj.mapFields (·.setIfInBounds 3 Value.none))).update e (Obj.mapFields (·.setIfInBounds 4 (Value.bool PU)))).get? b=hp.get? b:=λb hb=>(aAD _ _ (Ne.symm hb)).trans (aAD _ _ (Ne.symm hb));@ha4:=(oth ea (Ne.symm neA)).trans ha;generalize(hp.update e (Obj.mapFields (·.setIfInBounds 3 Value.none))).update e (Obj.mapFields (·.setIfInBounds 4 (Value.bool PU)))=h4 at he4 oth ha4 ⊢;!KE (Lr (MU (LA ix ?_)));unfold Builtin.«proto.unchain»;!KE (Ly ha4 hda h2 ?_);@fin:Lm (Lo prog w) A (do updateField e 2 (Value.ref ea);throw (Value.ref e)) Q E { heap:=h4,gens:=g,drawn:=d,toks:=tk,os:=os }:=by
  !KE ?_;show Lm (Lo prog w) A (Pv (.ref e) 2 (Value.ref ea)) _ _ _;!MC he4 rfl (by show 2 < 6;decide) (wpAny_throw ?_);~hE _ (λb hb=>(aAD _ _ (Ne.symm hb)).trans (oth b hb)) (aAI _ he4 rfl)
 repeat (first | ~fin | wp_step)
end
end PySem
namespace L2
open PySem PySem.Spec PyProof.Rows
§FlyG(P:Lw)(w:Lu)(ws:Array Li):CXT:=λouter H s E e s'=>∃ (ea C:Ll) (B:LE) (H':Hp),e=.ref ea/\Heap.Fl B outer ea (.ref C) ws .none s'.heap/\s'.os=s.os/\MH s'.gens/\Un (frs outer) [] H H' s.heap s'.heap/\HOk P w H' B /\
 (∀ b o,s.heap.get? b=PN o->H b=PR->b∉frs outer->B.get? b=PN o)/\(∀ b o,s.heap.get? b=PN o->b∉frs outer->∃ o',B.get? b=PN o')/\E (.ref C) PR H'
§eP(P:Lw)(w:Lu):CXT:=λouter H s E e s'=>∃ ws a0,ws[0]?=PN a0/\ws[2]?=PN .none/\FlyG P w ws outer H s E e s'
~FlyG.cxe(h:FlyG P w ws a H s E e s')(h0:ws[0]?=PN c):CXE P w a H s E e s':=by
 &f,C,B,b,rfl,d,r:=h;PM f,C,c,B,b,rfl,d.flying h0,r
§lw(X:Cx)(E:XK):Prop:=X.xe=λe s'=>Lm (Lo X.prog X.w) X.A (Oo X.env e) (λ_ s''=>eP X.prog X.w X.outer X.H₀ X.s₀ E e s'') (λe' s''=>eP X.prog X.w X.outer X.H₀ X.s₀ E e' s'') s'
section
variable {X:Cx}{pins:PQ (Ll×Obj)}{σ:St}{H:Hp}{s:Lk}
~iY(d:X.stack=X.env :: X.outer)(I:Inv X pins σ H s)(i:∀ b o,s.heap.get? b=PN o->h'.get? b=PN o)(n:s.heap.get? j=PR) :
  (W.hideAll s.heap (frs (X.env :: X.outer))).StaysIn h'/\(W.hideAll s.heap (frs (X.env :: X.outer))).get? j=PR/\h'.FunFrames (W.hideAll s.heap (frs (X.env :: X.outer))) (X.env :: X.outer):=by
 !⟨λb o e=>i b o (W.of_hideAll _ e),?_,(W.funFrames_hide (by rw[<- d];~I.stack) (λg m b h=>aAC.mpr ⟨g,m,h⟩)).of_keeps λb o h _=>⟨o,i b o h,rfl⟩⟩
 #l:(W.hideAll _ _).get? j with
 |none=>rfl
 |some o =>
  @:=W.of_hideAll _ l;rw[n]at this
  #this
~ly{E:XK}{C y:Ll}{h' A:LE}{ws:Array Li}{tk:Nat}(f:X.stack=X.env :: X.outer)(B:X.env.frame=PN X.env.locals)(t:X.ex=[])(I:Inv X pins σ H s)(R:∀ b o,s.heap.get? b=PN o->h'.get? b=PN o)
  (M:Heap.Fl (W.hideAll s.heap (frs (X.env :: X.outer))) X.outer y (.ref C) ws .none A) (T:h'.UpToSlots A) (q:E (.ref C) PR H):FlyG X.prog X.w ws X.outer X.H₀ X.s₀ E (.ref y) { s with heap:=A,toks:=tk }:=by
 @D:∀ b∈frs X.outer,b∈frs (X.env :: X.outer):=λb d=>by
  &h,k,g:=aAC.mp d;~aAC.mpr ⟨h,aAk _ k,g⟩
 @r:∀ b,b∈frs (X.env :: X.outer)->b=X.env.locals\/b∈frs X.outer:=λb d=>by
  &h,k,g:=aAC.mp d;rcases aAl.mp k with rfl | k
  ·rw[B]at g;~.inl (Option.some.inj g).symm
  ·~.inr (aAC.mpr ⟨h,k,g⟩)
 @a:∀ b o,s.heap.get? b=PN o->b∉frs (X.env :: X.outer)->(W.hideAll s.heap (frs (X.env :: X.outer))).get? b=PN o:=λb o e n=>W.hideAll_get _ e n;@i:∀ b o,X.s₀.heap.get? b=PN o->b∉frs X.outer->b∉frs (X.env :: X.outer):=λb o e n z=>by
  rcases r b z with rfl | z
  ·~absurd (aAm (aAd e) I.ok.above) (aAN _)
  ·~n z
 @l:Un X.fs [] X.H₀ H X.s₀.heap s.heap:=by @z:=I.base;rw[t]at z;~z
 @L:=λb o e n d=>a b o (l.keep b o e n d (by simp)) (i b o e d);@P:∀ b o,X.s₀.heap.get? b=PN o->b∉frs X.outer->∃ p,(W.hideAll s.heap (frs (X.env :: X.outer))).get? b=PN p:=λb o e d=>by
  &p,S:=l.there b o e (by simp);PM p,a b p S (i b o e d)
 !⟨y,C,_,H,rfl,M,I.os,I.bare,dM l L P M.1 λb o e d=>?_,λb u e=>?_,L,P,q⟩
 ·&j,O:=l.slot b o e (I.ok.frf b d) d (by simp);&Z,F,Q:=cX (by rw[<- f];~I.stack) (D b d);rw[O]at F;obtain rfl:=Option.some.inj F;&w,U:=T b _ (R b _ O) Q;PM w,U
 ·!(I.hok b u e).stay (λc v x z=>a c v z λg=>?_) (λ_ z=>z) λ_ _ z=>z;@m:H c=none:=by rw[<- f]at g;~I.stkFree c g
  rcases x with rfl | x
  ·rw[e]at m;#m
  ·rw[x]at m;#m
~qS(j:lw X E)(a:X.stack=X.env :: X.outer)(b:X.env.frame=PN X.env.locals)(d:X.ex=[])(I:Inv X pins σ H s)(c:Heap.MadeExcOf s.heap h' l (.ref C) vs)
  (q:E (.ref C) PR H):X.xe (.ref l) { s with heap:=h',toks:=tk }:=by
 rw[j];&k,f,g:=iY a I c.keeps c.new;&t,h,_:=c.there;!xV (by rw[<- a];~I.ok.frames) b g h k f rfl rfl λo i m=>?_;PM _,_,rfl,rfl,ly (s:=s) a b d I c.keeps i m q
~qT{E:XK}{x:Str}{C:Ll}{e:Expr}{es:PQ Expr}{t:TA}{L a pos:Pos}(A:lw X E)(c:X.stack=X.env :: X.outer)(g:X.env.frame=PN X.env.locals)(k:X.ex=[])(n:X.calm=PU)(G:ExC X.K X.mg x C)(Q:Gl X x)(J:PA X (e :: es) t)
  (l:(x == ("__debug__" : Str))=false:=by decide) (m:Lq (e :: es) X.env=(PV,L3 e X.env) :: Lq es X.env:=by rfl) (i:(Mc a (Lq es X.env)).any (·.1)=false:=by rfl) :
  PS X (.Raise (PN (.Call (.Name x L) (e :: es) [] a)) PR pos) (mX C E t):=by
 intro b s u H D I h;&bm,N,nm,v,bs,w,sn,sub,ab,col,dd,k0,k1,k2,k3,k5,mN,P,p,f,T:=jI I.ok.mod.kin G.q;!NJ (C:=C) (nm:=nm) (q:=v) (N:=N) (bs:=bs) (bm:=bm) (hdct:=w) (sn:=sn) (sub:=sub) (ab:=ab) (col:=col) (dd:=dd) (k0:=k0) (k1:=k1) (k2:=k2) (k3:=k3) (k5:=k5) F.excBase_ValueError (mN:=mN) (T.hasType F.excBase_ValueError.hasBase) (I.ok.hd n)
  (by rw[m];show(PV || (Mc a (Lq es X.env)).any (·.1))=PV;rw[i];rfl) f (bj I Q G.m ⟨rfl,?_⟩ l)
 @z:=J a b s u H _ I h;rw[m]at z ⊢;!Calls.evalArgs_plain (LG z (λB O ⟨U,W,d,r,M,q⟩=>?_) λ_ _ y=>y);!⟨rfl,by show B°<=Ld;rw[<- r°];~M,d.bk _ _ P,p.keeps d.bk,T.keeps d.bk,λS R o=>?_⟩;~qS (tk:=O.toks) A c g k d o q
§PX2(X:Cx)(e:Expr)(t:TX):Prop:=
 ∀ (pins:PQ (Ll×Obj)) (s:Lk) (σ:St) (H:Hp) (Q:VK) (E:XK),Inv X pins σ H s->t σ H Q E ->
  Lm (Lo X.prog X.w) X.A (L3 e X.env) (EP X pins σ Q) (λex s'=>∃ H1 s1,Inv X pins σ H1 s1/\eP X.prog X.w X.stack H1 s1 E ex s') s
~tU{p pos:Pos}(F:FnOk X.prog X.w X.K X.mg X.base (eP X.prog X.w) k f v w sp)(M:Room k X.A)(N:Gl X x)(A:X.mg x=PN (.ref f))
  (G:W.keepIn X.K (.ref f)=PU) (D:Binds X.K v w []) (C:PA X.nox (e :: es) t) (j:(x == ("__debug__" : Str))=false:=by decide) (L:Lq (e :: es) X.env=(PV,L3 e X.env) :: Lq es X.env:=by rfl)
  (o:(Mc pos (Lq es X.env)).any (·.1)=false:=by rfl):PX2 X (.Call (.Name x p) (e :: es) [] pos) (λn H Q E=>t n H λvs i=>sp vs i Q E):=by
 intro d s n H Q E I h;!LR (bj I N A ?_ j);!W.callWith_K I.ok.mod.kin G (LG (C pos d s n H _ (I.wish _) h) (λa g ⟨vs,i,l,r,q⟩=>?_) λ_ _ z=>z.elim) L o;@b:=Inv.unwish l;!⟨b.kIn,?_⟩;@m:Nt g v ⟨a,[]⟩ (w.zip a):=by
  @z:=D g a b.kIn (by rw[aAA];~(by rw[<- r°];~F.len _ _ _ _ q))
  rwa [aAA]at z
 !Nu (L6 (F.run X.A X.stack g i ⟨a,[]⟩ a vs Q E M b.env0 m r q) λB P c=>?_)
 #B with
 |error O=>PM i,g,b,c
 |ok J =>
  #J with
  |ret u=>~b.after c
  |next=>~False.elim c
  |brk=>~False.elim c
  |cont=>~False.elim c
end
~Fun.okE2{K}{st}(F:Fun K x c st f p)(S:FnScope N j (ar st))(h:∀ vs H Q E,sp vs H Q E->vs°=j°)
  (d:∀ (b) (A) (a) (s) (H) (vs) (Q) (E),Room k (A.deeper (Nv c (ar st) s¢ f b))->sp vs H Q E ->
   ∃ t,PSs (ii (eP P w) P w K l e N c (ar st) f b A a s H E) (aM st) t/\t { nx:=λ_ H'=>Q .non H',rt:=Q } (eZ N vs) H):FnOk P w K l e (eP P w) (k+1) f p j sp:=by
 &y,u,kV,q,z,v,b,r,n,rfl,o,i:=F.ex;~Az o i S h λA a s H vs Q E m g=>d b A a s H vs Q E m g
~Fy{K} :
  lw (ii (eP P w) P w K g c N d b f e A a s H E) E:=rfl
end L2
namespace PySem
open Sem (wp)
section
variable {prog:Lw}{w:Lu}{A:LM}{E:Li->Lk->Prop}{s:Lk}{env:Env}
variable {nm q:Str}{C N:Ll}{bs bm bmB:PQ Li}{hdct:Bool}{sn:PQ Str}{sub:PQ Li}{ab:Bool}{col:PY Bool}{dd:PY Ll}{k0 k1 k2 k3 k5:PY Li}{B newId initId:String}
~fD(F:ExcBaseFacts B newId I bmB){x:Str}{j:Nat}{k:PQ Expr}{P:Ll}
  (u:bm.contains (.type "BaseException")=PU) (hh:A.handled=PN (.ref P)) (n:(Mc r (Lq k env)).any (·.1)=PV) (V:mN "__init__" = PR)
  (h:Lm (Lo prog w) A (L3 (.Name x np) env) (λf p=>f=.ref C/\Lm (Lo prog w) A (evalArgs (.ref C) PU (Mc r (Lq k env)) [])
   (λa i=>a.kw=[]/\a.pos°<=Ld/\i.heap.get? C=PN (OH nm q C N bs bm hdct sn sub ab col dd k0 k1 k2 k3 k5 newId)/\i.heap.Ns N mN/\OwnTail i.heap bmB bm/\(∃ K G,i.heap.get? P=PN K/\K.data=.fields G/\G[2]?=PN .none) /\
    ∀ h' e t,(∀ b o,i.heap.get? b=PN o->h'.get? b=PN o)->i.heap.get? e=PR->h'.get? e=PN { cls:=.ref C,data:=.fields #[.ref t,.none,.ref P,.none,.bool PU,.none] }->E (.ref e) { i with heap:=h' }) E p) E s) :
  Lm (Lo prog w) A (exec (.Raise (PN (.Call (.Name x np) k [] r)) (PN (.Constant .none j cp)) pos) env) Q E s:=by
 rw[arm_exec_Raise];!KE (Mm ?_);!ni (C:=C) (nm:=nm) (q:=q) (N:=N) (bs:=bs) (bm:=bm) (hdct:=hdct) (sn:=sn) (sub:=sub) (ab:=ab) (col:=col) (dd:=dd) (k0:=k0) (k1:=k1) (k2:=k2) (k3:=k3) (k5:=k5) (newId:=newId) u hh (λq=>KE (wpAny_Constant_none (KE (Mm (Lg q))))) ?_;!KE (LG (wpAny_Call_ofName (LG h (λf p l=>?_) λ_ _ x=>x)) (λv Z D=>KE (Mm (Lg D))) λ_ _ x=>x);&rfl,l:=l;PL callWith;!KE (Lr (LG l (λa i m=>KE (Mm ?_)) λ_ _ x=>x));&Y,R:=a;&S,z,H,hn,T,⟨K,G,W,L,h2⟩,m:=m;obtain rfl:R=[]:=S;&hp,g,d,tk,os:=i;PK[n];!KE (wpAny_keeperOf_exc H ?_);!KE (wpAny_call_exc_subT (hrest:=z) F T H hn V λh' e y=>KE (Lr (wpAny_point (Lg ?_))));&t,ht,_,_:=y.there;@M:∀ {b:Ll}{o:Obj},hp.get? b=PN o->e≠b:=fun{b o} J c=>by
  subst c;@:=y.new;rw[J]at this
  #this
 PM e,t,K,G,rfl,y.keeps _ _ H,M H,M W,y.keeps _ _ W,L,h2,ht,λO ho he=>m O e t (λb o J=>(ho b (M J).symm).trans (y.keeps b o J)) y.new he
~xW{M:Model}{f:Obj}{E2:Li->Lk->Prop}(w:A.frames=PN (env :: a))(c:D.frames=PN (env :: a))(k:env.frame=PN L)(y:s.heap.FunFrames b (env :: a))
  (o:s.heap.get? e=PN f) (l:b.StaysIn s.heap) (g:b.get? e=PR) (p:f.data=.fields vs) (q:vs[1]?=PN .none)
  (t:∀ s',E2 (.ref e) s'->E (.ref e) s')
  (h:∀ h',Heap.Fl b (env :: a) e f.cls vs (LY L) h'->s.heap.UpToSlots h'->E2 (.ref e) { s with heap:=h' }):notedBy M D env (λx s2=>Oi M A env E x s2) (.ref e) s:=by
 PL notedBy M0;PK[k];!KE (Ly o p q ?_);!d7 c y k o l g p (aAW.mp q).1 (λ_ _=>rfl) λI r C=>?_;@m:=r;&N,J,H,z,v,T,K,O,j,G,d,F,i,_:=m;PL Oi;!KE (Ly j d i ?_);!bI r λB n u=>t _ (h B ?_ (C.trans u));rw[k]at n;~n
end
end PySem
namespace L2
open PySem PySem.Spec PyProof.Rows
end L2
namespace PySem
open Sem (wp)
end PySem
namespace L2
open PySem PySem.Spec PyProof.Rows
end L2
namespace PySem
open PyProof.Rows PySem.Spec
section
variable {prog:Lw}{w:Lu}{h₀:LE}{k:Str}{tk:Tok}{a:Ll}{α:Type}{R:α->Li->Prop}{D:PQ (Str×α)}
~lA:MeetsIn prog w (Builtin.«dict.get» ⟨[.ref a,.str k tk],[]⟩) (λ_ Rr s=>KTD.TabOf R h₀ a D/\(∀ b o,h₀.get? b=PN o->s.heap.get? b=PN o)/\(∀ d v,KTD.datumAt k D=PN d->R d v->Rr (.ok (.ret v)) { s with toks:=s.toks+1 }) /\
  (KTD.datumAt k D=PR->Rr (.ok (.ret .none)) { s with toks:=s.toks+1 })):=
 .of_wp λA Rr s ⟨T,kp,h1,h2⟩=>by
  show Lm _ _ (Po a (.str k tk) >>= _) _ _ s;!KE (ff T kp (λd v ha hv=>Lg ⟨v,rfl,h1 d v ha hv⟩) λhn=>KE (Oh T.1 (Lg ⟨.none,rfl,h2 hn⟩)))
end
end PySem
namespace L2
open PySem PySem.Spec PyProof.Rows
section
variable {X:Cx}
§Cj(D:PQ (Str×Ll))(t:TA):TE:=λσ H Q=>t σ H λvs H1=>∃ k,vs=[.str k]/\Q (match fh k D with | PN b=>.ref b | PR=>.non) H1
~tV{x:Str}{ad:Ll}{D:PQ (Str×Ll)}{e:Expr}{t:TA}{p apos cpos:Pos}(hD:cC X.K ad D)(hg:Gl X x)(hm:X.mg x=PN (.ref ad))(ha:PA X [e] t)(hdb:(x == ("__debug__" : Str))=false:=by decide)
  (hbase:Nh (.Name x p) "get" X.env (L3 (.Name x p) X.env)=L3 (.Name x p) X.env:=by rfl)
  (hfew:((Mc cpos (Lq [e] X.env)).all (λx=>!x.1) && (Nn cpos (MQ [] X.env)).all (λx=>x.1.isSome)
   && decide (([e]:PQ Expr)°+([]:PQ Mx)°+(if([]:PQ Mx).isEmpty then 0 else 1) < 30))=true:=by rfl)
  (hline:(apos.endLine == cpos.line)=true:=by rfl) (hs:Lq [e] X.env=(PV,L3 e X.env) :: Lq [] X.env:=by rfl) :
  PE X (.Call (.Attribute (.Name x p) "get" apos) [e] [] cpos) (Cj D t):=by
 intro pins s σ H Q I h;@T:∀ {s':Lk}{σ':St}{H':Hp}{pins':PQ (Ll×Obj)},Inv X pins' σ' H' s'->KTD.TabOf (λb v=>v=Value.ref b) X.base ad D:=λJ=>hD _ J.ok.mod.kin;@ty0:∀ {s':Lk}{σ':St}{H':Hp}{pins':PQ (Ll×Obj)},Inv X pins' σ' H' s'->s'.TypeIs (.ref ad) "dict" /\(∀ b,Value.ref ad=.ref b->∃ ob,s'.heap.get? b=PN ob/\ob.dict=PR):=fun{s' σ' H' pins'} J=>by
  &_,o,_,_,ho,hc,_:=T J;!⟨⟨o,J.bk _ _ ho,hc.1⟩,λb q=>?_⟩;injection q with q
  subst q;PM o,J.bk _ _ ho,hc.2.1
 !Mq hbase hfew hline rfl (bj I hg hm ?_ hdb);!⟨"dict","dict.get",PySem.F.plainAttrs_dict,PySem.F.slot_dict_get,PySem.F.type_dict_get,(ty0 I).1,(ty0 I).2,?_⟩;@hA:=ha cpos pins s σ H _ I h;rw[hs]at hA ⊢;!Calls.callWith_builtin (by rfl) (Calls.evalArgs_plain ?_);!thn hA λus s2 ⟨vs,H2,I2,r2,k,e2,q2⟩=>?_;subst e2;&u,rfl,ru:=bt r2;&tk,rfl:=ru;!Os PySem.F.slot_dict_get (ty0 I2).1 PySem.F.entry_dict_get (PySem.F.args_dict_get_2 _ _) (lA (h₀:=X.base) (D:=D) (R:=λb v=>v=Value.ref b)) ⟨T I2,λb o z=>I2.bk b o z,λb v hb hv=>?_,λhn=>?_⟩
 ·subst hv;rw[<- c5,hb]at q2;PM .ref b,H2,I2.tok _,rfl,q2
 ·rw[<- c5,hn]at q2;PM .non,H2,I2.tok _,rfl,q2
end
end L2
namespace PySem
namespace StrLaws
open Builtin Builtin.Str
end StrLaws
end PySem
namespace L2
open PySem PySem.Spec PyProof.Rows
section
variable {X:Cx}
inductive HS(X:Cx):PQ Pd->(Ll->TS)->Prop
 |nil:HS X [] (λ_ _ _ _=>False)
 |cons {x:Str}{np hpos:Pos}{HC:Ll}{b₀:LP}{suite:PQ LP}{ts:TS}{rest:PQ Pd}{tr:Ll->TS}(hm:X.mg x=PN (.ref HC)) (hg:Gl X x) (hb:∀ ea,PSs (hcx X ea) (b₀ :: suite) ts) (hr:HS X rest tr) (hdb:(x == ("__debug__" : Str))=false:=by decide) :
   HS X (.ExceptHandler (PN (.Name x np)) PR (b₀ :: suite) hpos :: rest) (λC D σ H=>∃ b,W.exmOne X.K (.ref C) (.ref HC)=PN b/\(b=PU->ts D σ H)/\(b=PV->tr C D σ H))
~Ck{p:St}{j:Lk}(k:X.Ok)(t:Inv X a p H' { j with heap:=r })(LT:W.Looks (Lo X.prog X.w) r (M4 (.ref i)) (.ref C))
  (I:∀ {Q}{A}{E},(∀ n,Inv X a p H' { j with heap:=n }->Q () { j with heap:=n })->Lm (Lo X.prog X.w) A (Pk (.ref i) PR) Q E { j with heap:=r }) :
  ∀ {hs}{o},HS X hs o->o C D p H'->Lm (Lo X.prog X.w) X.A (handleBy (.ref i) X.env hs) (SP X a D) X.xe { j with heap:=r }:=by
 intro hs o h
 induction h with
 |nil=>~λq=>q.elim
 |@cons x U y T w s S rest Y G O M u m L =>
  rintro⟨b,H,F,N⟩;!N5 (NK (bj (t.hcx i) O G ?_ m)) (by intro z;#z);!(W.exm_one t.kIn LT H).here ?_
  #b with
  |false=>~L (N rfl)
  |true =>
   !NB ?_;!I λn J=>?_;!LG (M i a _ _ _ _ (J.hcx i) (F rfl)) (λf R l=>?_) λ_ _ z=>z.elim
   #f with
   |next =>
    &d,c,e,g:=l;PM _,c,e.unhcx k,g
   |ret v =>
    &B,d,c,e,P,g:=l;PM B,_,c,e.unhcx k,P,g
   |brk =>
    &d,c,e,g:=l;PM _,c,e.unhcx k,g
   |cont =>
    &d,c,e,g:=l;PM _,c,e.unhcx k,g
~tW{r:St}(f:X.stack=X.env :: X.outer)(J:X.env.frame=PN X.env.locals)(ok:X.Ok)(t:Inv X l r Z U)
  (hh:HS X (h0 :: hs) th) (F:CXE X.prog X.w X.stack Z U (λE _ H'=>∃ C,E=.ref C/\th C D r H') y u) :
  Lm (Lo X.prog X.w) X.A (M0 y X.env) (λ_ m=>Lm (Lo X.prog X.w) X.A (Pk y PR) (λ_ j=>Lm (Lo X.prog X.w) X.A (handleBy y X.env (h0 :: hs)) (SP X l D) X.xe j) X.xe m) X.xe u:=by
 &R,C,a0,B,H',rfl,I,os,d,v,h,S,N,C',e',q:=F
 #e'
 @G:=I;rw[f]at I;!wpAny_looks_onW (by rw[<- f];~t.ok.frames) J I λh4 g n=>?_;!wpAny_landsW g λA a p=>?_;@c:∀ {O},u.heap.UpToSlots O->∀ b o,U.heap.get? b=PN o->b∈frs _->∃ Q,O.get? b=PN { o with slots:=Q }:=λY b o e x=>by
  &Q,P:=v.slot b o e (t.stkFree b x) x (by simp);&o2,T,nf:=cX G.2.2.1 x;rw[P]at T;obtain rfl:=Option.some.inj T;&M,e3:=Y b _ P nf;PM M,e3
 &ob,H,i:=a.there;@LT:W.Looks (Lo X.prog X.w) A (M4 (.ref R)) (.ref C):=by
  @L:W.Looks (Lo X.prog X.w) A (M4 (.ref R)) _:=(W.Looks.ld H).andThen .now;rw[i]at L;~L
 !Ck ok (t.call' (s':={ u with heap:=A }) os (dM v S N a.1 (c (n.trans p))) (h.kept a.1) d (λ_ z=>nomatch z)) LT (λk=>?_) hh q;!lands_againW a λh6 s w=>?_;~k h6 (t.call' os (dM v S N s.1 (c ((n.trans p).trans w))) (h.kept s.1) d (λ_ z=>nomatch z))
§FA(j:Nat)(te:TX)(th:Ll->TS):TS:=λD σ H=>te σ H (λv H1=>D.nx (σ.set j (PN v)) H1) λcls _ H'=>∃ C,cls=.ref C/\th C D σ H'
§FB(te:TX)(th:Ll->TS):TS:=λD σ H=>te σ H (λ_ H1=>D.nx σ H1) λcls _ H'=>∃ C,cls=.ref C/\th C D σ H'
~xX{k g pos}(b:X.stack=X.env :: X.outer)(f:X.env.frame=PN X.env.locals)(z:PX X e n)(l:X.N.Nodup)(u:X.N[j]?=PN y)(o:Loc X.env.scope y)(p:HS X (h0 :: hs) A)
  (c:Mw e (PN (.Name y k)) g.line X.env=pure false:=by rfl) (B:X.fn y=PU\/X.env.scope.names.lookup y=PN .local:=by first | ~.inl rfl | ~.inr rfl | assumption) :
  PS X (.Try [.Assign [.Name y k] e g] (h0 :: hs) [] [] pos) (FA j n A):=by
 intro a s m H D I h;!No (ME (On (LG (z a s m H _ _ I h) (λv r ⟨y,i,q,x,C⟩=>?_) (λE r ⟨i,F,t,d⟩=>?_)) c))
 ·~gb q l u o x (λG w=>Ms (Ms ⟨_,i,w,C⟩)) B
 ~tW b f I.ok t p d
~xY(b:X.stack=X.env :: X.outer)(f:X.env.frame=PN X.env.locals)(r:PX X e q)(m:HS X (h0 :: hs) p)
  (c:Mw e PR k.line X.env=pure false:=by rfl) :
  PS X (.Try [.Expr e k] (h0 :: hs) [] [] pos) (FB q p):=by
 intro a s g H D I h;!No (ME (OQ (LG (r a s g H _ _ I h) (λv j ⟨y,i,l,w,o⟩=>?_) (λu j ⟨i,t,n,d⟩=>?_)) I.quiet c))
 ·~Ms (Ms ⟨g,i,l,o⟩)
 ~tW b f I.ok n m d
end
end L2
namespace PySem
open Sem (wp)
end PySem
namespace L2
open PySem PySem.Spec PyProof.Rows
§yO(b:Ll):HO:=.ext λh=>∃ o ws,h.get? b=PN o/\o.data=.fields ws/\ws[2]?=PN .none
~FC(e:∃ o ws,h.get? a=PN o/\o.data=.fields ws/\ws[2]?=PN .none):ObjOk P w H h a (yO a):=
 ⟨e,e.imp λ_ ⟨_,q⟩=>q.1,λ_ _ ⟨o,ws,q,c⟩ k=>⟨o,ws,k o q,c⟩⟩
§Cl(H:Hp)(ws:Array Li):Prop:=ws[2]?=PN .none\/∃ b,ws[2]?=PN (.ref b)/\H b=PN (yO b)
§bY(P:Lw)(w:Lu):CXT:=λouter H s E e s'=>∃ ws a0,ws[0]?=PN a0/\FlyG P w ws outer H s (λc o H'=>Cl H' ws/\E c o H') e s'
~passF3:eK (bY P w) X (λ_ _ _=>False):=by
 intro a c H s e b I h;&_,_,_,_,_,_,_,_,_,_,_,_,_,_,_,_,q:=h;~q.elim
§aN(X:Cx)(E:XK):Li->Lk->Prop:=λe s'=>∃ (ea C:Ll) (a0:Li) (ws:Array Li) (B:LE) (H':Hp),e=.ref ea/\ws[0]?=PN a0 /\
 (Heap.Fl B (X.env :: X.outer) ea (.ref C) ws .none s'.heap\/Heap.Fl B (X.env :: X.outer) ea (.ref C) ws (LY X.env.locals) s'.heap\/(B.StaysIn s'.heap/\B.get? ea=PR/\s'.heap.FunFrames B (X.env :: X.outer)/\ws[1]?=PN .none/\∃ oe,s'.heap.get? ea=PN oe/\oe.cls=.ref C/\oe.data=.fields ws))/\s'.os=X.s₀.os/\MH s'.gens /\
 Un (frs X.outer) [] X.H₀ H' X.s₀.heap s'.heap/\HOk X.prog X.w H' B/\(∀ b o,X.s₀.heap.get? b=PN o->X.H₀ b=PR->b∉frs X.outer->B.get? b=PN o) /\
 (∀ b o,X.s₀.heap.get? b=PN o->b∉frs X.outer->∃ o',B.get? b=PN o')/\Cl H' ws/\E (.ref C) PR H'
section
variable {X:Cx}{E:XK}
~gC{env:Env}(a:env.frame=PN L)(h0:ws[0]?=PN o)(j:Heap.Fl B l e g ws (LY L) s.heap)(q:Q () s):Lm M A (M0 (.ref e) env) Q u s:=by
 &n,t,p,d,b,T,i,c,h,k,m,f,r:=j;~NC a ⟨d,b,T,i,c,h,⟨k,by rw[f 0 (by decide)];~h0⟩,m,r⟩ q
~xZ{env:Env}(k:env.frame=PN L)(e:Heap.Fl B l b c ws (LY L) s.heap)(h:∀ h',Heap.Fl B l b c ws (LY L) h'->s.heap.UpToSlots h'->E2 (.ref b) { s with heap:=h' }):Oi M A env E2 (.ref b) s:=by
 @a:=e;&x,u,q,n,w,T,o,p,g,v,m,t,i,r:=a;!KE (Ly g m i ?_);!bI e λj d f=>h j ?_ f;rw[k]at d;~d
~gF{A:LM}(l:A.frames=PN (env :: a))(g:env.frame=PN L)(k:s.heap.FunFrames B (env :: a))(i:s.heap.get? d=PN e)(b:B.StaysIn s.heap)(c:B.get? d=PR)(j:e.data=.fields ws)(f:ws[1]?=PN .none)
  (h:∀ h',Heap.Fl B (env :: a) d e.cls ws (LY L) h'->s.heap.UpToSlots h'->Q () { s with heap:=h' }):Lm M A (M0 (.ref d) env) Q m s:=by
 PL M0;PK[g];!KE (Ly i j f ?_);~d7 l k g i b c j (aAW.mp f).1 (λ_ _=>rfl) h
~qU(w:A.frames=PN (X.env :: X.outer))(d:X.env.frame=PN X.env.locals)(g:∀ b∈frs X.outer,X.H₀ b=PR):Ox (Lo X.prog X.w) A X.env (aN X E):=by
 intro e M h;&r,C,I,t,B,s,rfl,p,st,os,c,m,n,l,k,q:=h;@f:∀ {v},v.os=X.s₀.os->MH _->Un _ [] _ s _ _->Heap.Fl B _ r _ t _ _->Oi (Lo X.prog X.w) A _ (aN X E) _ v:=λy J u2 a =>
  xZ d a λu i j=>⟨r,C,I,t,B,s,rfl,p,.inr (.inl i),y,J,fM g u2 a.2.2.1 j i.1 l k,n,l,k,q⟩
 rcases st with x | a | ⟨z,L,o,D,N,F,H,G⟩
 ·~jO w d x λu a j=>f os c (fM g m x.2.2.1 j a.1 l k) a
 ·~gC d p a (f os c m a)
 ·!gF w d o F z L G D λu a j=>?_;rw[H]at a;~f os c (fM g m o j a.1 l k) a
~jP(y:A.frames=PN (X.env :: X.outer))(f:X.env.frame=PN X.env.locals)(u:∀ b∈frs X.outer,X.H₀ b=PR)(h:aN X E e s') :
  Lm (Lo X.prog X.w) A (Oo X.env e) (λ_ a=>bY X.prog X.w X.outer X.H₀ X.s₀ E e a) (λw a=>bY X.prog X.w X.outer X.H₀ X.s₀ E w a) s':=by
 &s,C,S,t,B,O,rfl,x,st,os,l,Q,v,z,D,q:=h;@p:∀ {j},s'.heap.FunFrames B _->Heap.Fl B _ s _ t _ j->s'.heap.UpToSlots j->bY _ _ _ _ _ E _ { s' with heap:=j }:=λF i g =>
  ⟨t,S,x,s,C,B,O,rfl,i,os,l,fM u Q F g i.1 z D,v,z,D,q⟩
 @F:s'.heap.FunFrames B (X.env :: X.outer):=by
  rcases st with i | d | ⟨n,m,k,_⟩
  ·~i.2.2.1
  ·~d.2.2.1
  ·~k
 @c:∀ {r},s'.heap.UpToSlots r->Heap.Fl B (X.env :: X.outer) s _ t (LY X.env.locals) r->Lm (Lo X.prog X.w) A _ (λ_ a=>bY _ _ _ _ _ E _ a) (λw a=>bY X.prog X.w X.outer X.H₀ X.s₀ E w a) { s' with heap:=r }:=λg M =>
  bI (fr:=PR) M λT J G=>by
   &n,m,⟨_,_,k⟩,H:=J;~p F ⟨n,m,k,H⟩ (g.trans G)
 rcases st with i | d | ⟨n,m,k,R,U,P,I,L⟩
 ·~KE (jO y f i λj d g=>c g d)
 ·~KE (gC f x d (c (λb o N _=>⟨o.slots,N⟩) d))
 ·!KE (gF y f k P n m L R λj d g=>?_);rw[I]at d;~c g d
variable {pins:PQ (Ll×Obj)}{σ:St}{H:Hp}{s:Lk}
~nj{C:Ll}(h:X.stack=X.env :: X.outer)(D:X.env.frame=PN X.env.locals)(G:X.ex=[])(I:Inv X pins σ H s)(m:Heap.MadeExcOf s.heap h' w (.ref C) vs)
  (q:E (.ref C) PR H):aN X E (.ref w) { s with heap:=h',toks:=tk }:=by
 @J:∀ b,b∈frs _->b=X.env.locals\/b∈frs X.outer:=λb d=>by
  &i,j,l:=aAC.mp d;rcases aAl.mp j with rfl | j
  ·rw[D]at l;~.inl (Option.some.inj l).symm
  ·~.inr (aAC.mpr ⟨i,j,l⟩)
 @a:∀ b o,s.heap.get? b=PN o->b∉frs (X.env :: X.outer)->(W.hideAll s.heap _).get? b=PN o:=λb o e n=>W.hideAll_get _ e n;@p:∀ b o,X.s₀.heap.get? b=PN o->b∉frs X.outer->b∉frs _:=λb o e n z=>by
  rcases J b z with rfl | z
  ·~absurd (aAm (aAd e) I.ok.above) (aAN _)
  ·~n z
 @A:Un X.fs [] X.H₀ H X.s₀.heap s.heap:=by @z:=I.base;rw[G]at z;~z
 @P:=λb o e n d=>a b o (A.keep b o e n d (by simp)) (p b o e d);@Q:∀ b o,X.s₀.heap.get? b=PN o->b∉frs X.outer->∃ y,(W.hideAll s.heap _).get? b=PN y:=λb o e d=>by
  &y,T:=A.there b o e (by simp);PM y,a b y T (p b o e d)
 &t,j,U,f:=m.there;@g:(W.hideAll s.heap (frs (X.env :: X.outer))).StaysIn h':=λb o e=>m.keeps b o (W.of_hideAll _ e);@B:(W.hideAll s.heap (frs (X.env :: X.outer))).get? w=none:=by
  #z:(W.hideAll s.heap _).get? w with
  |none=>rfl
  |some o =>
   @O:=W.of_hideAll _ z;rw[m.new]at O
   #O
 !⟨w,C,.ref t,_,_,H,rfl,rfl,.inr (.inr ⟨g,B,(W.funFrames_hide (by rw[<- h];~I.stack) (λi j b d=>aAC.mpr ⟨i,j,d⟩)).of_keeps λb o d _=>⟨o,m.keeps b o d,rfl⟩,rfl,_,j,rfl,rfl⟩),I.os,I.bare,dM A P Q g λb o e d=>?_,λb u e=>?_,P,Q,.inl rfl,q⟩
 ·&S,R:=A.slot b o e (I.ok.frf b d) d (by simp);PM S,m.keeps b _ R
 ·!(I.hok b u e).stay (λc v F z=>a c v z λl=>?_) (λ_ z=>z) λ_ _ z=>z;@x:H c=none:=by rw[<- h]at l;~I.stkFree c l
  rcases F with rfl | F
  ·rw[e]at x;#x
  ·rw[F]at x;#x
~nk{x:Str}{C:Ll}{e:Expr}{t:TA}{w a pos:Pos}(b:X.stack=X.env :: X.outer)(g:X.env.frame=PN X.env.locals)(l:X.ex=[])(J:X.calm=PU)(G:ExC X.K X.mg x C)(L:Gl X x)(A:PA (X.wish (aN X E)) (e :: es) t)
  (j:(x == ("__debug__" : Str))=false:=by decide) (m:Lq (e :: es) X.env=(PV,L3 e X.env) :: Lq es X.env:=by rfl) (f:(Mc a (Lq es X.env)).any (·.1)=false:=by rfl) :
  PS (X.wish (aN X E)) (.Raise (PN (.Call (.Name x w) (e :: es) [] a)) PR pos) (mX C E t):=by
 intro c s M H D I h;&bm,N,nm,o,bs,v,sn,sub,ab,col,dd,k0,k1,k2,k3,k5,mN,n,u,i,T:=jI (I.ok.mod.kin) G.q;!NJ (C:=C) (nm:=nm) (q:=o) (N:=N) (bs:=bs) (bm:=bm) (hdct:=v) (sn:=sn) (sub:=sub) (ab:=ab) (col:=col) (dd:=dd) (k0:=k0) (k1:=k1) (k2:=k2) (k3:=k3) (k5:=k5) F.excBase_ValueError (mN:=mN) (T.hasType F.excBase_ValueError.hasBase) (I.ok.hd J)
  (by rw[m];show(PV || (Mc a (Lq es X.env)).any (·.1))=PV;rw[f];rfl) i (bj I L G.m ⟨rfl,?_⟩ j)
 @z:=A a c s M H _ I h;rw[m]at z ⊢;!Calls.evalArgs_plain (LG z (λR S ⟨P,U,d,r,B,q⟩=>?_) λ_ _ y=>y);!⟨rfl,by rw[<- r°];~B,d.bk _ _ n,u.keeps d.bk,T.keeps d.bk,λQ O p=>?_⟩;~nj b g l (Inv.unwish d) p q
~wing_on3(j:X.stack=X.env :: X.outer)(A:X.env.frame=PN X.env.locals)(t:X.ex=[]):eK (bY X.prog X.w) (X.wish (aN X E)) E:=by
 intro M Y H s e s' W h;@I:=Inv.unwish W;&Q,P,U,O,C,B,S,rfl,L,os,k,d,w,G,N,q:=h;rw[j]at L d G N;@r:∀ b,b∈frs _->b=X.env.locals\/b∈frs X.outer:=λb a=>by
  &g,l,m:=aAC.mp a;rcases aAl.mp l with rfl | l
  ·rw[A]at m;~.inl (Option.some.inj m).symm
  ·~.inr (aAC.mpr ⟨g,l,m⟩)
 @D:∀ b∈frs _,b∈frs (X.env :: X.outer):=λb a=>by
  &g,l,m:=aAC.mp a;~aAC.mpr ⟨g,aAk _ l,m⟩
 @f:∀ b o,X.s₀.heap.get? b=PN o->b∉frs _->b∉frs _:=λb o e n z=>by
  rcases r b z with rfl | z
  ·~absurd (aAm (aAd e) I.ok.above) (aAN _)
  ·~n z
 @c:Un X.fs [] X.H₀ H X.s₀.heap s.heap:=by @z:=I.base;rw[t]at z;~z
 @T:∀ b o,X.s₀.heap.get? b=PN o->b∉frs _->∃ i,B.get? b=PN i:=λb o e a=>by
  &i,p:=c.there b o e (by simp);~N b i p (f b o e a)
 !⟨O,C,P,Q,B,S,rfl,U,.inl L,os.trans I.os,k,?_,w,(λb o e n a=>G b o (c.keep b o e n a (by simp)) (c.free b o e n (by simp)) (f b o e a)),T,q⟩;!⟨λb o e n a _=>?_,λb o e n a _=>?_,λb o e n _=>?_,λb o e _=>?_,λb F e=>d.tups b F (c.tups b F e),λb o u e=>d.frzs b o u (c.frzs b o u e),λb R e=>?_⟩
 ·~d.keep b o (c.keep b o e n a (by simp)) (c.free b o e n (by simp)) (f b o e a) (by simp)
 ·&sl,y:=c.slot b o e n a (by simp);&v,x:=d.slot b _ y (c.free b o e n (by simp)) (D b a) (by simp);PM v,x
 ·&i,p:=c.there b o e (by simp);~d.free b i p (c.free b o e n (by simp)) (by simp)
 ·&i,p:=c.there b o e (by simp);~d.there b i p (by simp)
 ·&Z,y:=c.tbls b R e;&m2,x:=d.tbls b _ y;~⟨_,by rw[x,Array.append_assoc]⟩
end
§iZ(X:Cx)(E:XK):Prop:=X.xe=λe s'=>Lm (Lo X.prog X.w) X.A (Oo X.env e) (λ_ s''=>bY X.prog X.w X.outer X.H₀ X.s₀ E e s'') (λe' s''=>bY X.prog X.w X.outer X.H₀ X.s₀ E e' s'') s'
section
variable {X:Cx}{pins:PQ (Ll×Obj)}{σ:St}{H:Hp}{s:Lk}
~qV{h' g:LE}(z:iZ X E)(a:X.stack=X.env :: X.outer)(c:X.env.frame=PN X.env.locals)(e:X.ex=[])(I:Inv X pins σ H s)(B:∀ b o,s.heap.get? b=PN o->h'.get? b=PN o)
  (h0:ws[0]?=PN F) (es:s'={ s with heap:=g }) (h:Heap.Fl (W.hideAll s.heap (frs (X.env :: X.outer))) (X.env :: X.outer) v (.ref C) ws (LY X.env.locals) g) (J:h'.UpToSlots g) (f:Cl H ws) (q:E (.ref C) PR H):X.xe (.ref v) s':=by
 rw[z];subst es;@d:=h;&L,P,M,x,A,T,G,w,D,k,m,p,r:=d;!KE (NC c ⟨x,A,T,G,w,D,⟨k,by rw[p 0 (by decide)];~h0⟩,m,r⟩ ?_);!bI h λO u t=>?_;&l,n,⟨_,_,y⟩,j:=u;PM ws,F,h0,ly (s:=s) a c e I B ⟨l,n,y,j⟩ (J.trans t) ⟨f,q⟩
§x2(K:W.Frag)(HC C:Ll)(E:XK)(te:TX)(ta:TA):TS:=λD σ H=>te σ H (λv H1=>D.rt v H1) λcls _ H'=>∃ C',cls=.ref C'/\W.exmOne K (.ref C') (.ref HC)=PN PU/\∀ ea,H' ea=PR->ta σ (upd H' ea (yO ea)) λxs H2=>xs°<=Ld/\H2 ea=PN (yO ea)/\E (.ref C) PR H2
~qW{E:XK}{e t:Expr}{m:PQ Expr}{x y:Str}{np p1 hpos pos np2 i cp pos2:Pos}{j:Nat}{te:TX}{ta:TA}{HC C:Ll}(hx:iZ X E)(g:X.stack=X.env :: X.outer)(O:X.env.frame=PN X.env.locals)(hex:X.ex=[])(he:PX2 X e te)
  (hm:X.mg x=PN (.ref HC)) (hg:Gl X x) (G:ExC X.K X.mg y C) (hgy:Gl X y) (ha:∀ a,PA (hcx X a) (t :: m) ta) (hdb:(x == ("__debug__" : Str))=false:=by decide) (hdby:(y == ("__debug__" : Str))=false:=by decide)
  (Q:Lq (t :: m) X.env=(PV,L3 t X.env) :: Lq m X.env:=by rfl) (hpl:(Mc i (Lq m X.env)).any (·.1)=false:=by rfl) :
  PS X (.Try [.Return (PN e) p1] [.ExceptHandler (PN (.Name x np)) PR [.Raise (PN (.Call (.Name y np2) (t :: m) [] i)) (PN (.Constant .none j cp)) pos2] hpos] [] [] pos) (x2 X.K HC C E te ta):=by
 intro f s U H D I h;@P:X.A.frames=PN (X.env :: X.outer):=by rw[<- g];~I.ok.frames
 !No (ME (Ol (LG (he f s U H _ _ I h) (λv M ⟨y,H1,I1,r1,q1⟩=>?_) (λex M ⟨H1,s0,I0,fl0⟩=>?_))))
 ·PM y,U,H1,I1,r1,q1
 &ws,a0,h0,h2,a,C',B,Y,rfl,fl,os,w,un,R,c1,c2,C'',e',hxm,q:=fl0
 #e'
 @flS:=fl;rw[g]at fl;!jO P O fl λh4 x4 up4=>?_;!bI (s:={ M with heap:=h4 }) (fr:=PR) x4 λS x5 up5=>?_;@k:∀ {h2:LE},M.heap.UpToSlots h2->∀ b o,s0.heap.get? b=PN o->b∈frs X.stack->∃ sl,h2.get? b=PN { o with slots:=sl }:=fun{h2} up b o e p=>by
  &sl,e1:=un.slot b o e (I0.stkFree b p) p (by simp);&o2,t,nf:=cX flS.2.2.1 p;rw[e1]at t;obtain rfl:=Option.some.inj t;&sl2,e3:=up b _ e1 nf;PM sl2,e3
 @I5:Inv X f U Y { M with heap:=S }:=I0.call' (s':={ M with heap:=S }) os (dM un c1 c2 x5.1 (k (up4.trans up5))) (R.kept x5.1) w (ch:=[]) (λ_ z=>nomatch z);@l:Y a=none:=sT R fl.2.1;@x5':=x5;&_,_,_,ob,vb,_,_,_,hob,hobc,_:=x5';@LT:W.Looks (Lo X.prog X.w) S (M4 (.ref a)) (.ref C'):=by
  @L:W.Looks (Lo X.prog X.w) S (M4 (.ref a)) ob.cls:=(W.Looks.ld hob).andThen .now;rw[hobc]at L;~L
 !N5 (NK (bj (X:=hcx X a) (I5.hcx a) hg hm ?_ hdb)) (by intro z;#z);!(W.exm_one (h:=S) I5.kIn LT hxm).here ?_;!NB ?_;!bI (s:={ M with heap:=S }) (fr:=PR) x5 λh6 x6 up6=>?_;@x6':=x6;&_,_,f6,oe,vs,_,_,_,hoe,hoec,J,hkk,_:=x6';@neF:a∉frs X.stack:=λp=>by
  rw[<- g]at f6;&o2,t,nf:=cX f6 p;rw[hoe]at t;obtain rfl:=Option.some.inj t;~nf _ J
 @d:Un (frs X.stack) [] H1 Y s0.heap h6:=dM un c1 c2 x6.1 (k ((up4.trans up5).trans up6));@un7:Un (frs X.stack) [] H1 (upd Y a (yO a)) s0.heap h6:=by
  !⟨d.keep,d.slot,λb o e n z=>?_,d.there,λb xs e=>?_,λb o u e=>?_,λb ps e=>?_⟩
  ·@hne:b≠a:=by
    rintro rfl
    by_cases p:b∈frs X.stack
    ·~neF p
    ·@z:=c1 b o e n p;rw[fl.2.1]at z
     #z
   rw[ao hne];~d.free b o e n z
  ·rw[ao (aG (d.tups b xs e) l)];~d.tups b xs e
  ·rw[ao (aG (d.frzs b o u e) l)];~d.frzs b o u e
  ·&m1,e1:=d.tbls b ps e;~⟨m1,by rw[ao (aG e1 l)];~e1⟩
 @hok6:HOk X.prog X.w (upd Y a (yO a)) h6:=λb u e=>by
  by_cases p:b=a
  ·subst p;rw[aw]at e
   #e
   ~FC ⟨oe,vs,hoe,J,by rw[hkk 2 (by decide)];~h2⟩
  ·rw[ao p]at e;~(R b u e).stay (λc v _ z=>x6.1 c v z) (λc z=>by rw[ao (aG z l)];~z) λc xs z=>by rw[ao (aG z l)];~z
 @I6:Inv X f U (upd Y a (yO a)) { M with heap:=h6 }:=I0.call' (s':={ M with heap:=h6 }) os un7 hok6 w (ch:=[]) (λ_ z=>nomatch z);!ME ?_;&bm,N,nm,qn,bs,hd,sn,sub,ab,col,dd,k0,k1,k2,k3,k5,mN,hC,hN,hni,T:=jI I.ok.mod.kin G.q;!fD (C:=C) (nm:=nm) (q:=qn) (N:=N) (bs:=bs) (bm:=bm) (hdct:=hd) (sn:=sn) (sub:=sub) (ab:=ab) (col:=col) (dd:=dd) (k0:=k0) (k1:=k1) (k2:=k2) (k3:=k3) (k5:=k5) F.excBase_ValueError (mN:=mN) (T.hasType F.excBase_ValueError.hasBase) rfl
  (by rw[Q];show(PV || (Mc i (Lq m X.env)).any (·.1))=PV;rw[hpl];rfl) hni (bj (X:=hcx X a) (I6.hcx a) hgy G.m ⟨rfl,?_⟩ hdby)
 @z:=ha a i f _ U _ _ (I6.hcx a) (q a l);rw[show(hcx X a).env=X.env from rfl,Q]at z;rw[Q];!Calls.evalArgs_plain (LG z (λus s2 ⟨vs2,H2,I2,r,hz,hy,q2⟩=>?_) λ_ _ y=>y.elim);@V:Inv X f U H2 s2:=I2.unhcx I.ok;!⟨rfl,by show us°<=Ld;rw[<- r°];~hz,V.bk _ _ hC,hN.keeps V.bk,T.keeps V.bk,(show ObjOk X.prog X.w H2 s2.heap a (yO a)from V.hok a _ hy).1,λh7 e7 t7 kp hn7 he7=>?_⟩;&b1,b2,b3:=iY g V kp hn7;!xW (A:=X.A) (E:=X.xe) (E2:=X.xe) (s:={ s2 with heap:=h7 }) P P O b3 he7 b1 b2 rfl rfl (λ_ z=>z) λh8 x8 up8=>?_;~qV hx g O hex V kp rfl rfl x8 up8 (.inr ⟨a,rfl,hy⟩) q2
end
~Fun.okE3{K}{st}(F:Fun K x c st f p)(S:FnScope N j (ar st))(h:∀ vs H Q E,sp vs H Q E->vs°=j°)
  (d:∀ (b) (A) (a) (s) (H) (vs) (Q) (E),Room k (A.deeper (Nv c (ar st) s¢ f b))->sp vs H Q E ->
   ∃ t,PSs (ii (bY P w) P w K l e N c (ar st) f b A a s H E) (aM st) t/\t { nx:=λ_ H'=>Q .non H',rt:=Q } (eZ N vs) H):FnOk P w K l e (bY P w) (k+1) f p j sp:=by
 &y,u,kV,q,z,v,b,r,n,rfl,o,i:=F.ex;~Az o i S h λA a s H vs Q E m g=>d b A a s H vs Q E m g
~FD{K} :
  iZ (ii (bY P w) P w K g c N d b f e A a s H E) E:=rfl
¶smT(pl:Array Nat)(fg mv:Nat)(l p:Bool):SetTable:={ mask:=7,place:=pl,dummies:=#[],finger:=fg,led:=l,moves:=mv,plain:=p }
¶pbA(j pt:Nat):SetTable.Probe:=⟨j,0,j,pt,PR⟩
~FE:(smT #[] fg mv l p).slot j=.empty:=rfl
~lB:(smT #[q] fg mv l p).slot j=if q=j then .live 0 else .empty:=by
 by_cases c:q < j
 ·@n:¬ q=j:=or
  simp[SetTable.slot,SetTable.below,SetTable.below.go,SetTable.has,c,n]
 ·by_cases e:q=j
  ·subst e;simp[SetTable.slot,SetTable.below,SetTable.below.go]
  ·simp[SetTable.slot,SetTable.below,SetTable.below.go,SetTable.has,c]
~FF:(smT pl fg mv l p).advance (pbA j b)=pbA ((j*5+1+b / 32) % 8) (b / 32):=by
 @e:¬ (j*5+1+b / 32) % 8+9<=7:=or
 simp[SetTable.advance,SetTable.leap,SetTable.runEnd]
~nr:(smT pl fg mv l p).probeStart h=pbA (SetTable.bits h % 8) (SetTable.bits h):=by
 @e:¬ SetTable.bits h % 8+9<=7:=or
 simp[SetTable.probeStart,SetTable.runEnd]
~tX(h):SetTable.bits h < 32 ^ 13:=by
 PL SetTable.bits;on
~lC(b:(hs 0 == h)=PV):∀ (n f j a),a < 32 ^ n->n+2<=f->∃ d,SetTable.probe.go (smT #[q] fg mv l p) hs h f (pbA j a)=PN (.empty d PR)
 |n,0,_,_,_,z=>or
 |n,f+1,j,a,k,m=>by
  PL SetTable.probe.go;rw[lB]
  by_cases e:q=j
  ·subst e;rw[Lj rfl];dsimp only;rw[b,FF]
   #n with
   |zero =>
    @i:a=0:=or
    subst i;obtain⟨f,rfl⟩:∃ g,f=g+1:=⟨f - 1,or⟩;@c:¬ q=(q*5+1+0 / 32) % 8:=or
    ~⟨_,by PL SetTable.probe.go;rw[lB,Ln c];rfl⟩
   |succ n =>
    ~lC b n f _ _ or or
  ·rw[Ln e];PM j,rfl
section
variable {P:Lw}{w:Lu}{K:Type}[DecidableEq K]{kd:KeyKind P w K}{A:LM}{E:Li->Lk->Prop}{s:Lk}
~x3(n)(h:MD v=PU):∃ b,OJ n v=pure b:=by
 #v with
 |ref a=>simp[MD]at h
 |_=>first | ~⟨_,rfl⟩ | (cases n <;> PM _,rfl) | ~⟨_,by rfl⟩
~qX(j:LS kd s.heap ks a)(h:∀ b,Q b s):Lm (Lo P w) A (OJ 8 (.ref a)) Q E s:=by
 @p:=j.typeIs;&o,f,n,k,_,m,l:=j;!KE (MJ p F.slot_tuple_hash.lookup ?_);!KE (LJ k m ?_);!KE ?_;rw[<- aBm];!OE _ (λrest r d=>r.1=PR/\d=s/\∀ v∈rest,MD v=PU) _ ?_ ?_ _ _ ⟨rfl,rfl,l.byValue⟩
 ·rintro v rest r d ⟨i,rfl,c⟩;&b,e:=x3 7 (c v aAe);rw[e]
  #b
  ·!Lg ?_;~Lg (h PV)
  ·~Lg ⟨rfl,rfl,λu g=>c u (aAk _ g)⟩
 ·rintro⟨t,q⟩ d ⟨i,rfl,_⟩;subst i;~Lg (h PU)
~x9(n)(h:MD v=PU):MV n v=pure false:=by
 #v with
 |ref a=>simp[MD]at h
 |_=>first | rfl | (PL MV;rfl)
~i3(f:LS kd s.heap ks a)(h:Q PV s):Lm (Lo P w) A (MV 8 (.ref a)) Q E s:=by
 @k:=f.typeIs;&o,d,n,j,_,l,i:=f;PL MV;!KE (L8 k ?_);!KE (Lg ?_);!KE (LJ j l ?_);!KE ?_;rw[<- aBm];!OE _ (λrest r c=>r.1=PR/\c=s/\∀ v∈rest,MD v=PU) _ ?_ ?_ _ _ ⟨rfl,rfl,i.byValue⟩
 ·rintro v rest r c ⟨g,rfl,b⟩;rw[x9 7 (b v aAe)];~Lg ⟨rfl,rfl,λu e=>b u (aAk _ e)⟩
 ·rintro⟨p,m⟩ c ⟨g,rfl,_⟩;subst g;~Lg h
~d9(a:LS kd s.heap c x)(b:LS kd s.heap d y)(h:Q PV s):Lm (Lo P w) A (MW (.ref x) [.ref y]) Q E s:=by
 PL MW;PK[aBe,  aBA]
 by_cases e:(x == y)=PU
 ·PK[e];~KE (KE (Lg (Lg (Lg h))))
 ·PK[e];!KE (KE (KE (NM a ?_)));!KE (NM b ?_);!KE (i3 a ?_);!KE (i3 b ?_);~Lg (Lg (Lg h))
~tY:SetTable.probe.go (smT #[] fg mv l p) hs h (f+1) (pbA j a)=PN (.empty j PR):=by
 PL SetTable.probe.go;rw[FE]
~tZ(f:(h0 == h)=PV)(d:c < 32 ^ n)(g:n<=13)(i:(smT #[q] fg mv l p).probe hs h (pbA j c)=M)(k:hs 0=h0):∃ a,M=PN (.empty a PR):=by
 &a,e:=lC (hs:=hs) (by rw[k];~f) n _ j c d (by show n+2<=220;on);PM a,i.symm.trans e
~lD(d:(h0 == h)=PU)(c:hs 0=h0):(smT #[q] fg mv l p).probe hs h (pbA j b)=if q=j then PN (.candidate j 0 (pbA ((j*5+1+b / 32) % 8) (b / 32)))else PN (.empty j PR):=by
 show SetTable.probe.go _ _ h (219+1) _=_;PL SetTable.probe.go;rw[lB]
 by_cases e:q=j
 ·subst e;rw[Lj rfl,Lj rfl,FF];dsimp only;rw[c,Lj d]
 ·rw[Ln e,Ln e]
~qY(b:¬ q=j):(smT #[q] fg mv l p).probe hs h (pbA j c)=PN (.empty j PR):=by
 show SetTable.probe.go _ _ h (219+1) _=_;PL SetTable.probe.go;rw[lB,Ln b]
~nt(e:s.heap.get? a=PN o)(d:o.data=.set #[(h0,y)] g (smT #[q] fg mv l p))(c:¬ q=j)(b:Q (.free j PV) s):Lm (Lo P w) A (M1 a x h PU (f+1) (PN (pbA j i))) Q E s:=by
 !KE (LL e d (by rfl) ?_);dsimp only;rw[show SetTable.gaveWay _=PV by simp[SetTable.gaveWay]];rw[aB2,qY c];~Lg b
~oQ{a x y:Ll}{o:Obj}{q Y fg mv:Nat}{l p:Bool}{h0 h:Int}{N G:PQ K}(r:s.heap.get? a=PN o)(t:o.data=.set #[(h0,.ref y)] Y (smT #[q] fg mv l p))(C:LS kd s.heap N x)(B:LS kd s.heap G y)(H:N≠G)(L:A.units < LU)
  (m:∀ j,Q (.free j PV) s):∀ (n f j v:Nat) (st:PY SetTable.Probe),st.getD ((smT #[q] fg mv l p).probeStart h)=pbA j v->v < 32 ^ n->n<=13->n+2<=f->Lm (Lo P w) A (M1 a (.ref x) h PU f st) Q E s
 |n,0,_,_,_,_,_,_,z=>or
 |n,f+1,j,v,st,W,I,D,Z=>by
  PL M1;!KE (LL r t (by rfl) ?_);dsimp only;rw[show SetTable.gaveWay _=PV by simp[SetTable.gaveWay],W];PK[aA2,M8]
  by_cases i:(h0 == h)=PU
  rotate_left
  ·generalize T:SetTable.probe _ _ _ _=M;&U,rfl:=tZ (h0:=h0) (aA6.mpr i) I D T rfl;~Lg (m U)
  rw[lD i rfl]
  by_cases e:q=j
  rotate_left
  ·rw[Ln e];~Lg (m j)
  subst e;rw[Lj rfl];dsimp only;@S:(List.map (λx=>x.2) ((#[(h0,Value.ref y)]:Array (Int×Li)).filter λx=>x.1 == h).toList)=[Value.ref y]:=by
   simp[i]
  rw[S];@rest:∀ F:Bool->Lk->Prop,F PV s->Lm (Lo P w) A (Nb [Value.ref y] (eqBool (.ref y) (.ref x))) F E s:=by
   intro F O;!Lr (Oj L B C ?_);rw[Lv λz=>H z.symm];~O
  have X:∀ (R:Sem SetFound),Lm (Lo P w) A R Q E s->Lm (Lo P w) A (if(!l)=PU then do
    let d <- MW (Value.ref x) [Value.ref y]
    if d=PU then do
     unsupported "set:the-search-would-show-the-table"
     R
    else R
    else R) Q E s:=by
   intro R J
   split
   ·!KE (d9 C B ?_);~J
   ·~J
  !X _ ?_;!KE (rest _ ?_);!KE (LL r t (by rfl) ?_);rw[show(smT #[q] fg mv l p).sameMemory mv 7=PN PU by simp[SetTable.sameMemory]];dsimp only;rw[Lj rfl,lB,Lj rfl];!KE (wpAny_isSame_ref_self ?_);!KE (Lg ?_);PK[Nd]
  #n with
  |zero =>
   @i:v=0:=or
   subst i;obtain⟨f,rfl⟩:∃ g,f=g+1:=⟨f - 1,or⟩;~nt r t or (m _)
  |succ n=>~oQ r t C B H L m n f _ _ (PN _) rfl (by rw[Nat.pow_succ]at I;on) or or
§qZ(h:LE)(S:Ll)(n:Nat):Prop:=∃ o es ep t,h.get? S=PN o/\o.ExactSet/\o.data=.set es ep t/\t.fits es.size=PU/\es.size=n
~lE(h:s.heap.get? S=PN o)(g:o.data=.set es j q)(m:LS kd s.heap r x)(hz:d.size<=2)(t:pl.size<=2)
  (n:∀ h' f,Heap.SameBut S s.heap h'->h'.get? S=PN { o with data:=.set d (j+1) (smT pl fg mv l f) }->Q PU { s with heap:=h' }) :
  Lm (Lo P w) A (if p=PU then do
    let a <- OJ 8 (Value.ref x)
    Px S d (if a=PU then smT pl fg mv l p else smT pl fg mv l PV)
    if(!PV && (if a=PU then smT pl fg mv l p else smT pl fg mv l PV).tooFull)=PU then G else pure PU
   else do
    let a <- pure PU
    Px S d (if a=PU then smT pl fg mv l p else smT pl fg mv l PV)
    if(!PV && (if a=PU then smT pl fg mv l p else smT pl fg mv l PV).tooFull)=PU then G else pure PU) Q E s:=by
 have i:∀ b:Bool,Lm (Lo P w) A (do
   Px S d (if b=PU then smT pl fg mv l p else smT pl fg mv l PV)
   if(!PV && (if b=PU then smT pl fg mv l p else smT pl fg mv l PV).tooFull)=PU then G else pure PU) Q E s:=by
  intro b;obtain⟨f,e⟩:∃ f,(if b=PU then smT pl fg mv l p else smT pl fg mv l PV)=smT pl fg mv l f:=by
   #b
   ·PM PV,rfl
   ·PM p,rfl
  rw[e];!KE (wpAny_storeSet_of h g ?_ (aAq hz (by decide)));@k:(smT pl fg mv l f).tooFull=false:=by
   !Lv ?_;show ¬ (pl.size+0)*5≥7*3;on
  rw[k];!Lg (n _ f (Heap.SameBut.update _ _ _) ?_);@:=aAI (Obj.putSet d (smT pl fg mv l f)) h (by rw[putSet_of d _ g];rfl);rw[putSet_of d _ g]at this;~this
 split
 ·~KE (qX m λb=>i b)
 ·~KE (Lg (i PU))
~Jf(d:s.heap.get? S=PN o)(n:o.ExactSet)(b:o.data=.set #[(h0,.ref y)] F (smT #[q] fg mv l p))(i:LS kd s.heap v x)(z:LS kd s.heap C y)(B:v≠C)(u:A.units < LU)
  (D:∀ h',Heap.SameBut S s.heap h'->qZ h' S 2->Q PU { s with heap:=h' }):Lm (Lo P w) A (ND S (.ref x) h) Q E s:=by
 !Lr ?_;!KE (LL d b (by rfl) ?_);dsimp only;rw[show O5 (.ref x) _=PV by simp[O5,Value.scannable]];!KE (oQ d b i z B u (λj=>?_) 13 100000 _ _ PR nr (tX h) or or);!KE (LL d b (by rfl) ?_);obtain⟨r,g,m,H,a⟩:∃ r g,SetTable.put (smT #[q] fg mv l p) j=(smT g fg mv l p,r)/\r<=1/\g.size=2:=by
  by_cases c:q < j
  ·~⟨1,#[q,j],by simp[SetTable.put,SetTable.below,SetTable.below.go,SetTable.insertAt,SetTable.has,c],or,rfl⟩
  ·~⟨0,#[j,q],by simp[SetTable.put,SetTable.below,SetTable.below.go,SetTable.insertAt,SetTable.has,c],or,rfl⟩
 rw[m];@f:(SetTable.insertAt (#[(h0,.ref y)]) r (h,Value.ref x)).size=2:=by
  obtain rfl | rfl:r=0\/r=1:=or
  ·simp[SetTable.insertAt]
  ·simp[SetTable.insertAt]
 !lE d b i (by rw[f];decide) (by rw[a];decide) λh' G t e=>D h' t ⟨_,_,_,_,e,n,rfl,?_,f⟩;rw[f];simp[SetTable.fits,SetTable.fill,a]
end
section
variable {X:Cx}{pins:PQ (Ll×Obj)}{σ:St}{H:Hp}{s:Lk}
~Inv.seqE(I:Inv X pins σ H s)(h:SqE t X.K H a xs):∃ its:PQ Li,Vals xs its/\TsXe t s.heap a its.toArray/\xs°<=Ld:=by
 #t
 ·&its,r,p,z:=I.list h;PM its,r,p.isList,z
 ·~I.tuple h
~Inv.seqE_inj(I:Inv X pins σ H s)(h:SqE t X.K H a xs)(h':SqE t X.K H a ys):xs=ys:=by
 #t
 ·~I.list_inj h h'
 ·~I.tuple_inj h h'
end
section
variable {prog:Lw}{w:Lu}{A:LM}{E:Li->Lk->Prop}{s:Lk}
~uj(hh:A.handled=PR)(z r j u v l m:Ll)(D:Mu z r j u v l m)(xs ys) :
  WalksT prog w A z [z,r,j,u,v,l,m] [z,j,u,v] (min xs.size ys.size) (λi I=>∃ x y,xs[i]?=PN x/\ys[i]?=PN y/\I=#[x,y])
   (λi h=>MY h z r j .none/\LQ h r (.ref u) (.ref v)/\(∃ a b,LQ h j a b)/\ItXe ta h u l i/\ItXe tb h v m i/\TsXe ta h l xs/\TsXe tb h m ys)
   (λi T h=>MY h z r j (LY T)/\LQ h r (.ref u) (.ref v)/\(∃ a b,LQ h j a b)/\ItXe ta h u l (i+1)/\ItXe tb h v m (i+1)/\TsXe ta h l xs/\TsXe tb h m ys/\T≠z/\T≠j/\T≠u/\T≠v) where
 sub:=λc d=>by
  simp at d ⊢;rcases d with h | h | h | h <;> simp[h]
 frame:=λi h C st f=>by
  &Z,p,⟨a,b,n⟩,⟨X,O,r1⟩,⟨W,R,r2⟩,⟨S,N,M⟩,⟨J,P,L⟩:=st;PM f z (by simp) _ Z,f r (by simp) _ p,⟨a,b,f j (by simp) _ n⟩,⟨X,f u (by simp) _ O,r1⟩,⟨W,f v (by simp) _ R,r2⟩,⟨S,f l (by simp) _ N,M⟩,⟨J,f m (by simp) _ P,L⟩
 item:=λi s Q E hi st q=>by
  &Z,p,⟨a,b,n⟩,B,G,H,F:=st;@Y:i < xs.size:=or
  @U:i < ys.size:=or
  !gx D Z p n B G H F (aAT Y) (aAT U) λC a1 a2 a3 a4 a5 a6 f=>?_;@g:∀ {c o},s.heap.get? c=PN o->s¢≠c:=λe=>aAx (aAd e);&X,O,_:=B;&W,R,_:=G;&S,N,M:=H;&J,P,L:=F;!q s¢ _ C s.toks ⟨_,_,aAT Y,aAT U,rfl⟩ (aAo _) ⟨_,a5,rfl,_,rfl⟩ ⟨a1,f _ _ D.TIz D.TITO D.TIi1 D.TIi2 p,⟨_,_,a2⟩,a3,a4,⟨S,f _ _ D.l1z D.l1TO D.l1i1 D.l1i2 N,M⟩,⟨J,f _ _ D.l2z D.l2TO D.l2i1 D.l2i2 P,L⟩,g Z,g n,g O,g R⟩ λc o d e=>?_;simp at d;~f c o d.1 d.2.1 d.2.2.1 d.2.2.2 e
 go:=λelts k pos i T s Q E st q=>by
  &Z,p,⟨a,b,n⟩,B,G,H,F,_:=st;!wpAny_letOwnedTupleGo_zip Z λC Z' t=>q C ⟨Z',t.extBut _ _ D.TIz p,⟨a,b,t.extBut _ _ D.TOz n⟩,B.extBut t.extBut D.i1z,G.extBut t.extBut D.i2z,H.extBut t.extBut D.l1z,F.extBut t.extBut D.l2z⟩ λc o d e=>?_;simp at d;~t.extBut _ _ d.1 e
 apart:=λi T h st hT=>by simp_all
 done:=λs Q E st q=>by
  &Z,p,⟨a,b,n⟩,B,G,H,F:=st;@no:xs[min xs.size ys.size]?=PR\/ys[min xs.size ys.size]?=none:=by
   rcases Nat.le_total xs.size ys.size with h | h
   ·~.inl (aCe or)
   ·~.inr (aCe or)
  !iS hh D Z p n B G H F no λC f=>q C s.toks λc o d e=>?_;simp at d;~f c o d.1 d.2.1 d.2.2.1 d.2.2.2 e
 self:=λi s Q E st q=>MF st.1 q
set_option maxHeartbeats 2000000 in
set_option maxHeartbeats 2000000 in
set_option maxHeartbeats 2000000 in
set_option maxHeartbeats 2000000 in
end
§uk(ta tb:Bool)(K:W.Frag)(a b:Ll):It:=
 ⟨λi H=>∃ xs ys x y,SqE ta K H a xs/\SqE tb K H b ys/\xs[i]?=PN x/\ys[i]?=PN y,
  λi H v H'=>∃ T x y,v=.ref T/\H T=PR/\H'=upd H T (.tup [x,y])/\(∀ xs,SqE ta K H a xs->xs[i]?=PN x)/\(∀ ys,SqE tb K H b ys->ys[i]?=PN y),
  λi H=>∃ xs ys,SqE ta K H a xs/\SqE tb K H b ys/\min xs° ys°=i⟩
§ya(ta tb:Bool)(z TI TO i1 i2 l1 l2:Ll)(i:Nat)(h:LE):Prop:=MY h z TI TO .none/\LQ h TI (.ref i1) (.ref i2)/\(∃ a b,LQ h TO a b)/\ItXe ta h i1 l1 i/\ItXe tb h i2 l2 i
~nu{ta tb:Bool}{P:Lw}{w:Lu}{K:W.Frag}{r:PQ Expr}{k:Nat}{pos:Pos}(z TI TO m j M Q:Ll)(D:Mu z TI TO m j M Q) :
  Turn P w K (.Tuple r k pos) (uk ta tb K M Q) [z,TI,TO,m,j] z (ya ta tb z TI TO m j M Q) where
 mem:=by simp
 obj:=λi h st b d=>by
  &L,t,⟨a,c,A⟩,⟨o1,F,c1,d1⟩,⟨o2,J,c2,d2⟩:=st;PK[aAl,aAu,LN]at d;rcases d with rfl | rfl | rfl | rfl | rfl
  ·~⟨_,L,λv q=>by #q⟩
  ·~⟨_,t,λv q=>by #q⟩
  ·~⟨_,A,λv q=>by #q⟩
  ·~⟨o1,F,λv q=>by rw[d1]at q;#q⟩
  ·~⟨o2,J,λv q=>by rw[d2]at q;#q⟩
 keep:=λi h C st B=>by
  &L,t,⟨a,c,A⟩,⟨o1,F,r1⟩,⟨o2,J,r2⟩:=st;PM B z (by simp) _ L,B TI (by simp) _ t,⟨a,c,B TO (by simp) _ A⟩,⟨o1,B m (by simp) _ F,r1⟩,⟨o2,B j (by simp) _ J,r2⟩
 item:=by
  intro X hP hw hK hc i l s σ H E I N st hg;subst hP hw hK;&xs,ys,x,y,S,U,ex,ey:=hg;&n,R,p,L:=I.seqE S;&f,o,p2,hz2:=I.seqE U;&s1,Z,s3,s4,s5:=st;@V:=uj (ta:=ta) (tb:=tb) (prog:=X.prog) (w:=X.w) (I.ok.hd hc) z TI TO m j M Q D n.toArray f.toArray;@li:i < xs°:=(aAg.mp ex).1;@li2:i < ys°:=(aAg.mp ey).1;@el:=R°;@el2:=o°;@g:∀ b∈[z,TO,m,j],b∈[z,TI,TO,m,j]:=λb d=>by
   PK[aAl,aAu,LN]at d ⊢;rcases d with rfl | rfl | rfl | rfl <;> simp
  !V.item i s _ _ (by PK[aAB];on) ⟨s1,Z,s3,s4,s5,p,p2⟩ λT vals C Y hv hT O hm hk=>?_;&u,v,eu,ev,rfl:=hv;&u',eu',ru:=R.get ex;&v',ev',rv':=o.get ey;@F:u=u':=by simp_all
  @J:v=v':=by simp_all
  subst F J;@I1:Inv X l σ (upd H T (.tup [x,y])) { s with heap:=C,toks:=Y }:=I.turnedT hk (λb d=>N b (g b d)) hT ⟨by show 2<=Ld;decide,[u,v],.cons ru (.cons rv' .nil),O⟩;@G:=V.apart i T C hm;@f1:∀ b∈[z,TO,m,j],dJ X l (upd H T (.tup [x,y])) b:=λb d=>by
   &f0,f1:=N b (g b d);~⟨by rw[ao (λe:b=T=>G (by rw[<- e];~d))];~f0,f1⟩
  !⟨_,rfl,V.go r k pos i T _ _ _ hm λh'' st2 hk2=>?_⟩;&t1,t2,t3,t4,t5,_,_:=st2;!⟨.ref T,_,Inv.turnedL (s:={ s with heap:=C,toks:=Y }) (t':=Y) I1 hk2 f1,rfl,⟨T,x,y,rfl,(I.hok.fresh hT),rfl,λzs q=>by rw[I.seqE_inj q S];~ex,λzs q=>by rw[I.seqE_inj q U];~ey⟩,⟨t1,t2,t3,t4,t5⟩,λb d=>?_⟩
  by_cases e:b=T
  ·subst e;PK[aAl,aAu,LN]at d;rcases d with rfl | rfl | rfl | rfl | rfl
   ·~absurd (by simp) G
   ·~absurd (aAd Z) (Nat.not_lt.mpr hT)
   ·~absurd (by simp) G
   ·~absurd (by simp) G
   ·~absurd (by simp) G
  ·rw[ao e];~((N b d).1)
 done:=by
  intro X hP hw hK hc i l s σ H E I N st hg;subst hP hw hK;&xs,ys,S,U,hi:=hg;&n,R,p,L:=I.seqE S;&f,o,p2,hz2:=I.seqE U;&s1,Z,s3,s4,s5:=st;@V:=uj (ta:=ta) (tb:=tb) (prog:=X.prog) (w:=X.w) (I.ok.hd hc) z TI TO m j M Q D n.toArray f.toArray;@el:=R°;@el2:=o°;@en:min n.toArray.size f.toArray.size=i:=by PK[aAB];on
  @g:∀ b∈[z,TO,m,j],b∈[z,TI,TO,m,j]:=λb d=>by
   PK[aAl,aAu,LN]at d ⊢;rcases d with rfl | rfl | rfl | rfl <;> simp
  !V.done s _ _ ?_ λC Y hk=>⟨rfl,I.turnedL hk λb d=>N b (g b d)⟩;rw[en];PM s1,Z,s3,s4,s5,p,p2
 self:=λ_ _ _ _ _ st h=>MF st.1 h
section
variable {X:Cx}{elts:PQ Expr}{k:Nat}{tpos:Pos}
§Cm(K:W.Frag)(te:TA):TI:=λσ H R=>te σ H λvs H1=>∃ (ta tb:Bool) (a b:Ll),vs=[.ref a,.ref b]/\(∃ xs,SqE ta K H1 a xs)/\(∃ ys,SqE tb K H1 b ys)/\R (uk ta tb K a b) H1
~ul{p pos}(O:Gl X "zip")(L:X.mg "zip" = PR)(D:PA X [a,b] F)(hs:Lq [a,b] X.env=[(PV,L3 a X.env),(PV,L3 b X.env)]:=by rfl)(g:Lq [b] X.env=[(PV,L3 b X.env)]:=by rfl) :
  PI X (.Tuple elts k tpos) (.Call (.Name "zip" p) [a,b] [] pos) (Cm X.K F):=by
 intro c s E H R I h;!Call_ (b6 I O L Pw (PyProof.Rows.callWith_type1 (thn (D pos c s E H _ I h) λus i ⟨vs,J,d,P,B⟩=>?_) (by rw[hs,g]) (by rw[g];rfl)));&ta,tb,z,j,e,⟨xs,C⟩,⟨ys,A⟩,q:=B;subst e;&u,v,rfl,Q,M:=P.two
 #Q
 #M
 &W,rr,x,hz:=d.seqE C;&n,N,f,U:=d.seqE A;!dN x f λh' l Y T S G zs Z=>?_;!MF l ?_;!⟨_,_,_,_,J,rfl,(d.kept (t':=i.toks) Z),nu _ _ _ _ _ z j ?_,⟨l,Y,⟨_,_,T⟩,S,G⟩,λb t=>?_,q⟩
 ·@r:i¢ > z:=(by &o,e,_:=x;~aAd e);@m:i¢ > j:=(by &o,e,_:=f;~aAd e)
  constructor <;> (show ¬ (@Eq Nat _ _)) <;> on
 ·@:i¢<=b:=by
   simp at t;rcases t with rfl | rfl | rfl | rfl | rfl <;> on
  ~d.fpOk this (d.hok.fresh this)
end
section
variable {P:Lw}{w:Lu}{A:LM}{R:OV->Lk->Prop}{it:Ll}{fp wr:PQ Ll}{G:Array NN->Array NN->Prop}{n:Nat}{Pt:Nat->Li->Prop}{St:Nat->Lk->Prop}
~q3(W:WalksS P w A.in1 it fp wr G n Pt St)(S:Ll)(y:S∉fp)(f:Nat->LE->Prop)(a:∀ i h h',f i h->(∀ b o,b∉wr->h.get? b=PN o->h'.get? b=PN o)->f i h')
  (m:∀ i v (s:Lk) (Q) (E),i < n->Pt i v->f i s.heap->(∀ r h' tk,s.toks<=tk->Heap.SameBut S s.heap h'->f (i+1) h'->Q r { s with heap:=h',toks:=tk })->Lm (Lo P w) A.in1 (PJ S v) Q E s) :
  ∀ (d i:Nat) (s:Lk),n - i=d->i<=n->St i s->f i s.heap ->
   (∀ s',Moved (S :: wr) G s s'->f n s'.heap->R (.ok (.ret .none)) s')->MT (Lo P w) A (.builtin "set.update.loop" ⟨[.ref S,.ref it],[]⟩) R s:=by
 @F:∀ b∈wr,b∈S :: wr:=λb z=>aAk _ z;intro d
 induction d with
 |zero =>
  intro i s I M st u B;obtain rfl:i=n:=or
  !LA PyProof.Rows.F.entry_set_update_loop (by
   rw[Around.under_plainId PyProof.Rows.F.plain_set_update_loop _];!KE (W.done s _ _ st λs' j=>?_);~Lg (B s' (j.mono F) (a _ _ _ u λb o e q=>j.heap b o e q)))
 |succ d O =>
  intro i s I M st u B;@x:i < n:=or
  !LA PyProof.Rows.F.entry_set_update_loop (by
   rw[Around.under_plainId PyProof.Rows.F.plain_set_update_loop _];!KE (W.item i s _ _ x st λv s' pv p j=>?_);!KE (Lr (m i v s' _ _ x pv (a _ _ s'.heap u λb o e q=>j.heap b o e q) λr T tk g D C=>?_));!Lg ⟨LX PyProof.Rows.F.plain_set_update_loop _,O (i+1) _ or x (W.frame _ s' _ _ p g λb e o q=>?_) C λN l t=>?_⟩
   ·rw[D.2 b (λz:b=S=>y (by rw[<- z];~e))];~q
   ·!B N (Moved.trans W.gtrans ((j.mono F).then_heap g λb o e q=>?_) l) t;rw[D.2 b (λz:b=S=>e (by rw[z];~aAe))];~q)
end
section
variable {P:Lw}{w:Lu}{K:Type}[DecidableEq K]{kd:KeyKind P w K}{A:LM}{E:Li->Lk->Prop}{s:Lk}
~um(d:s.heap.get? a=PN o)(g:o.data=.set #[] i (smT #[] fg mv l p))(b:Q (.free (SetTable.bits h % 8) PV) s):Lm (Lo P w) A (M1 a x h PU (f+1) PR) Q E s:=by
 !KE (LL d g (by rfl) ?_);dsimp only;rw[show SetTable.gaveWay _=PV by simp[SetTable.gaveWay]];rw[aBP,nr];generalize c:SetTable.probe _ _ _ _=M;@e:M=PN (.empty (SetTable.bits h % 8) PR):=by
  rw[<- c];~tY
 rw[e];~Lg b
~FG(b:s.heap.get? S=PN o)(a:o.data=.set #[] g (smT #[] fg mv l p))(f:LS kd s.heap k x)
  (d:∀ h' c,Heap.SameBut S s.heap h'->h'.get? S=PN { o with data:=.set #[(h,.ref x)] (g+1) (smT #[SetTable.bits h % 8] fg mv l c) }->Q PU { s with heap:=h' }):Lm (Lo P w) A (ND S (.ref x) h) Q E s:=by
 !Lr ?_;!KE (LL b a (by rfl) ?_);dsimp only;rw[show O5 _ _=PV by simp[O5,Value.scannable]];!KE (um b a ?_);!KE (LL b a (by rfl) ?_);generalize SetTable.bits h % 8=j at d ⊢;rw[show SetTable.put _ j=(smT #[j] fg mv l p,0)by simp[SetTable.put,SetTable.below,SetTable.below.go,SetTable.insertAt,SetTable.has]];~lE b a f (by show 1<=2;decide) (by show 1<=2;decide) λh' c i e=>d h' c i e
~FH(e:s.heap.get? S=PN o)(c:o.data=.set #[(h,.ref y)] r (smT #[SetTable.bits h % 8] fg mv l p))(f:LS kd s.heap j x)(g:LS kd s.heap j y)(k:A.units < LU)
  (q:Q PV s):Lm (Lo P w) A (ND S (.ref x) h) Q E s:=by
 PL ND;!Lr ?_;PL setAddHashedIn;!KE (LL e c (by rfl) ?_);dsimp only;rw[show O5 (.ref x) _=PV by simp[O5,Value.scannable]];PL setSearch;!KE ?_;PL M1;!KE (LL e c (by rfl) ?_);dsimp only;rw[show SetTable.gaveWay _=PV by simp[SetTable.gaveWay]];rw[aBP,nr,lD (h0:=h) (by simp) rfl,Lj rfl];dsimp only;@m:(List.map (λx=>x.2) ((#[(h,Value.ref y)]).filter λx=>x.1 == h).toList)=[Value.ref y]:=by simp
 rw[m];have n:∀ (Q) (R:Sem SetFound),Lm (Lo P w) A R Q E s->Lm (Lo P w) A (if(!l)=PU then do
   let d <- MW (Value.ref x) [Value.ref y]
   if d=PU then do
    unsupported "set:the-search-would-show-the-table"
    R
   else R
   else R) Q E s:=by
  intro Q R i
  split
  ·!KE (d9 f g ?_);~i
  ·~i
 !n _ _ ?_;!KE (Lr (Oj k g f ?_));rw[Lh rfl];!KE (LL e c (by rfl) ?_);~Lg (Lg q)
end
§gG(xs:PQ (Ll×PQ Key)):Nat:=match xs with
 |[x,y]=>if x.2=y.2 then 1 else 2
 |xs=>xs°
section
variable {P:Lw}{w:Lu}{A:LM}{E:Li->Lk->Prop}{s:Lk}
§yI(P:Lw)(w:Lu)(xs:PQ (Ll×PQ Key))(S:Ll)(b:Bool)(i:Nat)(h:LE):Prop:=
 (∀ p∈xs,LS (aq P w) h p.2 p.1)/\match i with
  |0=>∃ o,h.get? S=PN o/\o.ExactSet/\o.data=.set #[] 0 (smT #[] 0 0 b PU)
  |1=>∃ o x ep p,h.get? S=PN o/\o.ExactSet/\xs[0]?=PN x/\o.data=.set #[(tupleKeyHash (aq P w) x.2,.ref x.1)] ep (smT #[SetTable.bits (tupleKeyHash (aq P w) x.2) % 8] 0 0 b p)
  |_=>qZ h S (gG xs)
~Jg(a:xs°<=2)(z:yI P w xs S b xs° h):qZ h S (gG xs):=by
 #xs with
 |nil =>
  &_,o,e,x,d:=z;PM o,_,_,_,e,x,d,rfl,rfl
 |cons i xs =>
  #xs with
  |nil =>
   &_,o,x,f,p,e,c,_,d:=z;PM o,_,_,_,e,c,d,rfl,rfl
  |cons g xs =>
   #xs with
   |nil=>~z.2
   |cons _ _=>simp at a
~yc(z:yI P w xs S b i h)(k:∀ c o,(c=S\/∃ p∈xs,c=p.1)->h.get? c=PN o->h'.get? c=PN o):yI P w xs S b i h':=by
 &g,z:=z;!⟨λp f=>c4 (g p f) λo e=>k _ o (.inr ⟨p,f,rfl⟩) e,?_⟩
 match i,z with
 |0,⟨o,e,x,d⟩=>PM o,k _ _ (.inl rfl) e,x,d
 |1,⟨o,x,a,p,e,r⟩=>PM o,x,a,p,k _ _ (.inl rfl) e,r
 |i+2,⟨o,j,a,t,e,r⟩=>PM o,j,a,t,k _ _ (.inl rfl) e,r
~Cp(I:xs°<=2)(h:i < xs°)(F:∃ x,xs[i]?=PN x/\v=.ref x.1)(H:∀ x∈xs,x.1≠S)(n:A.units < LU)(z:yI P w xs S b i s.heap)
  (t:∀ r h' tk,s.toks<=tk->Heap.SameBut S s.heap h'->yI P w xs S b (i+1) h'->Q r { s with heap:=h',toks:=tk }):Lm (Lo P w) A (PJ S v) Q E s:=by
 &x,g,rfl:=F;&j,z:=z;@m:=j x (aAR g);@c:∀ {h':LE},Heap.SameBut S s.heap h'->∀ p∈xs,LS _ h' p.2 p.1:=λf p D=>c4 (j p D) λo e=>(f.2 _ (H p D)).trans e;!Lr (KE (wpAny_pyHash_tuple n m ?_))
 match i,z,h,g with
 |0,⟨o,e,a,d⟩,h,g =>
  ~FG e d m λh' G f B=>t _ h' _ (aBD _ _) f ⟨c f,_,x,_,G,B,a,g,rfl⟩
 |1,⟨o,y,J,p,e,a,C,d⟩,h,g =>
  @u:=j y (aAR C);@l:gG xs=if y.2=x.2 then 1 else 2:=by
   match xs,g,C with
   |[_,_],rfl,rfl=>rfl
   |_ :: _ :: _ :: _,_,_=>simp at I
  by_cases k:y.2=x.2
  ·rw[Lj k]at l;rw[k]at d u;!FH e d m u n (t _ s.heap _ (aBD _ _) (Heap.SameBut.refl _ _) ⟨j,?_⟩);rw[l];PM o,_,_,_,e,a,d,rfl,rfl
  ·rw[Ln k]at l;!Jf e a d m u (λq=>k q.symm) n λh' f B=>t _ h' _ (aBD _ _) f ⟨c f,?_⟩;rw[l];~B
 |i+2,_,h,_=>on
set_option maxHeartbeats 3200000 in
~jQ{t:Ll}{its:Array Li}{xs:PQ (Ll×PQ Key)}{Q:Li->Lk->Prop}(hh:A.handled=PR)(ht:s.heap.IsList t its)(hits:its=(xs.map λx=>Value.ref x.1).toArray)(hl:xs°<=2)(hk:∀ p∈xs,LS (aq P w) s.heap p.2 p.1)(hu:A.units+8 < LU)
  (h:∀ (h':LE) (tk:Nat),qZ h' s¢ (gG xs)->(∀ b o,s.heap.get? b=PN o->h'.get? b=PN o)->Q (.ref s¢) { s with heap:=h',toks:=tk }) :
  Lm (Lo P w) A (call (.type "set") [.ref t]) Q E s:=by
 &c0,tl,hmro:=PySem.F.called_set.mro;@k1:=PySem.F.called_set.made;@k2:=PySem.F.called_set.sub;!Nu (NF (by
  show Lm _ _ (callAny (.type "set") _) _ _ _;!Lg ⟨Code.quiet_builtin _ (by decide +kernel),LA PySem.F.entry_type_call ?_⟩;rw[Around.under_plain (NI "set" [.ref t] []) rfl];@k3:=PySem.F.called_set.notType;@k4:=PySem.F.called_set.canCreate;@k5:=PySem.F.typeCall_set_1 (.ref t)
  repeat (any_goals (first | assumption | wp_step))
  !L6 (tT (.ref t) (E:=E) (Q₁:=λob s1=>∃ b:Bool,b=(!w.params.followText "set-order")/\ob=.ref s¢/\s1={ s with heap:=s.heap.push (cB b) }) ⟨_,rfl,rfl,rfl⟩) λr s1 hr=>?_
  #r with
  |error e=>~hr
  |ok fl =>
   #fl with
   |ret ob =>
    &b,eb,rfl,rfl:=hr;@g1:(s.heap.push (cB b)).get? s¢=PN (cB b):=aAp _ rfl;@tS:Shared.TypeIs { s with heap:=s.heap.push (cB b) } (.ref s¢) "set" :=⟨_,g1,rfl⟩;@k6:=PySem.F.called_set.init.lookup;@k7:=PySem.F.called_set.init.bind (.ref s¢)
    repeat (any_goals (first | assumption | wp_step))
    !L6 (NS (R:=wants (λr s2=>r=.none/\∃ h' tk,s2={ s with heap:=h',toks:=tk }/\qZ h' s¢ (gG xs)/\(∀ b o,s.heap.get? b=PN o->h'.get? b=PN o)) E)
     PySem.F.called_set.init.plain PySem.F.entry_set_init (OC tS ?_)) λr2 s2 hr2=>?_
    ·&⟨oc,od,oa,osl⟩,ho,hcl,nl,hdt:=id ht;simp only at hcl hdt;subst hcl hdt;@ht1:(s.heap.push (cB b)).IsList t its:=⟨_,aAb _ ho,rfl,nl,rfl⟩;@ho1:(s.heap.push (cB b)).get? t=PN { cls:=.type "list",dict:=od,data:=.seq its nl,slots:=osl }:=aAb _ ho;@k8:=(b7 "list" "set");@k9:=(b7 "list" "frozenset");@ka:(Value.type "list" == Value.type "dict")=false:=by decide
     unfold Builtin.«set.__init__» noKeywords Builtin.Frozenset.updateFrom;generalize hPI:OR=PI
     wp_walk
     subst hPI;!L4 ht1 ?_;!KE (MU ?_);@lt:s¢ > t:=aAd ho;@hh3:A.in1.in1.in1.handled=none:=by simp[hh]
     @sz:(s.heap.push (cB b)).objs.size=s¢+1:=aAK ..;@ne1:t≠(s.heap.push (cB b)).objs.size:=by rw[sz];~aAs (aAX lt)
     @nS:s¢∉[(s.heap.push (cB b)).objs.size,t]:=by
      rw[sz];intro z;rcases aAl.mp z with z | z
      ·~absurd z (aAs (aBh _))
      ·~absurd (aAy.mp z) (aAx lt)
     @hsz:its.size=xs°:=by rw[hits];simp
     @lowK:∀ p∈xs,p.1 < s¢:=λp hp=>by
      &o,_,_,e,_:=hk p hp;~aAd e
     !q3 ((Walks.list hh3 _ t ne1 its).toS) s¢ nS (yI P w xs s¢ b) ?_ ?_ (its.size - 0) 0 _ rfl (aAM _) ⟨⟨_,aAp _ rfl,rfl,rfl⟩,ht1.push _⟩ ?_ ?_
     ·intro i h1 h2 z k;!yc z λc o hc e=>k c o ?_ e;rw[sz];intro zz;rcases hc with rfl | ⟨p,hp,rfl⟩
      ·~absurd (aAy.mp zz) (aAs (aBh _))
      ·~absurd (aAy.mp zz) (aAs (aAX (lowK p hp)))
     ·intro i v s1 Q1 E1 hi pv z hq;!Cp hl (by rw[<- hsz];~hi) ?_ (λx hx=>aAs (lowK x hx)) ?_ z hq
      ·obtain⟨x,hx⟩:∃ x,xs[i]?=PN x:=⟨_,aAh (by rw[<- hsz];~hi)⟩;!⟨x,hx,?_⟩;rw[hits]at pv;simp[hx]at pv;~pv.symm
      ·first | (show A.units+1 < LU;on) | (show A.units+2 < LU;on) | (show A.units+3 < LU;on) | (show A.units+4 < LU;on)  | (show A.units+5 < LU;on)
     ·PM λp hp=>c4 (hk p hp) λo e=>aAb _ (aAb _ e),_,aAb _ g1,⟨rfl,rfl,rfl⟩,rfl
     ·intro s3 mv hS3;&h3,g3,d3,t3,o3:=s3
      #(mv.gens:g3=s.gens)
      #(mv.drawn:d3=s.drawn)
      #(mv.os:o3=s.os)
      !Lg (Lg ⟨rfl,h3,t3,rfl,(by rw[hsz]at hS3;~Jg hl hS3),λc o q=>?_⟩);@lc:s¢ > c:=aAd q;!mv.heap c o ?_ (aAb _ (aAb _ q));intro z;rcases aAl.mp z with z | z
      ·~absurd z (aAs lc)
      ·~absurd ((aAy.mp z).trans sz) (aAs (aAX lc))
    ·#r2 with
     |error e=>~hr2
     |ok fl2 =>
      #fl2 with
      |ret r =>
       &rfl,h',tk,rfl,q1,q2:=hr2
       repeat (any_goals (first | assumption | wp_step))
       ~h _ _ q1 q2
      |_=>~hr2.elim
   |_=>~hr.elim))
end
section
variable {X:Cx}
§AG(p:Ll)(n:Nat):HO:=.ext λh=>qZ h p n
§manyK(ts:PQ (PQ Key)):Nat:=match ts with
 |[x,y]=>if x=y then 1 else 2
 |ts=>ts°
~uo:∀ xs:PQ _,gG xs=manyK (xs.map (·.2))
 |[]=>rfl
 |[_]=>rfl
 |[_,_]=>rfl
 |_ :: _ :: _ :: r=>by simp[gG,manyK]
~gH{K}:∀ {c}{vs},IsPs K H (c.map λt=>.tup (t.map kDt)) vs->∃ xs:PQ (Ll×PQ Key),vs=xs.map (λx=>V.ref x.1)/\c=xs.map (·.2)/\∀ x∈xs,IsP K H (.tup (x.2.map kDt)) (.ref x.1)
 |[],_,h=>by #h;PM [],rfl,rfl,λx b=>nomatch b
 |t :: c,_,h=>by
  #h with
  |@cons _ v _ vs h r =>
   &a,e,rfl,_:=id h.unref;&xs,rfl,rfl,b:=gH r;~⟨(a,t) :: xs,rfl,rfl,λx m=>by
    rcases aAl.mp m with rfl | m
    ·~h
    ·~b x m⟩
~q5{K}(B:X.K=K)(J:X.calm=PU)(R:X.A.units+64 < LU):ax X (.type "set") (λxs H Q=>∃ (a:Ll) (f:PQ _) (vs:PQ V),xs=[.ref a]/\SqL K H a vs/\IsPs K H (f.map λt=>.tup (t.map kDt)) vs/\f°<=2/\∀ p,H p=PR->Q (.ref p) (upd H p (AG p (manyK f)))):=by
 subst B;intro A s P H xs N Q I r h;&a,f,vs,rfl,v,d,y,q:=h;&u,rfl,G:=bt r
 #G
 &b,j,F,D:=I.list v;&xs,rfl,rfl,z:=gH d;&o,n,g,i,E,c:=F;@C:b=xs.map λx=>Value.ref x.1:=by
  clear v d z y q c D
  induction xs generalizing b with
  |nil=>cases j;rfl
  |cons x xs L =>
   #j with
   |cons h r =>
    #h
    rw[L _ r];rfl
 !jQ (I.ok.hd J) (⟨o,g,i,n,c⟩) (by rw[C]) (by simpa using y) (λp d=>xT I (z p d)) or λU S m M=>?_;!⟨.ref _,_,I.laid M (aAo _) ?_,rfl,q _ (I.hok.fresh (aAo _))⟩;rw[<- uo];&o,w,l,t,g,r:=id m;PM m,⟨o,g⟩,λO T ⟨o,w,l,t,e,r⟩ k=>⟨o,w,l,t,k o e,r⟩
~q7:ax X (.builtin "len") (λxs H Q=>∃ p n,xs=[.ref p]/\H p=PN (AG p n)/\n<=2/\Q (.int n) H):=by
 intro b s m H xs v Q I r h;&p,n,rfl,e,w,q:=h;&u,rfl,g:=bt r
 #g
 &c,_,_:=I.hok p _ e;&o,k,l,t,f,a,i,d,j:=c;~call_len_set f a i d or ⟨.int n,H,I.tok _,⟨_,by rw[j]⟩,q⟩
end
§IsO(K:W.Frag)(H:Hp)(o:PY Dt)(v:V):Prop:=match o with
 |none=>v=.non
 |some d=>IsP K H d v
inductive IsOs(K:W.Frag)(H:Hp):PQ (PY Dt)->PQ V->Prop
 |nil:IsOs K H [] []
 |cons {o:PY Dt}{v:V}{os:PQ (PY Dt)}{vs:PQ V}:IsO K H o v->IsOs K H os vs->IsOs K H (o :: os) (v :: vs)
§FI(o:PY Dt):Prop:=∀ d,o=PN d->∃ l,d=.tup l/\d.dep<=60
section
variable {X:Cx}
§Jh(K:W.Frag):R2:=λx y H Q=>x=.non/\∃ (p:Ll) (os:PQ (PY Dt)) (vs:PQ V),y=.ref p/\SqL K H p vs/\IsOs K H os vs/\(∀ o∈os,FI o)/\Q (.bl (os.any Option.isNone)) H
~Cq{K}(B:X.K=K)(W:X.A.units+64 < LU):OpR X (Ls .In) (Jh K):=by
 subst B;intro n s T H x y v u Q I t G h;&rfl,p,os,g,rfl,C,m,i,q:=h
 #G
 &b,r,F,U:=I.list C
 let f:Li->Bool:=λw=>match w with
  |.none=>PU
  |_=>PV
 @j:∀ {os}{g}{b},IsOs X.K H os g->Vals g b->(∀ o∈os,FI o)->(∀ w∈b,SeqAt.EqAt X.A.in1 s w v (f w))/\b.any f=os.any Option.isNone:=by
  intro os g b h
  induction h generalizing b with
  |nil=>intro r _;#r;PM(λw c=>nomatch c),rfl
  |@cons o E os g k O M =>
   intro r i
   #r with
   |@cons _ e _ S z r =>
    &L,P:=M r λo A=>i o (aAk _ A);@N:SeqAt.EqAt X.A.in1 s e v (f e)/\f e=o.isNone:=by
     #o with
     |none =>
      obtain rfl:E=.non:=k;obtain rfl:e=Value.none:=z;PM(sR I 60 _ _ _ _ _ v _ (aAM _) .non .non rfl t (by rw[de];on)).1,rfl
     |some d =>
      &l,rfl,dl:=i _ aAe d rfl;&a,R,rfl,_:=id (IsP.unref (k));obtain rfl:e=Value.ref a:=z;PM(sR I 60 _ _ _ _ _ v _ dl (IsP.d (k)) .non rfl t (by rw[de];on)).1,rfl
    !⟨λw c=>?_,by simp_all⟩;rcases aAl.mp c with rfl | c
    ·~N.1
    ·~L w c
 &D,J:=j m r i;!SeqAt.in_listAt f F.isList (λw c=>D w (by simpa using c)) ⟨.bl _,H,I,rfl,?_⟩;rw[show b.toArray.any f=b.any f by simp,J];~q
end
§bC(a b:Str):Bool:=!decide (b.cps.toList < a.cps.toList)
§sortS(l:PQ Str):PQ Str:=l.mergeSort bC
§sortI(l:PQ Int):PQ Int:=l.mergeSort λa b=>decide (a<=b)
~bJ:bC a b=PU↔a.cps.toList<=b.cps.toList:=by
 PL bC;rw[aBM,decide_eq_false_iff_not,List.not_lt]
~c6(h:bC a b=PU)(q:bC b c=PU):bC a c=true:=bJ.mpr (List.le_trans (bJ.mp h) (bJ.mp q))
~fi(a b):(bC a b || bC b a)=true:=by
 rw[aBp];~(List.le_total _ _).imp bJ.mpr bJ.mpr
~gI(h:bC a b=PU)(q:bC b a=PU):a=b:=by
 @e:=List.le_antisymm (bJ.mp h) (bJ.mp q)
 #a;~Mg _ (Array.toList_inj.mp e)
~fj:∀ (l) (p),risingS p l=PU->(p :: l).Pairwise λa b=>bC a b=PU
 |[],p,_=>aBw _ _
 |x :: l,p,h=>by
  @e:(!ltCps _ _ && risingS x l)=true:=h;rw[aAn,ltCps_eq]at e;@g:=fj l x e.2;@d:=e.1;!aA4.mpr ⟨λy f=>?_,g⟩;rcases aAl.mp f with rfl | f
  ·~d
  ·~c6 d ((aA4.mp g).1 y f)
~lF(h:ON l=PU):l.Pairwise λa b=>bC a b=true:=by
 #l with
 |nil=>~.nil
 |cons p l=>~fj l p h
~lG(p:a.Perm ss)(h:ON a=PU):a=sortS ss:=
 List.Perm.eq_of_pairwise (λ_ _ _ _=>gI) (lF h) (aBL (le:=bC) (λ_ _ _=>c6) fi ss) (p.trans (aBE ss bC).symm)
~uq(p:e.Perm ns)(h:e.Pairwise (·<=·)):e=sortI ns:=by
 @q:(sortI ns).Pairwise (·<=·):=by
  @:=aBL (le:=fun(a b)=>decide (a<=b)) (λa b c h q=>by PK[L9]at *;on) (λa b=>by PK[aBp,L9];on) ns;~this.imp λh=>by simpa using h
 ~List.Perm.eq_of_pairwise (λa b _ _ h q=>Int.le_antisymm h q) h q (p.trans (aBE ns _).symm)
~aO(l):(sortS l).Perm l:=aBE l _
~dP(l):(sortI l).Perm l:=aBE l _
~jR(ss):(sortS ss).Pairwise λa b=>bC a b=true:=aBL (le:=bC) (λ_ _ _=>c6) fi ss
section
variable {X:Cx}
~nv(L:X.calm=PU):ax X (.type "dict") (λxs H Q=>∃ x fs,xs=[x]/\IsP X.K H (.tup (fs.map prD)) x/\(fs.map (·.1)).Nodup/\fs°<=1000/\∀ p H',H p=PR->Same H H'->DicQ X.K H' p fs->Q (.ref p) H'):=by
 intro F s σ H xs us Q I r h;&x,fs,rfl,T,nd,k,q:=h;&u,rfl,rx:=bt r;&a,ys,rfl,ha,⟨o,ho,U,W⟩,ra:=T.unref
 #rx
 &Z,r',⟨o',G,c',n',Y⟩,_:=I.tuple ha;@A:=(I.hok a _ U).1;rw[A]at G;obtain rfl:=Option.some.inj G;&j,t,m,C,D,E,M,R:=sY I ra r';@y:t°=fs°:=by rw[<- m°,D]
 @f:=I.big;!fB (knd:=aq _ _) (I.ok.hd L) A c' Y W ⟨by ~M,λi kv z=>?_⟩ (aAq (Nat.add_le_add (y ▸ k) (y ▸ k)) (by decide)) λh' tk B S=>?_
 ·&b,g,z1,O,N:=R i kv z;~⟨b,g,by simpa using z1,O,N⟩
 ·@e:(t.map (·.1)).Nodup:=by
   rw[<- m.keys,C];@z:fs.map (λp=>(Sum.inr p.1:Key))=(fs.map (·.1)).map Sum.inr:=by rw[aAz];rfl
   rw[z];~List.Pairwise.map _ (λa b n q=>n (Sum.inr.inj q)) nd
  rw[N4 t e]at B;@w:=I.hok.fresh (aAo _);@I2:=I.laid (t':=tk) S (aAo _)
   (mY (by rw[D];~aAU (ci k)) (by simp;~aAx f) m B)
  !⟨.ref _,_,I2,rfl,q _ _ w (ay w _) ⟨j,aw,C,λz=>⟨(E z).1,λd l=>?_⟩⟩⟩;&v,P,J:=(E z).2 d l;PM v,P,J.same (ay w _)
end
inductive Av where
 |d (x:Dt) | r (n:Nat) | l (xs:PQ Dt)
 |it (xs:PQ Dt) (gd:PQ (Nat×PQ Dt))
 |c (ws:PQ Str)
inductive Ob where
 |lst (xs:PQ Dt) | dic (kvs:PQ (Key×Dt)) | exc (c:Str)
¶Sto:=PQ Ob
inductive Rs(α:Type) where
 |ok (a:α) (S:Sto) | ex (c:Str) (S:Sto) | bad
 |br (b:Bool) (x y:Rs α)
¶Mo(α:Type):=Sto->Rs α
§Rs.bind{α β:Type}:Rs α->(α->Mo β)->Rs β
 |.ok a S,f=>f a S
 |.ex c S,_=>.ex c S
 |.bad,_=>.bad
 |.br b x y,f=>.br b (x.bind f) (y.bind f)
@[simp] theorem Rs.bind_ok(a)(S)(f:b->Mo c):(Rs.ok a S).bind f=f a S:=rfl
@[simp] theorem Rs.bind_ex(c)(S)(f:a->Mo b):(Rs.ex c S).bind f=.ex c S:=rfl
@[simp] theorem Rs.bind_br(b)(x y)(f:a->Mo c):(Rs.br b x y).bind f=.br b (x.bind f) (y.bind f):=rfl
@[simp] theorem Rs.bind_bad(f:a->Mo b):(Rs.bad).bind f=.bad:=rfl
§tidy(n:Nat):Rs Av->Rs Av
 |.ok (.d x) S=>.ok (.d x) (S.take n)
 |.br b x y=>.br b (tidy n x) (tidy n y)
 |r=>r
@[simp] theorem IB(n)(x)(S):tidy n (.ok (.d x) S)=.ok (.d x) (S.take n):=rfl
@[simp] theorem FJ(n k)(S):tidy n (.ok (.r k) S)=.ok (.r k) S:=rfl
@[simp] theorem Ji(n)(xs)(S):tidy n (.ok (.l xs) S)=.ok (.l xs) S:=rfl
@[simp] theorem IC(n)(c)(S):tidy n (.ex c S)=.ex c S:=rfl
@[simp] theorem FK(n):tidy n .bad=.bad:=rfl
structure Fz(m m':PQ Ll)(H H':Hp):Prop where
 fz:∀ b o u,H b=PN (.frz o u)->H' b=PN (.frz o u)
 fr:∀ b o,b∉m->H b=PN o->H' b=PN o
 nw:∀ b,b∈m'->b∉m->H b=PR
~Fz.refl(H):Fz m m H H:=⟨λ_ _ _ h=>h,λ_ _ _ h=>h,λ_ h n=>absurd h n⟩
~Fz.trans(a:Fz m m1 H i)(b:Fz m1 f i g):Fz m f H g:=by
 @d:∀ c o,c∉m->H c=PN o->c∉m1:=λc o h e j=>by rw[a.nw c j h]at e;#e
 !⟨λc o u h=>b.fz c o u (a.fz c o u h),λc o h e=>b.fr c o (d c o h e) (a.fr c o h e),λc h n=>?_⟩
 #e:H c with
 |none=>rfl
 |some o=>~absurd (a.fr c o n e) (by rw[b.nw c h (d c o n e)];~nofun)
~Fz.same(g:Same H H'):Fz m m H H':=⟨λb o u h=>g b _ h,λb o _ h=>g b _ h,λ_ h n=>absurd h n⟩
~Fz.newS(g:Same H H')(a:H p=PR):Fz m (m++[p]) H H':=⟨λb o u h=>g b _ h,λb o _ h=>g b _ h,λb h n=>by simp_all⟩
~Fz.cut(g:Fz m m' H H'):Fz m m H H':=⟨g.fz,g.fr,λ_ h n=>absurd h n⟩
~Fz.put(d:a∈m)(h:∀ p u,H a≠PN (.frz p u)):Fz m m H (upd H a o):=by
 !⟨λb p u q=>?_,λb p n q=>?_,λ_ h n=>absurd h n⟩
 ·@c:b≠a:=λe=>h p u (by rw[<- e];~q);rw[ao c];~q
 ·@c:b≠a:=λe=>n (e ▸ d);rw[ao c];~q
section
variable {K:W.Frag}{mg:Str->PY Li}{H H':Hp}
~SqT.fz(g:Fz m m' H H')(p:Pl H a)(h:SqT K H a xs):SqT K H' a xs:=by
 &o,u,e,_:=p;rcases h with(h | ⟨b,h⟩) | h
 ·rw[e]at h;#h
 ·~.inl (.inr ⟨b,g.fz _ _ _ h⟩)
 ·~.inr h
~Pl.fz(g:Fz m m' H H')(h:Pl H a):Pl H' a:=by
 &o,u,e,d:=h;PM o,u,g.fz _ _ _ e,d
mutual
~IsP.fz{m m':PQ Ll}(g:Fz m m' H H'):∀ {d:Dt}{v:V},IsP K H d v->IsP K H' d v
 |_,_,.non=>.non
 |_,_,.bl=>.bl
 |_,_,.int=>.int
 |_,_,.str=>.str
 |_,_,.tup h p r=>.tup (h.fz g p) (p.fz g) (IsPs.fz g r)
~IsPs.fz{m m':PQ Ll}(g:Fz m m' H H'):∀ {l:PQ Dt}{xs:PQ V},IsPs K H l xs->IsPs K H' l xs
 |_,_,.nil=>.nil
 |_,_,.cons h r=>.cons (IsP.fz g h) (IsPs.fz g r)
end
§FzL(K:W.Frag)(H:Hp)(a:Ll)(vs:PQ V):Prop:=(∃ o,H a=PN (.frz o (.lst vs))) \/
 ∃ (o:Obj) (its:Array Li) (n:Nat),K.lookup a=PN o/\o.cls=.type "list" /\o.dict=PR/\o.data=.seq its n/\its.size<=Ld/\Vals vs its.toList
~FzL.fz(g:Fz m m' H H')(h:FzL K H a vs):FzL K H' a vs:=by
 rcases h with⟨o,h⟩ | h
 ·~.inl ⟨o,g.fz _ _ _ h⟩
 ·~.inr h
~FzL.sq(h:FzL K H a vs):SqL K H a vs:=by
 rcases h with⟨o,h⟩ | h
 ·~.inl (.inr ⟨o,h⟩)
 ·~.inr h
§RA(K:W.Frag)(H:Hp)(m:PQ Ll):Av->V->Prop
 |.d x,v=>IsP K H x v
 |.r n,v=>∃ a,m[n]?=PN a/\v=.ref a
 |.l xs,v=>∃ a vs,v=.ref a/\FzL K H a vs/\IsPs K H xs vs
 |.it _ _,_=>False
 |.c ws,v=>∃ a,v=.ref a/\∀ H:Hp,SqT K H a (ws.map V.str)
inductive PrK(K:W.Frag)(H:Hp):PQ (Key×Dt)->PQ (Key×V)->Prop
 |nil:PrK K H [] []
 |cons {k:Key}{x:Dt}{v:V}{kvs:PQ (Key×Dt)}{ws:PQ (Key×V)}:IsP K H x v->PrK K H kvs ws->PrK K H ((k,x) :: kvs) ((k,v) :: ws)
~PrK.fz(g:Fz m m' H H'):∀ {kvs}{ws},PrK K H kvs ws->PrK K H' kvs ws
 |_,_,.nil=>.nil
 |_,_,.cons h r=>.cons (h.fz g) (PrK.fz g r)
§RO(K:W.Frag)(mg:Str->PY Li)(H:Hp)(a:Ll):Ob->Prop
 |.lst xs=>∃ vs,H a=PN (.lst vs)/\IsPs K H xs vs
 |.dic kvs=>∃ ws,H a=PN (.dK ws)/\PrK K H kvs ws
 |.exc c=>∃ C,mg c=PN (.ref C)/\H a=PN (xO a C)
structure Sim(K:W.Frag)(mg:Str->PY Li)(H:Hp)(m:PQ Ll)(S:Sto):Prop where
 len:m°=S°
 nod:m.Nodup
 obj:∀ (n:Nat) (o:Ob) (a:Ll),S[n]?=PN o->m[n]?=PN a->RO K mg H a o
~RO.mono(g:Fz m m' H H')(e:∀ u,H a=PN u->H' a=PN u)(h:RO K mg H a o):RO K mg H' a o:=by
 #o with
 |lst l=>&j,d,b:=h;PM j,e _ d,b.fz g
 |dic k=>&i,d,b:=h;PM i,e _ d,b.fz g
 |exc c=>&C,d,b:=h;PM C,d,e _ b
~RO.there(h:RO K mg H a o):∃ u,H a=PN u/\∀ p z,u≠.frz p z:=by
 #o with
 |lst j=>&g,b,d:=h;PM _,b,λ_ _ e=>nomatch e
 |dic f=>&i,b,d:=h;PM _,b,λ_ _ e=>nomatch e
 |exc c=>&C,b,d:=h;PM _,d,λ_ _ e=>nomatch e
~RA.mono(g:Fz m m' H H')(e:m <+: m')(h:RA K H m a v):RA K H' m' a v:=by
 #a with
 |d x=>~IsP.fz g h
 |r n =>
  &b,f,i:=h;&t,rfl:=e;~⟨b,by rw[aAw (aAg.mp f).1];~f,i⟩
 |l o =>
  &b,j,f,i,k:=h;PM b,j,f,i.fz g,k.fz g
 |it _ _=>~h.elim
 |c _=>~h
variable {m:PQ Ll}{S:Sto}
~Sim.same(g:Same H H')(s:Sim K mg H m S):Sim K mg H' m S:=⟨s.len,s.nod,λn o a e d=>(s.obj n o a e d).mono (Fz.same (m:=[]) g) λu=>g a u⟩
~Sim.at(s:Sim K mg H m S){n:Nat}(h:S[n]?=PN o):∃ a,m[n]?=PN a/\RO K mg H a o:=by
 @b:n < m°:=by rw[s.len];~(aAg.mp h).1
 PM _,aAh b,s.obj n o _ h (aAh b)
~Sim.ne(s:Sim K mg H m S)(f:H p=PR):p∉m:=λg=>by
 &n,d,e:=aAS.mp g;@c:n < S°:=by rw[<- s.len];~d
 &u,b,_:=(s.obj n _ p (aAh c) (by simp_all)).there;rw[f]at b;#b
~Sim.new(s:Sim K mg H m S)(g:H p=PR)(k:RO K mg (upd H p u) p o):Sim K mg (upd H p u) (m++[p]) (S++[o]):=by
 !⟨by rw[aAi,aAi,s.len];rfl,?_,λn t a c f=>?_⟩
 ·rw[aBN];!⟨s.nod,by simp,λa l b v=>?_⟩;obtain rfl:=aAy.mp v;~λe=>s.ne g (e ▸ l)
 ·by_cases h:n < S°
  ·rw[aAw h]at c;rw[aAw (by rw[s.len];~h)]at f;~(s.obj n t a c f).mono (Fz.same (m:=[]) (ay g u)) λw q=>ay g u a w q
  ·@r:(S++[o])°=S°+1:=by rw[aAi];rfl
   @x:n < S°+1:=by rw[<- r];~(aAg.mp c).1
   obtain rfl:n=S°:=or
   rw[aAt (aAo _),aA9]at c;rw[aAt (by rw[s.len];~aAo _),s.len,aA9]at f;obtain rfl:=Option.some.inj c;obtain rfl:=Option.some.inj f;~k
~Sim.newS(s:Sim K mg H m S)(g:Same H H')(j:H p=PR)(k:RO K mg H' p o):Sim K mg H' (m++[p]) (S++[o]):=by
 @r:=s.same g;!⟨by rw[aAi,aAi,s.len];rfl,?_,λn l a c d=>?_⟩
 ·!aBN.mpr ⟨s.nod,aBw _ _,λa t b h=>?_⟩;rw[aAy]at h;subst h;intro e;subst e;~s.ne j t
 ·rcases aCj n _ with f | f
  ·rw[aAw f]at c;rw[aAw (by rw[s.len];~f)]at d;~r.obj n l a c d
  ·rw[aAt f]at c;rw[aAt (by rw[s.len];~f),s.len]at d;@:n - S°=0:=by
    rcases Nat.eq_zero_or_pos _ with q | q
    ·~q
    ·rw[List.getElem?_eq_none (q)]at c;#c
   rw[this]at c d
   #c
   #d
   ~k
~Sim.put(s:Sim K mg H m S)(h:S[n]?=PN o)(d:m[n]?=PN a)(A:RO K mg (upd H a u) a D):Sim K mg (upd H a u) m (S.set n D):=by
 &w,l,E:=(s.obj n o a h d).there;@y:Fz m m H (upd H a u):=Fz.put (aAR d) λp z e=>E p z (Option.some.inj (l.symm.trans e));!⟨by rw[aBd];~s.len,s.nod,λk x b c g=>?_⟩;@t:=(aAg.mp h).1
 by_cases e:k=n
 ·subst e;rw[aA8 t]at c;obtain rfl:=Option.some.inj c;obtain rfl:=Option.some.inj (d.symm.trans g);~A
 ·rw[aA5 (Ne.symm e)]at c;@B:b≠a:=λq=>by
   subst q;&I,r:=aAg.mp g;&G,C:=aAg.mp d;~e ((aBs s.nod).mp (r.trans C.symm))
  ~(s.obj k x b c g).mono y λv q=>by rw[ao B];~q
~Sim.fzput(s:Sim K mg H m S){n:Nat}(h:S[n]?=PN o)(c:m[n]?=PN a):Fz m m H (upd H a u):=by
 &w,d,f:=(s.obj n o a h c).there;~Fz.put (aAR c) λp z e=>f p z (Option.some.inj (d.symm.trans e))
~Sim.take(s:Sim K mg H m S)(n):Sim K mg H (m.take n) (S.take n):=by
 !⟨by rw[aA1,aA1,s.len],s.nod.sublist (List.take_sublist _ _),λk o a b c=>?_⟩;@e:k < n:=by
  @:=(aAg.mp b).1;rw[aA1]at this;on
 rw[aBG e]at b c;~s.obj k o a b c
end
¶En:=PQ (PY Av)
§SimE(K:W.Frag)(H:Hp)(m:PQ Ll)(env:En)(σ:St):Prop:=∀ (i:Nat) (a:Av),env[i]?=PN (PN a)->∃ v,σ[i]?=PN (PN v)/\RA K H m a v
section
variable {K:W.Frag}{mg:Str->PY Li}{H H':Hp}{m m':PQ Ll}{S:Sto}{env:En}{σ:St}
~SimE.mono(g:Fz m m' H H')(e:m <+: m')(h:SimE K H m env c):SimE K H' m' env c:=λi a q=>by
 &v,b,d:=h i a q;PM v,b,d.mono g e
~SimE.set(h:SimE K H m env c)(f:env°<=c°)(r:RA K H m a v):SimE K H m (env.set i (PN a)) (c.set i (PN v)):=λj b q=>by
 by_cases e:j=i
 ·subst e;@d:j < env°:=by
   @:=(aAg.mp q).1
   rwa [aBd]at this
  rw[aA8 d]at q;obtain rfl:=Option.some.inj (Option.some.inj q);PM v,aA8 (aAm d f),r
 ·rw[aA5 (Ne.symm e)]at q;rw[aA5 (Ne.symm e)];~h j b q
end
§Rs.res{α:Type}:Rs α->Rs α
 |.br b x y=>bif b then x.res else y.res
 |r=>r
~Rs.res_br{x y}:∀ {r:Rs a},r.res≠.br b x y
 |.ok _ _=>nofun
 |.ex _ _=>nofun
 |.bad=>nofun
 |.br c u w=>by
  #c
  ·~Rs.res_br (r:=w)
  ·~Rs.res_br (r:=u)
§PostG{α β:Type}(K:W.Frag)(mg:Str->PY Li)(R:Hp->PQ Ll->α->β->Prop)(m:PQ Ll)(H:Hp)(Q:β->Hp->Prop)(E:XK):Rs α->Prop
 |.ok a S=>∀ (v:β) (H':Hp) (m':PQ Ll),m <+: m'->Fz m m' H H'->Sim K mg H' m' S->R H' m' a v->Q v H'
 |.ex c S=>∀ (C:Ll) (H':Hp) (m':PQ Ll),mg c=PN (.ref C)->m <+: m'->Fz m m' H H'->Sim K mg H' m' S->E (.ref C) PR H'
 |.bad=>False
 |.br b x y=>(b=PU->PostG K mg R m H Q E x)/\(b=PV->PostG K mg R m H Q E y)
section
variable {α β γ δ:Type}{K:W.Frag}{mg:Str->PY Li}{R:Hp->PQ Ll->α->β->Prop}{R':Hp->PQ Ll->γ->δ->Prop}{H H1:Hp}{m m1:PQ Ll}{Q:β->Hp->Prop}{E:XK}{r:Rs α}
~PostG.trans(e:m <+: m1)(g:Fz m m1 H H1)(h:PostG K mg R m H Q E r):PostG K mg R m1 H1 Q E r:=by
 induction r with
 |ok a S=>~λv d f j i=>h v d f (e.trans j) (g.trans i)
 |ex c S=>~λC d f p j i=>h C d f p (e.trans j) (g.trans i)
 |bad=>~h
 |br b x y l n=>PM λc=>l (h.1 c),λc=>n (h.2 c)
~PostG.bind(h:PostG K mg R' m H Q' E (r.bind f))
  (q:∀ a S v d m1,r.res=.ok a S->m <+: m1->Fz m m1 H d->Sim K mg d m1 S->R d m1 a v->PostG K mg R' m1 d Q' E (f a S)->Q v d):PostG K mg R m H Q E r:=by
 induction r with
 |ok a S=>~λv p o e g s n=>q a S v p o rfl e g s n (PostG.trans e g h)
 |ex c S=>~h
 |bad=>~h
 |br b x y j k=>PM λc=>j (h.1 c) λa S v d m1 e=>q a S v d m1 (by subst c;~e),λc=>k (h.2 c) λa S v d m1 e=>q a S v d m1 (by subst c;~e)
end
section
variable {α β γ δ:Type}{K:W.Frag}{mg:Str->PY Li}{R:Hp->PQ Ll->α->β->Prop}{R':Hp->PQ Ll->γ->δ->Prop}{H:Hp}{m:PQ Ll}{Q:β->Hp->Prop}{Q':δ->Hp->Prop}{E:XK}{r:Rs α}
~PostG.of_res(h:PostG K mg R m H Q E r.res):PostG K mg R m H Q E r:=by
 induction r with
 |br b x y c a=>~⟨λe=>by subst e;~c h,λe=>by subst e;~a h⟩
 |_=>~h
~PostG.to_res(h:PostG K mg R m H Q E r):PostG K mg R m H Q E r.res:=by
 induction r with
 |br b x y c a =>
  #b
  ·~a (h.2 rfl)
  ·~c (h.1 rfl)
 |_=>~h
~PostG.res_bind(h:PostG K mg R' m H Q' E (r.bind f)):PostG K mg R' m H Q' E (r.res.bind f):=by
 induction r with
 |br b x y d a =>
  #b
  ·~a (h.2 rfl)
  ·~d (h.1 rfl)
 |_=>~h
end
¶Post(K:W.Frag)(mg:Str->PY Li)(m:PQ Ll)(H:Hp)(Q:VK)(E:XK):Rs Av->Prop:=PostG K mg (RA K) m H Q E
~Post.tidy{K}(h:Post K i m H Q E (tidy m° r)):Post K i m H Q E r:=by
 induction r with
 |br b x y j o=>PM λc=>j (h.1 c),λc=>o (h.2 c)
 |ok a S =>
  #a with
  |d x =>
   intro v u p e g s q;@f:=s.take m°;@k:p.take m°=m:=by
    &t,rfl:=e;rw[aCg]
   rw[k]at f;~h v u m (aAj _) g.cut f q
  |r n=>~h
  |l w=>~h
  |it _ _=>~h
  |c _=>~h
 |ex c S=>~h
 |bad=>~h
inductive RAs(K:W.Frag)(H:Hp)(m:PQ Ll):PQ Av->PQ V->Prop
 |nil:RAs K H m [] []
 |cons {a:Av}{v:V}{as:PQ Av}{vs:PQ V}:RA K H m a v->RAs K H m as vs->RAs K H m (a :: as) (v :: vs)
~RAs.length{K}:∀ {as}{vs},RAs K H m as vs->as°=vs°
 |_,_,.nil=>rfl
 |_,_,.cons _ r=>Mg _ r°
§tE(K:W.Frag)(mg:Str->PY Li)(E:XK)(f:En->Mo Av):TE:=λσ H Q=>∃ m S env,Sim K mg H m S/\SimE K H m env σ/\env°<=σ°/\Post K mg m H Q E (f env S)
§tL(K:W.Frag)(mg:Str->PY Li)(E:XK)(f:En->Mo (PQ Av)):TA:=λσ H Q=>∃ m S env,Sim K mg H m S/\SimE K H m env σ/\env°<=σ°/\PostG K mg (RAs K) m H Q E (f env S)
§tQ(K:W.Frag)(mg:Str->PY Li)(E:XK)(f:En->Mo Bool):TT:=λσ H Q=>∃ m S env,Sim K mg H m S/\SimE K H m env σ/\env°<=σ°/\PostG K mg (λ_ _ (a b:Bool)=>a=b) m H Q E (f env S)
~PE.imp(h:PE X e t)(q:∀ b H Q,t' b H Q->t b H Q):PE X e t':=λa s b H Q I w=>h a s b H Q I (q b H Q w)
~PT.imp(h:PT X e t)(q:∀ b H Q,t' b H Q->t b H Q):PT X e t':=λa s b H Q I w=>h a s b H Q I (q b H Q w)
~PA.imp(h:PA X es t)(q:∀ b H Q,t' b H Q->t b H Q):PA X es t':=λc a s b H Q I w=>h c a s b H Q I (q b H Q w)
inductive Bo where | add | sub | mul | mod | fdiv | pow
inductive Co where | eq | ne | lt | le | gt | ge | inn | nin | is | isn
 deriving DecidableEq
inductive Bf where | len | abs | max | min | str | ord | all | sum | tuple | lenset | dict | sorted
inductive Mf where | append | lindex
inductive Ty where | int | str | bool | tuple
 deriving DecidableEq
inductive Tg where | nm (i:Nat) | tp (is:PQ Nat)
§aA(S:Sto):Av->PY (PQ Dt)
 |.r n=>match S[n]? with
  |some (.lst xs)=>PN xs
  |_=>PR
 |.l xs=>PN xs
 |_=>PR
§newL(xs:PQ Dt):Mo Av:=λS=>.ok (.r S°) (S++[.lst xs])
§dat(x:Dt):Mo Av:=λS=>.ok (.d x) S
§fm(i j:Int):Bool:=!(decide (Builtin.Int.intBits i > Mv) && decide (Builtin.Int.intBits j > Mv) && Builtin.Int.intTooBig (Builtin.Int.intBits i+Builtin.Int.intBits j))
§ur(i j:Int):Bool:=decide (0<=j) && decide (j<=1000000) && decide (i.natAbs < 2 ^ 64)
§cj(p:Int->Int->PY Dt):Av->Av->Mo Av
 |.d (.int i),.d (.int j),S=>match p i j with
  |some x=>.ok (.d x) S
  |none=>.bad
 |_,_,_=>.bad
§q8:Av->Av->Mo Av
 |.d (.int i),.d (.int j),S=>.ok (.d (.int (i+j))) S
 |.d (.str x),.d (.str y),S=>if x°+y°<=Ld then .ok (.d (.str (x++y))) S else .bad
 |.d (.tup l),.d (.tup m),S=>if l°+m°<=Ld then .ok (.d (.tup (l++m))) S else .bad
 |.d _,.d _,_=>.bad
 |a,b,S=>match aA S a,aA S b with
  |some xs,PN ys=>if xs°+ys°<=Ld then newL (xs++ys) S else .bad
  |_,_=>.bad
§aj:Bo->Av->Av->Mo Av
 |.add=>q8
 |.sub=>cj λi j=>PN (.int (i - j))
 |.mul=>cj λi j=>if fm i j then PN (.int (i*j))else PR
 |.mod=>cj λi j=>if 0 < j then PN (.int (i % j))else PR
 |.fdiv=>cj λi j=>if 0 < j/\j < 10000000000000000000000000000000000000000000000000000000000000 then PN (.int (i / j))else PR
 |.pow=>cj λi j=>if ur i j then PN (.int (i ^ j.toNat))else PR
§aH:Dt->Bool
 |.non | .bl _ | .int _ | .str _=>PU
 |.tup _=>PV
§inD(x:Dt)(xs:PQ Dt):Bool:=xs.any λy=>eqD y x
§bl(b:Bool):Mo Av:=λS=>.ok (.d (.bl b)) S
§eqA(f:Bool->Bool):Av->Av->Mo Av
 |.d x,.d y,S=>if x.dep<=60 then bl (f (eqD x y)) S else .bad
 |a,b,S=>match aA S a,aA S b with
  |some xs,PN ys=>if al xs<=60 then bl (f (bu xs ys)) S else .bad
  |_,_=>.bad
§gJ(p:Int->Int->Bool)(q:Str->Str->PY Bool):Av->Av->Mo Av
 |.d (.int i),.d (.int j),S=>bl (p i j) S
 |.d (.str i),.d (.str j),S=>match q i j with
  |some b=>bl b S
  |none=>.bad
 |_,_,_=>.bad
§aP? : Dt->PY Key
 |.int i=>PN (.inl i)
 |.str z=>PN (.inr z)
 |_=>PR
§eQ(S:Sto):Av->PY (PQ (Key×Dt))
 |.r n=>match S[n]? with
  |some (.dic kvs)=>PN kvs
  |_=>PR
 |_=>PR
§au(kvs:PQ (Key×Dt))(k:Key):PY Dt:=(kvs.find? λkv=>decide (kv.1=k)).map (·.2)
§ck(kvs:PQ (Key×Dt))(k:Key)(v:Dt):PQ (Key×Dt):=
 if(kvs.any λkv=>decide (kv.1=k))=PU then kvs.map (λkv=>if kv.1=k then(kv.1,v)else kv)else kvs++[(k,v)]
§inA(f:Bool->Bool):Av->Av->Mo Av
 |.d (.str i),.d (.str j),S=>bl (f (!(Builtin.Str.occurrences j i 0 j° 1).isEmpty)) S
 |.d x,.d (.tup l),S=>if aH x && l.all aH then bl (f (inD x l)) S else .bad
 |.d _,.d _,_=>.bad
 |.d x,.c ws,S=>if aH x then bl (f (inD x (ws.map Dt.str))) S else .bad
 |.d x,b,S=>match aA S b with
  |some l=>if aH x && l.all aH then bl (f (inD x l)) S else .bad
  |none=>match eQ S b,aP? x with
   |some kvs,PN k=>bl (f (au kvs k).isSome) S
   |_,_=>.bad
 |_,_,_=>.bad
§AH:Av->Bool
 |.d .non=>PU
 |_=>PV
§isA(f:Bool->Bool):Av->Av->Mo Av
 |a,.d .non,S=>bl (f (AH a)) S
 |.d (.bl b),.d (.bl c),S=>bl (f (b == c)) S
 |_,_,_=>.bad
§av:Co->Av->Av->Mo Av
 |.eq=>eqA λb=>b
 |.ne=>eqA λb=>!b
 |.lt=>gJ (λi j=>decide (i < j)) λi j=>PN (decide (i.cps.toList < j.cps.toList))
 |.le=>gJ (λi j=>decide (i<=j)) λi j=>PN (!decide (j.cps.toList < i.cps.toList))
 |.gt=>gJ (λi j=>decide (j < i)) λ_ _=>PR
 |.ge=>gJ (λi j=>decide (j<=i)) λ_ _=>PR
 |.inn=>inA λb=>b
 |.nin=>inA λb=>!b
 |.is=>isA λb=>b
 |.isn=>isA λb=>!b
§aF(o:PY Dt):Mo Av:=λS=>match o with
 |some x=>.ok (.d x) S
 |none=>.bad
§ixA:Av->Av->Mo Av
 |.d (.tup l),.d (.int i),S=>aF (atI l i) S
 |.d (.str z),.d (.int i),S=>if z°<=Ld then aF ((atI z.cps.toList i).map λc=>.str ⟨#[c]⟩) S else .bad
 |.d _,_,_=>.bad
 |.l l,.d (.int i),S=>aF (atI l i) S
 |.c ws,.d (.int i),S=>aF ((atI ws i).map Dt.str) S
 |.r n,.d y,S=>match S[n]? with
  |some (.lst l)=>match y with
   |.int i=>aF (atI l i) S
   |_=>.bad
  |some (.dic kvs)=>match aP? y with
   |some k=>aF (au kvs k) S
   |none=>.bad
  |_=>.bad
 |_,_,_=>.bad
§slA:Av->PY Int->PY Int->Mo Av
 |.d (.tup l),lo,hi,S=>.ok (.d (.tup (io l lo hi))) S
 |.d (.str z),lo,hi,S=>if z°<=Ld then .ok (.d (.str (Txt.slice z lo hi))) S else .bad
 |.d _,_,_,_=>.bad
 |a,lo,hi,S=>match aA S a with
  |some l=>newL (io l lo hi) S
  |none=>.bad
§truth:Av->PY Bool
 |.d (.bl b)=>PN b
 |_=>PR
§iy:PQ Dt->PY (PQ Bool)
 |[]=>PN []
 |.bl b :: l=>(iy l).map (b :: ·)
 |_=>PR
§dC:PQ Dt->PY (PQ Int)
 |[]=>PN []
 |.int i :: l=>(dC l).map (i :: ·)
 |_=>PR
§bi:PQ Dt->PY (PQ Str)
 |[]=>PN []
 |.str i :: l=>(bi l).map (i :: ·)
 |_=>PR
§eg(z:Str):PQ Str->Nat->PY Nat
 |[],_=>PR
 |y :: l,n=>if y=z then PN n else eg z l (n+1)
§onL(g:PQ Dt->Mo Av)(a:Av):Mo Av:=λS=>match aA S a with
 |some l=>g l S
 |none=>.bad
§lH:Av->Mo Av
 |.d (.tup l),S=>.ok (.d (.int l°)) S
 |.d (.str z),S=>if z°<=Ld then .ok (.d (.int z°)) S else .bad
 |.r n,S=>match S[n]? with
  |some (.lst l)=>.ok (.d (.int l°)) S
  |some (.dic kvs)=>.ok (.d (.int kvs°)) S
  |_=>.bad
 |.c ws,S=>.ok (.d (.int ws°)) S
 |a,S=>onL (λl=>dat (.int l°)) a S
§jS(g:Dt->PY Dt):Av->Mo Av
 |.d x,S=>aF (g x) S
 |_,_=>.bad
§FL:Dt->PY Dt
 |.int i=>PN (.int (if i < 0 then -i else i))
 |_=>PR
§yd:Dt->PY Dt
 |.int i=>if i.natAbs.log2 < 1920 then PN (.str (toString i))else PR
 |_=>PR
§ye:Dt->PY Dt
 |.str x=>if x°=1 then PN (.int (x.cps.getD 0 0:Nat))else PR
 |_=>PR
§fN:Dt->PY Dt
 |.tup l=>match l.mapM aP? with
  |some ks=>if ks°<=1000 then PN (.int (fC ks ks°)°)else PR
  |none=>PR
 |_=>PR
§ut(kvs:PQ (Key×Dt)):Mo Av:=λS=>.ok (.r S°) (S++[.dic kvs])
§cD:PQ Dt->PY (PQ (Str×Dt))
 |[]=>PN []
 |.tup [.str z,d] :: l=>(cD l).map ((z,d) :: ·)
 |_=>PR
§named(fs:PQ (Str×Dt)):PQ (Key×Dt):=fs.map λp=>(.inr p.1,p.2)
§gK:Av->Mo Av
 |.d (.tup l),S=>match cD l with
  |some fs=>if(fs.map (·.1)).Nodup/\fs°<=1000 then ut (named fs) S else .bad
  |none=>.bad
 |_,_=>.bad
§dE:PQ (Key×Dt)->PY (PQ Str)
 |[]=>PN []
 |(.inr z,_) :: l=>(dE l).map (z :: ·)
 |_=>PR
§eh:PQ (Key×Dt)->PY (PQ Int)
 |[]=>PN []
 |(.inl i,_) :: l=>(eh l).map (i :: ·)
 |_=>PR
§aR(a:Av)(S:Sto):Rs Av:=match aA S a with
 |some l=>match bi l with
  |some ss=>if ss° < 64 then newL ((sortS ss).map Dt.str) S else .bad
  |none=>.bad
 |none=>match eQ S a with
  |some kvs=>match dE kvs with
   |some ss=>if ss° < 64 then newL ((sortS ss).map Dt.str) S else .bad
   |none=>match eh kvs with
    |some ns=>if ns° < 64 then newL ((sortI ns).map Dt.int) S else .bad
    |none=>.bad
  |none=>.bad
§fq:PQ Av->Mo Av
 |[.d (.tup l),.d (.tup us)],S=>match bi l with
  |some ws=>if us°=ws°/\ws.Nodup/\ws°<=1000 then ut (named (ws.zip us)) S else .bad
  |none=>.bad
 |_,_=>.bad
§dF:PQ Av->Mo Av
 |[.d (.tup l),.d (.tup us)],S=>if l°=us°/\l°<=1000 then .ok (.d (.tup (zD l us))) S else .bad
 |_,_=>.bad
§aV:Bf->Av->Mo Av
 |.len=>lH
 |.abs=>jS FL
 |.str=>jS yd
 |.ord=>jS ye
 |.all=>onL λl=>aF ((iy l).map λl=>.bl (l.all id))
 |.sum=>onL λl=>aF ((dC l).map λl=>.int l.sum)
 |.tuple=>onL λl=>dat (.tup l)
 |.lenset=>λ_ _=>.bad
 |.dict=>gK
 |.sorted=>aR
 |.max=>λ_ _=>.bad
 |.min=>λ_ _=>.bad
§blt2:Bf->Av->Av->Mo Av
 |.max=>cj λi j=>PN (.int (if j > i then j else i))
 |.min=>cj λi j=>PN (.int (if j < i then j else i))
 |_=>λ_ _ _=>.bad
§lI(f:Bf):PQ Av->Mo Av
 |[a]=>aV f a
 |[a,b]=>blt2 f a b
 |_=>λ_=>.bad
§apA(x:Av):Av->Mo Av
 |.r n,S=>match x,S[n]? with
  |.d x,PN (.lst xs)=>if xs° < Ld then .ok (.d .non) (S.set n (.lst (xs++[x])))else .bad
  |_,_=>.bad
 |_,_=>.bad
§dj:Dt->Dt->PY Dt
 |.tup l,.str z=>match bi l with
  |some zs=>if zs°<=1000 then(eg z zs 0).map λj=>.int (j:Nat)else PR
  |none=>PR
 |_,_=>PR
§iz(x:Av):Av->Mo Av
 |.r n,S=>match x,S[n]? with
  |.d x,PN (.lst xs)=>aF (dj (.tup xs) x) S
  |_,_=>.bad
 |_,_=>.bad
§mt1:Mf->Av->Av->Mo Av
 |.append=>λo x=>apA x o
 |.lindex=>λo x=>iz x o
§tyA:Mf->Av->Sto->Bool
 |.append,.r n,S=>match S[n]? with
  |some (.lst _)=>PU
  |_=>PV
 |.lindex,.r n,S=>match S[n]? with
  |some (.lst _)=>PU
  |_=>PV
 |_,_,_=>PV
§mtA(o:Av)(f:Mf):PQ Av->Mo Av
 |[a]=>mt1 f o a
 |_=>λ_=>.bad
§aZ:Tg->Dt->En->PY En
 |.nm i,x,env=>PN (env.set i (PN (.d x)))
 |.tp is,.tup l,env=>if is°=l° then PN ((is.zip l).foldl (λe p=>e.set p.1 (PN (.d p.2))) env)else PR
 |_,_,_=>PR
§bindA:Tg->Av->En->PY En
 |.nm i,a,env=>PN (env.set i (PN a))
 |t,.d x,env=>aZ t x env
 |_,_,_=>PR
§dQ(a:Av)(S:Sto):Rs (PQ Dt×PQ (Nat×PQ Dt)):=match a with
 |.d (.tup l)=>.ok (l,[]) S
 |.d (.str z)=>.ok (z.cps.toList.map λc=>.str ⟨#[c]⟩,[]) S
 |.l xs=>.ok (xs,[]) S
 |.it xs gd=>.ok (xs,gd) S
 |.r n=>match S[n]? with
  |some (.lst xs)=>.ok (xs,[(n,xs)]) S
  |_=>.bad
 |_=>.bad
§rngL(i:Int)(c:Int)(n:Nat):PQ Dt:=(List.range n).map λk:Nat=>.int (i+(k:Int)*c)
§i4:Av->Mo Av
 |.d (.int j),S=>if -(2 ^ 62)<=j/\j < 2 ^ 62 then .ok (.it (rngL 0 1 j.toNat) []) S else .bad
 |_,_=>.bad
§i5:Av->Av->Av->Mo Av
 |.d (.int i),.d (.int j),.d (.int c),S=>if 0<=i/\i < 2 ^ 62/\0<=j/\j < 2 ^ 62/\0 < c/\c < 1073741824 then .ok (.it (rngL i c (rngN i j c)) []) S else .bad
 |_,_,_,_=>.bad
§aB(S:Sto):PQ (Nat×PQ Dt)->Prop
 |[]=>True
 |p :: gd=>S[p.1]?=PN (.lst p.2)/\aB S gd
mutual
§dtE:Dt->Dt->Bool
 |.non,.non=>PU
 |.bl a,.bl b=>a == b
 |.int i,.int j=>i == j
 |.str x,.str y=>x == y
 |.tup l,.tup m=>dsE l m
 |_,_=>PV
§dsE:PQ Dt->PQ Dt->Bool
 |[],[]=>PU
 |d :: l,e :: m=>dtE d e && dsE l m
 |_,_=>PV
end
mutual
~Cr:∀ a b:Dt,dtE a b=PU->a=b
 |.non,.non,_=>rfl
 |.bl _,.bl _,h=>by rw[dtE,LO]at h;rw[h]
 |.int _,.int _,h=>by rw[dtE,LO]at h;rw[h]
 |.str _,.str _,h=>by rw[dtE,LO]at h;rw[h]
 |.tup l,.tup m,h=>by rw[dtE]at h;rw[ny l m h]
 |.non,.bl _,h | .non,.int _,h | .non,.str _,h | .non,.tup _,h=>by #h
 |.bl _,.non,h | .bl _,.int _,h | .bl _,.str _,h | .bl _,.tup _,h=>by #h
 |.int _,.non,h | .int _,.bl _,h | .int _,.str _,h | .int _,.tup _,h=>by #h
 |.str _,.non,h | .str _,.bl _,h | .str _,.int _,h | .str _,.tup _,h=>by #h
 |.tup _,.non,h | .tup _,.bl _,h | .tup _,.int _,h | .tup _,.str _,h=>by #h
~ny:∀ l m:PQ Dt,dsE l m=PU->l=m
 |[],[],_=>rfl
 |d :: l,e :: m,h=>by rw[dsE,aAn]at h;rw[Cr d e h.1,ny l m h.2]
 |[],_ :: _,h=>by #h
 |_ :: _,[],h=>by #h
end
mutual
~oR:∀ a:Dt,dtE a a=PU
 |.non=>rfl
 |.bl _=>by rw[dtE,Lz]
 |.int _=>by rw[dtE,Lz]
 |.str _=>by rw[dtE,Lz]
 |.tup l=>by rw[dtE,b4 l]
~b4:∀ l:PQ Dt,dsE l l=PU
 |[]=>rfl
 |d :: l=>by rw[dsE,oR d,b4 l];rfl
end
§gB(S:Sto):PQ (Nat×PQ Dt)->Bool
 |[]=>PU
 |p :: gd=>(match S[p.1]? with | PN (.lst xs)=>dsE xs p.2 | _=>PV) && gB S gd
~nB:∀ {gd},gB S gd=PU↔aB S gd
 |[]=>⟨λ_=>trivial,λ_=>rfl⟩
 |p :: gd=>by
  rw[gB,aAn,nB];!and_congr ⟨λh=>?_,λh=>by rw[h];~b4 _⟩ Iff.rfl
  split at h
  ·rename_i e;rw[e,ny _ _ h]
  ·#h
§gOk{α:Type}(S:Sto)(r:Rs α)(gd:PQ (Nat×PQ Dt)):Rs α:=gB S gd~>r
~fO{r:Rs a}(h:aB S gd):gOk S r gd=r:=by rw[gOk,nB.mpr h];rfl
~fP{r:Rs a}(h:¬ aB S gd):gOk S r gd=.bad:=by
 rw[gOk,aA6.mpr λq=>h (nB.mp q)]
 rfl
§ai(n:Nat)(gd:PQ (Nat×PQ Dt))(t:Tg)(f:En->Mo (PY Dt)):PQ Dt->En->Mo Unit
 |[],_,S=>gOk S (.ok () S) gd
 |x :: xs,env,S=>gOk S (match aZ t x env with
  |none=>.bad
  |some env1=>(f env1 S).bind λy S1=>match S1[n]? with
   |some (.lst acc)=>match y with
    |some y=>if acc° < Ld then ai n gd t f xs env1 ((S1.take (n+1)).set n (.lst (acc++[y])))else .bad
    |none=>ai n gd t f xs env1 (S1.take (n+1))
   |_=>.bad) gd
§bD{α:Type}(f:Dt->Mo α):Av->Mo α
 |.d x,S=>f x S
 |_,_=>.bad
§bQ{α:Type}:Rs α->Rs α
 |.ex _ _=>.bad
 |.br b x y=>.br b (bQ x) (bQ y)
 |r=>r
§asI:Av->Mo (PY Int)
 |.d (.int i),S=>.ok (PN i) S
 |_,_=>.bad
§cn:PQ Av->PY (PQ Dt)
 |[]=>PN []
 |.d x :: l=>(cn l).map (x :: ·)
 |_=>PR
§eR:Av->Ty->Mo Av
 |.d (.int _),t,S=>bl (t == .int) S
 |.d (.str _),t,S=>bl (t == .str) S
 |.d (.bl _),t,S=>bl (t == .int || t == .bool) S
 |.d (.tup _),t,S=>bl (t == .tuple) S
 |.d .non,_,_=>.bad
 |_,.bool,_=>.bad
 |a,t,S=>match aA S a with
  |some _=>bl PV S
  |none=>.bad
§gL(l:PQ (Str×Int)):Av->Mo Av
 |.d (.str z),S=>.ok (.d (match l.lookup z with | PN i=>.int i | PR=>.non)) S
 |_,_=>.bad
§oS(l:PQ (Str×PQ Str)):Av->Av->Mo Av
 |.d (.str z),u,S=>match l.lookup z with
  |some ws=>.ok (.c ws) S
  |none=>.ok u S
 |_,_,_=>.bad
§choose{α:Type}(x:Av)(a b:Rs α):Rs α:=match truth x with
 |some PU=>a
 |some PV=>b
 |none=>.bad
inductive Fl where | nx (env:En) | rt (a:Av) | bk (env:En) | ct (env:En)
§dR:Av->Av->Av->Mo Unit
 |.r n,.d y,.d v,S=>match S[n]? with
  |some (.lst xs)=>match y with
   |.int i=>match ixN xs° i with
    |some j=>.ok () (S.set n (.lst (xs.set j v)))
    |none=>.bad
   |_=>.bad
  |some (.dic kvs)=>match aP? y with
   |some k=>if kvs° < Ld then .ok () (S.set n (.dic (ck kvs k v)))else .bad
   |none=>.bad
  |_=>.bad
 |_,_,_,_=>.bad
§cP(gd:PQ (Nat×PQ Dt))(t:Tg)(f:En->Mo Fl):PQ Dt->En->Mo Fl
 |[],env,S=>gOk S (.ok (.nx env) S) gd
 |x :: xs,env,S=>gOk S (match aZ t x env with
  |none=>.bad
  |some env1=>(f env1 S).bind λy S1=>match y with
   |.nx env2=>cP gd t f xs env2 S1
   |.ct env2=>cP gd t f xs env2 S1
   |.bk env2=>.ok (.nx env2) S1
   |.rt a=>.ok (.rt a) S1) gd
§cF(X:Cx)(sc:Scope):Prop:=∀ x k,sc.names.lookup x=PN k->X.env.scope.names.lookup x=PN k\/(k=.free/\X.env.scope.names.lookup x=PN .cell)
§spC(K:W.Frag)(mg:Str->PY Li)(C:PQ Av->Mo Av):Sp:=λvs H Q E=>∃ m S as,Sim K mg H m S/\RAs K H m as vs/\Post K mg m H Q E (C as S)
section
variable {K:W.Frag}{mg:Str->PY Li}{E:XK}{X:Cx}
§rS(K:W.Frag)(mg:Str->PY Li)(E:XK)(h:Av->Av->Mo Av):R2:=λx y H Q=>∃ m S a b,Sim K mg H m S/\RA K H m a x/\RA K H m b y/\Post K mg m H Q E (h a b S)
§rL(K:W.Frag)(mg:Str->PY Li)(E:XK)(h:PQ Av->Mo Av):PQ V->Hp->VK->Prop:=λxs H Q=>∃ m S as,Sim K mg H m S/\RAs K H m as xs/\Post K mg m H Q E (h as S)
~op2(z:∀ x y H Q,rS K mg E h x y H Q->r x y H Q) :
  ∀ c H Q,tE K mg E (λenv S=>(f env S).bind λx S1=>(g env S1).bind λy e=>h x y e) c H Q->tOp r (tE K mg E f) (tE K mg E g) c H Q:=by
 rintro c H Q ⟨m,S,env,s,j,k,p⟩;!⟨m,S,env,s,j,k,PostG.bind p λa S1 v I B _ o F q A l=>?_⟩;!⟨B,S1,env,q,j.mono F o,k,PostG.bind l λb e u D n _ d t G C w=>?_⟩;~z v u D Q ⟨n,e,a,b,G,A.mono t d,C,w⟩
~jT:∀ a H Q,tE K mg E (λenv S=>tidy S° (f env S)) a H Q->tE K mg E f a H Q:=by
 rintro a H Q ⟨m,S,env,s,c,d,p⟩;!⟨m,S,env,s,c,d,Post.tidy ?_⟩;rw[s.len];~p
~Post.dat(s:Sim K mg H m S)(p:Post K mg m H Q E (.ok (.d x) S))(r:IsP K H x v):Q v H:=
 p v H m (aAj _) (Fz.refl H) s r
~Post.datS(s:Sim K mg H m S)(p:Post K mg m H Q E (.ok (.d x) S))(g:Same H H')(r:IsP K H' x v):Q v H' :=
 p v H' m (aAj _) (Fz.same g) (s.same g) r
~Post.newL(s:Sim K mg H m S)(p:Post K mg m H Q E (newL l S))(b:H a=PR)(r:IsPs K H l vs):Q (.ref a) (upd H a (.lst vs)):=by
 !p _ _ _ (aAZ _ _) (Fz.newS (ay b _) b) (s.new b ⟨vs,aw,r.same (ay b _)⟩) ?_;~⟨a,by rw[<- s.len,aAt (aAo _),aA9];rfl,rfl⟩
~aX(s:Sim K j H m S)(r:RA K H m a v)(e:aA S a=PN l):∃ p vs,v=.ref p/\SqL K H p vs/\IsPs K H l vs:=by
 #a with
 |d x=>cases e
 |r n =>
  &p,h,rfl:=r
  #b:S[n]? with
  |none=>simp[aA,b]at e
  |some o =>
   #o with
   |lst i =>
    simp[aA,b]at e;subst e;&vs,f,g:=s.obj n _ p b h;PM p,vs,rfl,SqL.of f,g
   |dic _=>simp[aA,b]at e
   |exc _=>simp[aA,b]at e
 |l i =>
  &p,vs,rfl,f,g:=r;simp[aA]at e;subst e;PM p,vs,rfl,f.sq,g
 |it _ _=>cases e
 |c _=>cases e
end
section
variable {E:XK}{X:Cx}
local notation "K" =>X.K
~FM:OpR X (L0 .Add) (rS X.K X.mg E q8):=by
 rintro f s B H x y v u Q I L M ⟨m,S,a,b,A,G,D,p⟩;@t:∀ {k o},aA S a=PN k->aA S b=PN o->Post X.K X.mg m H Q E (if k°+o°<=Ld then newL (k++o) S else .bad)->Lm (Lo X.prog X.w) X.A (L0 .Add v u) (EP X f B Q) X.xe s:=by
  intro k o ha hb p;&a1,U,rfl,w,C:=aX A G ha;&Y,T,rfl,W,O:=aX A D hb
  by_cases h:k°+o°<=Ld
  ·rw[Lj h]at p;!xJ f s B H _ _ v u Q I L M ⟨a1,Y,U,T,rfl,rfl,w,W,?_,λq R=>Post.newL A p R (C.append O)⟩;rw[<- C°,<- O°];~h
  ·rw[Ln h]at p;~p.elim
 have e:Post X.K X.mg m H Q E (match aA S a,aA S b with
  |some k,PN o=>if k°+o°<=Ld then newL (k++o) S else .bad
  |_,_=>.bad)->Lm (Lo X.prog X.w) X.A (L0 .Add v u) (EP X f B Q) X.xe s:=by
  intro p
  #w:aA S a with
  |none=>rw[w]at p;~p.elim
  |some k =>
   #C:aA S b with
   |none=>rw[w,C]at p;~p.elim
   |some o=>rw[w,C]at p;~t w C p
 #a with
 |it _ _=>~G.elim
 |c _=>~e p
 |r n=>~e p
 |l k=>~e p
 |d J =>
  #b with
  |it _ _=>~D.elim
  |c _=>cases J <;> ~e p
  |r n=>cases J <;> ~e p
  |l k=>cases J <;> ~e p
  |d F =>
   #J with
   |non=>cases F <;> ~p.elim
   |bl _=>cases F <;> ~p.elim
   |int i =>
    #F with
    |int j =>
     #G;#D
     ~BM f s B H _ _ v u Q I L M ⟨i,j,rfl,rfl,Post.dat A p .int⟩
    |_=>~p.elim
   |str z =>
    #F with
    |str N =>
     #G;#D
     by_cases h:z°+N°<=Ld
     ·@Z:Post X.K X.mg m H Q E (.ok (.d (.str (z++N))) S):=by
       @:=p;PK[q8,Lj h]at this;~this
      ~mI f s B H _ _ v u Q I L M ⟨z,N,rfl,rfl,h,Post.dat A Z .str⟩
     ·PK[q8,Ln h]at p;~p.elim
    |_=>~p.elim
   |tup l =>
    #F with
    |tup P =>
     by_cases h:l°+P°<=Ld
     ·PK[q8,Lj h]at p;~xE f s B H _ _ v u Q I L M ⟨l,P,G,D,h,λv' H' g r=>Post.datS A p g r⟩
     ·PK[q8,Ln h]at p;~p.elim
    |_=>~p.elim
~dS(z:∀ {c}{s}{g:St}{H}{v u}{Q}(i j) (x),h i j=PN x->Inv X c g H s->RelV (.int i) v->RelV (.int j) u->(∀ w,IsP X.K H x w->Q w H)->Lm (Lo X.prog X.w) X.A (f v u) (EP X c g Q) X.xe s):OpR X f (rS X.K X.mg E (cj h)):=by
 rintro c s g H x y v u Q I l q ⟨m,S,a,b,t,B,n,p⟩
 #a with
 |d k =>
  #k with
  |int i =>
   #b with
   |d A =>
    #A with
    |int j =>
     #B;#n
     #e:h i j with
     |none=>PK[cj,e]at p;~p.elim
     |some o =>
      PK[cj,e]at p;~z i j o e I l q λw r=>Post.dat t p r
    |_=>~p.elim
   |_=>~p.elim
  |_=>cases b <;> ~p.elim
 |_=>cases b <;> ~p.elim
~FN:OpR X (L0 .Sub) (rS X.K X.mg E (aj .sub)):=
 dS (h:=λi j=>PN _) λi j x e I b a q=>by #e;~BN _ _ _ _ _ _ _ _ _ I b a ⟨i,j,rfl,rfl,q _ .int⟩
~FO:OpR X (L0 .Mult) (rS X.K X.mg E (aj .mul)):=dS λi j x e I c b q=>by
 by_cases a:fm i j=PU
 ·rw[Lj a]at e
  #e
  !xH _ _ _ _ _ _ _ _ _ I c b ⟨i,j,rfl,rfl,?_,q _ .int⟩;PL IntMulOk;unfold fm at a;rw[aBM]at a;rw[a];~Bool.noConfusion
 ·rw[Ln a]at e;#e
~FP:OpR X (L0 .Mod) (rS X.K X.mg E (aj .mod)):=dS λi j x e I c b q=>by
 by_cases a:0 < j
 ·rw[Lj a]at e
  #e
  ~BO _ _ _ _ _ _ _ _ _ I c b ⟨i,j,rfl,rfl,a,q _ .int⟩
 ·rw[Ln a]at e;#e
~Cs:OpR X (L0 .FloorDiv) (rS X.K X.mg E (aj .fdiv)):=dS λi j x e I c b q=>by
 by_cases a:0 < j/\j < 10000000000000000000000000000000000000000000000000000000000000
 ·rw[Lj a]at e
  #e
  ~sZ _ _ _ _ _ _ _ _ _ I c b ⟨i,j,rfl,rfl,a,q _ .int⟩
 ·rw[Ln a]at e;#e
~FS:OpR X (L0 .Pow) (rS X.K X.mg E (aj .pow)):=dS λi j x e I c b q=>by
 by_cases a:ur i j=PU
 ·rw[Lj a]at e
  #e
  !BP _ _ _ _ _ _ _ _ _ I c b ⟨i,j,rfl,rfl,?_,q _ .int⟩;unfold ur at a;PK[aAn,L9]at a;PM a.1.1,a.1.2,a.2
 ·rw[Ln a]at e;#e
§Cu:Bo->Py
 |.add=>.Add | .sub=>.Sub | .mul=>.Mult | .mod=>.Mod | .fdiv=>.FloorDiv | .pow=>.Pow
~FT:∀ o:Bo,OpR X (L0 (Cu o)) (rS X.K X.mg E (aj o))
 |.add=>FM | .sub=>FN | .mul=>FO | .mod=>FP | .fdiv=>Cs | .pow=>FS
~oU(r:IsP X.K H x v)(f:aH x=PU):dz v=true:=by
 cases r <;> first | rfl | cases f
~lJ:∀ {l}{vs},IsPs X.K H l vs->l.all aH=PU->vs.all dz=PU
 |_,_,.nil,_=>rfl
 |_,_,.cons h r,f=>by
  rw[aAL,aAn]at f;rw[aAL,aAn];PM oU h f.1,lJ r f.2
~Cv(r:IsP X.K H x v)(q:IsP X.K H y u)(f:aH x=PU)(g:aH y=PU):eqV v u=eqD x y:=by
 cases r <;> cases q <;> first | rfl | (cases f) | (done) | (simp[eqV])
~uu(r:IsP X.K H x v)(f:aH x=PU):∀ {l}{vs},IsPs X.K H l vs->l.all aH=PU->inV v vs=inD x l
 |_,_,.nil,_=>rfl
 |_,_,.cons h q,g=>by
  rw[aAL,aAn]at g;@a:=uu r f q g.2;unfold inV inD at a ⊢;rw[aAQ,aAQ,a,Cv h r g.1 f]
~FU(B:X.A.units+64 < LU):OpR X (Ls .Eq) (rS X.K X.mg E (av .eq)):=by
 rintro f s k H x y v u Q I C z ⟨m,S,a,b,i,o,t,p⟩;have e:Post X.K X.mg m H Q E (match aA S a,aA S b with
  |some h,PN q=>if al h<=60 then bl (bu h q) S else .bad
  |_,_=>.bad)->Lm (Lo X.prog X.w) X.A (Ls .Eq v u) (EP X f k Q) X.xe s:=by
  intro p
  #j:aA S a with
  |none=>rw[j]at p;~p.elim
  |some h =>
   #w:aA S b with
   |none=>rw[j,w]at p;~p.elim
   |some q =>
    rw[j,w]at p;&D,J,rfl,O,M:=aX i o j;&P,F,rfl,G,N:=aX i t w
    by_cases g:al h<=60
    ·PK[Lj g]at p;~B7 B f s k H _ _ v u Q I C z ⟨D,P,J,F,h,q,rfl,rfl,O,G,M.d,N.d,g,Post.dat i p .bl⟩
    ·PK[Ln g]at p;~p.elim
 #a with
 |d A =>
  #b with
  |d L =>
   by_cases g:A.dep<=60
   ·PK[av,eqA,Lj g]at p;~B5 B f s k H _ _ v u Q I C z ⟨A,L,o.d,t.d,g,Post.dat i p .bl⟩
   ·PK[av,eqA,Ln g]at p;~p.elim
  |r n=>~e p
  |l h=>~e p
  |it _ _=>~t.elim
  |c _=>~e p
 |r n=>~e p
 |l h=>~e p
 |it _ _=>~o.elim
 |c _=>~e p
~FX(B:X.A.units+64 < LU):OpR X (Ls .NotEq) (rS X.K X.mg E (av .ne)):=by
 rintro f s k H x y v u Q I C z ⟨m,S,a,b,i,o,t,p⟩;have e:Post X.K X.mg m H Q E (match aA S a,aA S b with
  |some h,PN q=>if al h<=60 then bl (!bu h q) S else .bad
  |_,_=>.bad)->Lm (Lo X.prog X.w) X.A (Ls .NotEq v u) (EP X f k Q) X.xe s:=by
  intro p
  #j:aA S a with
  |none=>rw[j]at p;~p.elim
  |some h =>
   #w:aA S b with
   |none=>rw[j,w]at p;~p.elim
   |some q =>
    rw[j,w]at p;&D,J,rfl,O,M:=aX i o j;&P,F,rfl,G,N:=aX i t w
    by_cases g:al h<=60
    ·PK[Lj g]at p;~B8 B f s k H _ _ v u Q I C z ⟨D,P,J,F,h,q,rfl,rfl,O,G,M.d,N.d,g,Post.dat i p .bl⟩
    ·PK[Ln g]at p;~p.elim
 #a with
 |d A =>
  #b with
  |d L =>
   by_cases g:A.dep<=60
   ·PK[av,eqA,Lj g]at p;~B6 B f s k H _ _ v u Q I C z ⟨A,L,o.d,t.d,g,Post.dat i p .bl⟩
   ·PK[av,eqA,Ln g]at p;~p.elim
  |r n=>~e p
  |l h=>~e p
  |it _ _=>~t.elim
  |c _=>~e p
 |r n=>~e p
 |l h=>~e p
 |it _ _=>~o.elim
 |c _=>~e p
~oV(A:OpR X f (rI0 λi j=>.bl (g i j)))
  (hs:∀ {c}{s}{k:St}{H}{v u}{Q}(i j) (b),h i j=PN b->Inv X c k H s->RelV (.str i) v->RelV (.str j) u->Q (.bl b) H->Lm (Lo X.prog X.w) X.A (f v u) (EP X c k Q) X.xe s):OpR X f (rS X.K X.mg E (gJ g h)):=by
 rintro c s k H x y v u Q I o r ⟨m,S,a,b,n,t,q,p⟩
 #a with
 |d z =>
  #z with
  |int i =>
   #b with
   |d l =>
    #l with
    |int j =>
     #t;#q
     ~A c s k H _ _ v u Q I o r ⟨i,j,rfl,rfl,Post.dat n p .bl⟩
    |_=>~p.elim
   |_=>~p.elim
  |str i =>
   #b with
   |d l =>
    #l with
    |str j =>
     #t;#q
     #e:h i j with
     |none=>PK[gJ,e]at p;~p.elim
     |some w =>
      PK[gJ,e]at p;~hs i j w e I o r (Post.dat n p .bl)
    |_=>~p.elim
   |_=>~p.elim
  |_=>cases b <;> ~p.elim
 |_=>cases b <;> ~p.elim
~Jj:OpR X (Ls .Lt) (rS X.K X.mg E (av .lt)):=oV (h:=λi j=>PN _) EX λi j b e I c a q=>by
 #e
 ~qv _ _ _ _ _ _ _ _ _ I c a ⟨i,j,rfl,rfl,q⟩
~Jk:OpR X (Ls .LtE) (rS X.K X.mg E (av .le)):=oV (h:=λi j=>PN _) EY λi j b e I c a q=>by
 #e
 ~qO _ _ _ _ _ _ _ _ _ I c a ⟨i,j,rfl,rfl,q⟩
~Jl:OpR X (Ls .Gt) (rS X.K X.mg E (av .gt)):=oV (h:=λ_ _=>PR) EZ λi j b e I c a q=>by #e
~Jm:OpR X (Ls .GtE) (rS X.K X.mg E (av .ge)):=oV (h:=λ_ _=>PR) E3 λi j b e I c a q=>by #e
~cq:∀ ss:PQ Str,IsPs F H (ss.map Dt.str) (ss.map V.str)
 |[]=>.nil
 |s :: ss=>.cons .str (cq ss)
~jU(r:IsP X.K H x v)(e:aP? x=PN k):v=kV k:=by
 cases r <;> simp[aP?]at e <;> subst e <;> rfl
~PrK.val(k):∀ {kvs}{ws},PrK F H kvs ws->(au kvs k=PR/\aY ws k=PR)\/∃ d v,au kvs k=PN d/\aY ws k=PN v/\IsP F H d v
 |_,_,.nil=>.inl ⟨rfl,rfl⟩
 |_,_,.cons (k:=j) (x:=x) (v:=v) h r=>by
  by_cases q:j=k
  ·~.inr ⟨x,v,by simp[au, q],by simp[aY, q],h⟩
  ·rcases PrK.val k r with⟨b,a⟩ | ⟨d,v,b,a,c⟩
   ·~.inl ⟨by PK[au,aBq,q];~b,by PK[aY,aBq,q];~a⟩
   ·~.inr ⟨d,v,by PK[au,aBq,q];~b,by PK[aY,aBq,q];~a,c⟩
~PrK.length:∀ {kvs}{ws},PrK F H kvs ws->kvs°=ws°
 |_,_,.nil=>rfl
 |_,_,.cons h r=>by rw[aAv,aAv,PrK.length r]
~fQ(s:Sim X.K X.mg H m S)(r:RA X.K H m a v)(e:eQ S a=PN kvs):∃ p ws,v=.ref p/\H p=PN (.dK ws)/\PrK X.K H kvs ws:=by
 #a with
 |r n =>
  &q,g,rfl:=r
  #b:S[n]? with
  |none=>simp[eQ,b]at e
  |some h =>
   #h with
   |dic c =>
    simp[eQ,b]at e;subst e;&ws,f,d:=s.obj n _ q b g;PM q,ws,rfl,f,d
   |_=>simp[eQ,b]at e
 |_=>simp[eQ]at e
~AI{neg:Bool}(hd:OpR X (Ls op) (λx y H Q=>∃ a o,y=.ref a/\DGet H a x o/\Q (.bl (if neg then !o.isSome else o.isSome)) H))(hs:OpR X (Ls op) (rIn X.K neg))(ht:OpR X (Ls op) (λx y H Q=>∃ i j,x=.str i/\y=.str j/\Q (.bl (if neg then !(!(Builtin.Str.occurrences j i 0 j° 1).isEmpty)else !(Builtin.Str.occurrences j i 0 j° 1).isEmpty)) H)) :
  OpR X (Ls op) (rS X.K X.mg E (inA λb=>if neg then !b else b)):=by
 rintro h s R H x y v u Q I W U ⟨m,S,a,b,T,N,M,p⟩;have D:∀ (f:Dt) (l) (O:Ll) (P:PQ V),IsP X.K H f x->y=.ref O->(SqL X.K H O P\/SqT X.K H O P)->IsPs X.K H l P->Post X.K X.mg m H Q E (if aH f && l.all aH then bl (if neg then !inD f l else inD f l) S else .bad) ->
   Lm (Lo X.prog X.w) X.A (Ls op v u) (EP X h R Q) X.xe s:=by
  intro f l O P J C G L p
  by_cases F:(aH f && l.all aH)=PU
  ·rw[Lj F]at p;rw[aAn]at F;!hs h s R H _ _ v u Q I W U ⟨O,P,C,G,oU J F.1,lJ L F.2,?_⟩;rw[uu J F.1 L F.2];~Post.dat T p .bl
  ·rw[Ln F]at p;~p.elim
 have z:∀ f,a=.d f->Post X.K X.mg m H Q E (match aA S b with
  |some l=>if aH f && l.all aH then bl (if neg then !inD f l else inD f l) S else .bad
  |none=>match eQ S b,aP? f with
   |some A,PN k=>bl (if neg then !(au A k).isSome else(au A k).isSome) S
   |_,_=>.bad)->Lm (Lo X.prog X.w) X.A (Ls op v u) (EP X h R Q) X.xe s:=by
  intro f e B;subst e
  #C:aA S b with
  |none =>
   rw[C]at B
   #G:eQ S b with
   |none=>PK[G]at B;~B.elim
   |some A =>
    #L:aP? f with
    |none=>PK[G,L]at B;~B.elim
    |some k =>
     PK[G,L]at B;&q,w,rfl,Z,k2:=fQ T M G;@ek:=jU N L;subst ek;!hd h s R H _ _ v u Q I W U ⟨q,_,rfl,DGet.k Z,?_⟩;@es:(aY w k).isSome=(au A k).isSome:=by
      rcases PrK.val k k2 with⟨J,C⟩ | ⟨d,v,J,C,_⟩
      ·rw[J,C];rfl
      ·rw[J,C];rfl
     rw[es];~Post.dat T B .bl
  |some ys =>
   rw[C]at B;&Y,w,e,k3,k4:=aX T M C;~D f ys Y w N e (.inl k3) k4 B
 #a with
 |d f =>
  #b with
  |d y0 =>
   #y0 with
   |tup l =>
    &Y,w,e,Z,_,k2:=IsP.unref M
    cases f <;> ~D _ l Y w N e (.inr Z) k2 p
   |str j =>
    #f with
    |str i =>
     #N;#M
     ~ht h s R H _ _ v u Q I W U ⟨i,j,rfl,rfl,Post.dat T p .bl⟩
    |_=>~p.elim
   |_=>cases f <;> ~p.elim
  |r n=>cases f <;> ~z _ rfl p
  |l xs=>cases f <;> ~z _ rfl p
  |it _ _=>~M.elim
  |c w =>
   &q,rfl,hq:=M;@p':Post X.K X.mg m H Q E (if aH f then bl (if neg then !inD f (w.map Dt.str)else inD f (w.map Dt.str)) S else .bad):=by cases f <;> ~p
   !D f (w.map Dt.str) q _ N rfl (.inr (hq H)) (cq w) ?_;@ef:(w.map Dt.str).all aH=true:=by
    rw[aBz];~aAf.mpr λ_ _=>rfl
   rw[ef,aBx];~p'
 |r n=>~p.elim
 |l xs=>~p.elim
 |it _ _=>~N.elim
 |c _=>~p.elim
~Jn(f:X.A.units+64 < LU):OpR X (Ls .In) (rS X.K X.mg E (av .inn)):=AI (by
 rintro b s h H x y v u Q I e c ⟨a,o,rfl,g,q⟩
 #c
 ~Jd or I g e λi d=>⟨.bl _,H,d,rfl,q⟩) qA qw
~FY(f:X.A.units+64 < LU):OpR X (Ls .NotIn) (rS X.K X.mg E (av .nin)):=AI (by
 rintro b s h H x y v u Q I e c ⟨a,o,rfl,g,q⟩
 #c
 ~xC or I g e λi d=>⟨.bl _,H,d,rfl,q⟩) jz jA
~lK(r:RA X.K H m a x):decide (x=.non)=AH a:=by
 #a with
 |d e=>cases r <;> rfl
 |r n=>&p,_,rfl:=r;rfl
 |l f=>&p,b,rfl,_:=r;rfl
 |it _ _=>~r.elim
 |c _=>&p,rfl,_:=r;rfl
~Jo:OpR X (Ls .Is) (rS X.K X.mg E (av .is)):=by
 rintro e s j H x y v u Q I h f ⟨m,S,a,b,g,i,k,p⟩
 #b with
 |d n =>
  #n with
  |non =>
   #k
   !BR e s j H _ _ v u Q I h f ⟨rfl,?_⟩;rw[lK i];~Post.dat g p .bl
  |bl c =>
   #a with
   |d l =>
    #l with
    |bl b =>
     #i
     #k
     ~sQ e s j H _ _ v u Q I h f ⟨_,_,rfl,rfl,Post.dat g p .bl⟩
    |_=>~p.elim
   |_=>~p.elim
  |_=>~p.elim
 |_=>~p.elim
~FZ:OpR X (Ls .IsNot) (rS X.K X.mg E (av .isn)):=by
 rintro e s j H x y v u Q I h f ⟨m,S,a,b,g,i,k,p⟩
 #b with
 |d n =>
  #n with
  |non =>
   #k
   !xl e s j H _ _ v u Q I h f ⟨rfl,?_⟩;rw[lK i];~Post.dat g p .bl
  |bl c =>
   #a with
   |d l =>
    #l with
    |bl b =>
     #i
     #k
     ~kU e s j H _ _ v u Q I h f ⟨_,_,rfl,rfl,Post.dat g p .bl⟩
    |_=>~p.elim
   |_=>~p.elim
  |_=>~p.elim
 |_=>~p.elim
§gM:Co->CmpOp
 |.eq=>.Eq | .ne=>.NotEq | .lt=>.Lt | .le=>.LtE | .gt=>.Gt | .ge=>.GtE | .inn=>.In | .nin=>.NotIn | .is=>.Is | .isn=>.IsNot
~et(a:X.A.units+64 < LU):∀ o:Co,OpR X (Ls (gM o)) (rS X.K X.mg E (av o))
 |.eq=>FU a | .ne=>FX a | .lt=>Jj | .le=>Jk | .gt=>Jl | .ge=>Jm | .inn=>Jn a | .nin=>FY a | .is=>Jo | .isn=>FZ
end
section
variable {E:XK}{X:Cx}
~Cw{l}(h:atI l i=PN x):∃ j,ixN l° i=PN j/\l[j]?=PN x:=by
 unfold atI at h
 #e:ixN _ i with
 |none=>rw[e]at h;#h
 |some j=>rw[e]at h;PM j,rfl,h
~F0(r:IsPs X.K H l vs)(h:atI l i=PN x):∃ v,atI vs i=PN v/\IsP X.K H x v:=by
 &j,a,d:=Cw h;&v,b,c:=r.get d;!⟨v,?_,c⟩;PL atI;rw[<- r°,a];~b
~oW{f:b->c}{l}:atI (l.map f) i=(atI l i).map f:=by
 PL atI;rw[aAa]
 #ixN _ i with
 |none=>rfl
 |some j=>~aAE
~yf(w:X.A.units+64 < LU):IxR X (λx y H Q=>∃ a v,x=.ref a/\DGet H a y (PN v)/\Q v H):=by
 rintro d c f s k H x y v u Q I p l ⟨a,z,rfl,g,q⟩ o
 #p
 @n:=kY I g;!KE ?_;!KE (MJ n PySem.F.slot_dict_getitem.lookup ?_);@h:Lm (Lo X.prog X.w) X.A (OG c PV (.ref a) u) (λr b=>Lm (Lo X.prog X.w) X.A (letTemporaryGo d (.ref a) r >>= λ_=>pure r) (EP X f k Q) X.xe b) X.xe s:=by
  rw[o];~wpAny_operating (LG (qI or I g l λA t m i=>(⟨z,H,m,i,q⟩)) (λr b e=>KE (wpAny_letTemporaryGo (Lg e))) λ_ _ x=>x)
 first
  |~Lg (KE h)
  |~KE _
  |~KE h
~Jp(hu:X.A.units+64 < LU):IxR X (rS X.K X.mg E ixA):=by
 rintro g f h s B H x y v u Q I D F ⟨m,S,a,b,A,C,G,p⟩ M;@o:∀ i l,b=.d (.int i)->aA S a=PN l->Post X.K X.mg m H Q E (aF (atI l i) S)->Lm (Lo X.prog X.w) X.A (O9 g f v u) (EP X h B Q) X.xe s:=by
  intro i l e P N;subst e;&a1,vs,rfl,R,T:=aX A C P
  #j:atI l i with
  |none=>PK[j,aF]at N;~N.elim
  |some J =>
   PK[j,aF]at N;&v0,k3,Z:=F0 T j
   #G
   ~xq g f h s B H _ _ v u Q I D F ⟨a1,vs,i,v0,rfl,rfl,R,k3,Post.dat A N Z⟩ M
 #b with
 |d L =>
  #a with
  |d J =>
   #L with
   |int i =>
    #J with
    |tup l =>
     #j:atI l i with
     |none=>PK[ixA,j,aF]at p;~p.elim
     |some x1 =>
      PK[ixA,j,aF]at p
      #G
      ~xG g f h s B H _ _ v u Q I D F ⟨l,i,x1,C,rfl,j,λv r=>Post.dat A p r⟩ M
    |str z =>
     by_cases O:z°<=Ld
     ·PK[ixA,Lj O]at p
      #j:atI z.cps.toList i with
      |none=>PK[j,aF,Option.map_none]at p;~p.elim
      |some c =>
       PK[j,aF,aCb]at p
       #C;#G
       ~BV g f h s B H _ _ v u Q I D F ⟨z,i,c,rfl,rfl,O,j,Post.dat A p .str⟩ M
     ·PK[ixA,Ln O]at p;~p.elim
    |_=>~p.elim
   |_=>cases J <;> ~p.elim
  |r n =>
   #t:S[n]? with
   |none=>PK[ixA,t]at p;~p.elim
   |some ob =>
    #ob with
    |lst l =>
     #L with
     |int i =>
      PK[ixA,t]at p;~o i l rfl (by PK[aA,t]) p
     |_=>PK[ixA,t]at p;~p.elim
    |dic kvs =>
     #Y:aP? L with
     |none=>PK[ixA,t,Y]at p;~p.elim
     |some k =>
      PK[ixA,t,Y]at p;&q,W,rfl,R,T:=fQ (kvs:=kvs) A C (by PK[eQ,t]);@ek:=jU G Y;subst ek;rcases PrK.val k T with⟨U,_⟩ | ⟨d,w,U,P,j⟩
      ·PK[U,aF]at p;~p.elim
      ·PK[U,aF]at p;~yf hu g f h s B H _ _ v u Q I D F ⟨q,w,rfl,by rw[<- P];~DGet.k R,Post.dat A p j⟩ M
    |exc c=>PK[ixA,t]at p;~p.elim
  |l xs =>
   #L with
   |int i=>~o i xs rfl rfl p
   |_=>~p.elim
  |it _ _=>~C.elim
  |c W =>
   #L with
   |int i =>
    &q,rfl,hq:=C
    #j:atI W i with
    |none=>PK[ixA,j,aF,Option.map_none]at p;~p.elim
    |some z =>
     PK[ixA,j,aF,aCb]at p
     #G
     @h4:atI (W.map V.str) i=PN (.str z):=by
      rw[oW,j];rfl
     ~sG g f h s B H _ _ v u Q I D F ⟨q,_,i,_,rfl,rfl,hq H,h4,Post.dat A p .str⟩ M
   |_=>~p.elim
 |_=>cases a with
  |d J=>cases J <;> ~p.elim
  |_=>~p.elim
§rSl(K:W.Frag)(mg:Str->PY Li)(E:XK)(lo hi:PY Int)(x:V)(H:Hp)(Q:VK):Prop:=∃ m S a,Sim K mg H m S/\RA K H m a x/\Post K mg m H Q E (slA a lo hi S)
~Cz(lo b)(r:IsPs X.K H l vs):IsPs X.K H (io l lo b) (mL vs lo b):=by
 PL io mL;rw[r°];~(r.drop _).take _
~Jq:SlR X (λx lo f H Q=>rSl X.K X.mg E lo f x H Q):=by
 rintro e s j H x v u w lo f h Q I t B y C ⟨m,S,a,k,o,p⟩;have b:Post X.K X.mg m H Q E (match aA S a with
  |some l=>newL (io l lo f) S
  |none=>.bad)->∃ T id,ML (.type T) "__getitem__" = pure (PN (.builtin id))/\s.TypeIs v T/\Lm (Lo X.prog X.w) X.A (Nc v (.ref h)) (EP X e j Q) X.xe s:=by
  intro i
  #D:aA S a with
  |none=>rw[D]at i;~i.elim
  |some l =>
   PK[D]at i;&F,N,rfl,M,L:=aX k o D;~xr e s j H _ v u w lo f h Q I t B y C ⟨F,N,rfl,M,λq G=>Post.newL k i G (Cz lo f L)⟩
 #a with
 |d J =>
  #J with
  |tup l=>~xF e s j H _ v u w lo f h Q I t B y C ⟨l,o,λR O g r=>Post.datS k p g r⟩
  |str z =>
   by_cases A:z°<=Ld
   ·PK[slA,Lj A]at p
    #o
    ~B3 e s j H _ v u w lo f h Q I t B y C ⟨z,rfl,A,Post.dat k p .str⟩
   ·PK[slA,Ln A]at p;~p.elim
  |_=>~p.elim
 |r n=>~b p
 |l P=>~b p
 |it _ _=>~o.elim
 |c _=>~b p
~oX:∀ {l}{vs}{bs},IsPs X.K H l vs->iy l=PN bs->vs=bls bs
 |_,_,_,.nil,e=>by #e;rfl
 |_,_,_,.cons (l:=l) h r,e=>by
  #h with
  |bl =>
   #q:iy l with
   |none=>simp[iy,q]at e
   |some a =>
    simp[iy,q]at e;subst e;rw[oX r q]
    rfl
  |_=>simp[iy]at e
~lL:∀ {l}{vs}{bs},IsPs X.K H l vs->dC l=PN bs->vs=bs.map V.int
 |_,_,_,.nil,e=>by #e;rfl
 |_,_,_,.cons (l:=l) h r,e=>by
  #h with
  |int =>
   #q:dC l with
   |none=>simp[dC,q]at e
   |some a =>
    simp[dC,q]at e;subst e;rw[lL r q]
    rfl
  |_=>simp[dC]at e
~gO:∀ {l}{vs}{bs},IsPs X.K H l vs->bi l=PN bs->vs=bs.map V.str
 |_,_,_,.nil,e=>by #e;rfl
 |_,_,_,.cons (l:=l) h r,e=>by
  #h with
  |str =>
   #q:bi l with
   |none=>simp[bi,q]at e
   |some a =>
    simp[bi,q]at e;subst e;rw[gO r q]
    rfl
  |_=>simp[bi]at e
~lM:∀ {l}{vs}{ks},IsPs X.K H l vs->l.mapM aP?=PN ks->vs=ks.map kV
 |_,_,_,.nil,e=>by simp_all
 |_,_,_,.cons (d:=x) (l:=l) h r,e=>by
  #a:aP? x with
  |none=>simp[a]at e
  |some k =>
   #b:l.mapM aP? with
   |none=>simp[ b]at e
   |some ks =>
    simp[a,b]at e;subst e;rw[lM r b,aAr]
    cases h <;> simp[aP?]at a <;> subst a <;> rfl
end
section
variable {E:XK}{X:Cx}
§r1(K:W.Frag)(mg:Str->PY Li)(E:XK)(h:Av->Mo Av):PQ V->Hp->VK->Prop:=λxs H Q=>∃ m S a v,xs=[v]/\Sim K mg H m S/\RA K H m a v/\Post K mg m H Q E (h a S)
~ew{id}(h:ax X id (r1 X.K X.mg E (aV f)))(j:∀ a b S,blt2 f a b S=.bad):ax X id (rL X.K X.mg E (lI f)):=by
 rintro c s k H l g Q I r ⟨m,S,n,i,d,p⟩
 #d with
 |nil=>~p.elim
 |cons q d =>
  #d with
  |nil=>~h c s k H _ g Q I r ⟨m,S,_,_,rfl,i,q,p⟩
  |cons o d =>
   #d with
   |nil =>
    @e:Post _ _ m H Q E (blt2 f _ _ S):=p;rw[j]at e;~e.elim
   |cons _ _=>~p.elim
~AJ{id}(h:ax X id (λxs H Q=>∃ x y,xs=[x,y]/\rS X.K X.mg E (blt2 f) x y H Q))(k:∀ a S,aV f a S=.bad):ax X id (rL X.K X.mg E (lI f)):=by
 rintro b s j H xs g Q I r ⟨m,S,l,i,c,p⟩
 #c with
 |nil=>~p.elim
 |cons q c =>
  #c with
  |nil =>
   @d:Post _ _ m H Q E (aV f _ S):=p;rw[k]at d;~d.elim
  |cons e c =>
   #c with
   |nil=>~h b s j H _ g Q I r ⟨_,_,rfl,m,S,_,_,i,q,e,p⟩
   |cons _ _=>~p.elim
~uv{id}(h:∀ {b}{s}{c:St}{H}{us}{Q}(x y) (v),g x=PN y->Inv X b c H s->Vals [v] us->IsP X.K H x v->(∀ w H',Same H H'->IsP X.K H' y w->Q w H')->Lm (Lo X.prog X.w) X.A (call id us) (EP X b c Q) X.xe s):ax X id (r1 X.K X.mg E (jS g)):=by
 rintro b s c H k us Q I r ⟨m,S,a,v,rfl,f,j,p⟩
 #a with
 |d x =>
  #e:g x with
  |none=>PK[jS, e]at p;~p.elim
  |some y =>
   PK[jS, e]at p;~h x y v e I r j λw H' i q=>Post.datS f p i q
 |_=>~p.elim
~jV{id}(h:∀ {b}{s}{c:St}{H}{us}{Q}(l) (p) (vs) (m) (S),Inv X b c H s->Vals [.ref p] us->SqL X.K H p vs->IsPs X.K H l vs->Sim X.K X.mg H m S->Post X.K X.mg m H Q E (g l S)->Lm (Lo X.prog X.w) X.A (call id us) (EP X b c Q) X.xe s):ax X id (r1 X.K X.mg E (onL g)):=by
 rintro b s c H n us Q I r ⟨m,S,a,v,rfl,e,k,p⟩
 #d:aA S a with
 |none=>PK[onL,d]at p;~p.elim
 |some l =>
  PK[onL,d]at p;&f,vs,rfl,j,i:=aX e k d;~h l f vs m S I r j i e p
~F3:ax X (.builtin "len") (r1 X.K X.mg E lH):=by
 rintro b s h H B i Q I r ⟨m,S,a,v,rfl,e,f,p⟩;@L:ax X _ (r1 _ _ E _):=jV λl p C m S I r j o e p =>
  cz _ _ _ _ _ _ _ I r ⟨_,C,rfl,.inl j,by rw[<- o°];~Post.dat e p .int⟩
 #a with
 |d w =>
  #w with
  |tup l=>~qH b s h H _ i Q I r ⟨_,l,rfl,f.d,Post.dat e p .int⟩
  |str z =>
   by_cases k:z°<=Ld
   ·PK[lH,Lj k]at p
    #f
    ~jB b s h H _ i Q I r ⟨z,rfl,k,Post.dat e p .int⟩
   ·PK[lH,Ln k]at p;~p.elim
  |_=>~p.elim
 |r n =>
  #g:S[n]? with
  |none=>PK[lH,g]at p;~p.elim
  |some F =>
   #F with
   |lst l =>
    PK[lH,g]at p;~L b s h H _ i Q I r ⟨m,S,_,v,rfl,e,f,by PK[onL,aA,g];~p⟩
   |dic kvs =>
    PK[lH,g]at p;&q,x,rfl,j,o:=fQ (kvs:=kvs) e f (by PK[eQ,g]);&u,rfl,y:=bt r
    #y
    ~Fi I (.inl j) λt G D=>⟨.int _,H,D,⟨t,rfl⟩,by rw[<- o°];~Post.dat e p .int⟩
   |exc c=>PK[lH,g]at p;~p.elim
 |l B=>~L b s h H _ i Q I r ⟨m,S,_,v,rfl,e,f,p⟩
 |it _ _=>~f.elim
 |c x =>
  &q,rfl,A:=f;~cz b s h H _ i Q I r ⟨q,_,rfl,.inr (A H),by rw[aAa];~Post.dat e p .int⟩
~F4:ax X (.builtin "abs") (r1 X.K X.mg E (jS FL)):=uv λx y v e I r a q=>by
 #a with
 |int=>cases e;~sA _ _ _ _ _ _ _ I r ⟨_,rfl,q _ _ (λ_ _ h=>h) .int⟩
 |_=>cases e
~F5:ax X (.type "str") (r1 X.K X.mg E (jS yd)):=uv λx y v e I r b q=>by
 #b with
 |int =>
  rename_i i
  by_cases a:i.natAbs.log2 < 1920
  ·PK[yd,Lj a]at e
   #e;~jw _ _ _ _ _ _ _ I r ⟨i,rfl,a,q _ _ (λ_ _ h=>h) .str⟩
  ·PK[yd,Ln a]at e;#e
 |_=>cases e
~F6:ax X (.builtin "ord") (r1 X.K X.mg E (jS ye)):=uv λx y v e I r b q=>by
 #b with
 |str =>
  rename_i z
  by_cases a:z°=1
  ·PK[ye,Lj a]at e
   #e;~sC _ _ _ _ _ _ _ I r ⟨z,rfl,a,q _ _ (λ_ _ h=>h) .int⟩
  ·PK[ye,Ln a]at e;#e
 |_=>cases e
~F7(d:X.calm=PU):ax X (.builtin "all") (r1 X.K X.mg E (aV .all)):=jV λl p g m S I r a b c p=>by
 #e:iy l with
 |none=>PK[e,aF]at p;~p.elim
 |some f =>
  PK[e,aF]at p;obtain rfl:=oX b e;~sO _ _ _ _ _ _ _ I r ⟨_,f,rfl,d,a,Post.dat c p .bl⟩
~F8(d:X.calm=PU):ax X (.builtin "sum") (r1 X.K X.mg E (aV .sum)):=jV λl p g m S I r a b c p=>by
 #e:dC l with
 |none=>PK[e,aF]at p;~p.elim
 |some f =>
  PK[e,aF]at p;obtain rfl:=lL b e;~sP _ _ _ _ _ _ _ I r ⟨_,f,rfl,d,a,Post.dat c p .int⟩
~yg:ax X (.type "tuple") (r1 X.K X.mg E (aV .tuple)):=jV λl p a m S I r d b c p =>
 kZ _ _ _ _ _ _ _ I r ⟨_,a,l,rfl,d,b,λv e g q=>Post.datS c p g q⟩
~F9(d:X.calm=PU):ax X (.builtin "max") (λxs H Q=>∃ x y,xs=[x,y]/\rS X.K X.mg E (blt2 .max) x y H Q):=by
 rintro a s f H xs g Q I r ⟨x,y,rfl,q⟩;&u,w,rfl,b,c:=kG r;~dS (h:=λi j=>PN _) (λi j x e I b c q=>by
  #e;~qx d _ _ _ _ _ _ _ I (.cons b (.cons c .nil)) ⟨i,j,rfl,q _ .int⟩) a s f H x y u w Q I b c q
~Ga(d:X.calm=PU):ax X (.builtin "min") (λxs H Q=>∃ x y,xs=[x,y]/\rS X.K X.mg E (blt2 .min) x y H Q):=by
 rintro a s f H xs g Q I r ⟨x,y,rfl,q⟩;&u,w,rfl,b,c:=kG r;~dS (h:=λi j=>PN _) (λi j x e I b c q=>by
  #e;~qy d _ _ _ _ _ _ _ I (.cons b (.cons c .nil)) ⟨i,j,rfl,q _ .int⟩) a s f H x y u w Q I b c q
~oY{H:Hp}:∀ {l}{fs},cD l=PN fs->l=fs.map prD
 |[],fs,e=>by #e;rfl
 |.tup [.str z,d] :: l,fs,e=>by
  rw[cD]at e
  #q:cD l with
  |none=>rw[q]at e;#e
  |some a =>
   rw[q]at e
   #e
   rw[aAr,<- oY (H:=H) q]
 |.non :: _,_,e=>by simp[cD]at e
 |.bl _ :: _,_,e=>by simp[cD]at e
 |.int _ :: _,_,e=>by simp[cD]at e
 |.str _ :: _,_,e=>by simp[cD]at e
 |.tup [] :: _,_,e=>by simp[cD]at e
 |.tup [_] :: _,_,e=>by simp[cD]at e
 |.tup (_ :: _ :: _ :: _) :: _,_,e=>by simp[cD]at e
 |.tup [.non,_] :: _,_,e=>by simp[cD]at e
 |.tup [.bl _,_] :: _,_,e=>by simp[cD]at e
 |.tup [.int _,_] :: _,_,e=>by simp[cD]at e
 |.tup [.tup _,_] :: _,_,e=>by simp[cD]at e
~DicQ.prk:∀ {fs:PQ _}{kvs:PQ (Key×V)},(fs.map (·.1)).Nodup->kvs.map (·.1)=fs.map (λp=>(Sum.inr p.1))->(∀ z d,bo fs z=PN d->∃ v,aY kvs (Sum.inr z)=PN v/\IsP F H d v)->PrK F H (named fs) kvs
 |[],[],_,_,_=>.nil
 |[],_ :: _,_,e,_=>by #e
 |_ :: _,[],_,e,_=>by #e
 |(z,d) :: fs,(k,v) :: kvs,b,e,h=>by
  injection e with n o
  subst n;rw[aAr,aAY]at b;&m,r,t:=h z d (by simp[bo]);@f:v=m:=by simpa [aY,aBq]using r
  subst f;!.cons t (DicQ.prk b.2 o λy c l=>?_);@i:¬ z=y:=by
   rintro rfl;unfold bo at l
   #q:fs.find? _ with
   |none=>rw[q]at l;#l
   |some p =>
    ~b.1 (aAc.mpr ⟨p,(aB0 q),by simpa using (List.find?_some q)⟩)
  &w,a,j:=h y c (by PL bo;rw[aBq];PK[i];~l);!⟨w,?_,j⟩;@s:¬ (Sum.inr z:Key)=Sum.inr y:=λe=>i (Sum.inr.inj e);unfold aY at a;rw[aBq]at a;PK[s]at a;~a
~Post.newDS(s:Sim X.K X.mg H m S)(h:Post X.K X.mg m H Q E (ut (named fs) S))(c:H p=PR)(g:Same H H')(e:(fs.map (·.1)).Nodup)(d:DicQ X.K H' p fs):Q (.ref p) H':=by
 &a,j,i,f:=d;~h _ H' _ (aAZ _ _) (Fz.newS g c) (s.newS g c ⟨a,j,DicQ.prk e i λz d l=>(f z).2 d l⟩) ⟨p,by rw[<- s.len,aAt (aAo _),aA9];rfl,rfl⟩
~CA(o:X.calm=PU):ax X (.type "dict") (r1 X.K X.mg E gK):=by
 rintro b s t H w q Q I r ⟨m,S,a,v,rfl,k,j,p⟩
 #a with
 |d n =>
  #n with
  |tup l =>
   #e:cD l with
   |none=>PK[gK,e]at p;~p.elim
   |some h =>
    by_cases c:(h.map (·.1)).Nodup/\h°<=1000
    ·PK[gK,e,Lj c]at p;@u:=oY (H:=H) e;subst u;~nv o b s t H _ q Q I r ⟨v,h,rfl,j,c.1,c.2,λx y i g d=>Post.newDS k p i g c.1 d⟩
    ·PK[gK,e,Ln c]at p;~p.elim
  |_=>~p.elim
 |_=>~p.elim
~lN:∀ {kvs}{ws}{ss},PrK F H kvs ws->dE kvs=PN ss->ws.map (·.1)=ss.map Sum.inr
 |_,_,_,.nil,e=>by #e;rfl
 |_,_,ss,.cons (k:=.inl i) h r,e=>by #e
 |_,_,ss,.cons (k:=.inr z) (kvs:=kvs) h r,e=>by
  rw[dE]at e
  #q:dE kvs with
  |none=>rw[q]at e;#e
  |some a =>
   rw[q]at e
   #e
   rw[aAr,aAr,lN r q]
~lO:∀ {kvs}{ws}{ss},PrK F H kvs ws->eh kvs=PN ss->ws.map (·.1)=ss.map Sum.inl
 |_,_,_,.nil,e=>by #e;rfl
 |_,_,ss,.cons (k:=.inr i) h r,e=>by #e
 |_,_,ss,.cons (k:=.inl z) (kvs:=kvs) h r,e=>by
  rw[eh]at e
  #q:eh kvs with
  |none=>rw[q]at e;#e
  |some a =>
   rw[q]at e
   #e
   rw[aAr,aAr,lO r q]
~gP:∀ ss:PQ Int,IsPs F H (ss.map Dt.int) (ss.map V.int)
 |[]=>.nil
 |s :: ss=>.cons .int (gP ss)
~uw(C:X.calm=PU):ax X (.builtin "sorted") (r1 X.K X.mg E aR):=by
 rintro e s y H G z Q I r ⟨m,S,a,v,rfl,i,B,p⟩
 #f:aA S a with
 |some l =>
  &t,J,rfl,u,x:=aX i B f
  #c:bi l with
  |none=>PK[aR,f,c]at p;~p.elim
  |some h =>
   by_cases d:h° < 64
   ·PK[aR,f,c,Lj d]at p;@F:=gO x c;subst F;!mZ e s y H _ z Q I r ⟨t,h,rfl,u,d,λb n k q o=>?_⟩;rw[lG q o];~Post.newL i p k (cq _)
   ·PK[aR,f,c,Ln d]at p;~p.elim
 |none =>
  #c:eQ S a with
  |none=>PK[aR,f,c]at p;~p.elim
  |some j =>
   &t,D,rfl,u,x:=fQ i B c
   #g:dE j with
   |some h =>
    by_cases d:h° < 64
    ·PK[aR,f,c,g,Lj d]at p;!m9 C e s y H _ z Q I r ⟨t,D,h,rfl,u,lN x g,d,λb n k q o=>?_⟩;rw[lG q o];~Post.newL i p k (cq _)
    ·PK[aR,f,c,g,Ln d]at p;~p.elim
   |none =>
    #w:eh j with
    |none=>PK[aR,f,c,g,w]at p;~p.elim
    |some A =>
     by_cases d:A° < 64
     ·PK[aR,f,c,g,w,Lj d]at p;!lj C e s y H _ z Q I r ⟨t,D,A,rfl,u,lO x w,d,λb n k q o=>?_⟩;rw[uq q o];~Post.newL i p k (gP _)
     ·PK[aR,f,c,g,w,Ln d]at p;~p.elim
§nC:Bf->Str
 |.len=> "len" | .abs=> "abs" | .max=> "max" | .min=> "min" | .str=> "str" | .ord=> "ord" | .all=> "all" | .sum=> "sum" | .tuple=> "tuple" | .lenset=> "len" | .dict=> "dict" | .sorted=> "sorted"
§ux:Bf->Li
 |.len=>.builtin "len" | .abs=>.builtin "abs" | .max=>.builtin "max" | .min=>.builtin "min" | .str=>.type "str" | .ord=>.builtin "ord" | .all=>.builtin "all" | .sum=>.builtin "sum" | .tuple=>.type "tuple" | .lenset=>.none | .dict=>.type "dict" | .sorted=>.builtin "sorted"
~Gb(a:X.calm=PU):∀ f:Bf,f≠.lenset->ax X (ux f) (rL X.K X.mg E (lI f))
 |.len,_=>ew F3 λ_ _ _=>rfl
 |.abs,_=>ew F4 λ_ _ _=>rfl
 |.str,_=>ew F5 λ_ _ _=>rfl
 |.ord,_=>ew F6 λ_ _ _=>rfl
 |.all,_=>ew (F7 a) λ_ _ _=>rfl
 |.sum,_=>ew (F8 a) λ_ _ _=>rfl
 |.tuple,_=>ew yg λ_ _ _=>rfl
 |.dict,_=>ew (CA a) λ_ _ _=>rfl
 |.sorted,_=>ew (uw a) λ_ _ _=>rfl
 |.max,_=>AJ (F9 a) λ_ _=>rfl
 |.min,_=>AJ (Ga a) λ_ _=>rfl
 |.lenset,h=>absurd rfl h
~yh:∀ f:Bf,f≠.lenset->Mh (nC f)=PN (ux f)
 |.len,_=>by decide +kernel
 |.abs,_=>by decide +kernel
 |.str,_=>by decide +kernel
 |.ord,_=>by decide +kernel
 |.all,_=>by decide +kernel
 |.sum,_=>by decide +kernel
 |.tuple,_=>by decide +kernel
 |.dict,_=>by decide +kernel
 |.sorted,_=>by decide +kernel
 |.max,_=>by decide +kernel
 |.min,_=>by decide +kernel
 |.lenset,h=>absurd rfl h
end
section
variable {E:XK}{X:Cx}{a b c d e:Expr}{es:PQ Expr}{f g h k:En->Mo Av}{pos:Pos}
~Post.truth(p:Post X.K X.mg m H Q E (choose x A B)):∃ c,x=.d (.bl c)/\Post X.K X.mg m H Q E (if c=PU then A else B):=by
 #x with
 |d a =>
  #a with
  |bl c=>~⟨c,rfl,by cases c <;> ~p⟩
  |_=>~p.elim
 |_=>~p.elim
~PostB.truth{R}{Q:β->Hp->Prop}{A B:Rs α}(p:PostG X.K X.mg R m H Q E (choose x A B)):∃ c,x=.d (.bl c)/\PostG X.K X.mg R m H Q E (if c=PU then A else B):=by
 #x with
 |d a =>
  #a with
  |bl c=>~⟨c,rfl,by cases c <;> ~p⟩
  |_=>~p.elim
 |_=>~p.elim
~uy{c}(r:RA X.K H m (.d (.bl c)) v):v=.bl c:=by #r;rfl
~b9(h:PE X e (tE X.K X.mg E f)):PE X e (tE X.K X.mg E λenv S=>tidy S° (f env S)):=h.imp jT
~Gc(o)(e:PE X a (tE X.K X.mg E f))(i:PE X b (tE X.K X.mg E g)):PE X (.BinOp a (Cu o) b pos) (tE X.K X.mg E λenv S=>(f env S).bind λx S1=>(g env S1).bind λy d=>aj o x y d):=
 (EU (FT o) e i).imp (op2 λ_ _ _ _ h=>h)
§bN:Expr->Bool
 |.Set _ _ _=>PV
 |_=>PU
~PostG.mono{R}{Q Q':β->Hp->Prop}(p:PostG X.K X.mg R m H Q E r)(q:∀ v H,Q v H->Q' v H):PostG X.K X.mg R m H Q' E r:=by
 induction r with
 |br b x y f i=>PM λc=>f (p.1 c),λc=>i (p.2 c)
 |ok a S=>~λv d j e g s h=>q _ _ (p v d j e g s h)
 |ex c S=>~p
 |bad=>~p
~tE.mono(h:tE X.K X.mg E f σ H Q)(q:∀ v H,Q v H->Q' v H):tE X.K X.mg E f σ H Q':=by
 &m,S,a,s,b,d,p:=h;PM m,S,a,s,b,d,p.mono q
~cG(op)(h:bN b=PU):N7 op b=false:=by
 cases b <;> first | rfl | cases h
~AK(e:X.A.units+64 < LU)(o)(i:PE X a (tE X.K X.mg E f))(j:PE X b (tE X.K X.mg E g))(k:bN b=PU) :
  PE X (.Compare a [gM o] [b] pos) (tE X.K X.mg E λenv S=>(f env S).bind λx S1=>(g env S1).bind λy d=>av o x y d):=
 (oF (et e o) i j (cG _ k)).imp (op2 λ_ _ _ _ h=>h)
~g_v{i:Nat}(j:X.N[i]?=PN x)(f:Vis X.env.scope x)(h:(x == ("__debug__"))=PV)(b:(x == ("__classdict__"))=PV):PE X (.Name x pos) (tE X.K X.mg E λenv S=>match env[i]? with
  |some (PN a)=>.ok a S
  |_=>.bad):=(Bw j f h b).imp λl H Q ⟨m,S,env,s,g,n,p⟩=>by
 #e:env[i]? with
 |none=>PK[e]at p;~p.elim
 |some o =>
  #o with
  |none=>PK[e]at p;~p.elim
  |some a =>
   PK[e]at p;&v,d,k:=g i a e;PM v,d,p v H m (aAj _) (Fz.refl H) s k
~g_c(h:PE X e (tC v))(b:∀ H,IsP X.K H x v):PE X e (tE X.K X.mg E λ_ S=>.ok (.d x) S):=h.imp λg H Q ⟨m,S,a,s,c,f,p⟩=>Post.dat s p (b H)
~Gd(j:PE X a (tE X.K X.mg E f)):PE X (.UnaryOp .USub a pos) (tE X.K X.mg E λenv S=>(f env S).bind λx S1=>match x with
  |.d (.int i)=>.ok (.d (.int (-i))) S1
  |_=>.bad):=(EV BQ j).imp λo H Q ⟨m,S,env,s,h,g,p⟩=>⟨m,S,env,s,h,g,PostG.bind p λa S1 v n r _ l q k e b=>by
 #a with
 |d x =>
  #x with
  |int i=>cases e;PM i,rfl,Post.dat k b .int
  |_=>~b.elim
 |_=>~b.elim⟩
~Ge(j:PE X a (tE X.K X.mg E f)):PE X (.UnaryOp .Not a pos) (tE X.K X.mg E λenv S=>(f env S).bind λx S1=>choose x (.ok (.d (.bl PV)) S1) (.ok (.d (.bl PU)) S1)):=
 (BC j).imp λq H Q ⟨m,S,env,s,l,i,p⟩=>⟨m,S,env,s,l,i,PostG.bind p λa S1 v o t _ n r e g k=>by
  &c,rfl,h:=Post.truth k;!⟨c,uy g,?_⟩
  cases c <;> ~Post.dat e h .bl⟩
~Gf{rest}(o:PE X a (tE X.K X.mg E f))(r:PE X (.BoolOp .And (b :: rest) pos) (tE X.K X.mg E g)):PE X (.BoolOp .And (a :: b :: rest) pos) (tE X.K X.mg E λenv S=>(f env S).bind λx S1=>choose x (g env S1) (.ok (.d (.bl PV)) S1)):=
 (BB o r).imp λw H Q ⟨m,S,env,s,e,j,p⟩=>⟨m,S,env,s,e,j,PostG.bind p λa S1 v y n _ u k h t l=>by
  &c,rfl,i:=Post.truth l;!⟨c,uy t,?_⟩
  #c
  ·~Post.dat h i .bl
  ·~⟨n,S1,env,h,e.mono k u,j,i⟩⟩
~Jr{rest}(o:PE X a (tE X.K X.mg E f))(r:PE X (.BoolOp .Or (b :: rest) pos) (tE X.K X.mg E g)):PE X (.BoolOp .Or (a :: b :: rest) pos) (tE X.K X.mg E λenv S=>(f env S).bind λx S1=>choose x (.ok (.d (.bl PU)) S1) (g env S1)):=
 (EM o r).imp λw H Q ⟨m,S,env,s,e,j,p⟩=>⟨m,S,env,s,e,j,PostG.bind p λa S1 v y n _ u k h t l=>by
  &c,rfl,i:=Post.truth l;!⟨c,uy t,?_⟩
  #c
  ·PM n,S1,env,h,e.mono k u,j,i
  ·~Post.dat h i .bl⟩
~yi{A:Sto->Rs Av}(s:Sim X.K X.mg H m S)(n:RA X.K H m x v)(w:RA X.K H m y u)(p:Post X.K X.mg m H Q E ((av o x y S).bind λt e=>choose t (A e) (.ok (.d (.bl PV)) e)))
  {r:V->Hp->Prop}(h:∀ e b f,m <+: f->Fz m f H b->Sim X.K X.mg b f e->Post X.K X.mg f b Q E (A e)->r (.bl PU) b) (h0:∀ b,Q (.bl PV) b->r (.bl PV) b):rS X.K X.mg E (av o) v u H r:=by
 !⟨m,S,x,y,s,n,w,PostG.bind p λa z v g l _ C k i B q=>?_⟩;&c,rfl,j:=Post.truth q;obtain rfl:=uy B
 #c
 ·~h0 g (Post.dat i j .bl)
 ·~h z g l C k i j
~CB(I:X.A.units+64 < LU)(o q)(N:PE X a (tE X.K X.mg E f))(T:PE X b (tE X.K X.mg E g))(hc:PE X c (tE X.K X.mg E h))(W:bN c=PU) :
  PE X (.Compare a [gM o,gM q] [b,c] pos) (tE X.K X.mg E λenv S=>(f env S).bind λx S1=>(g env S1).bind λy G=>(av o x y G).bind λt k=>choose t ((h env k).bind λz l=>av q y z l) (.ok (.d (.bl PV)) k)):=
 (sw (et I o) (et I q) N T hc (by ~cG _ W)).imp λσ H Q ⟨m,S,env,s,n,A,p⟩=>⟨m,S,env,s,n,A,PostG.bind p λa S1 v H1 M _ D J L ra U =>
  ⟨M,S1,env,L,n.mono J D,A,PostG.bind U λb G u H2 m2 _ j C O B P=>by
   !yi O (ra.mono C j) B P (λk H3 Z i F R p3=>⟨PU,rfl,?_⟩) λH3 q=>⟨PV,rfl,q⟩;~⟨Z,k,env,R,(n.mono J D).mono (C.trans F) (j.trans i),A,PostG.bind p3 λc l w H4 m4 _ r g4 s4 rc p4=>⟨m4,l,b,c,s4,(B.mono F i).mono g4 r,rc,p4⟩⟩⟩⟩
~CC(I:X.A.units+64 < LU)(o q r)(ha:PE X a (tE X.K X.mg E f))(hb:PE X b (tE X.K X.mg E g))(hc:PE X c (tE X.K X.mg E h))(hd:PE X d (tE X.K X.mg E k))(hm:bN d=PU) :
  PE X (.Compare a [gM o,gM q,gM r] [b,c,d] pos) (tE X.K X.mg E λenv S=>(f env S).bind λx S1=>(g env S1).bind λy Y=>(av o x y Y).bind λt C=>choose t ((h env C).bind λz L=>(av q y z L).bind λt D =>
   choose t ((k env D).bind λu J=>av r z u J) (.ok (.d (.bl PV)) D)) (.ok (.d (.bl PV)) C)):=
 (qG (et I o) (et I q) (et I r) ha hb hc hd (by ~cG _ hm)).imp λσ H Q ⟨m,S,env,s,F,B,p⟩=>⟨m,S,env,s,F,B,PostG.bind p λa S1 v H1 m1 _ U M s1 ra p1 =>
  ⟨m1,S1,env,s1,F.mono M U,B,PostG.bind p1 λb Y u H2 m2 _ n R s2 P p2=>by
   !yi s2 (ra.mono R n) P p2 (λC Z m3 i N s3 p3=>⟨PU,rfl,?_⟩) λZ q=>⟨PV,rfl,q⟩;@A:=(F.mono M U).mono (R.trans N) (n.trans i);!⟨m3,C,env,s3,A,B,PostG.bind p3 λc L w H4 m4 _ j O s4 W p4=>?_⟩;!yi s4 ((P.mono N i).mono O j) W p4 (λD H5 m5 l T s5 p5=>⟨PU,rfl,?_⟩) λH5 q=>⟨PV,rfl,q⟩;~⟨m5,D,env,s5,A.mono (O.trans T) (j.trans l),B,PostG.bind p5 λd J w H6 m6 _ G g6 s6 rd p6=>⟨m6,J,c,d,s6,(W.mono T l).mono g6 G,rd,p6⟩⟩⟩⟩
§tst(f:En->Mo Av):En->Mo Bool:=λenv S=>(f env S).bind λx S1=>choose x (.ok PU S1) (.ok PV S1)
~jW{t:TT}(l:∀ b H Q,(tE X.K X.mg E f b H λx d=>∃ c,x=.bl c/\Q c d)->t b H Q):∀ b H Q,tQ X.K X.mg E (tst f) b H Q->t b H Q:=λb H Q ⟨m,S,e,s,k,h,p⟩ =>
 l b H Q ⟨m,S,e,s,k,h,PostG.bind p λa u v d j _ q r g i n=>by
  &c,rfl,o:=PostB.truth n;!⟨c,uy i,?_⟩
  cases c <;> ~o _ d j (aAj _) (Fz.refl _) g rfl⟩
§nE:Expr->Bool
 |.UnaryOp .Not _ _=>PV
 |.BoolOp _ _ _=>PV
 |.IfExp _ _ _ _=>PV
 |.Compare _ _ _ _=>PV
 |_=>PU
~gQ(h:nE e=PU)(a):isTrue e env a=(do let v <- a;Na e.pos;Nb [v] (truthy v)):=by
 #e with
 |UnaryOp b x p=>cases b <;> first | rfl | cases h
 |BoolOp=>cases h
 |IfExp=>cases h
 |Compare=>cases h
 |_=>rfl
~Gg(b:PE X e (tE X.K X.mg E f))(c:nE e=PU):PT X e (tQ X.K X.mg E (tst f)):=(Bx b (gQ c)).imp (jW λ_ _ _ h=>h)
~Gh(n:PT X a (tQ X.K X.mg E (tst f))):PT X (.UnaryOp .Not a pos) (tQ X.K X.mg E (tst λenv S=>(f env S).bind λx S1=>choose x (.ok (.d (.bl PV)) S1) (.ok (.d (.bl PU)) S1))):=
 (BA n).imp λB H Q ⟨m,S,env,s,o,l,p⟩=>⟨m,S,env,s,o,l,by
  revert p
  (try PK[tst])
  generalize f env S=z;intro p
  induction z with
  |br b u w A t=>PM λh=>A (p.1 h),λh=>t (p.2 h)
  |bad=>~p
  |ex c S1=>~p
  |ok x S1 =>
   #x with
   |d q =>
    #q with
    |bl c =>
     #c
     ·intro v k e j g i (r);subst r;~p PU k e j g i rfl
     ·intro v k e j g i (r);subst r;~p PV k e j g i rfl
    |_=>~p
   |_=>~p⟩
~AL(j:X.A.units+64 < LU)(o)(n:PE X a (tE X.K X.mg E f))(l:PE X b (tE X.K X.mg E g))(m:bN b=PU) :
  PT X (.Compare a [gM o] [b] pos) (tQ X.K X.mg E (tst λenv S=>tidy S° ((f env S).bind λx S1=>(g env S1).bind λy p=>av o x y p))):=
 (oG (et j o) n l (cG _ m)).imp (jW λi H Q h=>op2 (λ_ _ _ _ h=>h) i H _ ((jT i H _ h).mono λv r ⟨c,e,q⟩=>⟨c,e,q⟩))
~CD(I:X.A.units+64 < LU)(o q)(ha:PE X a (tE X.K X.mg E f))(hb:PE X b (tE X.K X.mg E g))(hc:PE X c (tE X.K X.mg E h))(hm:bN c=PU) :
  PT X (.Compare a [gM o,gM q] [b,c] pos) (tQ X.K X.mg E (tst λenv S=>tidy S° ((f env S).bind λx S1=>(g env S1).bind λy M=>(av o x y M).bind λt l=>choose t ((h env l).bind λz n=>av q y z n) (.ok (.d (.bl PV)) l)))):=
 (sy (et I o) (et I q) ha hb hc (by ~cG _ hm)).imp (jW λσ H Q hh=>by
  &m,S,env,s,r,B,p:=(jT σ H _ hh).mono (Q':=λx L=>IBl x L Q) λv H' ⟨c,e,q⟩=>⟨c,e,q⟩;~⟨m,S,env,s,r,B,PostG.bind p λa S1 v L m1 _ G J W ra p1 =>
  ⟨m1,S1,env,W,r.mono J G,B,PostG.bind p1 λb M u H2 m2 _ j C T F p2=>by
   !yi T (ra.mono C j) F p2 (λl H3 N k D U Z=>⟨PU,rfl,?_⟩) λH3 q=>⟨PV,rfl,q⟩;~⟨N,l,env,U,(r.mono J G).mono (C.trans D) (j.trans k),B,PostG.bind Z λc n w H4 m4 _ A R P rc Y=>⟨m4,n,b,c,P,(F.mono D k).mono R A,rc,Y⟩⟩⟩⟩)
~q9(h:tQ X.K X.mg E (tst λenv S=>(f env S).bind λx S1=>choose x (g env S1) (.ok (.d (.bl PV)) S1)) t H Q):EI (tQ X.K X.mg E (tst f)) (tQ X.K X.mg E (tst g)) t H Q:=by
 &m,S,env,s,j,l,p:=h;!⟨m,S,env,s,j,l,?_⟩
 revert p
 (try PK[tst])
 generalize f env S=y;intro p
 induction y with
 |br b u w o n=>PM λh=>o (p.1 h),λh=>n (p.2 h)
 |bad=>~p
 |ex c S1=>~p
 |ok x S1 =>
  #x with
  |d q =>
   #q with
   |bl c =>
    #c
    ·intro v k i a g e (r);subst r;~p PV k i a g e rfl
    ·intro v k i a g e (r);subst r;PM i,S1,env,e,j.mono g a,l,PostG.trans a g p
   |_=>~p
  |_=>~p
~uz(h:tQ X.K X.mg E (tst λenv S=>(f env S).bind λx S1=>choose x (.ok (.d (.bl PU)) S1) (g env S1)) t H Q):tOr (tQ X.K X.mg E (tst f)) (tQ X.K X.mg E (tst g)) t H Q:=by
 &m,S,env,s,j,l,p:=h;!⟨m,S,env,s,j,l,?_⟩
 revert p
 (try PK[tst])
 generalize f env S=y;intro p
 induction y with
 |br b u w o n=>PM λh=>o (p.1 h),λh=>n (p.2 h)
 |bad=>~p
 |ex c S1=>~p
 |ok x S1 =>
  #x with
  |d q =>
   #q with
   |bl c =>
    #c
    ·intro v k i a g e (r);subst r;PM i,S1,env,e,j.mono g a,l,PostG.trans a g p
    ·intro v k i a g e (r);subst r;~p PU k i a g e rfl
   |_=>~p
  |_=>~p
~PW.imp(h:PW X e t)(q:∀ c H Q,t' c H Q->t c H Q):PW X e t':=λa b s c H Q I w=>h a b s c H Q I (q c H Q w)
~uA(b:PT X a (tQ X.K X.mg E (tst f))):PW X (.BoolOp .And [a] pos) (tQ X.K X.mg E (tst f)):=xb b
~AM(b:PT X a (tQ X.K X.mg E (tst f))):PW X (.BoolOp .Or [a] pos) (tQ X.K X.mg E (tst f)):=By b
~AN{rest}(e:PT X a (tQ X.K X.mg E (tst f)))(i:PW X (.BoolOp .And (b :: rest) pos) (tQ X.K X.mg E (tst g))):PW X (.BoolOp .And (a :: b :: rest) pos) (tQ X.K X.mg E (tst λenv S=>(f env S).bind λx S1=>choose x (g env S1) (.ok (.d (.bl PV)) S1))):=
 (Bz e i).imp λ_ _ _ h=>q9 h
~Gi{rest}(e:PT X a (tQ X.K X.mg E (tst f)))(i:PW X (.BoolOp .Or (b :: rest) pos) (tQ X.K X.mg E (tst g))):PW X (.BoolOp .Or (a :: b :: rest) pos) (tQ X.K X.mg E (tst λenv S=>(f env S).bind λx S1=>choose x (.ok (.d (.bl PU)) S1) (g env S1))):=
 (EJ e i).imp λ_ _ _ h=>uz h
~Gj(o:PT X c (tQ X.K X.mg E (tst f)))(q:PE X a (tE X.K X.mg E g))(t:PE X b (tE X.K X.mg E h)):PE X (.IfExp c a b pos) (tE X.K X.mg E λenv S=>(f env S).bind λx S1=>choose x (g env S1) (h env S1)):=
 (sa o q t).imp λD H Q ⟨m,S,env,s,j,i,p⟩=>⟨m,S,env,s,j,i,by
  revert p
  (try PK[tst])
  generalize f env S=B;intro p
  induction B with
  |br b u w C n=>PM λh=>C (p.1 h),λh=>n (p.2 h)
  |bad=>~p
  |ex c S1=>~p
  |ok x S1 =>
   #x with
   |d y =>
    #y with
    |bl c =>
     #c
     ·intro v z l e g k (r);subst r;PM l,S1,env,k,j.mono g e,i,PostG.trans e g p
     ·intro v z l e g k (r);subst r;PM l,S1,env,k,j.mono g e,i,PostG.trans e g p
    |_=>~p
   |_=>~p⟩
end
§am:Expr->Bool
 |.Starred _ _=>PV
 |_=>PU
§eA:Expr->Bool
 |.Slice _ _ _ _=>PV
 |_=>PU
~star1(h:am e=PU):Lq (e :: es) env=(PV,L3 e env) :: Lq es env:=by
 cases e <;> first | rfl | cases h
~eB:∀ {es},es.all am=PU->(Mc pos (Lq es env)).any (·.1)=PV
 |[],_=>rfl
 |e :: es,h=>by
  rw[aAL,aAn]at h;rw[star1 h.1];show(PV || (Mc pos _).any _)=PV;rw[eB h.2]
  rfl
~lQ:∀ {es},es.all am=PU->(Mc pos (Lq es env)).all (λx=>!x.1)=PU
 |[],_=>rfl
 |e :: es,h=>by
  rw[aAL,aAn]at h;rw[star1 h.1];show(PU && (Mc pos _).all _)=PU;rw[lQ h.2]
  rfl
section
variable {E:XK}{X:Cx}{a b c d e o:Expr}{es:PQ Expr}{f g h k:En->Mo Av}{fs:En->Mo (PQ Av)}{pos:Pos}
~Gk:PA X [] (tL X.K X.mg E λ_ S=>.ok [] S):=pa_nil.imp λc H Q ⟨m,S,a,s,b,d,p⟩=>p [] H m (aAj _) (Fz.refl H) s .nil
~CF(hs:am a=PU)(o:PE X a (tE X.K X.mg E f))(k:PA X es (tL X.K X.mg E fs)):PA X (a :: es) (tL X.K X.mg E λenv S=>(f env S).bind λx S1=>(fs env S1).bind λxs e=>.ok (x :: xs) e):=
 (a8 o k (star1 hs)).imp λC H Q ⟨m,S,env,s,d,g,p⟩=>⟨m,S,env,s,d,g,PostG.bind p λa S1 v A n _ i h l y r =>
  ⟨n,S1,env,l,d.mono h i,g,PostG.bind r λD e B z t _ c j w b q=>q _ z t (aAj _) (Fz.refl _) w (.cons (y.mono j c) b)⟩⟩
~jX:∀ {as}{vs}{l},RAs X.K H m as vs->cn as=PN l->IsPs X.K H l vs
 |_,_,_,.nil,e=>by #e;~.nil
 |_,_,_,.cons (a:=a) (as:=as) h r,e=>by
  #a with
  |d x =>
   #q:cn as with
   |none=>simp[cn,q]at e
   |some l =>
    simp[cn,q]at e;subst e;~.cons h (jX r q)
  |r n=>simp[cn]at e
  |l b=>simp[cn]at e
  |it _ _=>simp[cn]at e
  |c _=>simp[cn]at e
~Gm(h:PA X es (tL X.K X.mg E fs)):PE X (.Tuple es t pos) (tE X.K X.mg E λenv S=>(fs env S).bind λvs S1=>match cn vs with
  |some l=>if l°<=Ld then .ok (.d (.tup l)) S1 else .bad
  |none=>.bad):=(xD h).imp λy H Q ⟨m,S,env,s,f,k,p⟩=>⟨m,S,env,s,f,k,PostG.bind p λi S1 vs u w _ x o c n a=>by
 #e:cn i with
 |none=>PK[e]at a;~a.elim
 |some l =>
  @r:=jX n e
  by_cases b:l°<=Ld
  ·PK[e,Lj b]at a;~⟨l,r,by rw[<- r°];~b,λv z g q=>Post.datS c a g q⟩
  ·PK[e,Ln b]at a;~a.elim⟩
~Go(c:PA X es (tL X.K X.mg E fs)):PE X (.List es pos) (tE X.K X.mg E λenv S=>(fs env S).bind λvs S1=>match cn vs with
  |some l=>if l°<=Ld then newL l S1 else .bad
  |none=>.bad):=(BS c).imp λu H Q ⟨m,S,env,s,g,i,p⟩=>⟨m,S,env,s,g,i,PostG.bind p λf S1 vs v o _ n t j k a=>by
 #e:cn f with
 |none=>PK[e]at a;~a.elim
 |some l =>
  @r:=jX k e
  by_cases b:l°<=Ld
  ·PK[e,Lj b]at a;~⟨by rw[<- r°];~b,λq h=>Post.newL j a h r⟩
  ·PK[e,Ln b]at a;~a.elim⟩
~Gp:PE X (.Dict [] [] pos) (tE X.K X.mg E λ_ S=>.ok (.r S°) (S++[.dic []])):=sX.imp λe H Q ⟨m,S,b,s,d,c,p⟩=>λq a=>by
 !p _ _ _ (aAZ _ _) (Fz.newS (ay a _) a) (s.new a ⟨[],aw,.nil⟩) ?_;~⟨q,by rw[<- s.len,aAt (aAo _),aA9];rfl,rfl⟩
~nF(h:eA b=PU):oI b:=by
 intro o i
 cases b <;> first | rfl | cases h
~Js(e:X.A.units+64 < LU)(i:PE X a (tE X.K X.mg E f))(j:PE X b (tE X.K X.mg E g))(hs:eA b=PU):PE X (.Subscript a b pos) (tE X.K X.mg E λenv S=>(f env S).bind λx S1=>(g env S1).bind λy d=>ixA x y d):=
 (Fb (Jp e) i j (nF hs)).imp (op2 λ_ _ _ _ h=>h)
§tP(K:W.Frag)(mg:Str->PY Li)(E:XK)(f:En->Mo (PY Int)):TO:=λσ H Q=>∃ m S env,Sim K mg H m S/\SimE K H m env σ/\env°<=σ°/\PostG K mg (λ_ _ (a b:PY Int)=>a=b) m H Q E (f env S)
~PO.imp(h:PO X x t)(q:∀ b H Q,t' b H Q->t b H Q):PO X x t':=λa s b H Q I w=>h a s b H Q I (q b H Q w)
~CG:PO X PR (tP X.K X.mg E λ_ S=>.ok PR S):=xo.imp λc H Q ⟨m,S,a,s,b,d,p⟩=>p PR H m (aAj _) (Fz.refl H) s rfl
~CI(k:PE X a (tE X.K X.mg E f)):PO X (PN a) (tP X.K X.mg E λenv S=>(f env S).bind asI):=(xp k).imp λr H Q ⟨m,S,env,s,e,h,p⟩=>by
 !⟨m,S,env,s,e,h,PostG.bind p λa u v j l q o t n g b=>?_⟩
 #a with
 |d x =>
  #x with
  |int i=>cases g;PM i,rfl,b _ j l (aAj _) (Fz.refl _) n rfl
  |_=>~b.elim
 |_=>~b.elim
~Jt{lo t}{g h}(B:PE X a (tE X.K X.mg E f))(i:PO X lo (tP X.K X.mg E g))(k:PO X t (tP X.K X.mg E h)):PE X (.Subscript a (.Slice lo t PR r) pos) (tE X.K X.mg E λenv S=>(f env S).bind λx S1=>(g env S1).bind λl n=>(h env n).bind λu o=>slA x l u o):=
 (sE Jq B i k).imp λT H Q ⟨m,S,env,s,e,j,p⟩=>⟨m,S,env,s,e,j,PostG.bind p λa S1 v U A _ w q z N F =>
  ⟨A,S1,env,z,e.mono q w,j,PostG.bind F λl n u Y M _ c y L C r=>by
   subst C;~⟨M,n,env,L,(e.mono q w).mono y c,j,PostG.bind r λR o W Z J _ d P D I O=>by
    subst I;~⟨J,o,a,D,(N.mono y c).mono P d,O⟩⟩⟩⟩
~uB(d:∀ xs H Q,rL X.K X.mg E hh xs H Q->r xs H Q):∀ a H Q,tE X.K X.mg E (λenv S=>(fs env S).bind λvs S1=>hh vs S1) a H Q->tCB r (tL X.K X.mg E fs) a H Q:=λa H Q ⟨m,S,env,s,h,f,p⟩ =>
 ⟨m,S,env,s,h,f,PostG.bind p λe S1 vs g i _ l n k j b=>d vs g Q ⟨i,S1,e,k,j,b⟩⟩
~Gq(q:X.calm=PU)(B)(f:B≠.lenset)(j:x=nC B)(m:Gl X x)(k:X.mg x=PR)(a:(e :: es).all am=PU)(o:PA X (e :: es) (tL X.K X.mg E fs)) :
  PE X (.Call (.Name x p) (e :: es) [] pos) (tE X.K X.mg E λenv S=>(fs env S).bind λvs S1=>lI B vs S1):=by
 @d:=yh B f;rw[<- j]at d;@n:x≠ "__name__" :=by rw[j];cases B <;> decide +kernel
 @l:(x == ("__debug__"))=false:=by rw[j];cases B <;> decide +kernel
 rw[aAL,aAn]at a;@g:∀ V,ux B=V->(∃ id,V=.builtin id)\/(∃ T,V=.type T)->PE X (.Call (.Name x p) (e :: es) [] pos) (tE X.K X.mg E λenv S=>(fs env S).bind λvs S1=>lI B vs S1):=by
  intro V r t;@c:=Gb (E:=E) q B f;rw[r]at c d;rcases t with⟨id,rfl⟩ | ⟨T,rfl⟩
  ·~(gf c m k d o n l (star1 a.1) (eB a.2)).imp (uB λ_ _ _ h=>h)
  ·~(iH c m k d o n l (star1 a.1) (eB a.2)).imp (uB λ_ _ _ h=>h)
 !g _ rfl ?_
 cases B <;> first | ~.inl ⟨_,rfl⟩ | ~.inr ⟨_,rfl⟩ | ~absurd rfl f
§gR:Ty->Str
 |.int=> "int" | .str=> "str" | .bool=> "bool" | .tuple=> "tuple"
§tyS:Ty->String
 |.int=> "int" | .str=> "str" | .bool=> "bool" | .tuple=> "tuple"
~yj:∀ t:Ty,Mh (gR t)=PN (.type (tyS t))
 |.int=>by decide +kernel
 |.str=>by decide +kernel
 |.bool=>by decide +kernel
 |.tuple=>by decide +kernel
~uC:Mh "isinstance" = PN (.builtin "isinstance"):=by decide +kernel
~CJ(s:Sim X.K X.mg H m S)(r:RA X.K H m x v)(p:Post X.K X.mg m H Q E (eR x t S)):∃ b,IsiB X.K H v (tyS t) b/\Q (.bl b) H:=by
 @a:Post X.K X.mg m H Q E (match aA S x with | PN _=>bl PV S | PR=>.bad)->t≠.bool->∃ b,IsiB X.K H v (tyS t) b/\Q (.bl b) H:=by
  intro f k
  #g:aA S x with
  |none=>rw[g]at f;~f.elim
  |some l =>
   PK[g]at f;&o,w,rfl,e,h:=aX s r g;!⟨_,?_,Post.dat s f .bl⟩
   #t with
   |int=>~.lst_int e
   |str=>~.lst_str e
   |tuple=>~.lst_tuple e
   |bool=>~absurd rfl k
 #x with
 |d j =>
  #j with
  |non=>~p.elim
  |int i =>
   #r
   !⟨_,?_,Post.dat s p .bl⟩
   cases t <;> first | ~.int_int | ~.int_str | ~.int_bool | ~.int_tuple
  |str i =>
   #r
   !⟨_,?_,Post.dat s p .bl⟩
   cases t <;> first | ~.str_int | ~.str_str | ~.str_bool | ~.str_tuple
  |bl i =>
   #r
   #t with
   |int=>PM _,.bl_int,Post.dat s p .bl
   |str=>PM _,.bl_str,Post.dat s p .bl
   |bool=>PM _,.bl_bool,Post.dat s p .bl
   |tuple=>PM _,.bl_tuple,Post.dat s p .bl
  |tup l =>
   &u,q,rfl,e,_,h:=IsP.unref r;!⟨_,?_,Post.dat s p .bl⟩
   cases t <;> first | ~.tup_int e | ~.tup_str e | ~.tup_bool e | ~.tup_tuple e
 |r n=>cases t <;> first | ~p.elim | ~a p (by decide)
 |l y=>cases t <;> first | ~p.elim | ~a p (by decide)
 |it _ _=>~r.elim
 |c _=>cases t <;> first | ~p.elim | ~a p _
~Gr(t)(r:Gl X "isinstance")(n:X.mg "isinstance" = PR)(e:Gl X (gR t))(d:X.mg (gR t)=PR)(hs:am a=PU)(l:PE X a (tE X.K X.mg E f)) :
  PE X (.Call (.Name "isinstance" p1) [a,.Name (gR t) D] [] pos) (tE X.K X.mg E λenv S=>(f env S).bind λx S1=>eR x t S1):=by
 !(gf sN r n uC (a8 l (a8 (B4 e d (yj t) (by cases t <;> decide +kernel) (by cases t <;> decide +kernel)) pa_nil rfl) (star1 hs)) (by decide +kernel) (by decide +kernel) (star1 hs) rfl).imp λy H Q ⟨m,S,env,s,k,q,p⟩=>?_;!⟨m,S,env,s,k,q,PostG.bind p λw S1 v B A _ C z h o p1=>?_⟩;&b,i,u:=CJ h o p1;PM v,_,b,rfl,i,u
end
section
variable {E:XK}{X:Cx}{a b c d e o:Expr}{es:PQ Expr}{f g h k:En->Mo Av}{fs:En->Mo (PQ Av)}{pos:Pos}
§CK(K:W.Frag)(T:String)(x:V)(H:Hp):Prop:=tyV K T x H\/(T= "tuple" /\∃ l,IsP K H (.tup l) x)
~Gs{n:St}(I:Inv X pins n H s)(r:RelV x v)(c:CK X.K T x H) :
  s.TypeIs v T/\∀ a,v=.ref a->∃ ob,s.heap.get? a=PN ob/\ob.dict=none:=by
 rcases c with c | ⟨rfl,l,h⟩
 ·~BZ I r c
 ·&a,p,rfl,i,⟨ob,u,o,j⟩,_:=h.unref
  #r
  &g,_,f,_:=I.tuple i;&e,m,k,_:=f;!⟨⟨e,m,k⟩,λb q=>?_⟩
  #q
  PM ob,(I.hok a _ o).1,j
§Ju(K:W.Frag)(T:String)(r:V->PQ V->Hp->VK->Prop)(to:TE)(t:TA):TE:=λσ H Q=>to σ H λx H1=>CK K T x H1/\t σ H1 λxs H2=>r x xs H2 Q
§eC:Expr->Bool
 |.Call _ [] _ _=>PV
 |_=>PU
~yk(h:eC o=PU):Nh o name env (L3 o env)=L3 o env:=by
 #o with
 |Call f a b p =>
  #a with
  |nil=>cases h
  |cons _ _=>cases f <;> rfl
 |_=>rfl
~Jv{T id}(z:PlainAttrs T)(l:Slot T name id)(p:M4 (.builtin id)=pure (.type "method_descriptor"))(A:MtR X id r)(D:PE X o P)(O:PA X (e :: es) t)
  (d:eC o=PU) (f:(e :: es).all am=PU) (y:(e :: es)° < 30) (g:(j.endLine == cpos.line)=PU) :
  PE X (.Call (.Attribute o name j) (e :: es) [] cpos) (Ju X.K T r P t):=by
 intro c s q H Q I h;have m:((Mc cpos (Lq (e :: es) X.env)).all (λx=>!x.1) && (Nn cpos (MQ [] X.env)).all (λx=>x.1.isSome)
   && decide ((e :: es)°+([]:PQ Mx)°+(if([]:PQ Mx).isEmpty then 0 else 1) < 30))=true:=by
  rw[lQ f];show(PU && PU && decide ((e :: es)°+0+0 < 30))=PU;rw[Lh or]
  rfl
 rw[aAL,aAn]at f;@F:=star1 (es:=es) (env:=X.env) f.1;!Mq (yk d) m g rfl (thn (D c s q H _ I h) λv Y ⟨x,R,u,r1,E,C⟩=>?_);&J,U:=Gs u r1 E;!⟨T,id,z,l,p,J,U,?_⟩;@w:=O cpos c Y q R _ u C;rw[F]at w ⊢;!Calls.callWith_builtin (by simp_all) (Calls.evalArgs_plain ?_);~thn w λG M ⟨N,S,L,B,W⟩=>A c M q S x N v G Q L r1 B W
§nH:Mf->Str
 |.append=> "append" | .lindex=> "index"
§mfT:Mf->String
 |.append=> "list" | .lindex=> "list"
~CL(s:Sim X.K X.mg H m S)(r:RA X.K H m x v)(h:tyA M x S=PU):CK X.K (mfT M) v H:=by
 #M with
 |append =>
  #x with
  |r n =>
   &p,b,rfl:=r
   #a:S[n]? with
   |none=>simp[tyA,a]at h
   |some e =>
    #e with
    |lst f =>
     &d,c,g:=s.obj n _ p a b;~.inl (.inl ⟨rfl,d,SqL.of c⟩)
    |_=>simp[tyA,a]at h
  |_=>cases h
 |lindex =>
  #x with
  |r n =>
   &p,b,rfl:=r
   #a:S[n]? with
   |none=>simp[tyA,a]at h
   |some e =>
    #e with
    |lst f =>
     &d,c,g:=s.obj n _ p a b;~.inl (.inl ⟨rfl,d,SqL.of c⟩)
    |_=>simp[tyA,a]at h
  |_=>cases h
§rM(K:W.Frag)(mg:Str->PY Li)(E:XK)(M:Mf):V->PQ V->Hp->VK->Prop:=λx xs H Q=>∃ m S o as,Sim K mg H m S/\RA K H m o x/\RAs K H m as xs/\Post K mg m H Q E (mtA o M as S)
~uD{id}(h:∀ {b}{s}{f:St}{H}{x y}{v u}{Q}(m) (S) (o a),Inv X b f H s->RelV x v->RelV y u->Sim X.K X.mg H m S->RA X.K H m o x->RA X.K H m a y->Post X.K X.mg m H Q E (mt1 M o a S) ->
  Lm (Lo X.prog X.w) X.A (call (.builtin id) [v,u]) (EP X b f Q) X.xe s):MtR X id (rM X.K X.mg E M):=by
 rintro b s f H x n v k Q I i c ⟨m,S,o,l,g,j,e,p⟩
 #e with
 |nil=>~p.elim
 |cons r1 e =>
  #e with
  |cons _ _=>~p.elim
  |nil =>
   #c with
   |cons d c =>
    #c
    ~h m S o _ I i d g j r1 p
~gS:∀ {a}{n j},eg z a n=PN j->n<=j/\a[j - n]?=PN z/\∀ m,m < j - n->a[m]?≠PN z
 |[],n,j,h=>by #h
 |y :: a,n,j,h=>by
  unfold eg at h
  by_cases e:y=z
  ·rw[Lj e]at h;obtain rfl:=Option.some.inj h;~⟨aAo _,by rw[aA9,e];rfl,λm c=>or⟩
  ·rw[Ln e]at h;&f,g,b:=gS h;@d:j - n=(j - (n+1))+1:=or
   !⟨or,by simp_all,λm c=>?_⟩
   #m with
   |zero=>intro q;~e (by simpa using q)
   |succ m=>~b m or
~uE:MtR X "list.append" (rM X.K X.mg E .append):=uD λm S o a I v y f A t p=>by
 #o with
 |r n =>
  #a with
  |d B =>
   &q,h,rfl:=A
   #b:S[n]? with
   |none=>PK[mt1,apA,b]at p;~p.elim
   |some z =>
    #z with
    |lst i =>
     by_cases e:i° < Ld
     ·PK[mt1,apA,b,Lj e]at p;&s,x,j:=f.obj n _ q b h;@g:=λw=>f.fzput (u:=.lst (s++[w])) b h;!iI _ _ _ _ _ _ _ _ _ I v (.cons y .nil) ⟨q,s,_,rfl,rfl,x,by rw[<- j°];~e,?_⟩;~p _ _ m (aAj _) (g _) (f.put b h ⟨_,aw,(j.fz (g _)).append (.cons (IsP.fz (g _) t) .nil)⟩) .non
     ·PK[mt1,apA,b,Ln e]at p;~p.elim
    |_=>PK[mt1,apA,b]at p;~p.elim
  |r k=>cases b:S[n]? <;> PK[mt1, b]at p <;> ~p.elim
  |l i=>cases b:S[n]? <;> PK[mt1, b]at p <;> ~p.elim
  |it _ _=>~t.elim
  |c _=>cases b:S[n]? <;> PK[mt1,apA]at p <;> ~p.elim
 |_=>~p.elim
~uF:MtR X "list.index" (rM X.K X.mg E .lindex):=uD λm S o a I A u i D s p=>by
 #o with
 |r n =>
  #a with
  |d y =>
   &q,w,rfl:=D
   #b:S[n]? with
   |none=>PK[mt1,iz,b]at p;~p.elim
   |some x =>
    #x with
    |lst l =>
     &F,t,v:=i.obj n _ q b w
     #y with
     |str z =>
      #s
      #e:bi l with
      |none=>PK[mt1,iz,b,dj,e]at p;~p.elim
      |some g =>
       obtain rfl:=gO v e
       by_cases f:g°<=1000
       ·#h:eg z g 0 with
        |none=>PK[mt1,iz,b,dj,e, Lj f,h]at p;~p.elim
        |some j =>
         PK[mt1,iz,b,dj,e, Lj f,h]at p;&_,C,B:=gS h;~qP _ _ _ _ _ _ _ _ _ I A (.cons u .nil) ⟨q,g,z,j,rfl,rfl,t,C,B,f,Post.dat i p .int⟩
       ·PK[mt1,iz,b,dj,e, Ln f]at p;~p.elim
     |_=>PK[mt1,iz,b,dj]at p;~p.elim
    |_=>PK[mt1,iz,b]at p;~p.elim
  |r k=>cases b:S[n]? <;> PK[mt1, b]at p <;> ~p.elim
  |l G=>cases b:S[n]? <;> PK[mt1,iz]at p <;> ~p.elim
  |it _ _=>~s.elim
  |c _=>cases b:S[n]? <;> PK[mt1,iz]at p <;> ~p.elim
 |_=>~p.elim
~Jw(M)(J:name=nH M)(W:PE X o (tE X.K X.mg E f))(L:PA X (e :: es) (tL X.K X.mg E fs))(d:eC o=PU)(l:(e :: es).all am=PU)(i:(e :: es)° < 30)(c:(apos.endLine == cpos.line)=PU) :
  PE X (.Call (.Attribute o name apos) (e :: es) [] cpos) (tE X.K X.mg E λenv S=>(f env S).bind λx S1=>if tyA M x S1 then(fs env S1).bind λvs h=>mtA x M vs h else .bad):=by
 @g:∀ {id},PlainAttrs (mfT M)->Slot (mfT M) (nH M) id->M4 (.builtin id)=pure (.type "method_descriptor")->MtR X id (rM X.K X.mg E M)->PE X (.Call (.Attribute o name apos) (e :: es) [] cpos) (tE X.K X.mg E λenv S=>(f env S).bind λx S1=>if tyA M x S1 then(fs env S1).bind λvs h=>mtA x M vs h else .bad):=by
  intro id P u q R;rw[<- J]at u;!(Jv P u q R W L d l i c).imp λZ H Q ⟨m,S,env,s,y,w,p⟩=>?_;!⟨m,S,env,s,y,w,PostG.bind p λx S1 v Y T _ O U z A k=>?_⟩
  by_cases t:tyA M x S1=PU
  ·rw[Lj t]at k;PM CL z A t,T,S1,env,z,y.mono U O,w,PostG.bind k λG h vs H2 I _ n N a r C=>⟨I,h,x,G,a,A.mono N n,r,C⟩
  ·rw[Ln t]at k;~k.elim
 #M with
 |lindex=>~g PySem.F.plainAttrs_list PySem.F.slot_list_index PySem.F.type_list_index uF
 |append=>~g PySem.F.plainAttrs_list PySem.F.slot_list_append PySem.F.type_list_append uE
~gU{k}:∀ D:PQ _,dB k D=(match D.lookup k with | PN i=>V.int i | PR=>V.non)
 |[]=>rfl
 |(x,i) :: D=>by
  by_cases h:k=x
  ·subst h;simp[dB]
  ·@:(k == x)=false:=by simpa using h
   rw[aAJ,this];PK[dB]
   first
    |(rw[Ln h];~gU D)
    |(~gU D)
~CM{ad}(F:iM X.K ad D)(I:Gl X x)(w:X.mg x=PN (.ref ad))(hs:am a=PU)(u:PE X a (tE X.K X.mg E f))(o:(x == ("__debug__"))=PV)(g:(apos.endLine == cpos.line)=PU) :
  PE X (.Call (.Attribute (.Name x p) "get" apos) [a] [] cpos) (tE X.K X.mg E λenv S=>(f env S).bind λy S1=>gL D y S1):=by
 have l:((Mc cpos (Lq [a] X.env)).all (λx=>!x.1) && (Nn cpos (MQ [] X.env)).all (λx=>x.1.isSome)
   && decide (([a])°+([]:PQ Mx)°+(if([]:PQ Mx).isEmpty then 0 else 1) < 30))=true:=by
  rw[lQ (by simp[hs])]
  rfl
 !(xB F I w (a8 u pa_nil (star1 hs)) o rfl l g (star1 hs)).imp λL H Q ⟨m,S,env,s,A,C,p⟩=>?_;!⟨m,S,env,s,A,C,PostG.bind p λy S1 v N J _ M O r G h=>?_⟩
 #y with
 |d B =>
  #B with
  |str z =>
   #G
   !⟨z,rfl,?_⟩;rw[gU]
   #e:D.lookup z with
   |none=>PK[gL,e]at h;~Post.dat r h .non
   |some i=>PK[gL,e]at h;~Post.dat r h .int
  |_=>~h.elim
 |_=>~h.elim
~lR:∀ {l}{ws},bi l=PN ws->l=ws.map Dt.str
 |[],_,e=>by #e;rfl
 |.str z :: l,ws,e=>by
  rw[bi]at e
  #q:bi l with
  |none=>rw[q]at e;#e
  |some a=>rw[q]at e;#e;rw[aAr,<- lR q]
 |.non :: _,_,e=>by simp[bi]at e
 |.bl _ :: _,_,e=>by simp[bi]at e
 |.int _ :: _,_,e=>by simp[bi]at e
 |.tup _ :: _,_,e=>by simp[bi]at e
~lT{h:PQ Dt->PQ Dt->Sto->Rs Av}{g:PQ Av->Mo Av}(f:∀ l us S,g [.d (.tup l),.d (.tup us)] S=h l us S)(b:∀ as S,(∀ l us,as≠[.d (.tup l),.d (.tup us)])->g as S=.bad)
  (i:RAs X.K H m as vs) (p:Post X.K X.mg m H Q E (g as S)):∃ x y l us,vs=[x,y]/\IsP X.K H (.tup l) x/\IsP X.K H (.tup us) y/\Post X.K X.mg m H Q E (h l us S):=by
 by_cases c:∃ l us,as=[.d (.tup l),.d (.tup us)]
 ·&l,us,rfl:=c;rw[f]at p
  #i with
  |cons r1 a =>
   #a with
   |cons a j =>
    #j
    PM _,_,l,us,rfl,r1,a,p
 ·rw[b as S λl us e=>c ⟨l,us,e⟩]at p;~p.elim
~CN(w:X.calm=PU)(k:Gl X "dict")(o:X.mg "dict" = PR)(n:Gl X "zip")(j:X.mg "zip" = PR)(L:am a=PU)(t:am b=PU)(z:PA X [a,b] (tL X.K X.mg E fs)) :
  PE X (.Call (.Name "dict" p) [.Call (.Name "zip" U) [a,b] [] r] [] pos) (tE X.K X.mg E λenv S=>(fs env S).bind λvs S1=>fq vs S1):=by
 !(tO w k o n j z (by rw[star1 L,star1 t];rfl) (by rw[star1 t];rfl) (star1 rfl)).imp λR H Q ⟨m,S,env,s,J,I,p⟩=>⟨m,S,env,s,J,I,PostG.bind p λv S1 vs W Y _ P O G M B=>?_⟩;&x,y,l,u,e,D,N,f:=lT (λ_ _ _=>rfl) (λv S h=>by
  PL fq
  split
  ·~absurd rfl (h _ _)
  ·rfl) M B
 #q:bi l with
 |none=>PK[fq,q]at f;~f.elim
 |some i =>
  by_cases c:u°=i°/\i.Nodup/\i°<=1000
  ·PK[fq,q,Lj c]at f;@A:=lR q;subst A;!⟨x,y,i,u,e,D,N,c.1,c.2.1,c.2.2,λq T g F d=>Post.newDS G f F g ?_ d⟩;rw[aBR or];~c.2.1
  ·PK[fq,q,Ln c]at f;~f.elim
~CO(A:X.calm=PU)(j:Gl X "tuple")(k:X.mg "tuple" = PR)(n:Gl X "zip")(i:X.mg "zip" = PR)(G:am a=PU)(r:am b=PU)(t:PA X [a,b] (tL X.K X.mg E fs)) :
  PE X (.Call (.Name "tuple" p) [.Call (.Name "zip" P) [a,b] [] pos'] [] pos) (tE X.K X.mg E λenv S=>(fs env S).bind λvs S1=>dF vs S1):=by
 !(xU A j k n i t (by rw[star1 G,star1 r];rfl) (by rw[star1 r];rfl) (star1 rfl)).imp λN H Q ⟨m,S,env,s,J,F,p⟩=>⟨m,S,env,s,J,F,PostG.bind p λB S1 vs O L _ R M w I C=>?_⟩;&x,y,l,q,e,z,D,f:=lT (λ_ _ _=>rfl) (λB S h=>by
  PL dF
  split
  ·~absurd rfl (h _ _)
  ·rfl) I C
 by_cases c:l°=q°/\l°<=1000
 ·PK[dF,Lj c]at f;PM x,y,l,q,e,z,D,c.1,c.2,λv T g d=>Post.datS w f g d
 ·PK[dF,Ln c]at f;~f.elim
~gV{k}:∀ D:PQ _,fh k D=D.lookup k
 |[]=>rfl
 |(x,b) :: D=>by
  rw[aAJ,fh]
  by_cases h:k=x
  ·rw[Lj h,beq_iff_eq.mpr h]
  ·rw[Ln h,beq_eq_false_iff_ne.mpr h,gV D]
~ym{ad}(M:cC X.K ad l')(L:∀ z,(l'.lookup z=PR/\l.lookup z=PR)\/∃ b ws,l'.lookup z=PN b/\l.lookup z=PN ws/\∀ H:Hp,SqT X.K H b (ws.map V.str))
  (N:Gl X x) (hm:X.mg x=PN (.ref ad)) (hs:am a=PU) (n:am b=PU) (ha:PE X a (tE X.K X.mg E f)) (R:PE X b (tE X.K X.mg E g)) (t:(x == ("__debug__"))=PV) (h:(apos.endLine == cpos.line)=PU) :
  PE X (.Call (.Attribute (.Name x p) "get" apos) [a,b] [] cpos) (tE X.K X.mg E λenv S=>(f env S).bind λy S1=>(g env S1).bind λu I=>oS l y u I):=by
 have o:((Mc cpos (Lq [a,b] X.env)).all (λx=>!x.1) && (Nn cpos (MQ [] X.env)).all (λx=>x.1.isSome)
   && decide (([a,b])°+([]:PQ Mx)°+(if([]:PQ Mx).isEmpty then 0 else 1) < 30))=true:=by
  rw[lQ (by simp[hs,n])]
  rfl
 !(tK M N hm ha R ⟨rfl,o,h,by rw[star1 hs,star1 n];rfl⟩ t).imp λσ H Q ⟨m,S,env,s,G,B,p⟩=>?_;!⟨m,S,env,s,G,B,PostG.bind p λy S1 v H1 U _ T P O ra p1=>⟨U,S1,env,O,G.mono P T,B,PostG.bind p1 λu I W C F _ pf2 g2 D Y i=>?_⟩⟩
 #y with
 |d y0 =>
  #y0 with
  |str z =>
   #ra
   !⟨z,rfl,?_⟩;rw[gV];rcases L z with⟨A,r⟩ | ⟨b,ws,A,r,Z⟩
   ·rw[A];PK[oS,r]at i;~i W C F (aAj _) (Fz.refl _) D Y
   ·rw[A];PK[oS,r]at i;~i _ C F (aAj _) (Fz.refl _) D ⟨_,rfl,Z⟩
  |_=>~i.elim
 |_=>~i.elim
end
§ItR(K:W.Frag)(z:Bool)(H:Hp)(x:Dt)(v:V):Prop:=IsP K H x v\/z=PU/\∃ l a vs,x=.tup l/\v=.ref a/\SqT K H a vs/\IsPs K H l vs
structure Walk(K:W.Frag)(mg:Str->PY Li)(z:Bool)(l:PQ Dt)(gd:PQ (Nat×PQ Dt))(m1:PQ Ll)(H1:Hp)(J:It):Prop where
 go:∀ i H m S,m1 <+: m->Fz m1 m H1 H->Sim K mg H m S->aB S gd->i < l°->J.go i H/\∀ x H',J.yld i H x H'->Same H H'/\∃ y,l[i]?=PN y/\ItR K z H' y x
 stop:∀ i H m S,m1 <+: m->Fz m1 m H1 H->Sim K mg H m S->aB S gd->i=l°->J.stop i H
§tI(K:W.Frag)(mg:Str->PY Li)(z:Bool)(E:XK)(f:En->Mo Av):TI:=λσ H R=>∃ m S env,Sim K mg H m S/\SimE K H m env σ/\env°<=σ°/\PostG K mg (λH m (a:PQ Dt×PQ (Nat×PQ Dt)) J=>Walk K mg z a.1 a.2 m H J) m H R E ((f env S).bind dQ)
¶Src:=PQ Dt×PQ (Nat×PQ Dt)
§tSr(K:W.Frag)(mg:Str->PY Li)(z:Bool)(E:XK)(g:En->Mo Src):TI:=λσ H R=>∃ m S env,Sim K mg H m S/\SimE K H m env σ/\env°<=σ°/\PostG K mg (λH m (a:Src) J=>Walk K mg z a.1 a.2 m H J) m H R E (g env S)
section
variable {E:XK}{X:Cx}{a b tg:Expr}{es:PQ Expr}{f g:En->Mo Av}{fs:En->Mo (PQ Av)}{pos:Pos}
~PI.imp(h:PI X tg x t)(q:∀ b H R,t' b H R->t b H R):PI X tg x t':=λa s b H R I w=>h a s b H R I (q b H R w)
~Same.refl'(H):Same H H:=λ_ _ h=>h
~uG(f:SqT X.K c p xs)(d:Pl c p)(g:IsPs X.K c l xs):Walk X.K X.mg PV l [] m1 c (Itt X.K p):=by
 !⟨λi H m S k a s st b=>?_,λi H m S k a s st b=>⟨xs,f.fz a d,by rw[<- g°,b];~aAo _⟩⟩;&x,h,n:=g.get (aAh b);!⟨⟨xs,x,f.fz a d,h⟩,λy o ⟨e,q⟩=>?_⟩;subst e;@j:=q xs (f.fz a d);rw[h]at j;obtain rfl:=Option.some.inj j;PM Same.refl' _,_,aAh b,.inl (n.fz a)
~uH(c:FzL X.K h p xs)(d:IsPs X.K h l xs):Walk X.K X.mg PV l [] m1 h (Itl X.K p):=by
 !⟨λi H m S k a s st b=>?_,λi H m S k a s st b=>⟨xs,(c.fz a).sq,by rw[<- d°,b];~aAo _⟩⟩;&x,f,n:=d.get (aAh b);!⟨⟨xs,x,(c.fz a).sq,f⟩,λy o ⟨e,q⟩=>?_⟩;subst e;@g:=q xs (c.fz a).sq;rw[f]at g;obtain rfl:=Option.some.inj g;PM Same.refl' _,_,aAh b,.inl (n.fz a)
~Sim.lst{K}{c}{H}{m m1}{S}{n:Nat}{p}{l}(s:Sim K c H m S)(b:m1 <+: m)(a:m1[n]?=PN p)(st:S[n]?=PN (.lst l)):∃ vs,H p=PN (.lst vs)/\IsPs K H l vs:=by
 &t,rfl:=b;~s.obj n _ p st (by rw[aAw (aAg.mp a).1];~a)
~uI(g:m1[n]?=PN p):Walk X.K X.mg PV l [(n,l)] m1 r (Itl X.K p):=by
 !⟨λi H m S f o s st b=>?_,λi H m S f o s st b=>?_⟩
 ·&a,c,d:=s.lst f g st.1;&x,h,k:=d.get (aAh b);!⟨⟨a,x,SqL.of c,h⟩,λy t ⟨e,q⟩=>?_⟩;subst e;@j:=q a (SqL.of c);rw[h]at j;obtain rfl:=Option.some.inj j;PM Same.refl' _,_,aAh b,.inl k
 ·&a,c,d:=s.lst f g st.1;~⟨a,SqL.of c,by rw[<- d°,b];~aAo _⟩
~uJ:Walk X.K X.mg PV (z.cps.toList.map λc=>.str ⟨#[c]⟩) [] m1 k (Its z):=by
 @d:(z.cps.toList.map λc=>(Dt.str ⟨#[c]⟩))°=z.cps.size:=by rw[aAa,aA7]
 !⟨λi H m S g h s st a=>⟨by rw[d]at a;~a,λy l ⟨e,c,f,j⟩=>?_⟩,λi H m S g h s st a=>?_⟩
 ·subst e j;!⟨Same.refl' _,_,?_,.inl .str⟩;rw[aAE,Array.getElem?_toList,f]
  rfl
 ·rw[d]at a;~a
~uK{lo c}:Walk X.K X.mg PV (rngL lo c n) [] m1 k (Cc lo c n):=by
 @d:(rngL lo c n)°=n:=by PL rngL;rw[aAa,aBr]
 !⟨λi H m S f g s st a=>⟨by rw[d]at a;~a,λy j ⟨e,h⟩=>?_⟩,λi H m S f g s st a=>by rw[d]at a;~aCi a.symm⟩;subst e h;rw[d]at a;!⟨Same.refl' _,_,?_,.inl .int⟩;PL rngL;rw[aAE,List.getElem?_range a]
 rfl
~rh{lo}:Walk X.K X.mg PV (rngL lo 1 n) [] m1 j (Itr lo n):=by
 @c:(rngL lo 1 n)°=n:=by PL rngL;rw[aAa,aBr]
 !⟨λi H m S d f s st a=>⟨by rw[c]at a;~a,λy h ⟨e,g⟩=>?_⟩,λi H m S d f s st a=>by rw[c]at a;~aCi a.symm⟩;subst e g;rw[c]at a;!⟨Same.refl' _,_,?_,.inl .int⟩;PL rngL;rw[aAE,List.getElem?_range a];simp
~CP{K}(g:IsPs K H l xs)(e:IsPs K H k ys)(f:i < ((l.zip k).map λp=>Dt.tup [p.1,p.2])°) :
  ∃ p q x y,l[i]?=PN p/\k[i]?=PN q/\xs[i]?=PN x/\ys[i]?=PN y/\IsP K H p x/\IsP K H q y/\((l.zip k).map λp=>Dt.tup [p.1,p.2])[i]?=PN (.tup [p,q]):=by
 rw[aAa,aA0]at f;@c:i < l°:=or
 @b:i < k°:=or
 &x,h,r1:=g.get (aAh c);&y,j,n:=e.get (aAh b);!⟨_,_,x,y,aAh c,aAh b,h,j,r1,n,?_⟩;rw[aAE,(List.getElem?_zip_eq_some (z:=(l[i],k[i]))).mpr ⟨aAh c,aAh b⟩]
 rfl
~Gu(B:PE X a (tE X.K X.mg E f)):PI X tg a (tI X.K X.mg PV E f):=by
 rintro b s u H R I ⟨m,S,g,w,A,y,p⟩;replace p:=PostG.res_bind p
 #e:(f g S).res with
 |br _ _ _=>~absurd e Rs.res_br
 |bad=>rw[e]at p;~p.elim
 |ex c J =>
  rw[e]at p;~fJ B b s u H R I ⟨m,S,g,w,A,y,PostG.of_res (by rw[e];~p)⟩
 |ok x J =>
  rw[e,Rs.bind_ok]at p
  #x with
  |c T=>~p.elim
  |it L Q=>~fJ B b s u H R I ⟨m,S,g,w,A,y,PostG.of_res (by rw[e];~λv j i k o h r=>r.elim)⟩
  |l L =>
   !fJ B b s u H R I ⟨m,S,g,w,A,y,PostG.of_res ?_⟩;rw[e];rintro v j i k o h ⟨q,C,rfl,t,D⟩;PM q,rfl,⟨C,t.sq⟩,p _ j i k o h (uH t D)
  |r n =>
   #F:J[n]? with
   |none=>PK[dQ,F]at p;~p.elim
   |some O =>
    #O with
    |lst L =>
     PK[dQ,F]at p;!fJ B b s u H R I ⟨m,S,g,w,A,y,PostG.of_res ?_⟩;rw[e];rintro v j i k o h ⟨q,G,rfl⟩;&C,t,D:=h.obj n _ q F G;PM q,rfl,⟨C,SqL.of t⟩,p _ j i k o h (uI G)
    |_=>PK[dQ,F]at p;~p.elim
  |d N =>
   #N with
   |tup l =>
    !BJ B b s u H R I ⟨m,S,g,w,A,y,PostG.of_res ?_⟩;rw[e];intro v j i k o h r;&q,C,rfl,t,D,P:=IsP.unref r;PM q,rfl,⟨C,t⟩,p _ j i k o h (uG t D P)
   |str z =>
    !B2 B b s u H R I ⟨m,S,g,w,A,y,PostG.of_res ?_⟩;rw[e];intro v j i k o h r
    #r
    PM z,rfl,p _ j i k o h uJ
   |_=>~p.elim
variable {h:En->Mo Av}{c:Expr}
~aK(r:Rs e)(f)(g:β->Mo i):(r.bind f).bind g=r.bind λa S=>(f a S).bind g:=by
 induction r with
 |br b x y d c=>rw[Rs.bind_br,Rs.bind_br,Rs.bind_br,d,c]
 |_=>rfl
~CQ(t:Gl X "range")(q:X.mg "range" = PR)(hs:am a=PU)(e:PE X a (tE X.K X.mg E f)):PI X tg (.Call (.Name "range" p) [a] [] pos) (tI X.K X.mg PV E λenv S=>(f env S).bind λx S1=>i4 x S1):=
 (qt t q (a8 e pa_nil (star1 hs)) (star1 hs)).imp λu H R ⟨m,S,env,s,g,n,p⟩=>by
  rw[aK]at p;!⟨m,S,env,s,g,n,PostG.bind p λx S1 v h k _ y w i r b=>?_⟩
  #x with
  |d l =>
   #l with
   |int j =>
    #r
    by_cases c:-(2 ^ 62)<=j/\j < 2 ^ 62
    ·PK[i4,Lj c,Rs.bind_ok]at b;PM j,rfl,c.1,c.2,b _ h k (aAj _) (Fz.refl _) i rh
    ·PK[i4,Ln c]at b;~b.elim
   |_=>~b.elim
  |_=>~b.elim
~CS(hg:Gl X "range")(U:X.mg "range" = PR)(hs:am a=PU)(n:am b=PU)(l:am c=PU)(M:PE X a (tE X.K X.mg E f))(Q:PE X b (tE X.K X.mg E g))(o:PE X c (tE X.K X.mg E h)) :
  PI X tg (.Call (.Name "range" p) [a,b,c] [] pos) (tI X.K X.mg PV E λenv S=>(f env S).bind λx S1=>(g env S1).bind λy r=>(h env r).bind λz G=>i5 x y z G):=
 (qK hg U (a8 M (a8 Q (a8 o pa_nil (star1 l)) (star1 n)) (star1 hs)) (by rw[star1 hs,star1 n,star1 l];rfl) (by rw[star1 n,star1 l];rfl)).imp λσ H R ⟨m,S,env,s,A,w,p⟩=>by
  rw[aK]at p;!⟨m,S,env,s,A,w,PostG.bind p λx S1 v H1 m1 _ F I J ra B=>?_⟩;rw[aK]at B;!⟨m1,S1,env,J,A.mono I F,w,PostG.bind B λy r u H2 m2 _ q Z N O D=>?_⟩;rw[aK]at D;!⟨m2,r,env,N,(A.mono I F).mono Z q,w,PostG.bind D λz G t T m3 _ Y g3 P rc e=>?_⟩
  #x with
  |d L =>
   #L with
   |int i =>
    #y with
    |d y0 =>
     #y0 with
     |int j =>
      #z with
      |d z0 =>
       #z0 with
       |int k =>
        #ra;#O;#rc
        by_cases o:0<=i/\i < 2 ^ 62/\0<=j/\j < 2 ^ 62/\0 < k/\k < 1073741824
        ·PK[i5,Lj o,Rs.bind_ok]at e;PM i,j,k,rfl,o,e _ T m3 (aAj _) (Fz.refl _) P uK
        ·PK[i5,Ln o]at e;~e.elim
       |_=>~e.elim
      |_=>~e.elim
     |_=>cases z <;> ~e.elim
    |_=>cases z <;> ~e.elim
   |_=>cases y <;> cases z <;> ~e.elim
  |_=>cases y <;> cases z <;> ~e.elim
end
§nI(σ:St)(ps:PQ (Nat×V)):St:=ps.foldl (λs p=>s.set p.1 (PN p.2)) σ
§gT(K:W.Frag):Tg->TG
 |.nm i=>iC i
 |.tp is=>λv σ H Q=>∃ a xs,v=.ref a/\SqT K H a xs/\xs°=is°/\Q (nI σ (is.zip xs)) H
§CT(sc:Scope)(top:Bool)(x:Str):Bool:=sc.names.lookup x == PN .local || (top && sc.names.lookup x == PN .cell)
§fE(sc:Scope)(N:PQ Str)(top:Bool)(i:Nat):Expr->Bool
 |.Name x _=>N[i]? == PN x && CT sc top x
 |_=>PV
§i6(sc:Scope)(N:PQ Str)(top:Bool):PQ Nat->PQ Expr->Bool
 |[],[]=>PU
 |i :: is,e :: es=>fE sc N top i e && i6 sc N top is es
 |_,_=>PV
§uL(sc:Scope)(N:PQ Str)(top:Bool):Tg->Expr->Bool
 |.nm i,e=>fE sc N top i e
 |.tp is,.Tuple es _ _=>i6 sc N top is es
 |_,_=>PV
section
variable {E:XK}{X:Cx}{sc:Scope}{N:PQ Str}{top:Bool}
~pgn(b:X.N=N)(c:N.Nodup)(hs:cF X sc)(d:top=PU->∀ x,X.fn x=PU)(h:fE sc N top i e=PU):PG X e (iC i):=by
 #e with
 |Name x p =>
  unfold fE CT at h;PK[aAn,aBp,LO]at h;&f,a:=h;!xi (by rw[b];~c) (by rw[b];~f) ?_ ?_
  ·rcases a with a | ⟨_,a⟩
   ·rcases hs x _ a with q | ⟨q,_⟩
    ·~.inl q
    ·#q
   ·rcases hs x _ a with q | ⟨q,_⟩
    ·~.inr q
    ·#q
  ·rcases a with a | ⟨t,a⟩
   ·rcases hs x _ a with q | ⟨q,_⟩
    ·~.inr q
    ·#q
   ·~.inl (d t x)
 |_=>cases h
~cI:∀ {is}{es},i6 sc N top is es=PU->(Mj es X.env).map (·.2)=es.map (λe=>MR e X.env)/\(Mj es X.env)°=is°/\(Mj es X.env).findIdx? (·.1)=PR
 |[],[],_=>⟨rfl,rfl,rfl⟩
 |[],_ :: _,h=>by #h
 |_ :: _,[],h=>by #h
 |i :: is,e :: es,h=>by
  unfold i6 at h;rw[aAn]at h;&d,g,f:=cI h.2
  #e with
  |Name x p =>
   !⟨?_,?_,?_⟩
   ·show MR _ _ :: (Mj es _).map _=_;rw[d]
    rfl
   ·show(Mj es _)°+1=_;rw[g]
    rfl
   ·show List.findIdx? _ ((PV,MR _ _) :: Mj es _)=PR;rw[List.findIdx?_cons];simp[f]
  |_=>~absurd h.1 (by ~Bool.noConfusion)
~Gv(g:X.N=N)(j:N.Nodup)(hs:cF X sc)(k:top=PU->∀ x,X.fn x=PU):∀ {is}{es},i6 sc N top is es=PU->PGs X es (λvs b H Q=>vs°=is°/\Q (nI b (is.zip vs)) H)
 |[],[],_=>λa s b H vs f Q I r ⟨c,d⟩=>xj a s b H vs f Q I r ⟨aBg.mp c,d⟩
 |[],_ :: _,h=>by #h
 |_ :: _,[],h=>by #h
 |i :: is,e :: es,h=>by
  @l:=h;unfold i6 at h;rw[aAn]at h;@m:=(cI (X:=X) l).1;@n:=(cI (X:=X) h.2).1;rintro a s b H vs f Q I r ⟨c,d⟩;!sg (pgn g j hs k h.1) (Gv g j hs k h.2) ?_ a s b H vs f Q I r ?_
  ·rw[m,n]
   rfl
  ·#vs with
   |nil=>cases c
   |cons v vs=>PM v,vs,rfl,Nat.succ.inj c,d
~pgt(z:X.calm=PU)(j:X.N=N)(f:N.Nodup)(hs:cF X sc)(g:top=PU->∀ x,X.fn x=PU):∀ {t}{e},uL sc N top t e=PU->PG X e (gT X.K t)
 |.nm i,e,h=>pgn j f hs g h
 |.tp A,e,h=>by
  #e with
  |Tuple B k p =>
   @c:=h;&_,y,n:=cI c;rintro b s m H v u Q I r ⟨a,o,l,w,d,q⟩;~BG z (Gv j f hs g c) y n b s m H v u Q I r ⟨a,o,l,w,d,d,q⟩
  |_=>cases h
~gW:∀ (b) (c),(nI c b)°=c°
 |[],_=>rfl
 |p :: b,c=>by show(nI _ b)°=_;rw[gW b,aBd]
~AO{K}:∀ {is:PQ Nat}{l}{xs}{env}{f},SimE K H m env f->env°<=f°->IsPs K H l xs->SimE K H m ((is.zip l).foldl (λe p=>e.set p.1 (PN (.d p.2))) env) (nI f (is.zip xs))/\((is.zip l).foldl (λe p=>e.set p.1 (PN (.d p.2))) env)°=env°
 |[],_,_,env,f,g,k,_=>⟨by simpa [nI]using g,rfl⟩
 |_ :: _,[],xs,env,f,g,k,r=>by
  #r
  ~⟨by simpa [nI]using g,rfl⟩
 |i :: is,d :: l,xs,env,f,g,k,r=>by
  #r with
  |cons h r =>
   rename_i x xs
   @j:=g.set (i:=i) k (a:=.d d) h;&n,o:=AO j (by simp_all) r;!⟨n,?_⟩;show((is.zip l).foldl _ (env.set i _))°=_;rw[o,aBd]
~bind_ok{K}(hz:z=PU->∃ is,t=.tp is)(h:aZ t x env=PN c)(r:ItR K z H x v)(s:SimE K H m env j)(k:env°<=j°)
  (q:∀ b,SimE K H m c b->c°<=b°->b°=j°->Q b H):gT K t v j H Q:=by
 #t with
 |nm i =>
  @y:IsP K H x v:=by
   rcases r with r | ⟨o,_⟩
   ·~r
   ·&_,e:=hz o;#e
  obtain rfl:=Option.some.inj h;~q _ (s.set k y) (by simp_all) (aBd ..)
 |tp is =>
  @n:∃ l a d,x=.tup l/\v=.ref a/\SqT K H a d/\IsPs K H l d:=by
   rcases r with r | ⟨_,r⟩
   ·#x with
    |tup l=>&a,d,e,p,_,f:=IsP.unref r;PM l,a,d,rfl,e,p,f
    |_=>simp[aZ]at h
   ·~r
  &l,a,d,rfl,rfl,p,f:=n
  by_cases g:is°=l°
  ·PK[aZ,Lj g]at h;obtain rfl:=Option.some.inj h;&w,u:=AO s k f;~⟨a,d,rfl,p,by rw[g,f°],q _ w (by rw[u,gW];~k) (gW _ _)⟩
  ·PK[aZ,Ln g]at h
   #h
§uM(te:TE):PQ V->Ll->St->Hp->(PQ V->St->Hp->Prop)->Prop:=λ_ l σ H N=>te σ H λy H1=>∃ zs,H1 l=PN (.lst zs)/\zs° < Ld/\N (zs++[y]) σ (upd H1 l (.lst (zs++[y])))
§CU(tc:TT)(te:TE):PQ V->Ll->St->Hp->(PQ V->St->Hp->Prop)->Prop:=λys l σ H N=>tc σ H λb H1=>if b=PU then uM te ys l σ H1 N else N ys σ H1
~nJ(m:PE X d q):PB X (λc=>do let x <- L3 d X.env;let _ <- call (.builtin "list.append") [c,x];pure ()) (uM q):=by
 intro a s b H l z N I h;!KE (thn (m a s b H _ I h) λu n ⟨y,j,f,r1,e,i,k,r⟩=>KE ?_);!thn (iI a n b j (.ref l) _ _ _ (λv o=>v=.non/\N _ b o) f rfl (.cons r1 .nil) ⟨l,e,y,rfl,rfl,i,k,rfl,r⟩) λ_ w ⟨v,p,g,_,_,t⟩=>Lg ⟨_,b,p,g,t⟩
~uN(p:PT X c m)(o:PE X e q):PB X (λf=>do
  let b <- isTrue c X.env (L3 c X.env)
  if b then(do let x <- L3 e X.env;let _ <- call (.builtin "list.append") [f,x];pure ())else pure ()) (CU m q):=by
 intro a s d H l j N I h;!KE (thn (p a s d H _ I h) λb n ⟨k,i,g⟩=>?_)
 #b with
 |true=>~nJ o a n d k l j N i g
 |false=>~Lg ⟨j,d,k,i,g⟩
~Rs.bindRes{f:c->Mo d}:∀ {r:Rs c},(r.bind f).res=(r.res.bind f).res
 |.ok _ _=>rfl
 |.ex _ _=>rfl
 |.bad=>rfl
 |.br b x y=>by
  #b
  ·~Rs.bindRes (r:=y)
  ·~Rs.bindRes (r:=x)
~PostG.res_no{K}{a}{Q':j->Hp->Prop}{r:Rs g}{f:i->Mo l}(h:PostG K e a m H Q' E ((bQ (r.bind k)).bind f)):PostG K e a m H Q' E ((bQ (r.res.bind k)).bind f):=by
 induction r with
 |br b x y d c =>
  #b
  ·~c (h.2 rfl)
  ·~d (h.1 rfl)
 |_=>~h
§ft(K:W.Frag)(mg:Str->PY Li)(fe:En->Mo (PY Dt))(tb:PQ V->Ll->St->Hp->(PQ V->St->Hp->Prop)->Prop):Prop:=
 ∀ (m:PQ Ll) (S:Sto) (env:En) (σ:St) (H:Hp) (l:Ll) (n:Nat) (ys:PQ V) (N:PQ V->St->Hp->Prop),Sim K mg H m S->m[n]?=PN l->SimE K H m env σ->env°<=σ° ->
  (match (fe env S).res with
   |.ok o S1=>∃ acc,S1[n]?=PN (.lst acc)/\(o.isSome=PU->acc° < Ld)/\∀ ys' H' m' S2,m <+: m'->Fz m m' H H'->S2=(match o with | PN y=>S1.set n (.lst (acc++[y])) | PR=>S1)->Sim K mg H' m' S2->N ys' σ H'
   |_=>False)->tb ys l σ H N
~gX:ft X.K X.mg (λD S=>(f D S).bind (bD λx J=>.ok (PN x) J)) (uM (tE X.K X.mg E0 f)):=by
 intro m S i T H l n Q N s z B I h;rw[Rs.bindRes]at h
 #e:(f i S).res with
 |br _ _ _=>~absurd e Rs.res_br
 |bad=>PK[e,Rs.bind_bad,Rs.res]at h
 |ex c E=>PK[e,Rs.bind_ex,Rs.res]at h
 |ok a E =>
  #a with
  |d x =>
   PK[e, bD]at h;&F,o,O,M:=h;!⟨m,S,i,s,B,I,PostG.of_res ?_⟩;rw[e];intro v P y q L p r;@g:y[n]?=PN l:=by
    &t,rfl:=q;rw[aAw (aAg.mp z).1];~z
   &A,G,w:=p.obj n _ l o g;@b:=p.fzput (u:=.lst (A++[v])) o g;!⟨A,G,by rw[<- w°];~O rfl,M _ _ y _ q (L.trans b) rfl ?_⟩;~p.put o g ⟨_,aw,(w.fz b).append (.cons (IsP.fz b r) .nil)⟩
  |r k=>PK[e,Rs.bind_ok,bD,Rs.res]at h
  |l R=>PK[e,Rs.bind_ok,bD,Rs.res]at h
  |it _ _=>PK[e,Rs.bind_ok,bD,Rs.res]at h
  |c _=>PK[e,Rs.bind_ok,bD,Rs.res]at h
~lU:ft X.K X.mg (λR S=>(g R S).bind λb k=>choose b ((f R k).bind (bD λx Z=>.ok (PN x) Z)) (.ok PR k)) (CU (tQ X.K X.mg E0 (tst g)) (tE X.K X.mg E0 f)):=by
 intro m S q G H l n U N s O M P h;rw[Rs.bindRes]at h
 #e:(g q S).res with
 |br _ _ _=>~absurd e Rs.res_br
 |bad=>PK[e,Rs.bind_bad,Rs.res]at h
 |ex c j=>PK[e,Rs.bind_ex,Rs.res]at h
 |ok b j =>
  PK[e]at h;!⟨m,S,q,s,M,P,PostG.of_res ?_⟩;show PostG _ _ _ _ _ _ _ ((g q S).bind _).res;rw[Rs.bindRes,e,Rs.bind_ok]
  #b with
  |d W =>
   #W with
   |bl c =>
    #c with
    |true =>
     intro v A w z B C (r);subst r;@E:w[n]?=PN l:=by
      &t,rfl:=z;rw[aAw (aAg.mp O).1];~O
     !gX w j q G A l n U N C E (M.mono B z) P ?_;have D:∀ r:Rs (PY Dt),(match r with
      |.ok o j=>∃ a,j[n]?=PN (.lst a)/\(o.isSome=PU->a° < Ld)/\∀ i p u k,m <+: u->Fz m u H p->k=(match o with | PN y=>j.set n (.lst (a++[y])) | PR=>j)->Sim X.K X.mg p u k->N i G p
      |_=>False)->(match r with
      |.ok o j=>∃ a,j[n]?=PN (.lst a)/\(o.isSome=PU->a° < Ld)/\∀ i p u k,w <+: u->Fz w u A p->k=(match o with | PN y=>j.set n (.lst (a++[y])) | PR=>j)->Sim X.K X.mg p u k->N i G p
      |_=>False):=by
      intro r
      #r with
      |br b x y=>~λh=>h
      |bad=>~λh=>h
      |ex c S=>~λh=>h
      |ok o S=>~fun⟨a,T,Q,J⟩=>⟨a,T,Q,λi p u k L F e Y=>J i p u k (z.trans L) (B.trans F) e Y⟩
     ~D _ h
    |false =>
     intro v A w z B C (r);subst r;&a,T,Q,J:=h;~J U A w j z B rfl C
   |_=>~h.elim
  |_=>~h.elim
~ri{z:Bool}{t:Tg}{Y:En->Mo (PY Dt)}(T:ft X.K X.mg Y tb){l:PQ Dt}{gd:PQ (Nat×PQ Dt)}{J:It}{n:Hp}{m1:PQ Ll}{S1:Sto}{q:Ll}{env:En}{σ:St}{Q:VK}(hz:z=PU->∃ is,t=.tp is)
  (w:Walk X.K X.mg z l gd m1 n J) (s1:Sim X.K X.mg n m1 S1) (hq:n q=PR) (se:SimE X.K n m1 env σ) (hl:env°<=σ°)
  (p:Post X.K X.mg m1 n Q E ((bQ (ai S1° gd t Y l env (S1++[Ob.lst []]))).bind λ_ u=>.ok (.r S1°) u)) :
  ∃ W:Nat->Nat->PQ V->St->Hp->Prop,(∃ m,W 0 m [] σ (upd n q (.lst [])))/\∀ i m ys g H',W i m ys g H'->(J.stop i H'/\Q (.ref q) H')\/(J.go i H'/\∀ x f,J.yld i H' x f->gT X.K t x g f λG H2=>tb ys q G H2 λv σ3 B=>∃ m',m' < m/\W (i+1) m' v σ3 B):=by
 @sn:=ay hq (.lst []);@P:Fz m1 (m1++[q]) n (upd n q (.lst [])):=Fz.newS sn hq;@hn:∀ {m:PQ Ll},m1++[q] <+: m->m[S1°]?=PN q:=fun{m} ⟨r,e⟩=>by
  subst e;rw[aAO,aAt (by rw[s1.len];~aAo _),s1.len,aA9]
  rfl
 !⟨λi mm ys g H'=>mm=l° - i/\i<=l°/\∃ s b,Fz m1 (m1++[q]) n H'/\Sim X.K X.mg H' (m1++[q]) s/\SimE X.K H' (m1++[q]) b g/\b°<=g° /\
   Post X.K X.mg m1 n Q E ((bQ (ai S1° gd t Y (l.drop i) b s)).bind λ_ u=>.ok (.r S1°) u),
  ⟨_,rfl,aAM _,S1++[.lst []],env,P,s1.new (o:=.lst []) hq ⟨[],aw,.nil⟩,se.mono P (aAZ _ _),hl,by rw[List.drop_zero];~p⟩,?_⟩
 rintro i mm ys g H' ⟨rfl,hi,s,b,S,Z,se',hl',a⟩
 by_cases j:i < l°
 ·right
  rw[aBc j]at a
  by_cases I:aB s gd
  ·unfold ai at a;rw[fO I]at a;&go,yl:=w.go i H' (m1++[q]) s (aAZ _ _) S Z I j;!⟨go,λx f hy=>?_⟩;&sm,y,ey,ir:=yl x f hy;rw[aAh j]at ey;obtain rfl:=Option.some.inj ey
   #eb:aZ t l[i] b with
   |none=>PK[eb]at a;~a.elim
   |some d =>
    PK[eb]at a;@C:Fz (m1++[q]) (m1++[q]) H' f:=Fz.same sm;!bind_ok hz eb ir (se'.mono C (aAj _)) hl' λG D H _=>?_;!T (m1++[q]) s d G f q S1° ys _ (Z.same sm) (hn (aAj _)) D H ?_;replace a:=PostG.res_no a
    #U:(Y d s).res with
    |br _ _ _=>~absurd U Rs.res_br
    |bad=>PK[U,Rs.bind_bad,bQ]at a;~a.elim
    |ex c u=>PK[U,Rs.bind_ex,bQ,Rs.bind_bad]at a;~a.elim
    |ok o u =>
     PK[U,Rs.bind_ok]at a
     #N:u[S1°]? with
     |none=>PK[N,bQ,Rs.bind_bad]at a;~a.elim
     |some ob =>
      #ob with
      |lst A =>
       PK[N]at a;@O:∀ {m':PQ Ll}{M:Sto}{B:Hp},m1++[q] <+: m'->Sim X.K X.mg B m' M->Sim X.K X.mg B (m1++[q]) (M.take (S1°+1)):=fun{m' M B} R L=>by
        @:=L.take (S1°+1);&r,rfl:=R;rw[List.take_left' (by rw[aAi,s1.len];rfl)]at this;~this
       #o with
       |some y =>
        by_cases F:A° < Ld
        ·PK[Lj F]at a;!⟨A,N,λ_=>F,λv B m' M R k e3 L=>?_⟩;subst e3;!⟨l° - (i+1),or,rfl,j,_,d,(S.trans C).trans k.cut,?_,D.mono k.cut (aAj _),H,a⟩;@:=O R L;rw[List.take_set]at this;~this
        ·PK[Ln F,bQ,Rs.bind_bad]at a;~a.elim
       |none =>
        !⟨A,N,(λh=>by #h),λv B m' M R k e3 L=>?_⟩;@e4:M=u:=e3;rw[e4]at L;~⟨l° - (i+1),or,rfl,j,u.take (S1°+1),d,(S.trans C).trans k.cut,O R L,D.mono k.cut (aAj _),H,a⟩
      |_=>PK[N,bQ,Rs.bind_bad]at a;~a.elim
  ·unfold ai at a;rw[fP I]at a;~a.elim
 ·left
  @e:i=l°:=or
  subst e;rw[aBQ]at a;unfold ai at a
  by_cases I:aB s gd
  ·rw[fO I]at a;!⟨w.stop _ H' (m1++[q]) s (aAZ _ _) S Z I rfl,?_⟩;~a (.ref q) H' (m1++[q]) (aAZ _ _) S Z ⟨q,hn (aAj _),rfl⟩
  ·rw[fP I]at a;~a.elim
end
§okE:Rs (PY Dt)->Bool
 |.ok _ _=>PU
 |.br b x y=>bif b then okE x else okE y
 |_=>PV
§bR:Rs (PY Dt)->PY Dt
 |.ok o _=>o
 |.br b x y=>bif b then bR x else bR y
 |_=>PR
~eD:∀ {r},okE r=PU->∃ S,r.res=.ok (bR r) S
 |.ok o S,_=>⟨S,rfl⟩
 |.br PU x y,h=>eD (r:=x) h
 |.br PV x y,h=>eD (r:=y) h
 |.ex _ _,h=>nomatch h
 |.bad,h=>nomatch h
§slots:Tg->PQ Nat
 |.nm i=>[i]
 |.tp is=>is
§noR:PY Av->Bool
 |some (.r _)=>PV
 |_=>PU
§elP(t:Tg)(fo:En->Mo (PY Dt))(env:En)(x:Dt):Rs (PY Dt):=match aZ t x env with
 |some e=>fo e []
 |none=>.bad
§ag(i:Nat):Dt->Dt
 |.tup l=>l.getD i .non
 |_=>.non
§bZ(n:Nat):Dt->Bool
 |.tup l=>l° == n
 |_=>PV
§elB(t:Tg)(fo:En->Mo (PY Dt))(env:En)(x:Dt):Rs (PY Dt):=match t with
 |.nm i=>fo (env.set i (PN (.d x))) []
 |.tp is=>.br (bZ is° x) (fo ((is.zip ((List.range is°).map λi=>ag i x)).foldl (λe p=>e.set p.1 (PN (.d p.2))) env) []) .bad
§gY{α:Type}:Rs α->Bool
 |.bad=>PU
 |_=>PV
§fF:Rs (PY Dt)->PY Dt
 |.ok o _=>o
 |.br b x y=>bif gY x then fF y else bif gY y then fF x else bif b then fF x else fF y
 |_=>PR
~fR:∀ {r},okE r=PU->fF r=bR r
 |.ok _ _,_=>rfl
 |.ex _ _,h=>nomatch h
 |.bad,h=>nomatch h
 |.br b x y,h=>by
  @a:∀ {r},gY r=PU->okE r=false:=fun{r} q=>by cases r <;> first | rfl | cases q
  @d:=fR (r:=x);@c:=fR (r:=y);PL fF bR;unfold okE at h
  #b with
  |true =>
   #q:gY x with
   |true=>rw[a q]at h;#h
   |false =>
    show(bif gY y then fF x else fF x)=bR x;rw[aBi];~d h
  |false =>
   #q:gY y with
   |true=>rw[a q]at h;#h
   |false =>
    show(bif gY x then fF y else fF y)=bR y;rw[aBi];~c h
§AQ(mp:Bool)(f:Dt->Rs (PY Dt))(xs:PQ Dt):PQ Dt:=match mp with
 |true=>xs.map λx=>(fF (f x)).getD .non
 |false=>xs.filterMap λx=>fF (f x)
~uO{f:Dt->PY Dt}:∀ {l:PQ Dt},(∀ x∈l,(f x).isSome=PU)->(l.map λx=>(f x).getD .non)=l.filterMap f
 |[],_=>rfl
 |x :: l,h=>by
  @b:=h x aAe;rw[aAr,aAP,uO λy d=>h y (aAk _ d)]
  #q:f x with
  |none=>rw[q]at b;#b
  |some y=>rfl
~lV{a c:Type}{f g:a->PY c}:∀ {l:PQ a},(∀ x∈l,f x=g x)->l.filterMap f=l.filterMap g
 |[],_=>rfl
 |x :: l,h=>by rw[aAP,aAP,h x aAe,lV λy b=>h y (aAk _ b)]
~nK(h:okE (elB t a env x)=PU):okE (elP t a env x)=PU/\bR (elB t a env x)=bR (elP t a env x):=by
 #t with
 |nm i=>PM h,rfl
 |tp b =>
  unfold elB at h ⊢;dsimp only at h ⊢
  #q:bZ _ x with
  |false=>rw[q]at h;#h
  |true =>
   rw[q]at h
   #x with
   |tup l =>
    @f:l°=b°:=by simpa [bZ]using q
    @e:(List.range b°).map (λi=>ag i (.tup l))=l:=by
     !List.ext_getElem (by simp[f]) λi m j=>?_;simp[ag, aAh j]
    rw[e]at h ⊢;@g:elP (.tp b) a env (.tup l)=a ((b.zip l).foldl (λe p=>e.set p.1 (PN (.d p.2))) env) []:=by
     PL elP;PK[aZ,Lj f.symm]
    rw[g];PM h,rfl
   |_=>cases q
section
variable {K:W.Frag}{mg:Str->PY Li}{H H':Hp}{m m':PQ Ll}{env env':En}{σ:St}
~jY:∀ {is:PQ Nat}{l}{env:En},j∉is->((is.zip l).foldl (λe p=>e.set p.1 (PN (.d p.2))) env)[j]?=env[j]?
 |[],_,_,_=>rfl
 |_ :: _,[],_,_=>rfl
 |i :: is,d :: l,env,h=>by
  rw[aAl,not_or]at h;show((is.zip l).foldl _ _)[j]?=_;rw[jY h.2,aA5 (Ne.symm h.1)]
~jZ:∀ {is:PQ Nat}{l}{env:En},(∀ o∈env,noR o=PU)->∀ o∈(is.zip l).foldl (λe p=>e.set p.1 (PN (.d p.2))) env,noR o=PU
 |[],_,_,h=>h
 |_ :: _,[],_,h=>h
 |i :: is,d :: l,env,h=>jZ (l:=l) λo b=>by
  rcases List.mem_or_eq_of_mem_set b with q | rfl
  ·~h o q
  ·rfl
~yn(e:aZ t x env=PN env')(h:∀ o∈env,noR o=PU):∀ o∈env',noR o=true:=by
 #t with
 |nm i =>
  #e
  ~jZ (is:=[i]) (l:=[x]) h
 |tp is =>
  #x with
  |tup l =>
   by_cases b:is°=l°
   ·PK[aZ,Lj b]at e;#e;~jZ h
   ·PK[aZ,Ln b]at e;#e
  |_=>cases e
~uP(e:aZ t x env=PN env')(h:∀ i∈slots t,(env[i]?).join=PR){j:Nat}(c:env[j]?=PN (PN a)):env'[j]?=PN (PN a):=by
 @g:j∉slots t:=λq=>by
  @:=h j q;rw[c]at this
  #this
 #t with
 |nm i =>
  #e
  ~(jY (l:=[x]) g).trans c
 |tp k =>
  #x with
  |tup l =>
   by_cases d:k°=l°
   ·PK[aZ,Lj d]at e;#e;~(jY g).trans c
   ·PK[aZ,Ln d]at e;#e
  |_=>cases e
~SimE.any(h:∀ o∈env,noR o=PU)(s:SimE K H m env c):SimE K H m' env c:=λi a q=>by
 &v,b,d:=s i a q;!⟨v,b,?_⟩;@:=h _ (aAR q)
 #a with
 |r n=>cases this
 |_=>~d
end
section
variable {K:W.Frag}{mg:Str->PY Li}{H:Hp}{m:PQ Ll}{S:Sto}
~Sim.app(s:Sim K mg H m S)(j:a∉m)(i:RO K mg H a o):Sim K mg H (m++[a]) (S++[o]):=by
 !⟨by rw[aAi,aAi,s.len];rfl,aBN.mpr ⟨s.nod,aBw _ _,λb q c p e=>j (by simp_all)⟩,λn l b d g=>?_⟩;rcases aCj n _ with f | f
 ·rw[aAw f]at d;rw[aAw (by rw[s.len];~f)]at g;~s.obj n l b d g
 ·rw[aAt f]at d;rw[aAt (by rw[s.len];~f),s.len]at g
  #e:n - S° with
  |zero=>rw[e]at d g;#d;#g;~i
  |succ k=>rw[e]at d;#d
end
§c7(K:W.Frag)(fe:En->Mo (PY Dt))(tb:PQ V->Ll->St->Hp->(PQ V->St->Hp->Prop)->Prop):Prop:=
 ∀ (env:En) (σ:St) (H:Hp) (l:Ll) (zs ys:PQ V) (N:PQ V->St->Hp->Prop),SimE K H [] env σ->env°<=σ°->H l=PN (.lst zs)->okE (fe env [])=PU->zs° < Ld ->
  (∀ H' ys',Same H H'->(bR (fe env [])=PR->N ys' σ H')/\∀ y v,bR (fe env [])=PN y->IsP K H' y v->N (zs++[v]) σ (upd H' l (.lst (zs++[v]))))->tb ys l σ H N
section
variable {E:XK}{X:Cx}{f g:En->Mo Av}
~uQ(s:Sim X.K X.mg j m1 S1)(t:Fz [] m1 H j)(z:SimE X.K j m1 env m)(w:env°<=m°)(hz:H l=PN (.lst zs))(hs:zs° < Ld)(e:((f env S1).bind (bD λx p=>.ok (PN x) p)).res=.ok o p)(h:∀ H',Same H H'->∀ y v,o=PN y->IsP X.K H' y v->N (zs++[v]) m (upd H' l (.lst (zs++[v])))):uM (tE X.K X.mg E0 f) ys l m j N:=by
 !⟨m1,S1,env,s,z,w,PostG.of_res ?_⟩;rw[Rs.bindRes]at e
 #q:(f env S1).res with
 |br _ _ _=>~absurd q Rs.res_br
 |bad=>rw[q]at e;#e
 |ex c S=>rw[q]at e;#e
 |ok a S =>
  rw[q]at e
  #a with
  |d x =>
   #e
   intro v A C D k B r;@n:=t.trans k;PM zs,n.fr _ _ aAu hz,hs,h A (λb o u=>n.fr b o aAu u) x v rfl r
  |_=>cases e
~i7:c7 X.K (λk S=>(f k S).bind (bD λx j=>.ok (PN x) j)) (uM (tE X.K X.mg E0 f)):=by
 intro b t H l u s N m i d ok p h;&S,e:=eD ok;~uQ (S1:=[]) ⟨rfl,aBW,λn o a h=>nomatch h⟩ (Fz.refl H) m i d p e λq g y v c r=>(h q [] g).2 y v c r
~i8:c7 X.K (λz S=>(g z S).bind λb w=>choose b ((f z w).bind (bD λx I=>.ok (PN x) I)) (.ok PR w)) (CU (tQ X.K X.mg E0 (tst g)) (tE X.K X.mg E0 f)):=by
 intro i J H l O ys N t s D ok A h;&S,e:=eD ok;!⟨[],[],i,⟨rfl,aBW,λn o a h=>nomatch h⟩,t,s,PostG.of_res ?_⟩;show PostG _ _ _ _ _ _ _ ((g i []).bind _).res;rw[Rs.bindRes]at e ⊢;generalize bR _=L at e h
 #q:(g i []).res with
 |br _ _ _=>~absurd q Rs.res_br
 |bad=>rw[q]at e;#e
 |ex c S=>rw[q]at e;#e
 |ok a M =>
  rw[q]at e
  #a with
  |d x =>
   #x with
   |bl c =>
    #c with
    |true =>
     intro v p C u j m (r);subst r;~uQ (ys:=ys) m j (t.mono j u) s D A e λG F y v E r=>(h G [] F).2 y v E r
    |false =>
     intro v p C u j m (r);subst r
     #e
     ~(h p ys λb o B=>j.fr b o aAu B).1 rfl
   |_=>cases e
  |_=>cases e
~rj{z:Bool}{t:Tg}{I:En->Mo (PY Dt)}(T:c7 X.K I tb){l:PQ Dt}{gd:PQ (Nat×PQ Dt)}{J:It}{C:Hp}{m1:PQ Ll}{S1:Sto}{q:Ll}{env:En}{σ:St}{Q:VK}(hz:z=PU->∃ is,t=.tp is)
  (w:Walk X.K X.mg z l gd m1 C J) (s1:Sim X.K X.mg C m1 S1) (R:C q=PR) (se:SimE X.K C m1 env σ) (hl:env°<=σ°) (hr:∀ o∈env,noR o=PU) (hs:∀ i∈slots t,(env[i]?).join=PR) (hg:aB S1 gd) (ha:∀ x∈l,okE (elP t I env x)=PU) (hn:l°<=Ld)
  (p:Post X.K X.mg m1 C Q E (.ok (.r S1°) (S1++[.lst (l.filterMap λx=>bR (elP t I env x))]))) :
  ∃ W:Nat->Nat->PQ V->St->Hp->Prop,(∃ m,W 0 m [] σ (upd C q (.lst [])))/\∀ i m ys k H',W i m ys k H'->(J.stop i H'/\Q (.ref q) H')\/(J.go i H'/\∀ x d,J.yld i H' x d->gT X.K t x k d λF H2=>tb ys q F H2 λZ σ3 M=>∃ m',m' < m/\W (i+1) m' Z σ3 M):=by
 @nq:=s1.ne R;@fu:∀ {H':Hp}{o:HO},Fz m1 m1 C H'->Fz m1 m1 C (upd H' q o):=fun{H' o} g=>by
  @ne:∀ b u,C b=PN u->b≠q:=λb u h e=>by rw[e,R]at h;#h
  ~⟨λb o u h=>by rw[ao (ne b _ h)];~g.fz b o u h,λb o n h=>by rw[ao (ne b _ h)];~g.fr b o n h,λ_ h n=>absurd h n⟩
 @su:∀ {H':Hp}{B ws:PQ V},H' q=PN (.lst B)->Sim X.K X.mg H' m1 S1->Sim X.K X.mg (upd H' q (.lst ws)) m1 S1:=fun{H' B ws} e s=>by
  @g:Fz [q] [q] H' (upd H' q (.lst ws)):=Fz.put (aAy.mpr rfl) λp u h=>by rw[e]at h;#h
  ~⟨s.len,s.nod,λn o a h1 h2=>(s.obj n o a h1 h2).mono g λu hu=>by
   @na:a≠q:=λe=>nq (e ▸ aAR h2);rw[ao na];~hu⟩
 !⟨λi mm ys k H'=>mm=l° - i/\i<=l°/\Fz m1 m1 C H'/\Sim X.K X.mg H' m1 S1/\SimE X.K H' m1 env k/\env°<=k°/\∃ B,H' q=PN (.lst B)/\IsPs X.K H' ((l.take i).filterMap λx=>bR (elP t I env x)) B,
  ⟨_,rfl,aAM _,fu (Fz.refl C),s1.same (ay R _),(se.mono (Fz.same (ay R _)) (aAj _)),hl,[],aw,.nil⟩,?_⟩
 rintro i mm ys k H' ⟨rfl,hi,fz,s',se',L,B,hv,U⟩
 by_cases A:i < l°
 ·right
  &go,yl:=w.go i H' m1 S1 (aAj _) fz s' hg A;!⟨go,λx d hy=>?_⟩;&D,y,ey,ir:=yl x d hy;rw[aAh A]at ey;obtain rfl:=Option.some.inj ey;@ok:=ha _ (aA3 A);@tk:(l.take (i+1)).filterMap (λx=>bR (elP t I env x))=(l.take i).filterMap (λx=>bR (elP t I env x))++(bR (elP t I env l[i])).toList:=by
   rw[List.take_succ,aAh A,List.filterMap_append]
   congr 1
  unfold elP at ok tk
  #N:aZ t l[i] env with
  |none=>rw[N]at ok;#ok
  |some env1 =>
   rw[N]at ok tk;!bind_ok hz N ir (se'.mono (Fz.same D) (aAj _)) L λF P hl2 H=>?_;@Y:SimE X.K d m1 env F:=λj a q=>P j a (uP N hs q);!T env1 F d q B ys _ (P.any (yn N hr)) hl2 (D q _ hv) ok ?_ λM Z f=>⟨λe=>?_,λy v e r=>?_⟩
   ·rw[<- U°];~aBH (aB5 _ _) (by rw[aA1];on)
   ·@S:Fz m1 m1 d M:=Fz.same f;!⟨l° - (i+1),or,rfl,A,(fz.trans (Fz.same D)).trans S,(s'.same D).same f,Y.mono S (aAj _),by rw[H];~L,B,f q _ (D q _ hv),?_⟩;PL elP;rw[tk,e];show IsPs X.K M (_++[]) B;rw[aAA];~(U.fz (Fz.same (m:=[]) D)).fz (Fz.same (m:=[]) f)
   ·@S:Fz m1 m1 d M:=Fz.same f;@h3:=f q _ (D q _ hv);@g:Fz [q] [q] M (upd M q (.lst (B++[v]))):=Fz.put (aAy.mpr rfl) λp u h=>by rw[h3]at h;#h
    !⟨l° - (i+1),or,rfl,A,fu ((fz.trans (Fz.same D)).trans S),su h3 ((s'.same D).same f),((((Y.mono S (aAj _)).any (m':=[q]) hr).mono g (aAj _)).any hr),by rw[H];~L,B++[v],aw,?_⟩;PL elP;rw[tk,e];~(((U.fz (Fz.same (m:=[]) D)).fz (Fz.same (m:=[]) f)).append (.cons r .nil)).fz g
 ·left
  @e:i=l°:=or
  subst e;rw[aB3]at U;!⟨w.stop _ H' m1 S1 (aAj _) fz s' hg rfl,?_⟩;!p (.ref q) H' (m1++[q]) (aAZ _ _) ⟨fz.fz,fz.fr,λb hb nb=>?_⟩ (s'.app nq ⟨B,hv,U⟩) ⟨q,?_,rfl⟩
  ·rcases aAG.mp hb with h | h
   ·~absurd h nb
   ·rw[aAy.mp h];~R
  ·rw[<- s1.len,aAt (aAo _),aA9];rfl
§gZ(mp:Bool)(gd:PQ (Nat×PQ Dt))(t:Tg)(fo:En->Mo (PY Dt))(xs:PQ Dt)(env:En)(S1:Sto):Rs Av:=
 bif env.all noR && (slots t).all (λi=>(env[i]?).join.isNone)then
  .br (xs.all λx=>okE (elB t fo env x)) (.br (decide (xs°<=Ld)) (.ok (.r S1°) (S1++[.lst (AQ mp (elB t fo env) xs)])) .bad) .bad
 else(bQ (ai S1° gd t fo xs env (S1++[Ob.lst []]))).bind λ_ S2=>.ok (.r S1°) S2
~lW(T:ft X.K X.mg c tb)(P:c7 X.K c tb)(hz:z=PU->∃ is,t=.tp is)
  (w:Walk X.K X.mg z l gd m1 d J) (H:Sim X.K X.mg d m1 S1) (D:d q=PR) (y:SimE X.K d m1 env G) (F:env°<=G°) (O:aB S1 gd) (o:mp=PU->∀ A S,okE (c A S)=PU->(bR (c A S)).isSome=PU)
  (p:Post X.K X.mg m1 d Q E (gZ mp gd t c l env S1)) :
  ∃ W:Nat->Nat->PQ V->St->Hp->Prop,(∃ m,W 0 m [] G (upd d q (.lst [])))/\∀ i m ys g H',W i m ys g H'->(J.stop i H'/\Q (.ref q) H')\/(J.go i H'/\∀ x j,J.yld i H' x j->gT X.K t x g j λs M=>tb ys q s M λu n L=>∃ m',m' < m/\W (i+1) m' u n L):=by
 unfold gZ at p
 #h:env.all noR && (slots t).all _ with
 |false=>rw[h]at p;~ri T hz w H D y F p
 |true =>
  rw[h]at p;rw[aAn,aAf,aAf]at h
  #a:l.all λx=>okE _ with
  |false=>~(p.2 a).elim
  |true =>
   @r:=p.1 a;@I:AQ mp (elB t c env) l=l.filterMap λx=>bR (elP t c env x):=by
    @B:=lV λx b=>(fR (aAf.mp a x b)).trans (nK (aAf.mp a x b)).2
    #mp with
    |false=>~B
    |true =>
     !(uO λx b=>?_).trans B;@q:=nK (aAf.mp a x b);rw[fR (aAf.mp a x b),q.2];unfold elP at q ⊢
     #C:aZ t x env with
     |none=>rw[C]at q;#q.1
     |some e=>rw[C]at q;~o rfl e [] q.1
   rw[I]at r;replace a:=aAf.mpr λx b=>(nK (aAf.mp a x b)).1
   by_cases v:l°<=Ld
   ·~rj P hz w H D y F h.1 (λi R=>Option.isNone_iff_eq_none.mp (h.2 i R)) O (aAf.mp a) v (r.1 (Lh v))
   ·~(r.2 (Lv v)).elim
end
section
variable {E:XK}{X:Cx}{f fe fc:En->Mo Av}{gs:En->Mo Src}{pos:Pos}
~lX{K}(k)(g)(p:SimE K H m env r):SimE K H m (List.replicate k PR++g.map λj=>(env[j]?).join) (cst k g r):=by
 intro i a h;PL cst
 by_cases l:i < k
 ·rw[aAw (by rw[aAV];~l),aBv,Lj l]at h
  #h
 ·@s:(List.replicate k (none:PY Av))°<=i:=by rw[aAV];on
  @f:(List.replicate k (none:PY V))°<=i:=by rw[aAV];on
  rw[aAt s,aAV,aAE]at h;rw[aAt f,aAV,aAE]
  #e:g[i - k]? with
  |none=>rw[e]at h;#h
  |some j =>
   rw[e]at h;@d:(env[j]?).join=PN a:=Option.some.inj h;@t:env[j]?=PN (PN a):=by
    #q:env[j]? with
    |none=>rw[q]at d;#d
    |some o=>rw[q]at d;~Mg PN d
   &v,u,n:=p j a t;~⟨v,by simp_all,n⟩
~oZ{env:En}(k)(c):(List.replicate k (PR)++c.map λj=>(env[j]?).join)°<=(cst k c d)°:=by
 PL cst;simp
~o0(h:okE ((f g S).bind (bD λx c=>.ok (PN x) c))=PU):(bR ((f g S).bind (bD λx c=>.ok (PN x) c))).isSome=true:=by
 &n,e:=eD h;rw[Rs.bindRes]at e
 #q:(f g S).res with
 |br _ _ _=>~absurd q Rs.res_br
 |bad=>rw[q]at e;#e
 |ex _ _=>rw[q]at e;#e
 |ok a l =>
  rw[q]at e
  #a with
  |d x =>
   @i:=e;injection i with j m
   rw[<- j]
   rfl
  |_=>cases e
~o4{body:Li->Env->Sem Unit}(hz:z=PU->∃ is,t=.tp is)(A:mp=PU->∀ G S,okE (o G S)=PU->(bR (o G S)).isSome=PU)(T:ft X.K X.mg o tb)(T':c7 X.K o tb)(M:X.calm=PU)(S:CScope X b NL ρ B)(y:∀ env S a S1,(gs env S).res=.ok a S1->aB S1 a.2)(Z:PI X tgt c (tSr X.K X.mg z E gs))
  (P:∀ C d e n,PG (ccx X b C B d e n) tgt (gT X.K t)) (O:∀ C d e n,PB (ccx X b C B d e n) (λg=>body g (ccx X b C B d e n).env) tb)
  (he:∀ (k g) (env),NO (.ListComp h [⟨tgt,c,i,0⟩] b pos) 0 k g env=(Na c.pos >>= λ_=>Md k >>= λr=>match r with
   |none=>pure (.done .next)
   |some v=>Ma tgt k v >>= λ_=>MR tgt env v >>= λ_=>body g env >>= λ_=>NE (.compLoop (.ListComp h [⟨tgt,c,i,0⟩] b pos) 0 k g env)))
  (hs:∀ x,Ml c X.env x=pure x):PE X (.ListComp h [⟨tgt,c,i,0⟩] b pos) (tE X.K X.mg E λenv S=>(gs env S).bind λl S1 =>
   gZ mp l.2 t o l.1 (List.replicate NL.length PR++ρ.map λj=>(env[j]?).join) S1):=
 (sM M S Z P O he hs).imp λσ H Q ⟨m,S,env,s,F,L,p⟩=>⟨m,S,env,s,F,L,PostG.bind p λa S1 J H1 m1 er N R I w U=>λq W =>
  lW T T' hz w I W (lX _ _ (F.mono R N)) (oZ _ _) (y _ _ _ _ er) A U⟩
§g5:Expr->Bool
 |.Set _ _ _=>PV
 |_=>PU
~cr(h:g5 a=PU)(x):Ml a env x=pure x:=by
 cases a <;> first | rfl | cases h
~CV(hz:z=PU->∃ is,t=.tp is)(y:X.calm=PU)(S:CScope X b NL A m)(i:∀ env S a S1,(gs env S).res=.ok a S1->aB S1 a.2)(o:PI X tgt e (tSr X.K X.mg z E gs))
  (w:∀ C d c h,PG (ccx X b C m d c h) tgt (gT X.K t)) (v:∀ C d c h,PE (ccx X b C m d c h) g (tE X.K X.mg E0 fe)) (hs:g5 e=PU) :
  PE X (.ListComp g [⟨tgt,e,[],0⟩] b pos) (tE X.K X.mg E λenv S=>(gs env S).bind λl S1 =>
   gZ PU l.2 t (λs S=>(fe s S).bind (bD λx q=>.ok (PN x) q)) l.1 (List.replicate NL.length PR++A.map λj=>(env[j]?).join) S1):=
 o4 hz (λ_ _ _=>o0) gX i7 y S i o w (λC d c h=>nJ (v C d c h)) (λu k env=>kJ g tgt e b pos u k env) (cr hs)
~fw{env:Env}:∀ {a:PQ (Str×Pq)}{x}{k},a.lookup x=PN k ->
  (a.map fun(n,k)=>if(k == NameKind.free && env.scope.kind == .function && env.kindOf n == PN .cell)then(n,NameKind.cell)else(n,k)).lookup x=PN k\/(k=.free/\(a.map fun(n,k)=>if(k == NameKind.free && env.scope.kind == .function && env.kindOf n == PN .cell)then(n,NameKind.cell)else(n,k)).lookup x=PN .cell)
 |[],_,_,h=>by #h
 |(n,c) :: r,x,k,h=>by
  @b:=@fw env r x k;rw[aAJ]at h
  revert b
  generalize f:(fun((n,k))=>if(k == NameKind.free && env.scope.kind == ScopeKind.function && env.kindOf n == PN NameKind.cell)then(n,NameKind.cell)else(n,k))=F;intro b;rw[aAr]
  by_cases d:(c == NameKind.free && env.scope.kind == .function && env.kindOf n == PN .cell)=PU
  ·@e:F (n,c)=(n,.cell):=by rw[<- f];~Lj d
   rw[e,aAJ]
   #q:x == n with
   |true =>
    rw[q]at h
    #h
    PK[aAn]at d;~.inr ⟨by simpa using d.1.1,rfl⟩
   |false=>rw[q]at h;~b h
  ·@e:F (n,c)=(n,c):=by rw[<- f];~Ln d
   rw[e,aAJ]
   #q:x == n with
   |true=>rw[q]at h;~.inl h
   |false=>rw[q]at h;~b h
~aI:cF (ccx X a C d b c e) a:=λx k h=>fw h
§tgNames:Expr->PQ Str
 |.Name x _=>[x]
 |.Tuple es _ _=>es.filterMap λe=>match e with | .Name x _=>PN x | _=>PR
 |_=>[]
§o5(sc scope:Scope)(N:PQ Str)(ρ:PQ Nat):Bool:=
 scope.kind == .function && scope.names.all (λx=>x.2 != .cell && (x.2 != .local || scope.names.lookup x.1 == PN .local) && (x.2 != .free || sc.names.lookup x.1 == PN .cell || sc.names.lookup x.1 == PN .free)) &&
 ρ.all λj=>match N[j]? with | PN x=>scope.names.lookup x == PN .free && (sc.names.lookup x == PN .cell || sc.names.lookup x == PN .free) | PR=>PV
~csG(hs:cF X sc)(f:X.N=N)(h:o5 sc a N g=PU)(n:i=NL++g.map λj=>N.getD j ""):CScope X a NL g i:=by
 unfold o5 at h;PK[aAn,aAf,LO]at h;&⟨l,c⟩,m:=h;@d:∀ x:Str,(sc.names.lookup x=PN .cell\/sc.names.lookup x=PN .free)->(X.env.scope.names.lookup x=PN .cell\/X.env.scope.names.lookup x=PN .free):=by
  intro x h;rcases h with h | h
  ·rcases hs x _ h with q | ⟨q,_⟩
   ·~.inl q
   ·#q
  ·rcases hs x _ h with q | ⟨_,q⟩
   ·~.inr q
   ·~.inl q
 !⟨l,λx b e=>?_,λx b e=>?_,λx b e=>?_,by rw[f];~n,λj k=>?_⟩
 ·@:=(c x b).1.1;rw[e]at this;~absurd this (by decide)
 ·@:=(c x b).1.2;rw[e]at this
  simpa using this
 ·@:=(c x b).2;rw[e]at this;!d _ ?_
  simpa using this
 ·@z:=m j k
  #q:N[j]? with
  |none=>rw[q]at z;#z
  |some x =>
   rw[q]at z;PK[aAn,aBp,LO]at z;~⟨x,by rw[f];~q,z.1,d x z.2⟩
end
§PostS(K:W.Frag)(mg:Str->PY Li)(m:PQ Ll)(H:Hp)(D:Ends)(E:XK):Rs Fl->Prop
 |.ok (.nx env') S=>∀ σ' H' m',m <+: m'->Fz m m' H H'->Sim K mg H' m' S->SimE K H' m' env' σ'->env'°<=σ'°->D.nx σ' H'
 |.ok (.bk env') S=>∀ σ' H' m',m <+: m'->Fz m m' H H'->Sim K mg H' m' S->SimE K H' m' env' σ'->env'°<=σ'°->D.bk σ' H'
 |.ok (.ct env') S=>∀ σ' H' m',m <+: m'->Fz m m' H H'->Sim K mg H' m' S->SimE K H' m' env' σ'->env'°<=σ'°->D.ct σ' H'
 |.ok (.rt a) S=>∀ v H' m',m <+: m'->Fz m m' H H'->Sim K mg H' m' S->RA K H' m' a v->D.rt v H'
 |.ex c S=>∀ C H' m',mg c=PN (.ref C)->m <+: m'->Fz m m' H H'->Sim K mg H' m' S->E (.ref C) PR H'
 |.bad=>False
 |.br b x y=>(b=PU->PostS K mg m H D E x)/\(b=PV->PostS K mg m H D E y)
§tS(K:W.Frag)(mg:Str->PY Li)(E:XK)(f:En->Mo Fl):TS:=λD σ H=>∃ m S env,Sim K mg H m S/\SimE K H m env σ/\env°<=σ°/\PostS K mg m H D E (f env S)
section
variable {E:XK}{X:Cx}{K:W.Frag}{mg:Str->PY Li}{m m1:PQ Ll}{H H1:Hp}{D D':Ends}{r:Rs Fl}
~PostS.trans(e:m <+: m1)(g:Fz m m1 H H1)(h:PostS K mg m H D E r):PostS K mg m1 H1 D E r:=by
 induction r with
 |br b x y l n=>PM λc=>l (h.1 c),λc=>n (h.2 c)
 |ok a S =>
  #a with
  |nx _=>~λv d i j f=>h v d i (e.trans j) (g.trans f)
  |bk _=>~λv d i j f=>h v d i (e.trans j) (g.trans f)
  |ct _=>~λv d i j f=>h v d i (e.trans j) (g.trans f)
  |rt _=>~λv d i j f=>h v d i (e.trans j) (g.trans f)
 |ex c S=>~λC d i p j f=>h C d i p (e.trans j) (g.trans f)
 |bad=>~h
~PostS.bind{R}{Q:t->Hp->Prop}{r:Rs p}{f}(h:PostS K mg m H D E (r.bind f))
  (q:∀ a S v d m1,r.res=.ok a S->m <+: m1->Fz m m1 H d->Sim K mg d m1 S->R d m1 a v->PostS K mg m1 d D E (f a S)->Q v d):PostG K mg R m H Q E r:=by
 induction r with
 |br b x y l k=>PM λc=>l (h.1 c) λa S v d m1 e=>q a S v d m1 (by subst c;~e),λc=>k (h.2 c) λa S v d m1 e=>q a S v d m1 (by subst c;~e)
 |ok a S=>~λv n o e g s j=>q a S v n o rfl e g s j (PostS.trans e g h)
 |ex c S=>~h
 |bad=>~h
~PostS.of_res(h:PostS K mg m H D E r.res):PostS K mg m H D E r:=by
 induction r with
 |br b x y c a=>~⟨λe=>by subst e;~c h,λe=>by subst e;~a h⟩
 |_=>~h
~PostS.res_bind{r:Rs e}{f}(h:PostS K mg m H D E (r.bind f)):PostS K mg m H D E (r.res.bind f):=by
 induction r with
 |br b x y c d =>
  #b
  ·~d (h.2 rfl)
  ·~c (h.1 rfl)
 |_=>~h
~PS.imp(h:PS X x t)(q:∀ D b H,t' D b H->t D b H):PS X x t':=λa s b H D I w=>h a s b H D I (q D b H w)
~PSs.imp(h:PSs X x t)(q:∀ D b H,t' D b H->t D b H):PSs X x t':=λa s b H D I w=>h a s b H D I (q D b H w)
~PostS.nx(s:Sim K mg H m S)(c:SimE K H m env a)(b:env°<=a°)(p:PostS K mg m H D E (.ok (.nx env) S)):D.nx a H:=p a H m (aAj _) (Fz.refl H) s c b
end
section
variable {E:XK}{X:Cx}{c e:Expr}{st:LP}{a b rest:PQ LP}{f:En->Mo Av}{gs:En->Mo Src}{A B:En->Mo Fl}{pos:Pos}
~Jx(g:PE X e (tE X.K X.mg E f))(hs:Mw e PR pos.line X.env=pure PV):PS X (.Expr e pos) (tS X.K X.mg E λenv S=>(f env S).bind λ_ S1=>.ok (.nx env) S1):=
 (xg g hs).imp λD n H ⟨m,S,env,s,b,c,p⟩=>⟨m,S,env,s,b,c,PostS.bind p λa S1 v l q _ i j h o k=>k.nx h (b.mono j i) c⟩
~uR(k:PE X e (tE X.K X.mg E f)):PS X (.Return (PN e) pos) (tS X.K X.mg E λenv S=>(f env S).bind λa S1=>.ok (.rt a) S1):=
 (BD k).imp λD q H ⟨m,S,env,s,i,g,p⟩=>⟨m,S,env,s,i,g,PostS.bind p λa S1 v h j _ n o c d l=>l v h j (aAj _) (Fz.refl _) c d⟩
~CW:PS X (.Return PR pos) (tS X.K X.mg E λ_ S=>.ok (.rt (.d .non)) S):=xh.imp λD e H ⟨m,S,a,s,c,b,p⟩=>p _ H m (aAj _) (Fz.refl _) s .non
~CY:PS X (.Pass pos) (tS X.K X.mg E λenv S=>.ok (.nx env) S):=xf.imp λD c H ⟨m,S,env,s,b,a,p⟩=>p.nx s b a
~g7:PSs X [] (tS X.K X.mg E λenv S=>.ok (.nx env) S):=xc.imp λD c H ⟨m,S,env,s,b,a,p⟩=>p.nx s b a
~i9(i:PS X st (tS X.K X.mg E A))(n:PSs X rest (tS X.K X.mg E B)):PSs X (st :: rest) (tS X.K X.mg E λenv S=>(A env S).bind λf S1=>match f with
  |.nx a=>B a S1
  |f=>.ok f S1):=(sf i n).imp λD v H ⟨m,S,env,s,l,u,p⟩=>⟨m,S,env,s,l,u,by
 replace p:=PostS.res_bind p;!PostS.of_res ?_
 #q:(A env S).res with
 |br _ _ _=>~absurd q Rs.res_br
 |bad=>rw[q]at p;~p
 |ex c S1=>rw[q]at p;~p
 |ok t S1 =>
  rw[q,Rs.bind_ok]at p
  #t with
  |nx a=>~λo w j k g e b d=>⟨j,S1,a,e,b,d,PostS.trans k g p⟩
  |bk _=>~p
  |ct _=>~p
  |rt _=>~p⟩
~AR(o:PT X c (tQ X.K X.mg E (tst f)))(y:PSs X a (tS X.K X.mg E A))(q:PSs X b (tS X.K X.mg E B)):PS X (.If c a b pos) (tS X.K X.mg E λenv S=>(f env S).bind λx S1=>choose x (A env S1) (B env S1)):=
 (EQ o y q).imp λD z H ⟨m,S,env,s,l,i,p⟩=>⟨m,S,env,s,l,i,by
  replace p:=PostS.res_bind p;!PostG.of_res ?_;show PostG _ _ _ _ _ _ _ ((f env S).bind _).res;rw[Rs.bindRes]
  #e:(f env S).res with
  |br _ _ _=>~absurd e Rs.res_br
  |bad=>PK[e]at p;~p
  |ex c S1=>PK[e]at p;~p
  |ok x S1 =>
   PK[e]at p ⊢
   #x with
   |d t =>
    #t with
    |bl c =>
     #c
     ·intro v u k h g j (r);subst r;PM k,S1,env,j,l.mono g h,i,PostS.trans h g p
     ·intro v u k h g j (r);subst r;PM k,S1,env,j,l.mono g h,i,PostS.trans h g p
    |_=>~p
   |_=>~p⟩
~uS{K}(f:Sim K j H1 m1 S1)(e:SimE K H1 m1 env σ)(h:env°<=σ°)(g:RA K H1 m1 x v)
  (d:PostS K j m1 H1 D E (match bindA (.nm i) x env with | PN a=>.ok (.nx a) S1 | PR=>.bad)):iC i v σ H1 D.nx:=
 d _ H1 m1 (aAj _) (Fz.refl _) f (e.set h g) (by simp_all)
~uT(h:X.N.Nodup)(j:X.N[i]?=PN x)(k:Loc X.env.scope x)(t:X.fn x=PU\/X.env.scope.names.lookup x=PN .local)(r:PE X e (tE X.K X.mg E f))(hs:Mw e (PN (.Name x pos')) pos.line X.env=pure PV) :
  PS X (.Assign [.Name x pos'] e pos) (tS X.K X.mg E λenv S=>(f env S).bind λa S1=>match bindA (.nm i) a env with
   |some b=>.ok (.nx b) S1
   |none=>.bad):=(BI h j k r hs t).imp λD A H ⟨m,S,env,s,d,g,p⟩=>⟨m,S,env,s,d,g,PostS.bind p λa S1 v z y _ l w q u n=>uS q (d.mono w l) g u n⟩
~uU{body:Li->Env->Sem Unit}(hz:z=PU->∃ is,t=.tp is)
  (hN:X.N.Nodup) (hj:X.N[j]?=PN y) (hy:Loc X.env.scope y) (M:X.fn y=PU\/X.env.scope.names.lookup y=PN .local) (O:Mw (.ListComp h [⟨d,iter,i,0⟩] scope pos) (PN (.Name y py)) k.line X.env=pure PU) (I:mp=PU->∀ U S,okE (fo U S)=PU->(bR (fo U S)).isSome=PU) (T:ft X.K X.mg fo tb) (T':c7 X.K fo tb) (hc:X.calm=PU) (S:CScope X scope NL ρ L) (F:∀ env S a S1,(gs env S).res=.ok a S1->aB S1 a.2) (hi:PI X d iter (tSr X.K X.mg z E gs))
  (hg:∀ C e f u,PG (ccx X scope C L e f u) d (gT X.K t)) (hb:∀ C e f u,PB (ccx X scope C L e f u) (λg=>body g (ccx X scope C L e f u).env) tb)
  (he:∀ (o g) (env),NO (.ListComp h [⟨d,iter,i,0⟩] scope pos) 0 o g env=(Na iter.pos >>= λ_=>Md o >>= λr=>match r with
   |none=>pure (.done .next)
   |some v=>Ma d o v >>= λ_=>MR d env v >>= λ_=>body g env >>= λ_=>NE (.compLoop (.ListComp h [⟨d,iter,i,0⟩] scope pos) 0 o g env)))
  (hs:∀ x,Ml iter X.env x=pure x):PS X (.Assign [.Name y py] (.ListComp h [⟨d,iter,i,0⟩] scope pos) k) (tS X.K X.mg E λenv S=>((gs env S).bind λl S1 =>
   gZ mp l.2 t fo l.1 (List.replicate NL.length PR++ρ.map λj=>(env[j]?).join) S1).bind λa S1=>match bindA (.nm j) a env with
   |some n=>.ok (.nx n) S1
   |none=>.bad):=
 (tz hN hj hy M O hc S hi hg hb he hs).imp λD σ H ⟨m,S,env,s,G,P,p⟩=>by
  dsimp only at p;rw[aK]at p;!⟨m,S,env,s,G,P,PostS.bind p λa S1 J H1 m1 er W Q s1 w p1=>λq Z=>?_⟩;~lW T T' hz w s1 Z (lX _ _ (G.mono Q W)) (oZ _ _) (F _ _ _ _ er) I (PostS.bind p1 λa S2 v H2 m2 _ N g2 s2 ra p2=>uS s2 ((G.mono Q W).mono g2 N) P ra p2)
end
section
variable {E:XK}{X:Cx}{c e tg iter:Expr}{st:LP}{a b rest:PQ LP}{f g h:En->Mo Av}{gs:En->Mo Src}{A B:En->Mo Fl}{pos:Pos}
~uV(hz:z=PU->∃ is,t=.tp is)
  (w:Walk X.K X.mg z l gd m1 M J) (s1:Sim X.K X.mg M m1 S1) (se:SimE X.K M m1 env O) (hl:env°<=O°) (p:PostS X.K X.mg m1 M D E (cP gd t A l env S1)) :
  ∃ W:Nat->Nat->St->Hp->Prop,(∃ m,W 0 m O M)/\∀ i m O H,W i m O H->(J.stop i H/\D.nx O H)\/(J.go i H/\∃ N:St->Hp->Prop,(∀ f H',N f H'->∃ m',m' < m/\W (i+1) m' f H')/\∀ x H',J.yld i H x H'->gT X.K t x O H' λP H2=>tS X.K X.mg E A { D with nx:=N,ct:=N,bk:=D.nx } P H2):=by
 let W:=λi mm f H'=>mm=l° - i/\i<=l°/\∃ m' s d,m1 <+: m'/\Fz m1 m' M H'/\Sim X.K X.mg H' m' s/\SimE X.K H' m' d f/\d°<=f°/\PostS X.K X.mg m1 M D E (cP gd t A (l.drop i) d s)
 !⟨W,⟨_,rfl,aAM _,m1,S1,env,aAj _,Fz.refl _,s1,se,hl,by ~p⟩,?_⟩;rintro i mm f H' ⟨rfl,hi,m',s,d,B,u,U,T,R,b⟩
 by_cases r:i < l°
 ·right
  rw[aBc r]at b
  by_cases F:aB s gd
  ·unfold cP at b;rw[fO F]at b;&go,yl:=w.go i H' m' s B u U F r;!⟨go,W _ (l° - (i+1)),λf H' q=>⟨_,or,q⟩,λx Q hy=>?_⟩;&sm,y,ey,ir:=yl x Q hy;rw[aAh r]at ey;obtain rfl:=Option.some.inj ey
   #Z:aZ t l[i] d with
   |none=>PK[Z]at b;~b.elim
   |some C =>
    PK[Z]at b;@k:Fz m' m' H' Q:=Fz.same sm;!bind_ok hz Z ir (T.mono k (aAj _)) R λP se2 hl2 _=>?_;!⟨m',s,C,U.same sm,se2,hl2,?_⟩;replace b:=PostS.res_bind b;!PostS.of_res ?_
    #Y:(A C s).res with
    |br _ _ _=>~absurd Y Rs.res_br
    |bad=>PK[Y]at b;~b.elim
    |ex c S2 =>
     PK[Y]at b;~PostS.trans B (u.trans k) b
    |ok fl S2 =>
     PK[Y]at b
     #fl with
     |nx j=>~λI S G h g L n o=>⟨rfl,r,G,S2,j,B.trans h,(u.trans k).trans g,L,n,o,b⟩
     |ct j=>~λI S G h g L n o=>⟨rfl,r,G,S2,j,B.trans h,(u.trans k).trans g,L,n,o,b⟩
     |bk j=>~λI S G h g L n o=>b I S G (B.trans h) ((u.trans k).trans g) L n o
     |rt a=>~λv S G h g L ra=>b v S G (B.trans h) ((u.trans k).trans g) L ra
  ·unfold cP at b;rw[fP F]at b;~b.elim
 ·left
  @e:i=l°:=or
  subst e;rw[aBQ]at b;unfold cP at b
  by_cases F:aB s gd
  ·rw[fO F]at b;PM w.stop _ H' m' s B u U F rfl,b f H' m' B u U T R
  ·rw[fP F]at b;~b.elim
~Gw(hz:z=PU->∃ is,t=.tp is)(e:Ox (Lo X.prog X.w) X.A X.env X.xe)(h:X.calm=PU)(j:PI X tg iter (tSr X.K X.mg z E gs))(n:PG X tg (gT X.K t))(k:PSs X body (tS X.K X.mg E A))(hs:g5 iter=PU) :
  PS X (.For tg iter body [] pos) (tS X.K X.mg E λenv S=>(gs env S).bind λl S1=>cP l.2 t A l.1 env S1):=
 (BK e h j n k (cr hs)).imp λD u H ⟨m,S,env,s,c,d,p⟩=>⟨m,S,env,s,c,d,PostS.bind p λa S1 J v r _ o q g w f=>uV hz w g (c.mono q o) d f⟩
§cJ:Expr->Bool
 |.ListComp _ _ _ _=>PV
 |.SetComp _ _ _ _=>PV
 |.DictComp _ _ _ _ _=>PV
 |_=>PU
~swaps_of(h:cJ e=PU):Mw e tgt line env=pure false:=by
 cases e <;> first | rfl | cases h
§nL:Expr->Bool
 |.Tuple _ _ _=>PV
 |_=>PU
~nM(h:nL e=PU):O6 [tgt] e env=pure none:=by
 cases e <;> first | (cases h;done) | (cases tgt <;> rfl)
~CZ(I:PE X e (tE X.K X.mg E f))(F:PG X tg (gT X.K (.tp is)))(B:cJ e=PU)(G:nL e=PU)(q:PS X (.Assign [tg] e pos) (si (tE X.K X.mg E f) (gT X.K (.tp is)))) :
  PS X (.Assign [tg] e pos) (tS X.K X.mg E λenv S=>(f env S).bind λa S1=>match bindA (.tp is) a env with
   |some c=>.ok (.nx c) S1
   |none=>.bad):=q.imp λD C H ⟨m,S,env,s,l,o,p⟩=>⟨m,S,env,s,l,o,PostS.bind p λa S1 v r t _ u A w y b=>by
 #a with
 |d x =>
  #k:aZ (.tp is) x env with
  |none=>PK[bindA,k]at b;~b.elim
  |some n =>
   PK[bindA,k]at b;~bind_ok (z:=PV) (λh=>nomatch h) k (.inl y) (l.mono A u) o λj i g _=>b j r t (aAj _) (Fz.refl _) w i g
 |_=>~b.elim⟩
~IsPs.set{K}(r:IsP K H x u):∀ {l}{ws}(i),IsPs K H l ws->IsPs K H (l.set i x) (ws.set i u)
 |_,_,_,.nil=>.nil
 |_,_,0,.cons _ q=>.cons r q
 |_,_,i+1,.cons h q=>.cons h (IsPs.set r i q)
~PrK.put{K}(r:IsP K H x u)(h:PrK K H kvs ws):PrK K H (ck kvs k x) (d5 ws k u):=by
 @f:∀ {kvs}{ws},PrK K H kvs ws->(kvs.any λa=>decide (a.1=k))=(ws.any λa=>decide (a.1=k)):=by
  intro kvs ws h
  induction h with
  |nil=>rfl
  |cons h q b=>rw[aAQ,aAQ,b]
 @d:∀ {kvs}{ws},PrK K H kvs ws->PrK K H (kvs.map λa=>if a.1=k then(a.1,x)else a) (ws.map λa=>if a.1=k then(a.1,u)else a):=by
  intro kvs ws h
  induction h with
  |nil=>~.nil
  |@cons j y v kvs ws h q b =>
   rw[aAr,aAr]
   by_cases e:j=k
   ·rw[Lj e,Lj e];~.cons r b
   ·rw[Ln e,Ln e];~.cons h b
 @c:∀ {kvs}{ws},PrK K H kvs ws->PrK K H (kvs++[(k,x)]) (ws++[(k,u)]):=by
  intro kvs ws h
  induction h with
  |nil=>~.cons r .nil
  |cons h q b=>~.cons h b
 PL ck d5;rw[f h]
 split
 ·~d h
 ·~c h
§AS:BE:=λo i v H Q=>AA o i v H Q\/∃ a H',o=.ref a/\DPut H a i v H'/\Q H'
~yo(m:X.A.units+64 < LU):BF X AS:=by
 rintro b s k H o i v f l u Q I c d e (h | ⟨a,p,rfl,g,q⟩)
 ·~sH b s k H o i v f l u Q I c d e h
 ·#c
  ~qJ or I g d e λn j=>⟨_,j,q⟩
~Gx(he:PE X e (tE X.K X.mg E f))(ho:PE X o (tE X.K X.mg E g))(hi:PE X i (tE X.K X.mg E h))(hp:PS X (.Assign [.Subscript o i po] e pos) (si (tE X.K X.mg E f) (gSub (tE X.K X.mg E g) (tE X.K X.mg E h) AS))) :
  PS X (.Assign [.Subscript o i po] e pos) (tS X.K X.mg E λenv S=>(f env S).bind λv S1=>(g env S1).bind λx R=>(h env R).bind λy W=>(dR x y v W).bind λ_ S4=>.ok (.nx env) S4):=
 hp.imp λD σ H ⟨m,S,env,s,I,C,p⟩=>⟨m,S,env,s,I,C,PostS.bind p λv S1 u H1 m1 _ M L s1 rv p1 =>
  ⟨m1,S1,env,s1,I.mono L M,C,PostS.bind p1 λx R u2 H2 m2 _ w J s2 rx p2=>⟨m2,R,env,s2,(I.mono L M).mono J w,C,PostS.bind p2 λy W u3 H3 Z _ z O B ry a=>by
   #x with
   |r n =>
    #y with
    |d y0 =>
     #v with
     |d v0 =>
      &q,A,rfl:=RA.mono O z rx;@F:=IsP.fz (J.trans O) rv
      #l:W[n]? with
      |none=>PK[dR,l,Rs.bind_bad]at a;~a.elim
      |some ob =>
       #ob with
       |lst xs =>
        &Y,T,G:=B.obj n _ q l A
        #y0 with
        |int k =>
         #ry
         #Q:ixN xs° k with
         |none=>PK[dR,l,Q,Rs.bind_bad]at a;~a.elim
         |some j =>
          PK[dR,l,Q,Rs.bind_ok]at a;@fz:=B.fzput (u:=.lst (Y.set j u)) l A;!.inl ⟨q,Y,k,j,rfl,rfl,T,by rw[<- G°];~Q,?_⟩;~a σ _ Z (aAj _) fz (B.put l A ⟨_,aw,(IsPs.set F j G).fz fz⟩) (((I.mono L M).mono (J.trans O) (w.trans z)).mono fz (aAj _)) C
        |_=>PK[dR,l,Rs.bind_bad]at a;~a.elim
       |dic U =>
        &ws,T,G:=B.obj n _ q l A
        #N:aP? y0 with
        |none=>PK[dR,l,N,Rs.bind_bad]at a;~a.elim
        |some k =>
         by_cases P:U° < Ld
         ·PK[dR,l,N,Lj P,Rs.bind_ok]at a;@ek:=jU ry N;subst ek;@fz:=B.fzput (u:=.dK (d5 ws k u)) l A;!.inr ⟨q,_,rfl,DPut.k T (by rw[<- G°];~P),?_⟩;~a σ _ Z (aAj _) fz (B.put l A ⟨_,aw,(PrK.put F G).fz fz⟩) (((I.mono L M).mono (J.trans O) (w.trans z)).mono fz (aAj _)) C
         ·PK[dR,l,N,Ln P,Rs.bind_bad]at a;~a.elim
       |exc c=>PK[dR,l,Rs.bind_bad]at a;~a.elim
     |_=>~a.elim
    |_=>cases v <;> ~a.elim
   |_=>cases y <;> cases v <;> ~a.elim⟩⟩⟩
end
§du(S:Sto):Av->PY (Bool×PQ Dt×PQ (Nat×PQ Dt))
 |.d (.tup l)=>PN (PU,l,[])
 |.c ws=>PN (PU,ws.map Dt.str,[])
 |.l xs=>PN (PV,xs,[])
 |.r n=>match S[n]? with
  |some (.lst xs)=>PN (PV,xs,[(n,xs)])
  |_=>PR
 |_=>PR
§nN(x y:Av)(S:Sto):Rs Av:=match du S x,du S y with
 |some (_,l,g),PN (_,k,h)=>.ok (.it ((l.zip k).map λp=>.tup [p.1,p.2]) (g++h)) S
 |_,_=>.bad
section
variable {K:W.Frag}{mg:Str->PY Li}{E:XK}{X:Cx}{a b:Expr}{f g:En->Mo Av}{fs:En->Mo (PQ Av)}{pos:Pos}
§C0(K:W.Frag)(mg:Str->PY Li)(t:Bool)(l:PQ Dt)(gd:PQ (Nat×PQ Dt))(m1:PQ Ll)(H1:Hp)(p:Ll):Prop:=∀ H m S,m1 <+: m->Fz m1 m H1 H->Sim K mg H m S->aB S gd->∃ xs,SqE t K H p xs/\IsPs K H l xs
~dm:∀ {g h},aB S (g++h)->aB S g/\aB S h
 |[],h,q=>⟨trivial,q⟩
 |p :: g,h,q=>⟨⟨q.1,(dm q.2).1⟩,(dm q.2).2⟩
~uW(u:Sim K w i m1 S1)(r:RA K i m1 x v)(e:du S1 x=PN (t,l,gd)):∃ p,v=.ref p/\(∃ xs,SqE t K i p xs)/\C0 K w t l gd m1 i p:=by
 #x with
 |d z =>
  #z with
  |tup C =>
   #e
   &p,a,rfl,b,k,y:=IsP.unref r;PM p,rfl,⟨a,b⟩,λH m S j f s st=>⟨a,b.fz f k,y.fz f⟩
  |_=>cases e
 |c q =>
  #e
  &p,rfl,g:=r;PM p,rfl,⟨_,g i⟩,λH m S j f s st=>⟨_,g H,cq q⟩
 |l xs =>
  #e
  &p,a,rfl,b,k:=r;PM p,rfl,⟨a,b.sq⟩,λH m S j f s st=>⟨a,(b.fz f).sq,k.fz f⟩
 |r n =>
  &p,g,rfl:=r
  #h:S1[n]? with
  |none=>PK[du,h]at e;#e
  |some o =>
   #o with
   |lst xs =>
    PK[du,h]at e
    #e
    &a,b,k:=u.obj n _ p h g;!⟨p,rfl,⟨a,SqL.of b⟩,λH m S j f s st=>?_⟩;&q,A,B:=s.lst j g st.1;PM q,SqL.of A,B
   |_=>PK[du,h]at e;#e
 |it _ _=>~r.elim
~rk(z:C0 K A ta l I m1 B p)(G:C0 K A tb k P m1 B q):Walk K A PU ((l.zip k).map λp=>.tup [p.1,p.2]) (I++P) m1 B (uk ta tb K p q):=by
 !⟨λi H m S f g s st n=>?_,λi H m S f g s st n=>?_⟩
 ·&c,d:=dm st;&j,o,w:=z H m S f g s c;&h,r,t:=G H m S f g s d;&a,b,x,y,W,Y,C,E,r1,M,L:=CP w t n;!⟨⟨j,h,x,y,o,r,C,E⟩,λv U ⟨T,Z,X,e,O,Q,R,N⟩=>?_⟩;subst e Q;@F:=R j o;@D:=N h r;rw[C]at F;rw[E]at D;obtain rfl:=Option.some.inj F;obtain rfl:=Option.some.inj D;@u:=ay O (.tup [x,y]);PM u,_,L,.inr ⟨rfl,_,T,_,rfl,rfl,SqT.of aw,.cons (r1.same u) (.cons (M.same u) .nil)⟩
 ·&c,d:=dm st;&j,o,w:=z H m S f g s c;&h,r,t:=G H m S f g s d;rw[aAa,aA0,w°,t°]at n;PM j,h,o,r,n.symm
~C1(Z:Gl X "zip")(z:X.mg "zip" = PR)(hs:am a=PU)(c:am b=PU)(C:PE X a (tE X.K X.mg E f))(I:PE X b (tE X.K X.mg E g)) :
  PI X (.Tuple w kk o) (.Call (.Name "zip" p0) [a,b] [] pos) (tI X.K X.mg PU E λenv S=>(f env S).bind λx S1=>(g env S1).bind λy e=>nN x y e):=
 (ul Z z (a8 C (a8 I pa_nil (star1 c)) (star1 hs)) (by rw[star1 hs,star1 c];rfl) (star1 c)).imp λσ H R ⟨m,S,env,s,q,r,p⟩=>by
  rw[aK]at p;!⟨m,S,env,s,q,r,PostG.bind p λx S1 v H1 B _ T g1 s1 M t=>?_⟩;rw[aK]at t;!⟨B,S1,env,s1,q.mono g1 T,r,PostG.bind t λy e u Y L _ n P j F d=>?_⟩
  #h:du e x with
  |none=>PK[nN,h]at d;~d.elim
  |some q1 =>
   &A,l,gl:=q1
   #i:du e y with
   |none=>PK[nN,h,i]at d;~d.elim
   |some G =>
    &W,k,gk:=G;PK[nN,h,i,Rs.bind_ok]at d;&D,rfl,U,w2:=uW j (M.mono P n) h;&O,rfl,Q,J:=uW j F i;PM A,W,D,O,rfl,U,Q,d _ Y L (aAj _) (Fz.refl _) j (rk w2 J)
§nO:PQ Dt->PY (PQ (PQ Key))
 |[]=>PN []
 |.tup t :: l=>match t.mapM aP?,nO l with
  |some k,PN ks=>PN (k :: ks)
  |_,_=>PR
 |_=>PR
~lY:∀ {t:PQ Dt}{k},t.mapM aP?=PN k->t=k.map kDt
 |[],k,e=>by simp_all
 |x :: t,k,e=>by
  #b:aP? x with
  |none=>simp[b]at e
  |some a =>
   #c:t.mapM aP? with
   |none=>simp[ c]at e
   |some d =>
    simp[b,c]at e;subst e;rw[aAr,<- lY c]
    cases x <;> simp[aP?]at b <;> subst b <;> rfl
~o6:∀ {l}{a},nO l=PN a->l=a.map λt=>.tup (t.map kDt)
 |[],a,e=>by #e;rfl
 |.tup t :: l,a,e=>by
  unfold nO at e
  #b:t.mapM aP? with
  |none=>rw[b]at e;#e
  |some k =>
   #c:nO l with
   |none=>rw[b,c]at e;#e
   |some d =>
    rw[b,c]at e
    #e
    rw[aAr,<- o6 c,<- lY b]
 |.non :: _,_,e=>by #e
 |.bl _ :: _,_,e=>by #e
 |.int _ :: _,_,e=>by #e
 |.str _ :: _,_,e=>by #e
§dG:PQ Av->Mo Av
 |[.d x],S=>aF (fN x) S
 |[a],S=>match aA S a with
  |some l=>match nO l with
   |some ts=>if ts°<=2 then .ok (.d (.int (manyK ts:Nat))) S else .bad
   |none=>.bad
  |none=>.bad
 |_,_=>.bad
~uX(h:ts°<=2):manyK ts<=2:=by
 PL manyK
 split
 ·split <;> on
 ·~h
~yp{p O pos k:Pos}(hu:X.A.units+64 < LU)(P:X.calm=PU)(G:Gl X "len")(D:X.mg "len" = PR)(L:Gl X "set")(F:X.mg "set" = PR)(h1:am a=PU)(ha:PA X [a] (tL X.K X.mg E fs)) :
  PE X (.Call (.Name "len" p) [.Call (.Name "set" O) [a] [] k] [] pos) (tE X.K X.mg E λenv S=>(fs env S).bind λvs S1=>dG vs S1):=by
 @cs:ax X (.type "set") _:=λf s v H t z Q I r h=>Or.elim h (λh=>qM P f s v H t z Q I r h) λh=>q5 rfl P hu f s v H t z Q I r h;@W:ax X (.builtin "len") _:=λf s v H t z Q I r h=>Or.elim h (λh=>qN f s v H t z Q I r h) λh=>q7 f s v H t z Q I r h;@w:PE X (.Call (.Name "set" O) [a] [] k) _:=iH cs L F (by decide +kernel) ha (by decide) (by decide) (star1 h1) rfl;!(gf W G D (by decide +kernel) (a8 w pa_nil (star1 rfl)) (by decide) (by decide) (star1 rfl) rfl).imp λv H Q ⟨m,S,env,s,se,hl,p⟩=>⟨m,S,env,s,se,hl,PostG.bind p λas S1 vs H1 m1 _ pf g1 C ra g=>?_⟩
 #as with
 |nil=>~g.elim
 |cons y T =>
  #T with
  |cons _ _=>cases y <;> ~g.elim
  |nil =>
   #ra with
   |cons r1 r2 =>
    #r2
    have u:(∀ x,y≠.d x)->∃ l,aA S1 y=PN l/\Post X.K X.mg m1 H1 Q E (match nO l with
      |some A=>if A°<=2 then .ok (.d (.int (manyK A:Nat))) S1 else .bad
      |none=>.bad):=λB=>by
     #y with
     |d x=>~absurd rfl (B x)
     |it _ _=>~r1.elim
     |r n =>
      #e:aA S1 (.r n)with
      |none=>PK[dG,e]at g;~g.elim
      |some l=>PK[dG,e]at g;PM l,rfl,g
     |l t=>PM t,rfl,g
     |c R=>~g.elim
    by_cases B:∀ x,y≠.d x
    ·&l,e,o:=u B;&q,R,rfl,k1,k2:=aX C r1 e
     #M:nO l with
     |none=>rw[M]at o;~o.elim
     |some A =>
      rw[M]at o
      by_cases j:A°<=2
      ·PK[Lj j]at o;@Y:=o6 M;subst Y;~Or.inr ⟨q,A,R,rfl,k1,k2,j,λp J=>Or.inr ⟨p,_,rfl,aw,uX j,Post.datS C o (ay J _) .int⟩⟩
      ·PK[Ln j]at o;~o.elim
    ·#y with
     |d x0 =>
      #x0 with
      |tup l =>
       #q:l.mapM aP? with
       |none=>PK[dG,fN,q,aF]at g;~g.elim
       |some N =>
        by_cases j:N°<=1000
        ·PK[dG,fN,q,Lj j,aF]at g;&b,T,rfl,Z,_,U:=IsP.unref r1;@ek:=lM U q;subst ek;~Or.inl ⟨b,N,rfl,Z,j,λp J=>Or.inl ⟨p,_,rfl,aw,Post.datS C g (ay J _) .int⟩⟩
        ·PK[dG,fN,q,Ln j,aF]at g;~g.elim
      |_=>~g.elim
     |_=>~absurd (λx=>by intro e;#e) B
§o7(l:PQ (Str×PQ Str)):Av->Mo Av
 |.d (.str z),S=>match l.lookup z with
  |some ws=>.ok (.c ws) S
  |none=>.ok (.d .non) S
 |_,_=>.bad
~yq{ad}(L:cC X.K ad l')(C:∀ z,(l'.lookup z=PR/\l.lookup z=PR)\/∃ b ws,l'.lookup z=PN b/\l.lookup z=PN ws/\∀ H:Hp,SqT X.K H b (ws.map V.str))
  (O:Gl X x) (D:X.mg x=PN (.ref ad)) (hs:am a=PU) (B:PE X a (tE X.K X.mg E f)) (r:(x == ("__debug__"))=PV) (g:(j.endLine == c.line)=PU) :
  PE X (.Call (.Attribute (.Name x p) "get" j) [a] [] c) (tE X.K X.mg E λenv S=>(f env S).bind λy S1=>o7 l y S1):=by
 have k:((Mc c (Lq [a] X.env)).all (λx=>!x.1) && (Nn c (MQ [] X.env)).all (λx=>x.1.isSome)
   && decide (([a])°+([]:PQ Mx)°+(if([]:PQ Mx).isEmpty then 0 else 1) < 30))=true:=by
  rw[lQ (by simp[hs])]
  rfl
 !(tV L O D (a8 B pa_nil (star1 hs)) r rfl k g (star1 hs)).imp λR H Q ⟨m,S,env,s,A,N,p⟩=>?_;!⟨m,S,env,s,A,N,PostG.bind p λy S1 v I w _ P T u M h=>?_⟩
 #y with
 |d J =>
  #J with
  |str z =>
   #M
   !⟨z,rfl,?_⟩;rw[gV];rcases C z with⟨o,t⟩ | ⟨b,ws,o,t,F⟩
   ·rw[o];PK[o7,t]at h;~Post.dat u h .non
   ·rw[o];PK[o7,t]at h;~h _ I w (aAj _) (Fz.refl _) u ⟨_,rfl,F⟩
  |_=>~h.elim
 |_=>~h.elim
§uY:Dt->Bool
 |.non=>PU
 |.tup l=>decide ((Dt.tup l).dep<=60)
 |_=>PV
§ca:Dt->Bool
 |.non=>PU
 |_=>PV
§rm(y:Av)(S:Sto):Rs Av:=match aA S y with
 |some l=>if l.all uY then bl (l.any ca) S else .bad
 |none=>.bad
§Gy:Dt->PY Dt
 |.non=>PR
 |d=>PN d
~o8:∀ {l}{vs},IsPs K H l vs->IsOs K H (l.map Gy) vs
 |_,_,.nil=>.nil
 |_,_,.cons h r=>.cons (by cases h <;> first | rfl | ~.bl | ~.int | ~.str | (rename_i a c b;~.tup a c b)) (o8 r)
~lZ:∀ l:PQ Dt,(l.map Gy).any Option.isNone=l.any ca
 |[]=>rfl
 |d :: l=>by rw[aAr,aAQ,aAQ,lZ l];cases d <;> rfl
~AT(C:X.A.units+64 < LU):OpR X (Ls .In) (λx y H Q=>x=.non/\∃ m S b,Sim X.K X.mg H m S/\RA X.K H m b y/\Post X.K X.mg m H Q E (rm b S)):=by
 rintro a s i H x y v u Q I j r ⟨rfl,m,S,b,g,n,p⟩;unfold rm at p
 #e:aA S b with
 |none=>rw[e]at p;~p.elim
 |some l =>
  PK[e]at p;&q,B,rfl,k,w:=aX g n e
  by_cases c:l.all uY=PU
  ·rw[Lj c]at p;!Cq rfl C a s i H _ _ v u Q I j r ⟨rfl,q,_,B,rfl,k,o8 w,λo z d e=>?_,?_⟩
   ·&f,A,rfl:=aAc.mp z;@t:=aAf.mp c f A
    #f with
    |tup h=>cases e;PM h,rfl,My t
    |non=>cases e
    |_=>cases t
   ·rw[lZ];~Post.dat g p .bl
  ·rw[Ln c]at p;~p.elim
§yr(g:En->Mo Av):En->Mo Av:=λenv S=>(g env S).bind λy S1=>rm y S1
~uZ{c:Expr}:∀ a H Q,tE X.K X.mg E (yr g) a H Q->tOp (λx y H Q=>x=.non/\∃ m S b,Sim X.K X.mg H m S/\RA X.K H m b y/\Post X.K X.mg m H Q E (rm b S)) (tC .non) (tE X.K X.mg E g) a H Q:=λa H Q ⟨m,S,d,s,j,f,p⟩ =>
 ⟨m,S,d,s,j,f,PostG.bind p λy h v n i _ q o e l k=>⟨rfl,i,h,y,e,l,k⟩⟩
~Gz(d:X.A.units+64 < LU)(e:PE X b (tE X.K X.mg E g))(f:bN b=PU):PE X (.Compare (.Constant .none k p) [.In] [b] pos) (tE X.K X.mg E (yr g)):=
 (oF (AT d) jv e (cG _ f)).imp (uZ (c:=b))
~GA(d:X.A.units+64 < LU)(i:PE X b (tE X.K X.mg E g))(j:bN b=PU):PT X (.Compare (.Constant .none k p) [.In] [b] pos) (tQ X.K X.mg E (tst (yr g))):=
 (oG (AT d) jv i (cG _ j)).imp (jW λf H Q h=>uZ (c:=b) f H _ (h.mono λv l ⟨c,e,q⟩=>⟨c,e,q⟩))
end
§c8:PQ Av->PQ Nat
 |[]=>[]
 |.r n :: as=>n :: c8 as
 |.d _ :: as=>c8 as
 |.l _ :: as=>c8 as
 |.it _ _ :: as=>c8 as
 |.c _ :: as=>c8 as
§nP:Nat->PQ Av->PQ Av
 |_,[]=>[]
 |j,.r _ :: as=>.r j :: nP (j+1) as
 |j,.d x :: as=>.d x :: nP j as
 |j,.l x :: as=>.l x :: nP j as
 |j,.it x y :: as=>.it x y :: nP j as
 |j,.c x :: as=>.c x :: nP j as
§g8:PQ Nat->Sto->Sto->Sto
 |k :: ks,o :: os,S=>(g8 ks os S).set k o
 |_,_,S=>S
§rn(S:Sto):PQ Nat->PY Sto
 |[]=>PN []
 |k :: ks=>match S[k]? with
  |some o=>(rn S ks).map (o :: ·)
  |none=>PR
§l0(ks:PQ Nat)(S:Sto):Rs Av->Rs Av
 |.ok (.r j) S'=>match ks[j]? with
  |some k=>.ok (.r k) (g8 ks S' S)
  |none=>match S'[j]? with
   |some o=>.ok (.r S°) (g8 ks S' S++[o])
   |none=>.bad
 |.ok a S'=>.ok a (g8 ks S' S)
 |.ex c S'=>.ex c (g8 ks S' S)
 |.bad=>.bad
 |.br b x y=>.br b (l0 ks S x) (l0 ks S y)
§ro(C:PQ Av->Mo Av)(as:PQ Av):Mo Av:=λS =>
 if(c8 as).Nodup then match rn S (c8 as)with
  |some S0=>l0 (c8 as) S (C (nP 0 as) S0)
  |none=>.bad
 else .bad
section
variable {K:W.Frag}{mg:Str->PY Li}{H H':Hp}{m m' m0:PQ Ll}{S S' S0:Sto}{ks:PQ Nat}
~l3(s:Sim K mg H m S):∀ {ks}{g},ks.Nodup->rn S ks=PN g->∃ i,Sim K mg H i g/\i°=ks°/\(∀ (j k:Nat),ks[j]?=PN k->i[j]?=m[k]?/\k < S°)/\∀ a∈i,∃ k∈ks,m[k]?=PN a
 |[],g,_,e=>by
  #e
  PM [],⟨rfl,aBW,λn o a h=>nomatch h⟩,rfl,(λj k h=>nomatch h),(λa h=>nomatch h)
 |k :: ks,g,r,e=>by
  unfold rn at e
  #c:S[k]? with
  |none=>rw[c]at e;#e
  |some o =>
   #d:rn S ks with
   |none=>rw[c,d]at e;#e
   |some G =>
    rw[c,d]at e
    #e
    rw[aAY]at r;&x,q,C,z,u:=l3 s r.2 d;&a,t,E:=s.at c;@y:a∉x:=λh=>by
     &f,A,F:=u a h;@v:=aAg.mp t;@w:=aAg.mp F;&v,c:=v;&w,d:=w;@:=(aBs s.nod).mp (c.trans d.symm);~r.1 (this ▸ A)
    !⟨a :: x,⟨Mg _ q.len,aAY.mpr ⟨y,q.nod⟩,λn B b l p=>?_⟩,Mg Nat.succ C,λj f h=>?_,λb h=>?_⟩
    ·#n with
     |zero=>cases l;#p;~E
     |succ n=>~q.obj n B b l p
    ·#j with
     |zero=>cases h;PM t.symm,(aAg.mp c).1
     |succ j=>~z j f h
    ·rcases aAl.mp h with rfl | h
     ·PM k,aAe,t
     ·&f,l,p:=u b h;PM f,aAk _ l,p
~dn:∀ {as}{vs}(j),(∀ i k,(c8 as)[i]?=PN k->g[j+i]?=m[k]?)->RAs K H m as vs->RAs K H g (nP j as) vs
 |_,_,_,_,.nil=>.nil
 |.r n :: as,v :: vs,j,h,.cons r q=>by
  &a,e,b:=r;!.cons ⟨a,?_,b⟩ (dn _ (λi k f=>?_) q)
  ·rw[<- e];~h 0 n rfl
  ·rw[<- h (i+1) k f];congr 1;on
 |.d x :: as,v :: vs,j,h,.cons r q=>.cons r (dn j h q)
 |.l x :: as,v :: vs,j,h,.cons r q=>.cons r (dn j h q)
 |.it x y :: as,v :: vs,j,h,.cons r q=>.cons r (dn j h q)
 |.c x :: as,v :: vs,j,h,.cons r q=>.cons r (dn j h q)
~l4:∀ (ks) (os S),(g8 ks os S)°=S°
 |[],os,S=>rfl
 |k :: ks,[],S=>rfl
 |k :: ks,o :: os,S=>by PL g8;rw[aBd,l4 ks os S]
~o9:∀ {ks}{os S}{n}{o},ks°<=os°->ks.Nodup->(g8 ks os S)[n]?=PN o->(∃ j:Nat,ks[j]?=PN n/\os[j]?=PN o)\/(n∉ks/\S[n]?=PN o)
 |[],os,S,n,o,_,_,h=>.inr ⟨aAu,h⟩
 |k :: ks,[],S,n,o,l,_,_=>by #l
 |k :: ks,i :: os,S,n,o,l,d,h=>by
  unfold g8 at h;rw[aAY]at d
  by_cases e:n=k
  ·subst e;@g:n < (g8 ks os S)°:=by
    @:=(aAg.mp h).1
    rwa [aBd]at this
   rw[aA8 g]at h
   #h
   ~.inl ⟨0,rfl,rfl⟩
  ·rw[aA5 (Ne.symm e)]at h;rcases o9 (Nat.le_of_succ_le_succ l) d.2 h with⟨j,b,c⟩ | ⟨b,c⟩
   ·~.inl ⟨j+1,b,c⟩
   ·~.inr ⟨λq=>(aAl.mp q).elim e b,c⟩
~j0{b:Type}{l l'}(p:l <+: l'){j:Nat}{a:b}(h:l[j]?=PN a):l'[j]?=PN a:=by
 &t,rfl:=p;rw[aAw (aAg.mp h).1];~h
~l5(s:Sim K mg H m S)(y:ks.Nodup)(A:m0°=ks°)(h0:∀ (j k:Nat),ks[j]?=PN k->m0[j]?=m[k]?/\k < S°)(v:∀ a∈m0,∃ k∈ks,m[k]?=PN a)(r:m0 <+: m')(g:Fz m0 m' H H')(s':Sim K mg H' m' S'):Sim K mg H' m (g8 ks S' S)/\Fz m m H H':=by
 @F:∀ b,b∉m->b∉m0:=λb h q=>by
  &k,_,e:=v b q;~h (aAR e)
 @E:ks°<=S'°:=by
  rw[<- s'.len,<- A];&t,rfl:=r;rw[aAi];~aBD _ _
 !⟨⟨by rw[l4];~s.len,s.nod,λn o a B d=>?_⟩,⟨g.fz,λb o h e=>g.fr b o (F b h) e,λ_ h n=>absurd h n⟩⟩;rcases o9 E y B with⟨j,f,i⟩ | ⟨f,i⟩
 ·!s'.obj j o a i (j0 r ?_);rw[(h0 j n f).1];~d
 ·@z:a∉m0:=λq=>by
   &k,C,e:=v a q;&J,w:=aAg.mp d;&G,x:=aAg.mp e;@:=(aBs s.nod).mp (w.trans x.symm);~f (this ▸ C)
  ~(s.obj n o a i d).mono g λu D=>g.fr a u z D
~yt(h:Post K mg m H Q E (l0 ks S r)):Post K mg m H Q E (l0 ks S r.res):=by
 induction r with
 |br b x y c a =>
  #b
  ·~a (h.2 rfl)
  ·~c (h.1 rfl)
 |_=>~h
~u0(s:Sim K mg H m S)(ra:RAs K H m as vs)(p:Post K mg m H Q E (ro C as S)):spC K mg C vs H Q E:=by
 unfold ro at p
 by_cases z:(c8 as).Nodup
 ·rw[Lj z]at p
  #e:rn S _ with
  |none=>rw[e]at p;~p.elim
  |some R =>
   rw[e]at p;&I,s0,N,J,O:=l3 s z e;!⟨I,R,_,s0,dn 0 (λi k h=>by simp_all) ra,?_⟩;replace p:=yt p;!PostG.of_res ?_
   #G:(C _ R).res with
   |br _ _ _=>~absurd G Rs.res_br
   |bad=>rw[G]at p;~p
   |ex c T =>
    rw[G]at p;intro Ca f m' Z w g F;&n,u:=l5 s z N J O w g F;~p Ca f m Z (aAj _) u n
   |ok a T =>
    rw[G]at p;intro v f m' w g F D;&n,u:=l5 s z N J O w g F
    #a with
    |d x=>~p v f m (aAj _) u n D
    |l x=>~p v f m (aAj _) u n D
    |it x y=>~D.elim
    |c x=>~p v f m (aAj _) u n D
    |r j =>
     &a,A,rfl:=D
     #B:(c8 as)[j]? with
     |some k =>
      PK[l0,B]at p;!p _ f m (aAj _) u n ⟨a,?_,rfl⟩;rw[<- (J j k B).1];@W:j < I°:=by rw[N];~(aAg.mp B).1
      &t,rfl:=w;rw[aAw W]at A;~A
     |none =>
      #L:T[j]? with
      |none=>PK[l0,B,L]at p;~p.elim
      |some o =>
       PK[l0,B,L]at p;@W:I°<=j:=by simp_all
       @n0:a∉I:=λq=>by
        &i,hi,e:=aAS.mp q;@q1:=j0 w (aAg.mpr ⟨hi,e⟩);&i1,e1:=aAg.mp q1;&i2,Y:=aAg.mp A;@:=(aBs F.nod).mp (e1.trans Y.symm);on
       @P:=g.nw a (aAR A) n0;!p _ f _ (aAZ _ _) ⟨g.fz,u.fr,λb hb X=>?_⟩ (n.app (s.ne P) (F.obj j o a L A)) ⟨a,?_,rfl⟩
       ·rcases aAG.mp hb with q | q
        ·~absurd q X
        ·rw[aAy.mp q];~P
       ·rw[<- s.len,aAt (aAo _),aA9];rfl
 ·rw[Ln z]at p;~p.elim
end
section
variable {E:XK}{X:Cx}{e:Expr}{es:PQ Expr}{fs:En->Mo (PQ Av)}{pos p:Pos}{C:PQ Av->Mo Av}{x:Str}{st:LP}{ps:PQ Str}{fa:Ll}{fd:MS}{n:Nat}
~C3(D:Gn X.K X.mg x st ps fa fd)(F:FnOk X.prog X.w X.K X.mg X.base (bY X.prog X.w) n fa fd ps (spC X.K X.mg C))(j:Room n X.A)(t:Gl X x)(f:eK (bY X.prog X.w) X E)(k:PA X (e :: es) (tL X.K X.mg E fs))(b:(x == ("__debug__"))=false:=by decide)(a:(e :: es).all am=true:=by rfl) :
  PE X (.Call (.Name x p) (e :: es) [] pos) (tE X.K X.mg E λenv S=>(fs env S).bind λvs S1=>ro C vs S1):=by
 rw[aAL,aAn]at a;!(xm F j t D.m D.F.kp D.b .nil f k b (star1 a.1) (eB a.2)).imp λA H Q ⟨m,S,env,s,i,q,p⟩=>?_;!⟨m,S,env,s,i,q,PostG.bind p λw S1 vs v z _ y B c o l=>?_⟩;rw[aAA];~u0 c o l
end
§Le{α:Type}(r r':Rs α):Prop:=r.res=.bad\/r.res=r'.res
~Le.refl(r:Rs a):Le r r:=.inr rfl
section
variable {α β γ:Type}{r r':Rs α}{K:W.Frag}{mg:Str->PY Li}{R:Hp->PQ Ll->α->β->Prop}{H:Hp}{m:PQ Ll}{Q:β->Hp->Prop}{E:XK}
~Le.post(h:Le r r')(p:PostG K mg R m H Q E r):PostG K mg R m H Q E r':=by
 @a:=PostG.to_res p;rcases h with e | e
 ·rw[e]at a;~a.elim
 ·rw[e]at a;~PostG.of_res a
~Le.bind'{f d:α->Mo γ}(h:Le r g)(k:∀ a S,r.res=.ok a S->Le (f a S) (d a S)):Le (r.bind f) (g.bind d):=by
 PL Le;rw[Rs.bindRes,Rs.bindRes (r:=g)];rcases h with e | e
 ·rw[e];~.inl rfl
 ·rw[<- e]
  #q:r.res with
  |ok a S=>~k a S q
  |ex c S=>~.inr rfl
  |bad=>~.inl rfl
  |br b x y=>~absurd q Rs.res_br
~Le.bind{f b:α->Mo γ}(h:Le r c)(k:∀ a S,Le (f a S) (b a S)):Le (r.bind f) (c.bind b):=h.bind' λa S _=>k a S
~Le.then{f b:α->Mo γ}(k:∀ a S,Le (f a S) (b a S)):Le (r.bind f) (r.bind b):=(Le.refl r).bind k
~aC:∀ {r},(tidy n r).res=tidy n r.res
 |.ok (.d _) _=>rfl
 |.ok (.r _) _=>rfl
 |.ok (.l _) _=>rfl
 |.ok (.it _ _) _=>rfl
 |.ok (.c _) _=>rfl
 |.ex _ _=>rfl
 |.bad=>rfl
 |.br b x y=>by
  #b
  ·~aC (r:=y)
  ·~aC (r:=x)
~Le.tidy{r a}(h:Le r a):Le (tidy n r) (tidy n a):=by
 PL Le;rw[aC,aC];rcases h with e | e
 ·rw[e];~.inl rfl
 ·rw[e];~.inr rfl
~Le.postS{r c}(h:Le r c)(p:PostS K mg m H D E r):PostS K mg m H D E c:=by
 !PostS.of_res ?_;@a:PostS K mg m H D E r.res:=by
  clear h
  induction r with
  |br b x y g f =>
   #b
   ·~f (p.2 rfl)
   ·~g (p.1 rfl)
  |_=>~p
 rcases h with e | e
 ·rw[e]at a;~a.elim
 ·rw[e]at a;~a
end
§isB:Dt->Bool
 |.bl _=>PU
 |_=>PV
§bv:Dt->Bool
 |.bl b=>b
 |_=>PV
§isI:Dt->Bool
 |.int _=>PU
 |_=>PV
§iv:Dt->Int
 |.int i=>i
 |_=>0
§ak:Rs Av->Bool
 |.ok (.d _) _=>PU
 |_=>PV
§ae:Rs Av->Dt
 |.ok (.d x) _=>x
 |_=>.non
§pu(r:Mo Av):Mo Av:=λS=>.br (ak (r [])) (.ok (.d (ae (r []))) S) .bad
§Pu(r:Mo Av):Prop:=∃ o,∀ S,r S=aF o S
~dH(h:Pu r)(S):Le (pu r S) (r S):=by
 &o,h:=h;PL pu;rw[h [],h S]
 #o with
 |none=>~.inl rfl
 |some x=>~.inr rfl
~cQ(x):Pu λS=>.ok (.d x) S:=⟨PN x,λ_=>rfl⟩
~pu_bad:Pu λ_=>.bad:=⟨PR,λ_=>rfl⟩
~ja[Decidable c](h:Pu a)(k:Pu b):Pu λS=>if c then a S else b S:=by
 by_cases q:c
 ·PK[Lj q];~h
 ·PK[Ln q];~k
~pg(o):Pu (aF o):=⟨o,λ_=>rfl⟩
§chB{α:Type}(x:Av)(a b:Rs α):Rs α:=match x with
 |.d y=>.br (isB y) (.br (bv y) a b) .bad
 |_=>.bad
~dI{a a' b e:Rs h}(f:Le a a')(g:Le b e):Le (chB x a b) (choose x a' e):=by
 #x with
 |d y =>
  #y with
  |bl c =>
   #c
   ·~g
   ·~f
  |_=>~.inl rfl
 |_=>~.inl rfl
§o2(p:Av->Av->Mo Av):Av->Av->Mo Av
 |.d x,.d y=>pu (p (.d x) (.d y))
 |.d x,.c w=>pu (p (.d x) (.c w))
 |a,b=>p a b
~fx(h:∀ x y,Pu (p (.d x) (.d y)))(h':∀ x w,Pu (p (.d x) (.c w)))(a b)(S):Le (o2 p a b S) (p a b S):=by
 #a with
 |d x =>
  #b with
  |d y=>~dH (h x y) S
  |c w=>~dH (h' x w) S
  |_=>~.refl _
 |_=>~.refl _
~pu_int(x y):Pu (cj p (.d x) (.d y)):=by
 cases x <;> cases y <;> first | ~pu_bad | skip
 rename_i i j
 #e:p i j with
 |none=>~⟨PR,λS=>by PK[cj,e];rfl⟩
 |some z=>~⟨PN z,λS=>by PK[cj,e];rfl⟩
~ph(x)(w):Pu (cj p (.d x) (.c w)):=by cases x <;> ~pu_bad
~u4[Decidable p]{x:Rs a}:Le (.br (decide p) x .bad) (if p then x else .bad):=by
 by_cases h:p
 ·rw[Lh h,Lj h];~.inr rfl
 ·rw[Lv h];~.inl rfl
~GB{x:Rs a}:Le (.br b x .bad) (if b then x else .bad):=by cases b <;> first | ~.inl rfl | ~.inr rfl
§C4(o:Bo)(a b:Av):Mo Av:=match o,a,b with
 |.add,.r n,b=>λS=>match aA S (.r n),aA S b with
  |some xs,PN ys=>.br (decide (xs°+ys°<=Ld)) (newL (xs++ys) S) .bad
  |_,_=>.bad
 |o,a,b=>o2 (aj o) a b
~GC(o)(a b)(S):Le (o2 (aj o) a b S) (aj o a b S):=fx (λx y=>by
  #o with
  |add=>cases x <;> cases y <;> first | ~pu_bad | ~cQ _ | ~ja (cQ _) pu_bad
  |_=>PL aj;~pu_int x y) (λx w=>by
  #o with
  |add=>cases x <;> ~pu_bad
  |_=>PL aj;~ph x w) a b S
~C5(o)(a b)(S):Le (C4 o a b S) (aj o a b S):=by
 PL C4
 split
 ·rename_i n
  have e:aj .add (.r n) b S=match aA S (.r n),aA S b with
   |some c,PN d=>if c°+d°<=Ld then newL (c++d) S else .bad
   |_,_=>.bad:=by cases b <;> rfl
  rw[e]
  cases aA S _ <;> cases aA S b <;> first | ~u4 | ~.refl _
 ·~GC _ _ _ S
§eqB(f:Bool->Bool):Av->Av->Mo Av
 |.d x,.d y,S=>.br (decide (x.dep<=60)) (bl (f (eqD x y)) S) .bad
 |a,b,S=>match aA S a,aA S b with
  |some xs,PN ys=>.br (decide (al xs<=60)) (bl (f (bu xs ys)) S) .bad
  |_,_=>.bad
~AU(f)(a b)(S):Le (eqB f a b S) (eqA f a b S):=by
 rcases d:aA S a with _ | e <;> rcases c:aA S b with _ | g <;> cases a <;> cases b <;> first | ~u4 | (PK[eqB,eqA,d,c];~u4) | (PK[eqB,eqA,d,c];~.refl _)
§C6(f:Bool->Bool):Av->Av->Mo Av
 |.d x,.d y,S=>.br (ca y) (bl (f (ca x)) S) (isA f (.d x) (.d y) S)
 |a,b,S=>isA f a b S
~AV(f)(a b)(S):Le (C6 f a b S) (isA f a b S):=by
 #a with
 |d x =>
  #b with
  |d y=>cases y <;> first | ~.refl _ | (cases x <;> ~.refl _)
  |_=>~.refl _
 |_=>~.refl _
§inB(o:Co)(f:Bool->Bool)(a b:Av):Mo Av:=match a,b with
 |.d x,.r n=>λS=>match S[n]? with
  |some (.lst l)=>.br (aH x && l.all aH) (bl (f (inD x l)) S) .bad
  |_=>av o (.d x) (.r n) S
 |a,b=>o2 (av o) a b
~u5(h:av o=inA f)(k:∀ a b S,Le (o2 (av o) a b S) (av o a b S))(a b)(S):Le (inB o f a b S) (av o a b S):=by
 PL inB
 split
 ·rename_i x n
  #e:S[n]? with
  |none=>~.refl _
  |some z =>
   #z with
   |lst l =>
    rw[h];@c:inA f (.d x) (.r n) S=if aH x && l.all aH then bl (f (inD x l)) S else .bad:=by cases x <;> PK[inA,aA,e]
    rw[c];~GB
   |_=>~.refl _
 ·~k _ _ S
§j3:Co->Av->Av->Mo Av
 |.eq=>eqB λb=>b
 |.ne=>eqB λb=>!b
 |.is=>C6 λb=>b
 |.isn=>C6 λb=>!b
 |.lt=>o2 (av .lt)
 |.le=>o2 (av .le)
 |.gt=>o2 (av .gt)
 |.ge=>o2 (av .ge)
 |.inn=>inB .inn λb=>b
 |.nin=>inB .nin λb=>!b
~j4(x y):Pu (gJ p q (.d x) (.d y)):=by
 cases x <;> cases y <;> first | ~pu_bad | ~cQ _ | skip
 rename_i i j
 #e:q i j with
 |none=>~⟨PR,λS=>by PK[gJ,e];rfl⟩
 |some z=>~⟨PN _,λS=>by PK[gJ,e];rfl⟩
~fS(x)(w):Pu (gJ p q (.d x) (.c w)):=by cases x <;> ~pu_bad
~AW(x y):Pu (inA f (.d x) (.d y)):=by
 cases x <;> cases y <;> first | ~pu_bad | ~cQ _ | ~ja (cQ _) pu_bad
~u6(x)(w):Pu (inA f (.d x) (.c w)):=by
 cases x <;> first | ~⟨PN _,λ_=>rfl⟩ | PM PR,λ_=>rfl
~dU(o)(a b)(S):Le (j3 o a b S) (av o a b S):=by
 #o with
 |eq=>PL j3 av;~AU _ a b S
 |ne=>~AU _ a b S
 |is=>PL j3 av;~AV _ a b S
 |isn=>~AV _ a b S
 |inn=>~u5 (f:=λb=>b) rfl (fx (by PL av;~AW) (by PL av;~u6)) a b S
 |nin=>~u5 rfl (fx (by ~AW) (by ~u6)) a b S
 |lt=>~fx (by PL av;~j4) (by PL av;~fS) a b S
 |le=>~fx (by PL av;~j4) (by PL av;~fS) a b S
 |gt=>~fx (by PL av;~j4) (by PL av;~fS) a b S
 |ge=>~fx (by PL av;~j4) (by PL av;~fS) a b S
§ixB:Av->Av->Mo Av
 |.d x,.d y=>pu (ixA (.d x) (.d y))
 |.r n,.d y=>λS=>match S[n]? with
  |some (.lst l)=>.br (isI y && (atI l (iv y)).isSome) (.ok (.d ((atI l (iv y)).getD .non)) S) .bad
  |some (.dic kvs)=>.br (aP? y).isSome (.br (au kvs ((aP? y).getD (.inl 0))).isSome (.ok (.d ((au kvs ((aP? y).getD (.inl 0))).getD .non)) S) .bad) .bad
  |_=>.bad
 |a,b=>ixA a b
~c9{r a:Rs c}(h:b=PU->Le r a):Le (.br b r .bad) a:=by
 #b
 ·~.inl rfl
 ·~h rfl
~AX:Le (.br o.isSome (.ok (.d (o.getD .non)) S) .bad) (aF o S):=by
 #o with
 |none=>~.inl rfl
 |some x=>~.inr rfl
~GD(a b)(S):Le (ixB a b S) (ixA a b S):=by
 #a with
 |d x =>
  #b with
  |d y=>~dH (by cases x <;> cases y <;> first | ~pu_bad | ~pg _ | ~ja (pg _) pu_bad) S
  |_=>~.refl _
 |r n =>
  #b with
  |d y =>
   PL ixB;dsimp only
   #e:S[n]? with
   |none=>~.inl rfl
   |some o =>
    #o with
    |lst l =>
     #y with
     |int i=>PK[ixA,e];~AX
     |_=>~.inl rfl
    |dic c =>
     PK[ixA,e]
     #aP? y with
     |none=>~.inl rfl
     |some k=>~c9 λ_=>AX
    |_=>~.inl rfl
  |_=>~.refl _
 |_=>~.refl _
§slB(a:Av)(lo hi:PY Int):Mo Av:=match a with
 |.d x=>pu (slA (.d x) lo hi)
 |a=>slA a lo hi
~GE(a)(lo b)(S):Le (slB a lo b S) (slA a lo b S):=by
 #a with
 |d x=>~dH (by cases x <;> first | ~pu_bad | ~cQ _ | ~ja (cQ _) pu_bad) S
 |_=>~.refl _
§GF:Av->Mo (PY Int)
 |.d y,S=>.br (isI y) (.ok (PN (iv y)) S) .bad
 |_,_=>.bad
~C7(a)(S):Le (GF a S) (asI a S):=by
 #a with
 |d y=>cases y <;> first | ~.inl rfl | ~.inr rfl
 |_=>~.refl _
§GG:Av->Mo Av
 |.d y,S=>.br (isI y) (.ok (.d (.int (-(iv y)))) S) .bad
 |_,_=>.bad
~C8(a)(S):Le (GG a S) (match a with
  |.d (.int i)=>.ok (.d (.int (-i))) S
  |_=>.bad):=by
 #a with
 |d y=>cases y <;> first | ~.inl rfl | ~.inr rfl
 |_=>~.inl rfl
§bf1:Bf->Bool
 |.len | .abs | .str | .ord=>PU
 |_=>PV
§lsB(f:Bf)(l:PQ Dt):Mo Av:=λS=>match f with
 |.all=>.br (l.all isB) (bl (l.all bv) S) .bad
 |.sum=>.br (l.all isI) (.ok (.d (.int (l.map iv).sum)) S) .bad
 |_=>.bad
§j5:Dt->Bool
 |.tup [.str _,_]=>PU
 |_=>PV
§sv:Dt->Str
 |.str z=>z
 |_=> ""
§prs?(l:PQ Dt):PQ (Str×Dt):=l.map λx=>(sv (ag 0 x),ag 1 x)
~u7:∀ {l},l.all j5=PU->cD l=PN (prs? l)
 |[],_=>rfl
 |.tup [.str z,d] :: l,h=>by
  show(cD l).map _=_;rw[u7 (l:=l) h]
  rfl
 |.non :: _,h | .int _ :: _,h | .str _ :: _,h | .bl _ :: _,h | .tup [] :: _,h | .tup [_] :: _,h | .tup (_ :: _ :: _ :: _) :: _,h | .tup [.non,_] :: _,h | .tup [.bl _,_] :: _,h | .tup [.int _,_] :: _,h | .tup [.tup _,_] :: _,h=>by simp[j5]at h
§GH(x:Dt)(S:Sto):Rs Av:=match x with
 |.tup l=>.br (l.all j5) (.br (decide (((prs? l).map (·.1)).Nodup/\(prs? l)°<=1000)) (ut (named (prs? l)) S) .bad) .bad
 |_=>.bad
~C9(x)(S):Le (GH x S) (gK (.d x) S):=by
 #x with
 |tup l =>
  show Le (.br _ _ _) _
  #h:l.all j5 with
  |false=>~.inl rfl
  |true =>
   by_cases b:((prs? l).map (·.1)).Nodup/\(prs? l)°<=1000
   ·rw[Lh b];!.inr ?_;PK[gK,u7 h,Lj b]
    rfl
   ·rw[Lv b];~.inl rfl
 |_=>~.inl rfl
§kS:Key×Dt->Bool
 |(.inr _,_)=>PU
 |_=>PV
§kSv:Key×Dt->Str
 |(.inr z,_)=>z
 |_=> ""
§kI:Key×Dt->Bool
 |(.inl _,_)=>PU
 |_=>PV
§kIv:Key×Dt->Int
 |(.inl z,_)=>z
 |_=>0
~pj:∀ {l},l.all kS=PU->dE l=PN (l.map kSv)
 |[],_=>rfl
 |(.inr z,d) :: l,h=>by
  show(dE l).map _=_;rw[pj (l:=l) h]
  rfl
 |(.inl _,_) :: _,h=>by #h
~pk:∀ {l},l.all kI=PU->eh l=PN (l.map kIv)
 |[],_=>rfl
 |(.inl z,d) :: l,h=>by
  show(eh l).map _=_;rw[pk (l:=l) h]
  rfl
 |(.inr _,_) :: _,h=>by #h
~yu:∀ {l},l.all kS=PV->l.all kI=PU->dE l=PR
 |[],h,_=>by #h
 |(.inl z,d) :: l,_,_=>rfl
 |(.inr _,_) :: _,_,h=>by #h
§pp(n:Nat)(S:Sto):Rs Av:=match S[n]? with
 |some (.dic kvs)=>.br (kvs.all kS) (.br (decide ((kvs.map kSv)° < 64)) (newL ((sortS (kvs.map kSv)).map Dt.str) S) .bad) (.br (kvs.all kI) (.br (decide ((kvs.map kIv)° < 64)) (newL ((sortI (kvs.map kIv)).map Dt.int) S) .bad) .bad)
 |_=>aR (.r n) S
~yv(n)(S):Le (pp n S) (aR (.r n) S):=by
 PL pp
 #e:S[n]? with
 |none=>~.refl _
 |some o =>
  #o with
  |dic a =>
   dsimp only;have j:aR (.r n) S=match dE a with
    |some g=>if g° < 64 then newL ((sortS g).map Dt.str) S else .bad
    |none=>match eh a with
     |some f=>if f° < 64 then newL ((sortI f).map Dt.int) S else .bad
     |none=>.bad:=by PK[aR,aA,eQ,e] <;> rfl
   rw[j]
   #h:a.all kS with
   |true =>
    rw[pj h]
    by_cases c:(a.map kSv)° < 64
    ·rw[Lh c];~.inr (by PK[Lj c];rfl)
    ·rw[Lv c];~.inl rfl
   |false =>
    #i:a.all kI with
    |false=>~.inl rfl
    |true =>
     rw[yu h i,pk i]
     by_cases c:(a.map kIv)° < 64
     ·rw[Lh c];~.inr (by PK[Lj c];rfl)
     ·rw[Lv c];~.inl rfl
  |_=>~.refl _
§eT(f:Bf):PQ Av->Mo Av
 |[.d x]=>bif bf1 f then pu (aV f (.d x))else λS=>match f with
  |.dict=>GH x S
  |f=>aV f (.d x) S
 |[a]=>λS=>match f with
  |.sorted=>match a with
   |.r n=>pp n S
   |a=>aV .sorted a S
  |.all=>onL (lsB .all) a S
  |.sum=>onL (lsB .sum) a S
  |f=>aV f a S
 |[a,b]=>o2 (blt2 f) a b
 |_=>λ_=>.bad
~u8:∀ {l},l.all isB=PU->iy l=PN (l.map bv)
 |[],_=>rfl
 |.bl b :: l,h=>by
  show(iy l).map _=_;rw[u8 (l:=l) h]
  rfl
 |.non :: _,h | .int _ :: _,h | .str _ :: _,h | .tup _ :: _,h=>by #h
~pq:∀ {l},l.all isI=PU->dC l=PN (l.map iv)
 |[],_=>rfl
 |.int b :: l,h=>by
  show(dC l).map _=_;rw[pq (l:=l) h]
  rfl
 |.non :: _,h | .bl _ :: _,h | .str _ :: _,h | .tup _ :: _,h=>by #h
~u9(h:∀ l S,Le (g l S) (g' l S))(a)(S):Le (onL g a S) (onL g' a S):=by
 PL onL
 #aA S a with
 |none=>~.refl _
 |some l=>~h l S
~nQ(f)(S)(a)(h:∀ f,eT f [a] S=match f with
  |.sorted=>match a with
   |.r n=>pp n S
   |a=>aV .sorted a S
  |.all=>onL (lsB .all) a S
  |.sum=>onL (lsB .sum) a S
  |f=>aV f a S):Le (eT f [a] S) (aV f a S):=by
 rw[h];@b:∀ a,Le _ (aV .all a S):=λa=>u9 (λl S=>c9 λh=>by rw[u8 h];~.inr (by simp;rfl)) a S;@c:∀ a,Le _ (aV .sum a S):=λa=>u9 (λl S=>c9 λh=>by rw[pq h];~.inr rfl) a S
 cases f <;> first | ~.refl _ | ~b a | ~c a | ~(by cases a <;> first | ~.refl _ | ~yv _ S)
~GI(f)(a)(S):Le (eT f [a] S) (lI f [a] S):=by
 #a with
 |d x =>
  cases f <;> first | ~.refl _ | ~C9 x S | ~dH (pg _) S | ~dH (by cases x <;> first | ~pu_bad | ~cQ _ | ~ja (cQ _) pu_bad) S
 |it _ _=>cases f <;> ~.refl _
 |r n=>~nQ f S _ λ_=>rfl
 |l n=>~nQ f S _ λ_=>rfl
 |c n=>~nQ f S _ λ_=>rfl
~Da(f)(vs)(S):Le (eT f vs S) (lI f vs S):=by
 #vs with
 |nil=>~.refl _
 |cons a l =>
  #l with
  |nil=>~GI f a S
  |cons b l =>
   #l with
   |nil =>
    @e:eT f [a,b] S=o2 (blt2 f) a b S:=by cases a <;> rfl
    rw[e];~fx (λx y=>by cases f <;> unfold blt2 <;> first | ~pu_bad | ~pu_int x y) (λx w=>by cases f <;> unfold blt2 <;> first | ~pu_bad | ~ph x w) a b S
   |cons c l =>
    @e:eT f (a :: b :: c :: l) S=.bad:=by cases a <;> rfl
    rw[e];~.inl rfl
§GJ(a:Av)(t:Ty):Mo Av:=match a with
 |.d x=>pu (eR (.d x) t)
 |a=>eR a t
~Db(a)(t)(S):Le (GJ a t S) (eR a t S):=by
 #a with
 |d x=>~dH (by cases x <;> cases t <;> first | ~pu_bad | ~cQ _) S
 |_=>~.refl _
§AY(l:PQ (Str×Int)):Av->Mo Av
 |.d x=>pu (gL l (.d x))
 |a=>gL l a
~yw(l)(a)(S):Le (AY l a S) (gL l a S):=by
 #a with
 |d x=>~dH (by cases x <;> first | ~pu_bad | ~cQ _) S
 |_=>~.refl _
§GK:PQ Av->Mo Av
 |[.d x]=>pu (dG [.d x])
 |vs=>dG vs
~Dc(vs)(S):Le (GK vs S) (dG vs S):=by
 match vs with
 |[]=>~.refl _
 |[.d x]=>~dH (pg _) S
 |[.r _]=>~.refl _
 |[.l _]=>~.refl _
 |[.it _ _]=>~.refl _
 |[.c _]=>~.refl _
 |.d _ :: _ :: _=>~.refl _
 |.r _ :: _ :: _=>~.refl _
 |.l _ :: _ :: _=>~.refl _
 |.it _ _ :: _ :: _=>~.refl _
 |.c _ :: _ :: _=>~.refl _
§yx:Dt->Bool
 |.str _=>PU
 |_=>PV
~pA:∀ {l},l.all yx=PU->bi l=PN (l.map sv)
 |[],_=>rfl
 |.str b :: l,h=>by
  show(bi l).map _=_;rw[pA (l:=l) h]
  rfl
 |.non :: _,h | .bl _ :: _,h | .int _ :: _,h | .tup _ :: _,h=>by #h
§dzB:PQ Av->Mo Av
 |[.d (.tup l),.d (.tup us)],S=>.br (l.all yx) (.br (decide (us°=(l.map sv)°/\(l.map sv).Nodup/\(l.map sv)°<=1000)) (ut (named ((l.map sv).zip us)) S) .bad) .bad
 |_,_=>.bad
~GL(vs)(S):Le (dzB vs S) (fq vs S):=by
 PL dzB
 split
 ·rename_i l d
  !c9 λh=>?_
  by_cases c:d°=(l.map sv)°/\(l.map sv).Nodup/\(l.map sv)°<=1000
  ·rw[Lh c];!.inr ?_;PK[fq,pA h,Lj c]
   rfl
  ·rw[Lv c];~.inl rfl
 ·~.inl rfl
§AZ:PQ Av->Mo Av
 |[.d x,.d y]=>pu (dF [.d x,.d y])
 |_=>λ_=>.bad
~yz(vs)(S):Le (AZ vs S) (dF vs S):=by
 match vs with
 |[.d x,.d y]=>~dH (by cases x <;> cases y <;> first | ~pu_bad | ~ja (cQ _) pu_bad) S
 |[]=>~.inl rfl
 |[a]=>cases a <;> ~.inl rfl
 |a :: b :: c :: l=>cases a <;> cases b <;> ~.inl rfl
 |[.r _,_] | [.l _,_] | [.it _ _,_] | [.c _,_] | [.d _,.r _] | [.d _,.l _] | [.d _,.it _ _] | [.d _,.c _]=>~.inl rfl
§Dd(y:Av)(S:Sto):Rs Av:=match aA S y with
 |some l=>.br (l.all uY) (bl (l.any ca) S) .bad
 |none=>.bad
~De(y)(S):Le (Dd y S) (rm y S):=by
 PL Dd rm
 #aA S y with
 |none=>~.refl _
 |some l=>~c9 λh=>by PK[Lj h];~.refl _
§isS:Dt->Bool
 |.tup _=>PU
 |.str _=>PU
 |_=>PV
§srcL:Dt->PQ Dt
 |.tup l=>l
 |.str z=>z.cps.toList.map λc=>.str ⟨#[c]⟩
 |_=>[]
§Df(a:Av)(S:Sto):Rs Src:=match a with
 |.d x=>.br (isS x) (.ok (srcL x,[]) S) .bad
 |.it _ _=>.bad
 |a=>dQ a S
~Dg(a)(S):Le (Df a S) (dQ a S):=by
 #a with
 |d x=>cases x <;> first | ~.inl rfl | ~.inr rfl
 |it _ _=>~.inl rfl
 |_=>~.refl _
~Dh(h:(Df a S).res=.ok l S1):aB S1 l.2:=by
 #a with
 |d x=>cases x <;> cases h <;> trivial
 |it _ _=>cases h
 |c _=>cases h
 |l _=>cases h;trivial
 |r n =>
  change (dQ (.r n) S).res=_ at h
  #e:S[n]? with
  |none=>PK[dQ,e]at h;#h
  |some o =>
   #o with
   |lst f=>PK[dQ,e]at h;#h;PM e,trivial
   |_=>PK[dQ,e]at h;#h
§inR:Int->Bool
 |.ofNat n=>Nat.ble n 4611686018427387903
 |.negSucc n=>Nat.ble n 4611686018427387903
~dq:inR i=PU↔-(2 ^ 62)<=i/\i < 2 ^ 62:=by
 #i with
 |ofNat n=>PL inR;rw[Nat.ble_eq];show _↔-(2 ^ 62)<=(n:Int)/\(n:Int) < 2 ^ 62;on
 |negSucc n=>PL inR;rw[Nat.ble_eq,Int.negSucc_eq];on
§va:Av->Mo Src
 |.d y,S=>.br (isI y && inR (iv y)) (.ok (rngL 0 1 (iv y).toNat,[]) S) .bad
 |_,_=>.bad
§vc:Av->Av->Av->Mo Src
 |.d x,.d y,.d z,S=>.br (isI x && isI y && isI z && decide (0<=iv x/\iv x < 2 ^ 62/\0<=iv y/\iv y < 2 ^ 62/\0 < iv z/\iv z < 1073741824)) (.ok (rngL (iv x) (iv z) (rngN (iv x) (iv y) (iv z)),[]) S) .bad
 |_,_,_,_=>.bad
~yA(a)(S):Le (va a S) ((i4 a S).bind dQ):=by
 #a with
 |d y =>
  cases y <;> first | ~.inl rfl | skip
  rename_i i
  !c9 λh=>?_;@b:-(2 ^ 62)<=i/\i < 2 ^ 62:=dq.mp (aAn _ _ ▸ h).2;PK[i4,Lj b];~.inr rfl
 |_=>~.inl rfl
~yB(a b c)(S):Le (vc a b c S) ((i5 a b c S).bind dQ):=by
 #a with
 |d x =>
  #b with
  |d y =>
   #c with
   |d z =>
    cases x <;> first | ~.inl rfl | skip
    cases y <;> first | ~.inl rfl | skip
    cases z <;> first | ~.inl rfl | skip
    rename_i i j k
    !c9 λh=>?_;@h:=My (aAn _ _ ▸ h).2;@e:0<=i/\i < 2 ^ 62/\0<=j/\j < 2 ^ 62/\0 < k/\k < 1073741824:=h;PK[i5,Lj e];~.inr rfl
   |_=>~.inl rfl
  |_=>~.inl rfl
 |_=>~.inl rfl
§isQ:Av->Bool
 |.d (.tup _)=>PU
 |.d _=>PV
 |_=>PU
§nR(S:Sto):Av->PY Src
 |.d x=>PN (srcL x,[])
 |a=>(du S a).map (·.2)
§ve(x y:Av)(S:Sto):Rs Src:=match nR S x,nR S y with
 |some l,PN k=>.br (isQ x && isQ y) (.ok ((l.1.zip k.1).map λp=>.tup [p.1,p.2],l.2++k.2) S) .bad
 |_,_=>.bad
~fT(h:nR S x=PN l)(q:isQ x=PU):∃ t,du S x=PN (t,l):=by
 #x with
 |d x=>cases x <;> #q;#h;PM _,rfl
 |l b=>cases h;PM _,rfl
 |it _ _=>cases h
 |c _=>cases h;PM _,rfl
 |r n =>
  change (du S _).map _=_ at h
  #e:du S _ with
  |none=>rw[e]at h;#h
  |some u=>rw[e]at h;#h;PM _,rfl
~Di(x y)(S):Le (ve x y S) ((nN x y S).bind dQ):=by
 PL ve
 #b:nR S x with
 |none=>~.inl rfl
 |some l =>
  #d:nR S y with
  |none=>~.inl rfl
  |some k =>
   !c9 λh=>?_;rw[aAn]at h;&t,c:=fT b h.1;&u,a:=fT d h.2;PK[nN,c,a];~.inr rfl
~pB{l:Src}(h:du S x=PN (t,l)):aB S l.2:=by
 #x with
 |d x=>cases x <;> #h;trivial
 |it _ _=>cases h
 |c _=>cases h;trivial
 |l _=>cases h;trivial
 |r n =>
  #e:S[n]? with
  |none=>PK[du,e]at h;#h
  |some o =>
   #o with
   |lst a=>PK[du,e]at h;#h;PM e,trivial
   |_=>PK[du,e]at h;#h
~g9:∀ {g h},aB S g->aB S h->aB S (g++h)
 |[],_,_,q=>q
 |_ :: _,_,p,q=>⟨p.1,g9 p.2 q⟩
~Dj(h:(ve x y S).res=.ok l S1):aB S1 l.2:=by
 unfold ve at h
 #a:nR S x with
 |none=>rw[a]at h;#h
 |some f =>
  #b:nR S y with
  |none=>rw[a,b]at h;#h
  |some k =>
   PK[a,b]at h
   #q:isQ x && isQ y with
   |false=>rw[q]at h;#h
   |true =>
    rw[q]at h
    #h
    rw[aAn]at q;&t,c:=fT a q.1;&u,d:=fT b q.2;~g9 (pB c) (pB d)
§popA(k:Nat)(l:Src)(S:Sto):Rs Src:=bif l.2.all (λp=>decide (k<=p.1))then .ok (l.1,[]) (S.take k)else .ok l S
~Dl(h:aB S l.2)(e:(popA k l S).res=.ok l' S1):aB S1 l'.2:=by
 unfold popA at e
 #q:l.2.all _ with
 |true=>rw[q]at e;#e;trivial
 |false=>rw[q]at e;#e;~h
section
variable {K:W.Frag}{mg:Str->PY Li}{X:Cx}{E:XK}{tg e:Expr}{f:En->Mo Av}{gs gs':En->Mo Src}
~hL{S S' S1:Sto}(a:S'°=k)(e:S'++S1.drop k=S):∀ {gd},aB S1 gd->gd.all (λp=>decide (k<=p.1))=PU->aB S gd
 |[],_,_=>trivial
 |p :: gd,h,q=>by
  rw[aAL,aAn,L9]at q;!⟨?_,hL a e h.2 q.2⟩;rw[<- e,aAt or,List.getElem?_drop,a,show k+(p.1 - k)=p.1 by on];~h.1
~vf(w:Walk K y z l gd m1 H1 J)(C:Sim K y H1 m1 S1)(D:m <+: m1)(st:aB S1 gd)(R:gd.all (λp=>decide (m°<=p.1))=PU):Walk K y z l [] m H1 J:=by
 @v:∀ H d S,m <+: d->Fz m d H1 H->Sim K y H d S->∃ g,Fz m1 m1 H1 H/\Sim K y H m1 g/\aB g gd:=λH d S c f s=>by
  @k:(S.take m°)°=m°:=by
   rw[aA1,<- s.len];@:=c.length_le;on
  !⟨_,⟨f.fz,λb o h e=>f.fr b o ((λb h q=>h (D.subset q)) b h) e,λ_ h n=>absurd h n⟩,⟨?_,C.nod,λn o a B x=>?_⟩,hL k rfl st R⟩
  ·rw[aAi,k,aB1,<- C.len];@:=D.length_le;on
  ·rcases aCj n _ with j | j
   ·rw[aAw (by rw[k];~j),aBG j]at B;@N:m[n]?=PN a:=by
     &t,rfl:=D;rw[aAw j]at x;~x
    ~s.obj n o a B (j0 c N)
   ·rw[aAt (by rw[k];~j),k,List.getElem?_drop,show m°+(n - m°)=n by on]at B;@M:a∉m:=λq=>by
     &i,r,e:=aAS.mp q;&T,O:=aAg.mp (j0 D (aAg.mpr ⟨r,e⟩));&U,Q:=aAg.mp x;@:=(aBs C.nod).mp (O.trans Q.symm);on
    ~(C.obj n o a B x).mono f λu P=>f.fr a u M P
 !⟨λi H d S c f s _ r=>?_,λi H d S c f s _ r=>?_⟩
 ·&g,F,I,G:=v H d S c f s;~w.go i H m1 g (aAj _) F I G r
 ·&g,F,I,G:=v H d S c f s;~w.stop i H m1 g (aAj _) F I G r
~GM(h:PI X tg e (tI X.K X.mg z E f))(le:∀ env S,Le (gs env S) ((f env S).bind dQ))(d:∀ env S a S1,(gs env S).res=.ok a S1->aB S1 a.2):PI X tg e (tSr X.K X.mg z E λenv S=>(gs env S).bind (popA S°)):=
 h.imp λA H R ⟨m,S,env,g,v,u,p⟩=>⟨m,S,env,g,v,u,(le env S).post (PostG.of_res (by
  @b:=PostG.res_bind p
  #q:(gs env S).res with
  |br _ _ _=>~absurd q Rs.res_br
  |bad=>rw[q]at b;~b
  |ex c S1=>rw[q]at b;~b
  |ok a S1 =>
   rw[q,Rs.bind_ok]at b;intro J s r i o k w;unfold popA at b
   #l:a.2.all _ with
   |false=>rw[l]at b;~b J s r i o k w
   |true =>
    rw[l]at b;@x:r.take S°=m:=by
     &t,rfl:=i;rw[<- g.len,aCg]
    ~b J s m (aAj _) o.cut (by @:=k.take S°;rw[x]at this;~this) (vf w k i (d env S a S1 q) (by rw[g.len];~l))))⟩
end
§vg:Av->Av->Av->Mo Unit
 |.r n,.d y,.d v,S=>match S[n]? with
  |some (.dic kvs)=>.br (aP? y).isSome (.br (decide (kvs° < Ld)) (.ok () (S.set n (.dic (ck kvs ((aP? y).getD (.inl 0)) v)))) .bad) .bad
  |_=>dR (.r n) (.d y) (.d v) S
 |a,b,c,S=>dR a b c S
~Dm(a b c)(S):Le (vg a b c S) (dR a b c S):=by
 PL vg
 split
 ·rename_i n y v
  #e:S[n]? with
  |none=>~.refl _
  |some o =>
   #o with
   |dic f =>
    dsimp only;have h:dR (.r n) (.d y) (.d v) S=match aP? y with
     |some k=>if f° < Ld then .ok () (S.set n (.dic (ck f k v)))else .bad
     |none=>.bad:=by PK[dR,e] <;> rfl
    rw[h]
    #aP? y with
    |none=>~.refl _
    |some k =>
     by_cases g:f° < Ld
     ·rw[Lh g];~.inr (by PK[Lj g];rfl)
     ·rw[Lv g];~.inl rfl
   |_=>~.refl _
 ·~.refl _
§mtB(x:Av)(m:Mf)(vs:PQ Av):Mo Av:=match m,x,vs with
 |.append,.r n,[.d v]=>λS=>match S[n]? with
  |some (.lst xs)=>.br (decide (xs° < Ld)) (.ok (.d .non) (S.set n (.lst (xs++[v])))) .bad
  |_=>.bad
 |m,x,vs=>mtA x m vs
~GN(x)(m)(vs)(S):Le (mtB x m vs S) (mtA x m vs S):=by
 PL mtB
 split
 ·rename_i n v
  #e:S[n]? with
  |none=>~.inl rfl
  |some o =>
   #o with
   |lst a =>
    dsimp only;@c:mtA (.r n) .append [.d v] S=if a° < Ld then .ok (.d .non) (S.set n (.lst (a++[v])))else .bad:=by
     show apA _ (.r n) S=_;PK[apA,e]
    rw[c]
    by_cases b:a° < Ld
    ·rw[Lh b];~.inr (by PK[Lj b];rfl)
    ·rw[Lv b];~.inl rfl
   |_=>~.inl rfl
 ·~.refl _
§aL(gd:PQ (Nat×PQ Dt))(t:Tg)(f:En->Mo Fl):PQ Dt->En->Mo Fl
 |[],env,S=>.br (gB S gd) (.ok (.nx env) S) .bad
 |x :: xs,env,S=>.br (gB S gd) (match aZ t x env with
  |none=>.bad
  |some env1=>(f env1 S).bind λy S1=>match y with
   |.nx env2=>aL gd t f xs env2 S1
   |.ct env2=>aL gd t f xs env2 S1
   |.bk env2=>.ok (.nx env2) S1
   |.rt a=>.ok (.rt a) S1) .bad
~nT:∀ {l}{env}{S},Le (aL gd t f l env S) (cP gd t f l env S)
 |[],env,S=>c9 λh=>by
  PL cP gOk;rw[h];~.refl _
 |x :: c,env,S=>c9 λh=>by
  PL cP gOk;rw[h]
  #aZ t x env with
  |none=>~.refl _
  |some b =>
   !.then λy d=>?_
   #y with
   |nx a=>~nT
   |ct a=>~nT
   |_=>~.refl _
section
variable {K:W.Frag}{mg:Str->PY Li}{fe fe':En->Mo (PY Dt)}{tb:PQ V->Ll->St->Hp->(PQ V->St->Hp->Prop)->Prop}
~l6(h:ft K mg fe tb)(le:∀ env S,Le (fe' env S) (fe env S)):ft K mg fe' tb:=λm S env i H l n j N s d g c p=>by
 !h m S env i H l n j N s d g c ?_;rcases le env S with e | e
 ·rw[e]at p;~p.elim
 ·rw[e]at p;~p
~j6:∀ {r},okE r=okE r.res
 |.ok _ _ | .ex _ _ | .bad=>rfl
 |.br PU x y=>j6 (r:=x)
 |.br PV x y=>j6 (r:=y)
~fU:∀ {r},bR r=bR r.res
 |.ok _ _ | .ex _ _ | .bad=>rfl
 |.br PU x y=>fU (r:=x)
 |.br PV x y=>fU (r:=y)
~jb(h:c7 K fe tb)(le:∀ env S,Le (fe' env S) (fe env S)):c7 K fe' tb:=λenv j H l c k N g d m a i q=>by
 rw[j6]at a;rw[fU]at q;rcases le env []with e | e
 ·rw[e]at a;#a
 ·rw[e]at a q;rw[<- j6]at a;rw[<- fU]at q;~h env j H l c k N g d m a i q
~pC{c f:En->Mo Av}(d)(S):Le ((c d S).bind λb a=>chB b ((f d a).bind (bD λx e=>.ok (PN x) e)) (.ok PR a)) ((c d S).bind λb a=>choose b ((f d a).bind (bD λx e=>.ok (PN x) e)) (.ok PR a)):=.then λ_ _=>dI (.refl _) (.refl _)
end
section
variable {E:XK}{X:Cx}{fe fc:En->Mo Av}{gs:En->Mo Src}{pos:Pos}
~rp(hz:z=PU->∃ is,t=.tp is)(v:X.calm=PU)(S:CScope X f NL I o)(n:∀ env S a S1,(gs env S).res=.ok a S1->aB S1 a.2)(A:PI X k g (tSr X.K X.mg z E gs))
  (F:∀ C d e i,PG (ccx X f C o d e i) k (gT X.K t)) (H:∀ C d e i,PT (ccx X f C o d e i) c (tQ X.K X.mg E0 (tst fc))) (D:∀ C d e i,PE (ccx X f C o d e i) m (tE X.K X.mg E0 fe)) (hs:g5 g=PU) :
  PE X (.ListComp m [⟨k,g,[c],0⟩] f pos) (tE X.K X.mg E λenv S=>(gs env S).bind λl S1 =>
   gZ PV l.2 t (λr S=>(fc r S).bind λb s=>chB b ((fe r s).bind (bD λx G=>.ok (PN x) G)) (.ok PR s)) l.1 (List.replicate NL.length PR++I.map λj=>(env[j]?).join) S1):=
 o4 hz (λh=>nomatch h) (l6 lU pC) (jb i8 pC) v S n A F (λC d e i=>uN (H C d e i) (D C d e i)) (λB p env=>kL m k g c f pos B p env) (cr hs)
end
¶Dn:=En->Mo Av
structure Tb where
 C:Str->PY (PQ Av->Mo Av)
 G:Str->PY Dt
 D:Str->PY (PQ (Str×Int))
 DA:Str->PY (PQ (Str×PQ Str))
 bs:PQ Str
 lx:PQ Str
 bk:PQ (Nat×Nat×Nat)
structure Wd(T:Tb)(K:W.Frag)(mg:Str->PY Li):Prop where
 gv:∀ x d,T.G x=PN d->(∃ i t,d=.int i/\mg x=PN (.int i t))\/∃ z t,d=.str z/\mg x=PN (.str z t)
 kd:∀ x l,T.D x=PN l->∃ a,mg x=PN (.ref a)/\iM K a l
 ka:∀ x l,T.DA x=PN l->∃ a l',mg x=PN (.ref a)/\cC K a l'/\∀ z,(l'.lookup z=PR/\l.lookup z=PR)\/∃ b ws,l'.lookup z=PN b/\l.lookup z=PN ws/\∀ H:Hp,SqT K H b (ws.map V.str)
 bn:∀ x∈T.bs,mg x=PR
structure Cy(T:Tb)(X:Cx)(sc:Scope)(N:PQ Str)(top:Bool)(E:XK):Prop where
 eN:X.N=N
 nd:N.Nodup
 eS:cF X sc
 calm:X.calm=PU
 fn:top=PU->∀ x,X.fn x=PU
 un:X.A.units+64 < LU
 pass:eK (bY X.prog X.w) X E
 wd:Wd T X.K X.mg
 call:∀ f C,T.C f=PN C->∃ fa fd st ps k,Gn X.K X.mg f st ps fa fd/\FnOk X.prog X.w X.K X.mg X.base (bY X.prog X.w) k fa fd ps (spC X.K X.mg C)/\Room k X.A
§glb(sc:Scope)(x:Str):Bool:=sc.names.lookup x == PN .globalImplicit && x != ("__debug__" : Str)
§Do(sc:Scope)(x:Str):Bool:=(match sc.names.lookup x with | PN .local=>PU | PN .cell=>PU | PN .free=>PU | _=>PV) && x != ("__debug__" : Str) && x != ("__classdict__" : Str)
§tOk:Expr->Bool
 |.IfExp _ _ _ _=>PV
 |.Compare _ (_ :: _ :: _ :: _) _ _=>PV
 |_=>PU
section
variable (T:Tb)(sc:Scope)(N:PQ Str)
structure Sg(e:Expr) where
 f:Dn
 pe:∀ {X top E},Cy T X sc N top E->PE X e (tE X.K X.mg E f)
 pt:tOk e=PU->∀ {X top E},Cy T X sc N top E->PT X e (tQ X.K X.mg E (tst f))
 pw:∀ op vs p,e=.BoolOp op vs p->∀ {X top E},Cy T X sc N top E->PW X e (tQ X.K X.mg E (tst f))
structure SgA(es:PQ Expr) where
 f:En->Mo (PQ Av)
 pa:∀ {X top E},Cy T X sc N top E->PA X es (tL X.K X.mg E f)
 st:es.all am=PU
structure SgI(t:Tg)(tg e:Expr) where
 f:En->Mo Src
 z:Bool
 hz:z=PU->∃ is,t=.tp is
 st:∀ env S a S1,(f env S).res=.ok a S1->aB S1 a.2
 pi:∀ {X top E},Cy T X sc N top E->PI X tg e (tSr X.K X.mg z E f)
end
section
variable {T:Tb}{sc:Scope}{N:PQ Str}{X:Cx}{top:Bool}{E:XK}{x:Str}
~Cy.gl(Z:Cy T X sc N top E)(h:glb sc x=PU):Gl X x:=by
 unfold glb at h;PK[aAn,LO]at h;rcases Z.eS x _ h.1 with q | ⟨q,_⟩
 ·~q
 ·#q
~bV(h:glb sc x=PU):(x == ("__debug__"))=false:=by
 unfold glb at h;PK[aAn,bne_iff_ne]at h
 simpa using h.2
~Cy.bn(Z:Cy T X sc N top E)(h:T.bs.contains x=PU):X.mg x=none:=Z.wd.bn x (by simpa using h)
~Cy.comp(Z:Cy T X sc N top E)(hs:cF (ccx X a c e b d g) a)(f:e.Nodup):Cy T (ccx X a c e b d g) a e PV E0:=
 ⟨rfl,f,hs,Z.calm,λh=>(by #h),Z.un,passF3,Z.wd,Z.call⟩
end
section
variable {T:Tb}{sc:Scope}{N:PQ Str}
§mkS{e:Expr}(f:Dn)(pe:∀ {X top E},Cy T X sc N top E->PE X e (tE X.K X.mg E f))(h:nE e=PU):Sg T sc N e:=
 ⟨f,pe,λ_ {_ _ _} Z=>Gg (pe Z) h,λop vs p e=>by subst e;#h⟩
§leS{e:Expr}(s:Sg T sc N e)(f:Dn)(h:∀ env S,Le (f env S) (s.f env S)):Sg T sc N e:=
 ⟨f,λZ=>(s.pe Z).imp λσ H Q ⟨m,S,env,sm,se,hl,p⟩=>⟨m,S,env,sm,se,hl,(h env S).post p⟩,λq {_ _ _} Z=>(s.pt q Z).imp λσ H Q ⟨m,S,env,sm,se,hl,p⟩=>⟨m,S,env,sm,se,hl,((h env S).bind λ_ _=>.refl _).post p⟩,
  λa b c q {_ _ _} Z=>(s.pw a b c q Z).imp λσ H Q ⟨m,S,env,sm,se,hl,p⟩=>⟨m,S,env,sm,se,hl,((h env S).bind λ_ _=>.refl _).post p⟩⟩
§brk:Rs Av->Rs Av
 |.ok (.d (.bl b)) S=>.br b (.ok (.d (.bl PU)) S) (.ok (.d (.bl PV)) S)
 |.br b x y=>.br b (brk x) (brk y)
 |r=>r
~hM{K}{R}{Q:j->Hp->Prop}{f:Av->Mo k}(h:PostG K g R m H Q E ((brk r).bind f)):PostG K g R m H Q E (r.bind f):=by
 induction r with
 |br b x y e i=>PM λc=>e (h.1 c),λc=>i (h.2 c)
 |ok a S =>
  #a with
  |d x =>
   #x with
   |bl b=>cases b <;> first | ~h.2 rfl | ~h.1 rfl
   |_=>~h
  |_=>~h
 |_=>~h
~j7:∀ r:Rs a,r.bind .ok=r
 |.ok _ _=>rfl
 |.ex _ _=>rfl
 |.bad=>rfl
 |.br b x y=>by rw[Rs.bind_br,j7 x,j7 y]
§Jy{e:Expr}(s:Sg T sc N e):Sg T sc N e:=⟨λenv S=>brk (s.f env S),λZ=>(s.pe Z).imp λσ H Q ⟨m,S,env,sm,se,hl,p⟩=>⟨m,S,env,sm,se,hl,by
  rw[<- j7 (s.f env S)];~hM (by rw[j7];~p)⟩,λh {_ _ _} Z=>(s.pt h Z).imp λσ H Q ⟨m,S,env,sm,se,hl,p⟩=>⟨m,S,env,sm,se,hl,hM p⟩,λa b c h {_ _ _} Z=>(s.pw a b c h Z).imp λσ H Q ⟨m,S,env,sm,se,hl,p⟩=>⟨m,S,env,sm,se,hl,hM p⟩⟩
§eU(i:Nat):Dn:=λenv S=>match env[i]? with
 |some (PN a)=>.ok a S
 |_=>.bad
§ixS(x:Str):PQ Str->PY Nat
 |[]=>PR
 |y :: l=>if y=x then PN 0 else(ixS x l).map (· + 1)
~vh:∀ {l}{i},ixS x l=PN i->l[i]?=PN x
 |[],_,h=>by #h
 |y :: l,i,h=>by
  unfold ixS at h
  split at h
  ·rename_i e;#h;rw[e];rfl
  ·#q:ixS x l with
   |none=>rw[q]at h;#h
   |some j=>rw[q]at h;#h;show l[j]?=PN x;~vh q
§Dp(c:Const)(k:Nat)(p:Pos):PY (Sg T sc N (.Constant c k p)):=match c with
 |.int i=>PN (mkS (λ_ S=>.ok (.d (.int i)) S) (λ_=>g_c rY λ_=>.int) rfl)
 |.str i=>PN (mkS (λ_ S=>.ok (.d (.str i)) S) (λ_=>g_c mE λ_=>.str) rfl)
 |.bool i=>PN (mkS (λ_ S=>.ok (.d (.bl i)) S) (λ_=>g_c Aw λ_=>.bl) rfl)
 |.none=>PN (mkS (λ_ S=>.ok (.d .non) S) (λ_=>g_c jv λ_=>.non) rfl)
 |_=>PR
~nU(Z:Cy T X sc N top E)(h:Do sc x=PU):Vis X.env.scope x/\(x == ("__debug__"))=PV/\(x == ("__classdict__"))=false:=by
 unfold Do at h;PK[aAn,bne_iff_ne]at h;&⟨b,d⟩,c:=h;!⟨?_,by simpa using d,by simpa using c⟩
 #q:sc.names.lookup x with
 |none=>rw[q]at b;#b
 |some k =>
  rw[q]at b;rcases Z.eS x _ q with a | ⟨rfl,a⟩
  ·cases k <;> first | ~.inl a | ~.inr (.inl a) | ~.inr (.inr a) | cases b
  ·~.inr (.inl a)
§GO(x:Str)(p:Pos):PY (Sg T sc N (.Name x p)):=
 if h:Do sc x=PU then match e:ixS x N with
  |some i=>PN (mkS (eU i) (λZ=>g_v (by rw[Z.eN];~vh e) (nU Z h).1 (nU Z h).2.1 (nU Z h).2.2) rfl)
  |none=>PR
 else if h:glb sc x=PU then match e:T.G x with
  |some d=>PN (mkS (λ_ S=>.ok (.d d) S) (λZ=>by
   rcases Z.wd.gv x d e with⟨i,t,rfl,e'⟩ | ⟨y,t,rfl,e'⟩
   ·~g_c (xx (Z.gl h) e' (bV h)) λH=>.int
   ·~g_c (xz (Z.gl h) e' (bV h)) λH=>.str) rfl)
  |none=>PR
 else PR
§Jz:(o:Py)->PY { b:Bo // Cu b=o }
 |.Add=>PN ⟨.add,rfl⟩ | .Sub=>PN ⟨.sub,rfl⟩ | .Mult=>PN ⟨.mul,rfl⟩ | .Mod=>PN ⟨.mod,rfl⟩ | .FloorDiv=>PN ⟨.fdiv,rfl⟩ | .Pow=>PN ⟨.pow,rfl⟩ | _=>PR
§cOf:(o:CmpOp)->PY { b:Co // gM b=o }
 |.Eq=>PN ⟨.eq,rfl⟩ | .NotEq=>PN ⟨.ne,rfl⟩ | .Lt=>PN ⟨.lt,rfl⟩ | .LtE=>PN ⟨.le,rfl⟩ | .Gt=>PN ⟨.gt,rfl⟩ | .GtE=>PN ⟨.ge,rfl⟩ | .In=>PN ⟨.inn,rfl⟩ | .NotIn=>PN ⟨.nin,rfl⟩ | .Is=>PN ⟨.is,rfl⟩ | .IsNot=>PN ⟨.isn,rfl⟩
§cAs(rc:(e:Expr)->PY (Sg T sc N e)):(es:PQ Expr)->PY (SgA T sc N es)
 |[]=>PN ⟨λ_ S=>.ok [] S,λ_=>Gk,rfl⟩
 |e :: es=>if h:am e=PU then match rc e,cAs rc es with
  |some a,PN b=>PN ⟨λenv S=>(a.f env S).bind λx S1=>(b.f env S1).bind λxs S2=>.ok (x :: xs) S2,λZ=>CF h (a.pe Z) (b.pa Z),by rw[aAL,h,b.st];rfl⟩
  |_,_=>PR
  else PR
§JA(rc:(e:Expr)->PY (Sg T sc N e))(a:Expr)(op:Py)(b:Expr)(p:Pos):PY (Sg T sc N (.BinOp a op b p)):=match Jz op,rc a,rc b with
 |some ⟨o,ho⟩,PN f,PN g=>PN (leS (mkS (λenv S=>(f.f env S).bind λx S1=>(g.f env S1).bind λy S2=>aj o x y S2) (λZ=>ho ▸ Gc o (f.pe Z) (g.pe Z)) rfl) (λenv S=>(f.f env S).bind λx S1=>(g.f env S1).bind λy S2=>C4 o x y S2) λ_ _=>.then λ_ _=>.then λ_ _=>C5 _ _ _ _)
 |_,_,_=>PR
§cUn(rc:(e:Expr)->PY (Sg T sc N e))(op:UnaryOp)(a:Expr)(p:Pos):PY (Sg T sc N (.UnaryOp op a p)):=match op,rc a with
 |.USub,PN f=>PN (leS (mkS _ (λZ=>Gd (f.pe Z)) rfl) (λenv S=>(f.f env S).bind λx S1=>GG x S1) λ_ _=>.then λ_ _=>C8 _ _)
 |.Not,PN f=>if h:tOk a=PU then PN (leS ⟨λenv S=>(f.f env S).bind λx S1=>choose x (.ok (.d (.bl PV)) S1) (.ok (.d (.bl PU)) S1),λZ=>Ge (f.pe Z),λ_ {_ _ _} Z=>Gh (f.pt h Z),λ_ _ _ e=>nomatch e⟩ (λenv S=>(f.f env S).bind λx S1=>chB x (.ok (.d (.bl PV)) S1) (.ok (.d (.bl PU)) S1)) λ_ _=>.then λ_ _=>dI (.refl _) (.refl _))else PR
 |_,_=>PR
§A0(rc:(e:Expr)->PY (Sg T sc N e))(op:BoolOp)(p:Pos):(es:PQ Expr)->PY (Sg T sc N (.BoolOp op es p))
 |[]=>PR
 |[x]=>if h:tOk x=PU then match op,rc x with
  |.And,PN f=>PN ⟨f.f,λZ=>rZ (f.pe Z),λ_ {_ _ _} Z=>(uA (f.pt h Z)).pt,λ_ _ _ _ {_ _ _} Z=>uA (f.pt h Z)⟩
  |.Or,PN f=>PN ⟨f.f,λZ=>rZ (f.pe Z),λ_ {_ _ _} Z=>(AM (f.pt h Z)).pt,λ_ _ _ _ {_ _ _} Z=>AM (f.pt h Z)⟩
  |_,PR=>PR
  else PR
 |x :: y :: es=>if h:tOk x=PU then match op,rc x,A0 rc op p (y :: es)with
  |.And,PN f,PN g=>PN (leS ⟨λenv S=>(f.f env S).bind λx S1=>choose x (g.f env S1) (.ok (.d (.bl PV)) S1),λZ=>Gf (f.pe Z) (g.pe Z),λ_ {_ _ _} Z=>(AN (f.pt h Z) (g.pw _ _ _ rfl Z)).pt,λ_ _ _ _ {_ _ _} Z=>AN (f.pt h Z) (g.pw _ _ _ rfl Z)⟩ (λenv S=>(f.f env S).bind λx S1=>chB x (g.f env S1) (.ok (.d (.bl PV)) S1)) λ_ _=>.then λ_ _=>dI (.refl _) (.refl _))
  |.Or,PN f,PN g=>PN (leS ⟨λenv S=>(f.f env S).bind λx S1=>choose x (.ok (.d (.bl PU)) S1) (g.f env S1),λZ=>Jr (f.pe Z) (g.pe Z),λ_ {_ _ _} Z=>(Gi (f.pt h Z) (g.pw _ _ _ rfl Z)).pt,λ_ _ _ _ {_ _ _} Z=>Gi (f.pt h Z) (g.pw _ _ _ rfl Z)⟩ (λenv S=>(f.f env S).bind λx S1=>chB x (.ok (.d (.bl PU)) S1) (g.f env S1)) λ_ _=>.then λ_ _=>dI (.refl _) (.refl _))
  |_,_,_=>PR
  else PR
end
section
variable {T:Tb}{sc:Scope}{N:PQ Str}
§GQ(o:Co)(f g:Dn):Dn:=λenv S=>tidy S° ((f env S).bind λx S1=>(g env S1).bind λy S2=>av o x y S2)
§GR(o:Co)(f g:Dn):Dn:=λenv S=>tidy S° ((f env S).bind λx S1=>(g env S1).bind λy S2=>j3 o x y S2)
§GS(o q:Co)(f g h:Dn):Dn:=λenv S=>tidy S° ((f env S).bind λx S1=>(g env S1).bind λy S2=>(j3 o x y S2).bind λt S3=>chB t ((h env S3).bind λz S4=>j3 q y z S4) (.ok (.d (.bl PV)) S3))
§GT(o q:Co)(f g h:Dn):Dn:=λenv S=>tidy S° ((f env S).bind λx S1=>(g env S1).bind λy S2=>(av o x y S2).bind λt S3=>choose t ((h env S3).bind λz S4=>av q y z S4) (.ok (.d (.bl PV)) S3))
§JB(rc:(e:Expr)->PY (Sg T sc N e))(a:Expr)(p:Pos):(ops:PQ CmpOp)->(es:PQ Expr)->PY (Sg T sc N (.Compare a ops es p))
 |[.In],[b]=>if h:bN b=PU then match a,rc b with
  |.Constant .none k q,PN g=>PN (leS ⟨yr g.f,λZ=>Gz Z.un (g.pe Z) h,λ_ {_ _ _} Z=>GA Z.un (g.pe Z) h,(λ_ _ _ e=>nomatch e)⟩ (λenv S=>(g.f env S).bind λy S1=>Dd y S1) λ_ _=>.then λ_ _=>De _ _)
  |a,PN g=>match rc a with
   |some f=>PN (leS ⟨GQ .inn f.f g.f,λZ=>b9 (AK Z.un .inn (f.pe Z) (g.pe Z) h),λ_ {_ _ _} Z=>AL Z.un .inn (f.pe Z) (g.pe Z) h,(λ_ _ _ e=>nomatch e)⟩ (GR .inn f.f g.f) λ_ _=>.tidy (.then λ_ _=>.then λ_ _=>dU _ _ _ _))
   |none=>PR
  |_,PR=>PR
  else PR
 |[op],[b]=>if h:bN b=PU then match cOf op,rc a,rc b with
  |some ⟨o,ho⟩,PN f,PN g=>PN (leS ⟨GQ o f.f g.f,λZ=>ho ▸ b9 (AK Z.un o (f.pe Z) (g.pe Z) h),λ_ {_ _ _} Z=>ho ▸ AL Z.un o (f.pe Z) (g.pe Z) h,(λ_ _ _ e=>nomatch e)⟩ (GR o f.f g.f) λ_ _=>.tidy (.then λ_ _=>.then λ_ _=>dU _ _ _ _))
  |_,_,_=>PR
  else PR
 |[op,op2],[b,c]=>if h:bN c=PU then match cOf op,cOf op2,rc a,rc b,rc c with
  |some ⟨o,ho⟩,PN ⟨q,hq⟩,PN f,PN g,PN k=>PN (leS ⟨GT o q f.f g.f k.f,λZ=>ho ▸ hq ▸ b9 (CB Z.un o q (f.pe Z) (g.pe Z) (k.pe Z) h),λ_ {_ _ _} Z=>ho ▸ hq ▸ CD Z.un o q (f.pe Z) (g.pe Z) (k.pe Z) h,(λ_ _ _ e=>nomatch e)⟩ (GS o q f.f g.f k.f) λ_ _=>.tidy (.then λ_ _=>.then λ_ _=>(dU _ _ _ _).bind λ_ _=>dI (.then λ_ _=>dU _ _ _ _) (.refl _)))
  |_,_,_,_,_=>PR
  else PR
 |[op,op2,op3],[b,c,d]=>if h:bN d=PU then match cOf op,cOf op2,cOf op3,rc a,rc b,rc c,rc d with
  |some ⟨o,ho⟩,PN ⟨q,hq⟩,PN ⟨r,hr⟩,PN f,PN g,PN k,PN l=>PN (leS ⟨λenv S=>tidy S° ((f.f env S).bind λx S1=>(g.f env S1).bind λy S2=>(av o x y S2).bind λt S3=>choose t ((k.f env S3).bind λz S4=>(av q y z S4).bind λt S5 =>
   choose t ((l.f env S5).bind λu S6=>av r z u S6) (.ok (.d (.bl PV)) S5)) (.ok (.d (.bl PV)) S3)),λZ=>ho ▸ hq ▸ hr ▸ b9 (CC Z.un o q r (f.pe Z) (g.pe Z) (k.pe Z) (l.pe Z) h),(λe=>nomatch e),(λ_ _ _ e=>nomatch e)⟩ (λenv S=>tidy S° ((f.f env S).bind λx S1=>(g.f env S1).bind λy S2=>(j3 o x y S2).bind λt S3=>chB t ((k.f env S3).bind λz S4=>(j3 q y z S4).bind λt S5 =>
   chB t ((l.f env S5).bind λu S6=>j3 r z u S6) (.ok (.d (.bl PV)) S5)) (.ok (.d (.bl PV)) S3))) λ_ _=>.tidy (.then λ_ _=>.then λ_ _=>(dU _ _ _ _).bind λ_ _=>dI (.then λ_ _=>(dU _ _ _ _).bind λ_ _=>dI (.then λ_ _=>dU _ _ _ _) (.refl _)) (.refl _)))
  |_,_,_,_,_,_,_=>PR
  else PR
 |_,_=>PR
§JC(rc:(e:Expr)->PY (Sg T sc N e))(c a b:Expr)(p:Pos):PY (Sg T sc N (.IfExp c a b p)):=
 if h:tOk c=PU then match rc c,rc a,rc b with
  |some f,PN g,PN k=>PN (leS ⟨λenv S=>(f.f env S).bind λx S1=>choose x (g.f env S1) (k.f env S1),λZ=>Gj (f.pt h Z) (g.pe Z) (k.pe Z),(λe=>nomatch e),(λ_ _ _ e=>nomatch e)⟩ (λenv S=>(f.f env S).bind λx S1=>chB x (g.f env S1) (k.f env S1)) λ_ _=>.then λ_ _=>dI (.refl _) (.refl _))
  |_,_,_=>PR
 else PR
§Dq(fs:En->Mo (PQ Av)):Dn:=λenv S=>(fs env S).bind λvs S1=>match cn vs with
  |some l=>if l°<=Ld then .ok (.d (.tup l)) S1 else .bad
  |none=>.bad
§JD(fs:En->Mo (PQ Av)):Dn:=λenv S=>(fs env S).bind λvs S1=>match cn vs with
  |some l=>if l°<=Ld then newL l S1 else .bad
  |none=>.bad
§JE(rc:(e:Expr)->PY (Sg T sc N e))(es:PQ Expr)(k:Nat)(p:Pos):PY (Sg T sc N (.Tuple es k p)):=(cAs rc es).map λa=>mkS (Dq a.f) (λZ=>Gm (a.pa Z)) rfl
§JF(rc:(e:Expr)->PY (Sg T sc N e))(es:PQ Expr)(p:Pos):PY (Sg T sc N (.List es p)):=(cAs rc es).map λa=>mkS (JD a.f) (λZ=>Go (a.pa Z)) rfl
§GU(p:Pos):(ks:PQ (PY Expr))->(vs:PQ Expr)->PY (Sg T sc N (.Dict ks vs p))
 |[],[]=>PN (mkS (λ_ S=>.ok (.r S°) (S++[.dic []])) (λ_=>Gp) rfl)
 |_,_=>PR
§dIx(f g:Dn):Dn:=λenv S=>tidy S° ((f env S).bind λx S1=>(g env S1).bind λy S2=>ixA x y S2)
structure SgO(T:Tb)(sc:Scope)(N:PQ Str)(o:PY Expr) where
 f:En->Mo (PY Int)
 po:∀ {X top E},Cy T X sc N top E->PO X o (tP X.K X.mg E f)
§GV(rc:(e:Expr)->PY (Sg T sc N e)):(o:PY Expr)->PY (SgO T sc N o)
 |none=>PN ⟨λ_ S=>.ok PR S,λ_=>CG⟩
 |some e=>(rc e).map λa=>⟨λenv S=>(a.f env S).bind GF,λZ=>(CI (a.pe Z)).imp λσ H Q ⟨m,S,env,sm,se,hl,p⟩=>⟨m,S,env,sm,se,hl,(Le.then C7).post p⟩⟩
§JG(rc:(e:Expr)->PY (Sg T sc N e))(a b:Expr)(p:Pos):PY (Sg T sc N (.Subscript a b p)):=match b with
 |.Slice lo hi PR p2=>match rc a,GV rc lo,GV rc hi with
  |some f,PN g,PN h=>PN (leS (mkS (λenv S=>(f.f env S).bind λx S1=>(g.f env S1).bind λl S2=>(h.f env S2).bind λu S3=>slA x l u S3) (λZ=>Jt (f.pe Z) (g.po Z) (h.po Z)) rfl) (λenv S=>(f.f env S).bind λx S1=>(g.f env S1).bind λl S2=>(h.f env S2).bind λu S3=>slB x l u S3) λ_ _=>.then λ_ _=>.then λ_ _=>.then λ_ _=>GE _ _ _ _)
  |_,_,_=>PR
 |b=>if h:eA b=PU then match rc a,rc b with
  |some f,PN g=>PN (leS (mkS (dIx f.f g.f) (λZ=>b9 (Js Z.un (f.pe Z) (g.pe Z) h)) rfl) (λenv S=>tidy S° ((f.f env S).bind λx S1=>(g.f env S1).bind λy S2=>ixB x y S2)) λ_ _=>.tidy (.then λ_ _=>.then λ_ _=>GD _ _ _))
  |_,_=>PR
  else PR
§JH(x:Str):PY { b:Bf // b≠.lenset/\x=nC b }:=
 if h:x= "len" then PN ⟨.len,(λe=>nomatch e),h⟩else if h:x= "abs" then PN ⟨.abs,(λe=>nomatch e),h⟩else if h:x= "max" then PN ⟨.max,(λe=>nomatch e),h⟩else if h:x= "min" then PN ⟨.min,(λe=>nomatch e),h⟩
 else if h:x= "str" then PN ⟨.str,(λe=>nomatch e),h⟩else if h:x= "ord" then PN ⟨.ord,(λe=>nomatch e),h⟩else if h:x= "all" then PN ⟨.all,(λe=>nomatch e),h⟩
 else if h:x= "sum" then PN ⟨.sum,(λe=>nomatch e),h⟩else if h:x= "tuple" then PN ⟨.tuple,(λe=>nomatch e),h⟩else if h:x= "dict" then PN ⟨.dict,(λe=>nomatch e),h⟩else if h:x= "sorted" then PN ⟨.sorted,(λe=>nomatch e),h⟩else PR
§tyX(x:Str):PY { t:Ty // x=gR t }:=
 if h:x= "int" then PN ⟨.int,h⟩else if h:x= "str" then PN ⟨.str,h⟩else if h:x= "bool" then PN ⟨.bool,h⟩else if h:x= "tuple" then PN ⟨.tuple,h⟩else PR
§vi(C:PQ Av->Mo Av)(fs:En->Mo (PQ Av)):Dn:=λenv S=>(fs env S).bind λvs S1=>ro C vs S1
§JI(b:Bf)(fs:En->Mo (PQ Av)):Dn:=λenv S=>tidy S° ((fs env S).bind λvs S1=>lI b vs S1)
§dV(rc:(e:Expr)->PY (Sg T sc N e))(x:Str)(gp:Pos)(pos:Pos):(es:PQ Expr)->PY (Sg T sc N (.Call (.Name x gp) es [] pos))
 |[]=>PR
 |e :: es=>if hg:glb sc x=PU then match hC:T.C x with
  |some C=>(cAs rc (e :: es)).map λa=>mkS (vi C a.f) (λZ=>by
    &fa,fd,st,ps,k,D,F,R:=Z.call x C hC;~C3 D F R (Z.gl hg) Z.pass (a.pa Z) (bV hg) a.st) rfl
  |none=>if hb:T.bs.contains x=PU then match JH x with
   |some ⟨b,h12⟩=>(cAs rc (e :: es)).map λa=>leS (mkS (JI b a.f) (λZ=>b9 (Gq Z.calm b h12.1 h12.2 (Z.gl hg) (Z.bn hb) a.st (a.pa Z))) rfl) (λenv S=>tidy S° ((a.f env S).bind λvs S1=>eT b vs S1)) λ_ _=>.tidy (.then λ_ _=>Da _ _ _)
   |none=>PR
   else PR
  else PR
§JK(rc:(e:Expr)->PY (Sg T sc N e))(x y:Str)(a:Expr)(p1 p2 pos:Pos):PY (Sg T sc N (.Call (.Name x p1) [a,.Name y p2] [] pos)):=
 if h:x= "isinstance" /\glb sc "isinstance" = PU/\T.bs.contains "isinstance" = PU/\glb sc y=PU/\T.bs.contains y=PU/\am a=PU then match tyX y,rc a with
  |some ⟨t,ht⟩,PN f=>PN (leS (mkS (λenv S=>tidy S° ((f.f env S).bind λx S1=>eR x t S1)) (λZ=>by
    &rfl,h1,h2,h3,h4,h5:=h;subst ht;~b9 (Gr t (Z.gl h1) (Z.bn h2) (Z.gl h3) (Z.bn h4) h5 (f.pe Z))) rfl) (λenv S=>tidy S° ((f.f env S).bind λx S1=>GJ x t S1)) λ_ _=>.tidy (.then λ_ _=>Db _ _ _))
  |_,_=>PR
 else PR
§JL(rc:(e:Expr)->PY (Sg T sc N e))(x y:Str)(es:PQ Expr)(p1 p2 p3 pos:Pos):PY (Sg T sc N (.Call (.Name x p1) [.Call (.Name y p2) es [] p3] [] pos)):=match es with
 |[a]=>if h:x= "len" /\y= "set" /\glb sc "len" = PU/\T.bs.contains "len" = PU/\glb sc "set" = PU/\T.bs.contains "set" = PU/\am a=PU then(cAs rc [a]).map λf=>leS (mkS (λenv S=>tidy S° ((f.f env S).bind λvs S1=>dG vs S1)) (λZ=>by
    &rfl,rfl,h1,h2,h3,h4,h5:=h;~b9 (yp Z.un Z.calm (Z.gl h1) (Z.bn h2) (Z.gl h3) (Z.bn h4) h5 (f.pa Z))) rfl) (λenv S=>tidy S° ((f.f env S).bind λvs S1=>GK vs S1)) λ_ _=>.tidy (.then λ_ _=>Dc _ _)else PR
 |[a,b]=>if h:x= "dict" /\y= "zip" /\glb sc "dict" = PU/\T.bs.contains "dict" = PU/\glb sc "zip" = PU/\T.bs.contains "zip" = PU/\am a=PU/\am b=PU then(cAs rc [a,b]).map λf=>leS (mkS (λenv S=>(f.f env S).bind λvs S1=>fq vs S1) (λZ=>by
    &rfl,rfl,h1,h2,h3,h4,h5,h6:=h;~CN Z.calm (Z.gl h1) (Z.bn h2) (Z.gl h3) (Z.bn h4) h5 h6 (f.pa Z)) rfl) (λenv S=>(f.f env S).bind λvs S1=>dzB vs S1) λ_ _=>.then λ_ _=>GL _ _
  else if h:x= "tuple" /\y= "zip" /\glb sc "tuple" = PU/\T.bs.contains "tuple" = PU/\glb sc "zip" = PU/\T.bs.contains "zip" = PU/\am a=PU/\am b=PU then(cAs rc [a,b]).map λf=>leS (mkS (λenv S=>tidy S° ((f.f env S).bind λvs S1=>dF vs S1)) (λZ=>by
    &rfl,rfl,h1,h2,h3,h4,h5,h6:=h;~b9 (CO Z.calm (Z.gl h1) (Z.bn h2) (Z.gl h3) (Z.bn h4) h5 h6 (f.pa Z))) rfl) (λenv S=>tidy S° ((f.f env S).bind λvs S1=>AZ vs S1)) λ_ _=>.tidy (.then λ_ _=>yz _ _)
  else PR
 |_=>PR
§JM(l:Bool)(x:Str):PY { m:Mf // x=nH m }:=
 if h:l=PU/\x= "index" then PN ⟨.lindex,h.2⟩else if h:x= "append" then PN ⟨.append,h⟩else PR
§cMt(rc:(e:Expr)->PY (Sg T sc N e))(o:Expr)(name:Str)(ap pos:Pos):(es:PQ Expr)->PY (Sg T sc N (.Call (.Attribute o name ap) es [] pos))
 |[]=>PR
 |e :: es=>if h:eC o=PU/\(e :: es)° < 30/\(ap.endLine == pos.line)=PU then match JM (match o with | .Name y _=>T.lx.contains y | _=>PV) name,rc o,cAs rc (e :: es)with
  |some ⟨m,hm⟩,PN f,PN a=>PN (leS (mkS (λenv S=>(f.f env S).bind λx S1=>if tyA m x S1 then(a.f env S1).bind λvs S2=>mtA x m vs S2 else .bad) (λZ=>Jw m hm (f.pe Z) (a.pa Z) h.1 a.st h.2.1 h.2.2) rfl) (λenv S=>(f.f env S).bind λx S1=>if tyA m x S1 then(a.f env S1).bind λvs S2=>mtB x m vs S2 else .bad) λ_ _=>.then λx S1=>by
    split
    ·~.then λ_ _=>GN _ _ _ _
    ·~.refl _)
  |_,_,_=>PR
  else PR
§JN(rc:(e:Expr)->PY (Sg T sc N e))(x name:Str)(p ap pos:Pos):(es:PQ Expr)->PY (Sg T sc N (.Call (.Attribute (.Name x p) name ap) es [] pos))
 |[a]=>if h:name= "get" /\glb sc x=PU/\am a=PU/\(ap.endLine == pos.line)=PU then match hD:T.D x,hA:T.DA x,rc a with
  |some l,_,PN f=>PN (leS (mkS (λenv S=>tidy S° ((f.f env S).bind λy S1=>gL l y S1)) (λZ=>by
    &rfl,h1,h2,h3:=h;&ad,e1,e2:=Z.wd.kd x l hD;~b9 (CM e2 (Z.gl h1) e1 h2 (f.pe Z) (bV h1) h3)) rfl) (λenv S=>tidy S° ((f.f env S).bind λy S1=>AY l y S1)) λ_ _=>.tidy (.then λ_ _=>yw _ _ _))
  |none,PN l,PN f=>PN (mkS (λenv S=>(f.f env S).bind λy S1=>o7 l y S1) (λZ=>by
    &rfl,h1,h2,h3:=h;&ad,l',e1,e2,e3:=Z.wd.ka x l hA;~yq e2 e3 (Z.gl h1) e1 h2 (f.pe Z) (bV h1) h3) rfl)
  |_,_,_=>PR
  else PR
 |[a,b]=>if h:name= "get" /\glb sc x=PU/\am a=PU/\am b=PU/\(ap.endLine == pos.line)=PU then match hD:T.DA x,rc a,rc b with
  |some l,PN f,PN g=>PN (mkS (λenv S=>(f.f env S).bind λy S1=>(g.f env S1).bind λu S2=>oS l y u S2) (λZ=>by
    &rfl,h1,h2,h3,h4:=h;&ad,l',e1,e2,e3:=Z.wd.ka x l hD;~ym e2 e3 (Z.gl h1) e1 h2 h3 (f.pe Z) (g.pe Z) (bV h1) h4) rfl)
  |_,_,_=>PR
  else PR
 |_=>PR
end
noncomputable section
variable {T:Tb}
¶Rc(T:Tb):=(sc:Scope)->(N:PQ Str)->(e:Expr)->PY (Sg T sc N e)
variable {sc:Scope}{N:PQ Str}
§isR(T:Tb)(sc:Scope)(x y:Str):Bool:=x == y && glb sc y && T.bs.contains y
~nV(h:isR T sc x y=PU):x=y/\glb sc y=PU/\T.bs.contains y=true:=by
 unfold isR at h;PK[aAn,LO]at h;PM h.1.1,h.1.2,h.2
~aQ{r:Rs g}{f}{a:d}(h:(r.bind f).res=.ok a S):∃ x b,r.res=.ok x b/\(f x b).res=.ok a S:=by
 rw[Rs.bindRes]at h
 #e:r.res with
 |ok x b=>rw[e]at h;PM x,b,rfl,h
 |br _ _ _=>~absurd e Rs.res_br
 |_=>rw[e]at h;#h
~Dr{gs:En->Mo Src}(h:∀ env S a S1,(gs env S).res=.ok a S1->aB S1 a.2):∀ env S a S1,((gs env S).bind (popA S°)).res=.ok a S1->aB S1 a.2:=λenv S a S1 e=>by
 &x,c,f,d:=aQ e;~Dl (h env S x c f) d
§mkI{t:Tg}{tg e:Expr}(z:Bool)(hz:z=PU->∃ is,t=.tp is)(f:Dn)(gs:En->Mo Src)(le:∀ env S,Le (gs env S) ((f env S).bind dQ))(st:∀ env S a S1,(gs env S).res=.ok a S1->aB S1 a.2)(pi:∀ {X top E},Cy T X sc N top E->PI X tg e (tI X.K X.mg z E f)):SgI T sc N t tg e:=
 ⟨λenv S=>(gs env S).bind (popA S°),z,hz,Dr st,λZ=>GM (pi Z) le st⟩
~A7{l a:Src}(c:l.2=[])(h:(Rs.br b (.ok l S) .bad).res=.ok a S1):aB S1 a.2:=by
 #b
 ·#h
 ·#h;rw[c];trivial
§GW(rc:(e:Expr)->PY (Sg T sc N e))(t:Tg)(tg e:Expr):PY (SgI T sc N t tg e):=(rc e).map λf=>mkI PV (λh=>nomatch h) f.f (λenv S=>(f.f env S).bind Df) (λ_ _=>.then Dg) (λenv S a S1 e=>by
  &x,S0,_,h:=aQ e;~Dh h) λZ=>Gu (f.pe Z)
~yC(h:(va x S).res=.ok a S1):aB S1 a.2:=by
 cases x <;> first | (cases h) | ~A7 rfl h
~yD(h:(vc x y z S).res=.ok a S1):aB S1 a.2:=by
 cases x <;> first | (cases h) | skip
 cases y <;> first | (cases h) | skip
 cases z <;> first | (cases h) | ~A7 rfl h
§JO(rc:(e:Expr)->PY (Sg T sc N e))(t:Tg)(tg:Expr)(x:Str)(p pos:Pos)(hx:isR T sc x "range" = PU):(es:PQ Expr)->PY (SgI T sc N t tg (.Call (.Name x p) es [] pos))
 |[a]=>if h:am a=PU then(rc a).map λf=>mkI PV (λh=>nomatch h) (λenv S=>(f.f env S).bind λx S1=>i4 x S1) (λenv S=>(f.f env S).bind va) (λ_ _=>by rw[aK];~.then λ_ _=>yA _ _) (λenv S a S1 e=>by
   &x,S0,_,h:=aQ e;~yC h) λZ=>by
   &rfl,h1,h2:=nV hx;~CQ (Z.gl h1) (Z.bn h2) h (f.pe Z)else PR
 |[a,b,c]=>if h:am a=PU/\am b=PU/\am c=PU then match rc a,rc b,rc c with
  |some f,PN g,PN k=>PN (mkI PV (λh=>nomatch h) (λenv S=>(f.f env S).bind λx S1=>(g.f env S1).bind λy S2=>(k.f env S2).bind λz S3=>i5 x y z S3) (λenv S=>(f.f env S).bind λx S1=>(g.f env S1).bind λy S2=>(k.f env S2).bind λz S3=>vc x y z S3) (λ_ _=>by rw[aK];~.then λ_ _=>by rw[aK];~.then λ_ _=>by rw[aK];~.then λ_ _=>yB _ _ _ _) (λenv S a S1 e=>by
   &x,S0,_,h:=aQ e;&y,S2,_,h:=aQ h;&z,S3,_,h:=aQ h;~yD h) λZ=>by
   &rfl,h1,h2:=nV hx;~CS (Z.gl h1) (Z.bn h2) h.1 h.2.1 h.2.2 (f.pe Z) (g.pe Z) (k.pe Z))
  |_,_,_=>PR
  else PR
 |_=>PR
§JP(rc:(e:Expr)->PY (Sg T sc N e))(is:PQ Nat)(elts:PQ Expr)(kk:Nat)(tpos:Pos)(x:Str)(p pos:Pos)(hx:isR T sc x "zip" = PU):(es:PQ Expr)->PY (SgI T sc N (.tp is) (.Tuple elts kk tpos) (.Call (.Name x p) es [] pos))
 |[a,b]=>if h:am a=PU/\am b=PU then match rc a,rc b with
  |some f,PN g=>PN (mkI PU (λ_=>⟨is,rfl⟩) (λenv S=>(f.f env S).bind λx S1=>(g.f env S1).bind λy S2=>nN x y S2) (λenv S=>(f.f env S).bind λx S1=>(g.f env S1).bind λy S2=>ve x y S2) (λ_ _=>by rw[aK];~.then λ_ _=>by rw[aK];~.then λ_ _=>Di _ _ _) (λenv S a S1 e=>by
   &x,S0,_,h:=aQ e;&y,S2,_,h:=aQ h;~Dj h) λZ=>by
   &rfl,h1,h2:=nV hx;~C1 (Z.gl h1) (Z.bn h2) h.1 h.2 (f.pe Z) (g.pe Z))
  |_,_=>PR
  else PR
 |_=>PR
§cIt(rc:(e:Expr)->PY (Sg T sc N e))(t:Tg)(tg e:Expr):PY (SgI T sc N t tg e):=match e with
 |.Call (.Name x p) es [] pos=>if h:isR T sc x "range" = PU then JO rc t tg x p pos h es
  else if h:isR T sc x "zip" = PU then match t,tg with
   |.tp is,.Tuple elts kk tpos=>JP rc is elts kk tpos x p pos h es
   |_,_=>PR
  else GW rc t tg _
 |e=>GW rc t tg e
§ixs(N:PQ Str):PQ Expr->PY (PQ Nat)
 |[]=>PN []
 |.Name x _ :: es=>match ixS x N,ixs N es with
  |some i,PN is=>PN (i :: is)
  |_,_=>PR
 |_=>PR
§Ds(N:PQ Str):Expr->PY Tg
 |.Name x _=>(ixS x N).map .nm
 |.Tuple es _ _=>(ixs N es).map .tp
 |_=>PR
§rhoOf(scope:Scope)(N:PQ Str):PQ Nat:=scope.names.filterMap λp=>match p.2 with
 |.free=>ixS p.1 N
 |_=>PR
§fG(scope:Scope)(N:PQ Str)(tgt:Expr):PQ Str:=tgNames tgt++(rhoOf scope N).map λj=>N.getD j ""
§dComp(mp:Bool)(n:Nat)(ρ:PQ Nat)(t:Tg)(it:En->Mo Src)(fo:En->Mo (PY Dt)):Dn:=λenv S=>(it env S).bind λl S1 =>
 gZ mp l.2 t fo l.1 (List.replicate n PR++ρ.map λj=>(env[j]?).join) S1
§dEl(f:Dn):En->Mo (PY Dt):=λen S=>(f en S).bind (bD λx S2=>.ok (PN x) S2)
§dElIf(c f:Dn):En->Mo (PY Dt):=λen S=>(c en S).bind λb S2=>chB b ((f en S2).bind (bD λx S3=>.ok (PN x) S3)) (.ok PR S2)
§GX(rc:Rc T)(elt:Expr)(scope:Scope)(p:Pos):(gens:PQ N9)->PY (Sg T sc N (.ListComp elt gens scope p))
 |[⟨tgt,iter,ifs,az⟩]=>if h:az=0/\o5 sc scope N (rhoOf scope N)=PU/\(fG scope N tgt).Nodup/\g5 iter=PU then match Ds (fG scope N tgt) tgt with
  |some t=>if ht:uL scope (fG scope N tgt) PV t tgt=PU then match ifs,cIt (rc sc N) t tgt iter,rc scope (fG scope N tgt) elt with
   |[],PN it,PN el=>PN (mkS (dComp PU (tgNames tgt)° (rhoOf scope N) t it.f (dEl el.f)) (λZ=>by
     &rfl,h1,h2,h3:=h;~CV it.hz Z.calm (csG Z.eS Z.eN h1 rfl) it.st (it.pi Z) (λc s₀ H₀ fp=>pgt (X:=ccx _ scope c _ s₀ H₀ fp) (top:=PV) Z.calm rfl h2 aI (λh=>nomatch h) ht) (λc s₀ H₀ fp=>el.pe (Z.comp aI h2)) h3) rfl)
   |[cnd],PN it,PN el=>if hc:tOk cnd=PU then(rc scope (fG scope N tgt) cnd).map λcd=>mkS (dComp PV (tgNames tgt)° (rhoOf scope N) t it.f (dElIf cd.f el.f)) (λZ=>by
     &rfl,h1,h2,h3:=h;~rp it.hz Z.calm (csG Z.eS Z.eN h1 rfl) it.st (it.pi Z) (λc s₀ H₀ fp=>pgt (X:=ccx _ scope c _ s₀ H₀ fp) (top:=PV) Z.calm rfl h2 aI (λh=>nomatch h) ht) (λc s₀ H₀ fp=>cd.pt hc (Z.comp aI h2)) (λc s₀ H₀ fp=>el.pe (Z.comp aI h2)) h3) rfl
    else PR
   |_,_,_=>PR
   else PR
  |none=>PR
  else PR
 |_=>PR
§Du(rc:(e:Expr)->PY (Sg T sc N e))(x:Str)(gp p:Pos)(e:Expr):PY (Sg T sc N (.Call (.Name x gp) [e] [] p)):=match e with
 |.Call g es kw p3=>match kw with
  |[]=>match g with
   |.Name y p2=>match JL rc x y es gp p2 p3 p with
    |some s=>PN s
    |none=>dV rc x gp p _
   |_=>dV rc x gp p _
  |_=>dV rc x gp p _
 |e=>dV rc x gp p [e]
§Dv(rc:(e:Expr)->PY (Sg T sc N e))(x:Str)(gp p:Pos)(a b:Expr):PY (Sg T sc N (.Call (.Name x gp) [a,b] [] p)):=match b with
 |.Name y p2=>match JK rc x y a gp p2 p with
  |some s=>PN s
  |none=>dV rc x gp p _
 |b=>dV rc x gp p [a,b]
§Dw(rc:(e:Expr)->PY (Sg T sc N e))(x:Str)(gp p:Pos)(es:PQ Expr):PY (Sg T sc N (.Call (.Name x gp) es [] p)):=match es with
 |[e]=>Du rc x gp p e
 |[a,b]=>Dv rc x gp p a b
 |es=>dV rc x gp p es
§Dx(rc:(e:Expr)->PY (Sg T sc N e))(o:Expr)(name:Str)(ap p:Pos)(es:PQ Expr):PY (Sg T sc N (.Call (.Attribute o name ap) es [] p)):=match o with
 |.Name x p2=>match JN rc x name p2 ap p es with
  |some s=>PN s
  |none=>cMt rc (.Name x p2) name ap p es
 |o=>cMt rc o name ap p es
§GY(rc:(e:Expr)->PY (Sg T sc N e))(f:Expr)(es:PQ Expr)(kw:PQ Mx)(p:Pos):PY (Sg T sc N (.Call f es kw p)):=match kw with
 |[]=>match f with
  |.Name x gp=>Dw rc x gp p es
  |.Attribute o name ap=>Dx rc o name ap p es
  |_=>PR
 |_=>PR
§GZ(rc:Rc T)(sc:Scope)(N:PQ Str)(e:Expr):PY (Sg T sc N e):=match e with
 |.Constant c k p=>Dp c k p
 |.Name x p=>GO x p
 |.BinOp a o b p=>JA (rc sc N) a o b p
 |.UnaryOp o a p=>cUn (rc sc N) o a p
 |.BoolOp o es p=>A0 (rc sc N) o p es
 |.Compare a os es p=>JB (rc sc N) a p os es
 |.IfExp c a b p=>JC (rc sc N) c a b p
 |.Tuple es k p=>JE (rc sc N) es k p
 |.List es p=>JF (rc sc N) es p
 |.Dict ks vs p=>GU p ks vs
 |.Subscript a b p=>JG (rc sc N) a b p
 |.Call f es kw p=>GY (rc sc N) f es kw p
 |.ListComp elt gens scope p=>GX rc elt scope p gens
 |_=>PR
§cE(T:Tb):Nat->Rc T
 |0,_,_,_=>PR
 |n+1,sc,N,e=>(GZ (cE T n) sc N e).map λs=>bif T.bk.contains (e.pos.line,e.pos.col,e.pos.endCol)then Jy s else s
end
noncomputable section
structure Cb(T:Tb)(xs:PQ Str)(X:Cx)(sc:Scope)(N:PQ Str):Prop where
 cy:∀ E,Cy T (X.wish (aN X E)) sc N PU E
 stk:X.stack=X.env :: X.outer
 fr:X.env.frame=PN X.env.locals
 ex:X.ex=[]
 kind:X.env.scope.kind=.function
 exc:∀ c∈xs,∃ Ca,ExC X.K X.mg c Ca
section
variable (T:Tb)(xs:PQ Str)(sc:Scope)(N:PQ Str)
structure SgS(s:LP) where
 f:En->Mo Fl
 ps:∀ {X E},Cb T xs X sc N->PS (X.wish (aN X E)) s (tS X.K X.mg E f)
structure SgB(s:PQ LP) where
 f:En->Mo Fl
 ps:∀ {X E},Cb T xs X sc N->PSs (X.wish (aN X E)) s (tS X.K X.mg E f)
end
section
variable {T:Tb}{xs:PQ Str}{sc:Scope}{N:PQ Str}
§dSet(t:Tg)(f:Dn):En->Mo Fl:=λenv S=>(f env S).bind λa S1=>match bindA t a env with
 |some env'=>.ok (.nx env') S1
 |none=>.bad
~bf(Z:Cy T X sc N PU E)(h:fE sc N PU i (.Name x p)=PU):X.N[i]?=PN x/\Loc X.env.scope x/\(X.fn x=PU\/X.env.scope.names.lookup x=PN .local):=by
 unfold fE CT at h;PK[aAn,aBp,LO]at h;&b,a:=h;!⟨by rw[Z.eN];~b,?_,.inl (Z.fn rfl x)⟩;rcases a with a | ⟨_,a⟩
 ·rcases Z.eS x _ a with q | ⟨q,_⟩
  ·~.inl q
  ·#q
 ·rcases Z.eS x _ a with q | ⟨q,_⟩
  ·~.inr q
  ·#q
§G0(rc:Rc T)(i:Nat)(x:Str)(p:Pos)(v:Expr)(pos:Pos)(h:fE sc N PU i (.Name x p)=PU)(hc:cJ v=PU):PY (SgS T xs sc N (.Assign [.Name x p] v pos)):=(rc sc N v).map λf =>
 ⟨dSet (.nm i) f.f,fun{X E} Z=>uT (X:=X.wish (aN X E)) (by rw[(Z.cy E).eN];~(Z.cy E).nd) (bf (Z.cy E) h).1 (bf (Z.cy E) h).2.1 (bf (Z.cy E) h).2.2 (f.pe (Z.cy E)) (swaps_of hc)⟩
~yE{X:Cx}{p q pos:Pos}(k:X.env.scope.names.lookup x=PN .cell):Mw (.ListComp c b a q) (PN (.Name x p)) pos.line X.env=pure false:=by
 show(pure _)=pure PV;@d:X.env.kindOf x=PN _:=k;rw[d];@:((PN NameKind.cell) == PN NameKind.local)=false:=by decide
 rw[this,aBA,aBX,aBX]
~vj{X:Cx}{p q pos:Pos}(e:X.env.scope.kind=.function)(k:X.env.scope.names.lookup x=PN .local)(d:(p.line == q.line)=PU)(c:(!(a.names.any fun(n,k)=>n == x && (k == .local || k == .cell)))=PU) :
  Mw (.ListComp f b a q) (PN (.Name x p)) pos.line X.env=pure true:=by
 show(pure (X.env.blockKind == .function && X.env.kindOf x == PN _ && p.line == q.line && !(a.names.any fun(n,k)=>n == x && (k == .local || k == .cell))))=pure PU;@g:X.env.kindOf x=PN _:=k;@h:(X.env.blockKind == ScopeKind.function)=true:=by
  PL Env.blockKind;rw[e]
  decide
 rw[g,h,d,c];simp
§G1(rc:Rc T)(i:Nat)(x:Str)(p:Pos)(elt:Expr)(scope:Scope)(q pos:Pos)(h:fE sc N PU i (.Name x p)=PU):(gens:PQ N9)->PY (SgS T xs sc N (.Assign [.Name x p] (.ListComp elt gens scope q) pos))
 |[⟨tgt,iter,ifs,az⟩]=>if hh:az=0/\o5 sc scope N (rhoOf scope N)=PU/\(fG scope N tgt).Nodup/\g5 iter=PU/\sc.names.lookup x=PN .local/\(p.line == q.line)=PU/\(!(scope.names.any fun(n,k)=>n == x && (k == .local || k == .cell)))=PU then match Ds (fG scope N tgt) tgt with
  |some t=>if ht:uL scope (fG scope N tgt) PV t tgt=PU then match ifs,cIt (rc sc N) t tgt iter,rc scope (fG scope N tgt) elt with
   |[],PN it,PN el=>PN ⟨dSet (.nm i) (dComp PU (tgNames tgt)° (rhoOf scope N) t it.f (dEl el.f)),fun{X E} Z=>by
     &rfl,h1,h2,h3,h4,h5,h6:=hh;@Y:=Z.cy E;~uU (X:=X.wish (aN X E)) (NL:=tgNames tgt) (body:=λacc env=>do let x <- L3 elt env;let _ <- call (.builtin "list.append") [acc,x];pure ()) it.hz (by rw[Y.eN];~Y.nd) (bf Y h).1 (bf Y h).2.1 (bf Y h).2.2
      (vj (X:=X) Z.kind (by rcases Y.eS x _ h4 with k | ⟨k,_⟩;~k;#k) h5 h6) (mp:=PU) (λ_ _ _=>o0) gX i7 Y.calm (csG Y.eS Y.eN h1 rfl) it.st (it.pi Y) (λc s₀ H₀ fp=>pgt (X:=ccx (X.wish (aN X E)) scope c _ s₀ H₀ fp) (top:=PV) Y.calm rfl h2 aI (λh=>nomatch h) ht) (λc s₀ H₀ fp=>nJ (el.pe (Y.comp aI h2))) (λit acc env=>kJ elt tgt iter scope q it acc env) (cr h3)⟩
   |[cnd],PN it,PN el=>if hcc:tOk cnd=PU then(rc scope (fG scope N tgt) cnd).map λcd=>⟨dSet (.nm i) (dComp PV (tgNames tgt)° (rhoOf scope N) t it.f (dElIf cd.f el.f)),fun{X E} Z=>by
     &rfl,h1,h2,h3,h4,h5,h6:=hh;@Y:=Z.cy E;~uU (X:=X.wish (aN X E)) (NL:=tgNames tgt) (body:=λacc env=>do
       let b <- PySem.isTrue cnd env (L3 cnd env)
       if b then(do let x <- L3 elt env;let _ <- call (.builtin "list.append") [acc,x];pure ())else pure ()) it.hz (by rw[Y.eN];~Y.nd) (bf Y h).1 (bf Y h).2.1 (bf Y h).2.2
      (vj (X:=X) Z.kind (by rcases Y.eS x _ h4 with k | ⟨k,_⟩;~k;#k) h5 h6) (mp:=PV) (λh=>nomatch h) (l6 lU pC) (jb i8 pC) Y.calm (csG Y.eS Y.eN h1 rfl) it.st (it.pi Y) (λc s₀ H₀ fp=>pgt (X:=ccx (X.wish (aN X E)) scope c _ s₀ H₀ fp) (top:=PV) Y.calm rfl h2 aI (λh=>nomatch h) ht) (λc s₀ H₀ fp=>uN (cd.pt hcc (Y.comp aI h2)) (el.pe (Y.comp aI h2))) (λit acc env=>kL elt tgt iter cnd scope q it acc env) (cr h3)⟩else PR
   |_,_,_=>PR
   else PR
  |none=>PR
  else PR
 |_=>PR
§G4(rc:Rc T)(i:Nat)(x:Str)(p:Pos)(elt:Expr)(scope:Scope)(q pos:Pos)(h:fE sc N PU i (.Name x p)=PU)(gens:PQ N9):PY (SgS T xs sc N (.Assign [.Name x p] (.ListComp elt gens scope q) pos)):=
 if hc:sc.names.lookup x=PN .cell then(rc sc N (.ListComp elt gens scope q)).map λf =>
   ⟨dSet (.nm i) f.f,fun{X E} Z=>uT (X:=X.wish (aN X E)) (by rw[(Z.cy E).eN];~(Z.cy E).nd) (bf (Z.cy E) h).1 (bf (Z.cy E) h).2.1 (bf (Z.cy E) h).2.2 (f.pe (Z.cy E)) (yE (X:=X) (by
    rcases(Z.cy E).eS x _ hc with k | ⟨k,_⟩
    ·~k
    ·#k))⟩
  else G1 rc i x p elt scope q pos h gens
§G5(rc:Rc T)(es:PQ Expr)(kk:Nat)(tp:Pos)(v:Expr)(pos:Pos):PY (SgS T xs sc N (.Assign [.Tuple es kk tp] v pos)):=match ixs N es,rc sc N v with
 |some is,PN f=>if h:uL sc N PU (.tp is) (.Tuple es kk tp)=PU/\cJ v=PU/\nL v=PU then PN ⟨dSet (.tp is) f.f,fun{X E} Z=>by
   @Y:=Z.cy E;@hG:PG (X.wish (aN X E)) (.Tuple es kk tp) (gT X.K (.tp is)):=pgt (X:=X.wish (aN X E)) Y.calm Y.eN Y.nd Y.eS Y.fn h.1;~CZ (X:=X.wish (aN X E)) (f.pe Y) hG h.2.1 h.2.2 (sj (f.pe Y) hG (by PL N6;~swaps_of h.2.1) (nM h.2.2))⟩else PR
 |_,_=>PR
§JQ(rc:Rc T)(o i:Expr)(po:Pos)(v:Expr)(pos:Pos):PY (SgS T xs sc N (.Assign [.Subscript o i po] v pos)):=match rc sc N v,rc sc N o,rc sc N i with
 |some f,PN g,PN k=>if h:eA i=PU/\cJ v=PU then PN ⟨λenv S=>(f.f env S).bind λv S1=>(g.f env S1).bind λx S2=>(k.f env S2).bind λy S3=>(vg x y v S3).bind λ_ S4=>.ok (.nx env) S4,fun{X E} Z=>by
   @Y:=Z.cy E;!PS.imp (t:=tS X.K X.mg E λenv S=>(f.f env S).bind λv S1=>(g.f env S1).bind λx S2=>(k.f env S2).bind λy S3=>(dR x y v S3).bind λ_ S4=>.ok (.nx env) S4) ?_ (λD σ H ⟨m,S,env,sm,se,hl,p⟩=>⟨m,S,env,sm,se,hl,(Le.then λ_ _=>.then λ_ _=>.then λ_ _=>(Dm _ _ _ _).bind λ_ _=>.refl _).postS p⟩);~Gx (X:=X.wish (aN X E)) (f.pe Y) (g.pe Y) (k.pe Y) (sj (f.pe Y) (BH (g.pe Y) (k.pe Y) (yo Y.un) (by intro _;cases i <;> first | rfl | ~absurd h.1 Bool.noConfusion)) (by PL N6;~swaps_of h.2) (by cases v <;> rfl))⟩else PR
 |_,_,_=>PR
§JR(rc:Rc T)(v:Expr)(pos:Pos):(ts:PQ Expr)->PY (SgS T xs sc N (.Assign ts v pos))
 |[.Name x p]=>match ixS x N with
  |some i=>if h:fE sc N PU i (.Name x p)=PU then match v with
   |.ListComp elt gens scope q=>G4 rc i x p elt scope q pos h gens
   |v=>if hc:cJ v=PU then G0 rc i x p v pos h hc else PR
   else PR
  |none=>PR
 |[.Tuple es kk tp]=>G5 rc es kk tp v pos
 |[.Subscript o i po]=>JQ rc o i po v pos
 |_=>PR
§dRaise(x:Str)(g:En->Mo (PQ Av)):En->Mo Fl:=λenv S=>(g env S).bind λvs S1=>if vs°<=Ld then .ex x S1 else .bad
~jc{K}(o:e x=PN (.ref f)):∀ D c H,tS K e E (dRaise x g) D c H->mX f E (tL K e E g) D c H:=λy c H ⟨m,S,b,i,h,s,a⟩=>by
 !⟨m,S,b,i,h,s,PostG.of_res ?_⟩;replace a:=PostS.res_bind a
 #q:(g b S).res with
 |br _ _ _=>~absurd q Rs.res_br
 |bad=>PK[q]at a;~a
 |ex z r=>PK[q]at a;~a
 |ok t r =>
  PK[q,Rs.bind_ok]at a;intro w j k l u n v
  by_cases d:t°<=Ld
  ·rw[Lj d]at a;~⟨by rw[<- v°];~d,a f j k o l u n⟩
  ·rw[Ln d]at a;~a.elim
§Dy(rc:Rc T)(pos:Pos):(e c:PY Expr)->PY (SgS T xs sc N (.Raise e c pos))
 |some (.Call (.Name x np) (e :: es) [] cp),PR=>if h:glb sc x=PU/\xs.contains x=PU then(cAs (rc sc N) (e :: es)).map λa=>⟨dRaise x a.f,fun{X E} Z=>by
   @Y:=Z.cy E;&Ca,hC:=Z.exc x (by simpa using h.2);@A2:=a.st;rw[aAL,aAn]at A2;~(nk Z.stk Z.fr Z.ex Y.calm hC (Y.gl h.1) (a.pa Y) (bV h.1) (star1 A2.1) (eB A2.2)).imp (jc hC.m)⟩else PR
 |_,_=>PR
§rq(A B:En->Mo Fl):En->Mo Fl:=λenv S=>(A env S).bind λf S1=>match f with
 |.nx env'=>B env' S1
 |f=>.ok f S1
§cBk(rs:(s:LP)->PY (SgS T xs sc N s)):(ss:PQ LP)->PY (SgB T xs sc N ss)
 |[]=>PN ⟨λenv S=>.ok (.nx env) S,λ_=>g7⟩
 |s :: ss=>match rs s,cBk rs ss with
  |some a,PN b=>PN ⟨rq a.f b.f,λZ=>i9 (a.ps Z) (b.ps Z)⟩
  |_,_=>PR
§JS(rc:Rc T)(rs:(s:LP)->PY (SgS T xs sc N s))(tg iter:Expr)(body:PQ LP)(pos:Pos):PY (SgS T xs sc N (.For tg iter body [] pos)):=match Ds N tg with
 |some t=>match cIt (rc sc N) t tg iter,cBk rs body with
  |some it,PN b=>if h:uL sc N PU t tg=PU/\g5 iter=PU then PN ⟨λenv S=>(it.f env S).bind λl S1=>aL l.2 t b.f l.1 env S1,fun{X E} Z=>Fm λok=>by
    @Y:=Z.cy E;@own:Ox (Lo X.prog X.w) (X.wish (aN X E)).A (X.wish (aN X E)).env (X.wish (aN X E)).xe:=qU (X:=X) (E:=E) (by rw[<- Z.stk];~ok.frames) Z.fr ok.frf;!PS.imp (t:=tS X.K X.mg E λenv S=>(it.f env S).bind λl S1=>cP l.2 t b.f l.1 env S1) ?_ (λD σ H ⟨m,S,env,sm,se,hl,p⟩=>⟨m,S,env,sm,se,hl,(Le.then λ_ _=>nT).postS p⟩);~Gw (X:=X.wish (aN X E)) it.hz own Y.calm (it.pi Y) (pgt (X:=X.wish (aN X E)) Y.calm Y.eN Y.nd Y.eS Y.fn h.1) (b.ps Z) h.2⟩else PR
  |_,_=>PR
 |none=>PR
§cSt(rc:Rc T)(rs:(s:LP)->PY (SgS T xs sc N s))(s:LP):PY (SgS T xs sc N s):=match s with
 |.Assign ts v pos=>JR rc v pos ts
 |.Expr v pos=>if h:cJ v=PU then(rc sc N v).map λf=>⟨λenv S=>(f.f env S).bind λ_ S1=>.ok (.nx env) S1,fun{X E} Z=>Jx (X:=X.wish (aN X E)) (f.pe (Z.cy E)) (swaps_of h)⟩else PR
 |.If c a b pos=>if h:tOk c=PU then match rc sc N c,cBk rs a,cBk rs b with
  |some f,PN g,PN k=>PN ⟨λenv S=>(f.f env S).bind λx S1=>chB x (g.f env S1) (k.f env S1),fun{X E} Z=>(AR (X:=X.wish (aN X E)) (f.pt h (Z.cy E)) (g.ps Z) (k.ps Z)).imp λD σ H ⟨m,S,env,sm,se,hl,p⟩=>⟨m,S,env,sm,se,hl,(Le.then λ_ _=>dI (.refl _) (.refl _)).postS p⟩⟩
  |_,_,_=>PR
  else PR
 |.Return (PN v) pos=>(rc sc N v).map λf=>⟨λenv S=>(f.f env S).bind λa S1=>.ok (.rt a) S1,fun{X E} Z=>uR (X:=X.wish (aN X E)) (f.pe (Z.cy E))⟩
 |.Return PR pos=>PN ⟨λ_ S=>.ok (.rt (.d .non)) S,λ_=>CW⟩
 |.Pass pos=>PN ⟨λenv S=>.ok (.nx env) S,λ_=>CY⟩
 |.For tg iter body [] pos=>JS rc rs tg iter body pos
 |.Raise e c pos=>Dy rc pos e c
 |_=>PR
§cS(T:Tb)(xs:PQ Str)(m:Nat)(sc:Scope)(N:PQ Str):Nat->(s:LP)->PY (SgS T xs sc N s)
 |0,_=>PR
 |n+1,s=>cSt (cE T m) (cS T xs m sc N n) s
end
end
noncomputable section
§aU:Rs Fl->Rs Av
 |.ok (.rt a) S=>.ok a S
 |.ok (.nx _) S=>.ok (.d .non) S
 |.ok _ _=>.bad
 |.ex c S=>.ex c S
 |.bad=>.bad
 |.br b x y=>.br b (aU x) (aU y)
§l7(np nl:Nat)(B:En->Mo Fl)(as:PQ Av):Mo Av:=λS=>if as°=np then tidy S° (aU (B (as.map PN++List.replicate (nl - np) PR) S))else .bad
§psD(st:LP):PQ Str:=(bL st).args.map (·.arg)
§da(st:LP):PQ Str:=psD st++(ar st).names.filterMap λp=>match p.2 with
 |.local=>if(psD st).contains p.1 then PR else PN p.1
 |.cell=>if(psD st).contains p.1 then PR else PN p.1
 |_=>PR
§scB(N P:PQ Str)(sc:Scope):Bool:=sc.kind == .function && !sc.isCoroutine && !sc.isGenerator && decide N.Nodup && N.take P° == P && P.all (λx=>sc.names.lookup x == PN .local || sc.names.lookup x == PN .cell) && sc.names.all λy=>y.2 != .free
~vm(h:scB N P sc=PU):FnScope N P sc:=by
 unfold scB at h;PK[aAn,LO,aBM,L9,aAf,aBp,bne_iff_ne]at h;&⟨⟨⟨⟨⟨g,e⟩,b⟩,d⟩,a⟩,c⟩,f:=h;PM g,e,b,d,a,c,f
§Ok(P:Lw)(w:Lu)(K:W.Frag)(mg:Str->PY Li)(base:LE)(n:Nat)(f:Str)(C:PQ Av->Mo Av):Prop:=
 ∃ fa fd st ps,Gn K mg f st ps fa fd/\FnOk P w K mg base (bY P w) n fa fd ps (spC K mg C)
section
variable {P:Lw}{w:Lu}{K:W.Frag}{mg:Str->PY Li}{base:LE}{T:Tb}{xs:PQ Str}{n:Nat}{f:Str}
~hV:∀ {as}{vs}(k),RAs K H m as vs->SimE K H m (as.map PN++List.replicate k PR) (vs.map PN++List.replicate k PR)
 |_,_,k,.nil=>λi a h=>by
  rw[aBa,aCc,aBv]at h
  split at h <;> #h
 |_,_,k,.cons r b=>λi a h=>by
  #i with
  |zero =>
   @e:=Option.some.inj (Option.some.inj h);subst e;PM _,rfl,r
  |succ i=>~hV k b i a h
~yF(h:Post K d m H Q E (aU r)):Post K d m H Q E (aU r.res):=by
 induction r with
 |br b x y c a =>
  #b
  ·~a (h.2 rfl)
  ·~c (h.1 rfl)
 |_=>~h
~jd(u:t=N°)(i:Sim K mg H m e)(f:RAs K H m as vs)(z:as°=r)(p:Post K mg m H Q E (l7 r t B as e)):tS K mg E B { nx:=λ_ H'=>Q .non H',rt:=Q } (eZ N vs) H:=by
 subst u z;unfold l7 at p;rw[Lj rfl]at p;@b:=Post.tidy (by rw[i.len];~p);!⟨m,e,as.map PN++List.replicate (N° - as°) PR,i,?_,?_,?_⟩
 ·rw[f°];~hV _ f
 ·show List.length _<=(vs.map PN++List.replicate _ PR)°;rw[aAi,aAi,aAa,aAa,aAV,aAV,f°];~aAo _
 ·replace b:=yF b;!PostS.of_res ?_
  #q:(B _ e).res with
  |br _ _ _=>~absurd q Rs.res_br
  |bad=>rw[q]at b;~b
  |ex c x=>rw[q]at b;~b
  |ok w x =>
   rw[q]at b
   #w with
   |nx h=>~λv H' y n g s l k=>b _ H' y n g s .non
   |bk _=>~b.elim
   |ct _=>~b.elim
   |rt a=>~b
~fV(h:spC K mg (l7 b e B) vs H Q E):vs°=b:=by
 &m,S,c,g,d,p:=h;unfold l7 at p
 by_cases a:c°=b
 ·rw[<- d°,a]
 ·rw[Ln a]at p;~p.elim
structure Ts(P:Lw)(w:Lu)(K:W.Frag)(mg:Str->PY Li)(base:LE)(T:Tb)(xs:PQ Str)(n:Nat):Prop where
 wd:Wd T K mg
 call:∀ f C,T.C f=PN C->∃ k,k<=n/\Ok P w K mg base k f C
 exc:∀ c∈xs,∃ Ca,ExC K mg c Ca
~vn(F:FnOk P w K mg g u k fa B t (spC K mg C))(h:∀ as S,(j as S).res=.bad\/(C as S).res=(j as S).res):FnOk P w K mg g u k fa B t (spC K mg j):=by
 @i:∀ a H Q E,spC K mg j a H Q E->spC K mg C a H Q E:=by
  rintro a H Q E ⟨m,S,as,y,x,p⟩;@l:=PostG.to_res p;rcases h as S with e | e
  ·rw[e]at l;~l.elim
  ·PM m,S,as,y,x,PostG.of_res (by rw[e];~l)
 PM λa H Q E z=>F.len _ _ _ _ (i a H Q E z),λA b s H c v a Q E q o D r z=>F.run A b s H c v a Q E q o D r (i a H Q E z)
§vo(K:W.Frag):Sp:=λvs H Q _=>∃ a ns,vs=[.ref a]/\FzL K H a ((ns:PQ Int).map V.int)/\ns°<=63/\∀ H',Q (.bl PU) H'
~EG{ns:PQ Int}(c:ns°<=63)(b:sJ H)(d:SqL K H a (ns.map V.int)):vo K [.ref a] H (λv _=>v=.bl PU) λ_ _ _=>False:=by
 !⟨a,ns,rfl,?_,c,λ_=>rfl⟩;rcases d with(h | ⟨o,h⟩) | h
 ·rcases b a with q | ⟨o,e,q⟩
  ·rw[q]at h;#h
  ·rw[q]at h;#h
 ·~.inl ⟨o,h⟩
 ·~.inr h
~je:∀ ns:PQ Int,IsPs K H (ns.map Dt.int) (ns.map V.int)
 |[]=>.nil
 |n :: ns=>.cons .int (je ns)
end
end
noncomputable section
structure Cn(T:Tb)(xs:PQ Str)(X:Cx)(sc:Scope)(N:PQ Str):Prop where
 cy:Cy T X.nox sc N PU E0
 calm:X.calm=PU
 stk:X.stack=X.env :: X.outer
 fr:X.env.frame=PN X.env.locals
 ex:X.ex=[]
 exc:∀ c∈xs,∃ Ca,ExC X.K X.mg c Ca
~j8{K}{R}{Q:f->Hp->Prop}(p:PostG K e R m H Q E (bQ r)):PostG K e R m H Q E0 r:=by
 induction r with
 |br b x y d a=>PM λc=>d (p.1 c),λc=>a (p.2 c)
 |_=>first | ~p | ~p.elim
§noM{α:Type}(f:En->Mo α):En->Mo α:=λenv S=>bQ (f env S)
~PA.nox(h:PA X.nox es t):PA X es t:=λb a s d H Q I c =>
 LG (h b a s d H Q (I.wish _) c) (λ_ _ ⟨v,f,e,r,q⟩=>⟨v,f,e.unwish,r,q⟩) λ_ _ z=>False.elim z
section
variable {X:Cx}{e:Expr}{es:PQ Expr}{E:XK}{f:Dn}{g:En->Mo (PQ Av)}
~JT(h:PE X.nox e (tE X.K X.mg E0 f)):PE X e (tE X.K X.mg E (noM f)):=h.nox.imp λg H Q ⟨m,S,a,c,b,d,p⟩=>⟨m,S,a,c,b,d,j8 p⟩
~JU(h:PA X.nox es (tL X.K X.mg E0 g)):PA X es (tL X.K X.mg E (noM g)):=(PA.nox h).imp λf H Q ⟨m,S,a,c,e,d,p⟩=>⟨m,S,a,c,e,d,j8 p⟩
~JV(h:PT X.nox e (tQ X.K X.mg E0 (tst f))):PT X e (tQ X.K X.mg E (tst (noM f))):=h.nox.imp λr H Q ⟨m,S,g,i,o,k,p⟩=>⟨m,S,g,i,o,k,by
 unfold tst noM at p;PL tst
 revert p
 generalize f g S=q;intro p
 induction q with
 |br b x y j l=>PM λc=>j (p.1 c),λc=>l (p.2 c)
 |bad=>~p
 |ex c n=>~p.elim
 |ok a n =>
  #a with
  |d x =>
   #x with
   |bl b=>cases b <;> ~p
   |_=>~p
  |_=>~p⟩
end
section
variable (T:Tb)(xs:PQ Str)(sc:Scope)(N:PQ Str)
structure SgY(s:LP) where
 f:En->Mo Fl
 ps:∀ {X E},Cn T xs X sc N->lw X E->PS X s (tS X.K X.mg E f)
structure SgZ(s:PQ LP) where
 f:En->Mo Fl
 ps:∀ {X E},Cn T xs X sc N->lw X E->PSs X s (tS X.K X.mg E f)
end
section
variable {T:Tb}{xs:PQ Str}{sc:Scope}{N:PQ Str}
§cYk(rs:(s:LP)->PY (SgY T xs sc N s)):(ss:PQ LP)->PY (SgZ T xs sc N ss)
 |[]=>PN ⟨λenv S=>.ok (.nx env) S,λ_ _=>g7⟩
 |s :: ss=>match rs s,cYk rs ss with
  |some a,PN b=>PN ⟨rq a.f b.f,λZ h=>i9 (a.ps Z h) (b.ps Z h)⟩
  |_,_=>PR
§cYr(rc:Rc T)(pos:Pos):(e c:PY Expr)->PY (SgY T xs sc N (.Raise e c pos))
 |some (.Call (.Name x np) (e :: es) [] cp),PR=>if h:glb sc x=PU/\xs.contains x=PU then(cAs (rc sc N) (e :: es)).map λa=>⟨dRaise x (noM a.f),fun{X E} Z hx=>by
   &Ca,hC:=Z.exc x (by simpa using h.2);@A2:=a.st;rw[aAL,aAn]at A2;~(qT hx Z.stk Z.fr Z.ex Z.calm hC (Z.cy.gl h.1) (JU (a.pa Z.cy)) (bV h.1) (star1 A2.1) (eB A2.2)).imp (jc hC.m)⟩else PR
 |_,_=>PR
§cYt(rc:Rc T)(rs:(s:LP)->PY (SgY T xs sc N s))(s:LP):PY (SgY T xs sc N s):=match s with
 |.If c a b pos=>if h:tOk c=PU then match rc sc N c,cYk rs a,cYk rs b with
  |some f,PN g,PN k=>PN ⟨λenv S=>(noM f.f env S).bind λx S1=>chB x (g.f env S1) (k.f env S1),fun{X E} Z hx=>(AR (JV (f.pt h Z.cy)) (g.ps Z hx) (k.ps Z hx)).imp λD σ H ⟨m,S,env,sm,se,hl,p⟩=>⟨m,S,env,sm,se,hl,(Le.then λ_ _=>dI (.refl _) (.refl _)).postS p⟩⟩
  |_,_,_=>PR
  else PR
 |.Return (PN v) pos=>(rc sc N v).map λf=>⟨λenv S=>(noM f.f env S).bind λa S1=>.ok (.rt a) S1,fun{X E} Z _=>uR (JT (f.pe Z.cy))⟩
 |.Raise e c pos=>cYr rc pos e c
 |_=>PR
§cY(T:Tb)(xs:PQ Str)(m:Nat)(sc:Scope)(N:PQ Str):Nat->(s:LP)->PY (SgY T xs sc N s)
 |0,_=>PR
 |n+1,s=>cYt (cE T m) (cY T xs m sc N n) s
§A8(T:Tb)(xs:PQ Str)(st:LP):PY (SgZ T xs (ar st) (da st) (aM st)):=cYk (cY T xs 30 (ar st) (da st) 30) (aM st)
§hY(T:Tb)(xs:PQ Str)(st:LP)(as:PQ Av):Mo Av:=λS=>match scB (da st) (psD st) (ar st),A8 T xs st with
 |true,PN b=>l7 (psD st)° (da st)° b.f as S
 |_,_=>.bad
end
§Ok2(P:Lw)(w:Lu)(K:W.Frag)(mg:Str->PY Li)(base:LE)(n:Nat)(f:Str)(C:PQ Av->Mo Av):Prop:=
 ∃ fa fd st ps,Gn K mg f st ps fa fd/\FnOk P w K mg base (eP P w) n fa fd ps (spC K mg C)
section
variable {P:Lw}{w:Lu}{K:W.Frag}{mg:Str->PY Li}{base:LE}{T:Tb}{xs:PQ Str}{n:Nat}{f:Str}
~G6(F:FnOk P w K t b (eP P w) k x R L sp):FnOk P w K t b (bY P w) k x R L sp:=by
 !⟨F.len,λA a s H c n I Q E i M p u m=>?_⟩;@h:=F.run A a s H c n I Q E i M p u m;!L6 h λr T q=>?_
 #r with
 |ok J=>cases J <;> ~q
 |error e =>
  &D,j,l,N,z,C,B,o,r1,v,d,f,O,y,G,g,S:=q;PM D,j,l,z,C,B,o,r1,v,d,f,O,y,G,g,.inl N,S
~A9(F:FnOk P w K t b (bY P w) k x L z sp):FnOk P w K t b (CXE P w) k x L z sp:=by
 !⟨F.len,λA a s H c n I Q E i D p f m=>?_⟩;@h:=F.run A a s H c n I Q E i D p f m;!L6 h λr R q=>?_
 #r with
 |ok J=>cases J <;> ~q
 |error e =>
  &O,S,l,j,C,B,o,r1,v,d,u,M,y,G,g,_,N:=q;~FlyG.cxe ⟨j,C,B,o,r1,v,d,u,M,y,G,g,N⟩ l
~Ba(t:Ts P w K mg base T xs n){st}(g:Gn K mg f st L D W)(O:L=psD st):FnOk P w K mg base (eP P w) (n+1) D W L (spC K mg (hY T xs st)):=by
 subst O
 by_cases e:scB (da st) (psD st) (ar st)=PU
 case neg =>
  !dh λz H Q E ⟨m,S,F,v,i,p⟩=>?_;unfold hY at p;rw[aA6.mpr e]at p;~p
 @J:=vm e
 #G:A8 T xs st with
 |none =>
  !dh λz H Q E ⟨m,S,F,v,i,p⟩=>?_;unfold hY at p;rw[e,G]at p;~p
 |some b =>
  @o:hY T xs st=l7 (psD st)° (da st)° b.f:=by PL hY;rw[e,G]
  rw[o];!g.F.okE2 J (λz H Q E h=>fV h) λy A d s H z Q E I h=>?_;@N:=fV h;&m,S0,F,v,i,p:=h;@Z:Cn T xs (ii (eP P w) P w K mg base _ f _ D y A d s H E) _ _:=
   ⟨⟨rfl,J.nd,λx k h=>.inl h,rfl,λ_ _=>rfl,I.units,passF3,t.wd,λY C u=>by
    &k,U,q,r,B,l,X,M:=t.call Y C u;~⟨q,r,B,l,k,X,M,I.mono U⟩⟩,rfl,rfl,rfl,rfl,t.exc⟩
  PM _,b.ps Z Fy,jd rfl v i (by rw[i°,N]) p
end
end
noncomputable section
structure Tt where
 C2:Str->PY (PQ Av->Mo Av)
 sub:Str->Str->Bool
structure Ct(T:Tb)(U:Tt)(xs:PQ Str)(X:Cx)(sc:Scope)(N:PQ Str):Prop extends Cb T xs X sc N where
 c2:∀ f C,U.C2 f=PN C->∃ fa fd st ps k,Gn X.K X.mg f st ps fa fd/\FnOk X.prog X.w X.K X.mg X.base (eP X.prog X.w) k fa fd ps (spC X.K X.mg C)/\Room k X.A
 sb:∀ c x,U.sub c x=PU->∀ C HC,X.mg c=PN (.ref C)->X.mg x=PN (.ref HC)->W.exmOne X.K (.ref C) (.ref HC)=PN PU
section
variable (T:Tb)(U:Tt)(xs:PQ Str)(sc:Scope)(N:PQ Str)
structure SgT(s:LP) where
 f:En->Mo Fl
 ps:∀ {X E},Ct T U xs X sc N->iZ X E->PS X s (tS X.K X.mg E f)
structure SgU(s:PQ LP) where
 f:En->Mo Fl
 ps:∀ {X E},Ct T U xs X sc N->iZ X E->PSs X s (tS X.K X.mg E f)
structure SgH(s:PQ LP) where
 f:En->Mo Fl
 ps:∀ {X E},Cb T xs X sc N->∀ ea,PSs (hcx X ea) s (tS X.K X.mg E f)
end
section
variable {T:Tb}{U:Tt}{xs:PQ Str}{sc:Scope}{N:PQ Str}
~PS.wing3{st}(a:X.stack=X.env :: X.outer)(d:X.env.frame=PN X.env.locals)(c:iZ X E)(h:PS (X.wish (aN X E)) st t):PS X st t:=λb s g H D I f =>
 LG (h b s g H D (I.wish _) f) (λ_ _ q=>q.unwish) λe i z=>by
  rw[c];~jP (by rw[I.ok.frames,a]) d I.ok.frf z
~Cb.nox(Z:Cb T xs X sc N):Cy T X.nox sc N PU E0:=by
 @Y:=Z.cy E0;PM Y.eN,Y.nd,Y.eS,Y.calm,Y.fn,Y.un,passF3,Y.wd,Y.call
§cV:Const->PY Dt
 |.int i=>PN (.int i)
 |.str i=>PN (.str i)
 |.bool i=>PN (.bl i)
 |.none=>PN .non
 |_=>PR
~Bb(h:cV c=PN d):PE X (.Constant c k p) (tE X.K X.mg E λ_ S=>.ok (.d d) S):=by
 cases c <;> first | (done) | skip
 all_goals (cases h)
 all_goals first | ~g_c rY (λ_=>.int) | ~g_c mE (λ_=>.str) | ~g_c Aw (λ_=>.bl) | ~g_c jv (λ_=>.non)
§cH:(s:PQ LP)->PY (SgH T xs sc N s)
 |[.Return (PN (.Constant c k p)) q]=>match h:cV c with
  |some d=>PN ⟨rq (λ_ S=>.ok (.rt (.d d)) S) λenv S=>.ok (.nx env) S,fun{X E} Z ea=>i9 (X:=hcx X ea) (uR (Bb h)) g7⟩
  |none=>PR
 |[.Assign [.Name y py] (.Constant c k p) q]=>match h:cV c,ixS y N with
  |some d,PN i=>if hn:fE sc N PU i (.Name y py)=PU then PN ⟨rq (dSet (.nm i) λ_ S=>.ok (.d d) S) λenv S=>.ok (.nx env) S,fun{X E} Z ea=>i9 (X:=hcx X ea) (uT (X:=hcx X ea) (by @Y:=Z.cy E;show X.N.Nodup;rw[Y.eN];~Y.nd) (bf (Z.cy E) hn).1 (bf (Z.cy E) hn).2.1 (bf (Z.cy E) hn).2.2 (Bb h) (swaps_of rfl)) g7⟩else PR
  |_,_=>PR
 |_=>PR
§rz(sub:Str->Str->Bool)(x:Str)(k:Av->Mo Fl)(h:Mo Fl):Rs Av->Rs Fl
 |.ok a S=>k a S
 |.ex c S=>if sub c x then h S else .bad
 |.bad=>.bad
 |.br b u w=>.br b (rz sub x k h u) (rz sub x k h w)
§dTry(sub:Str->Str->Bool)(x:Str)(C:PQ Av->Mo Av)(g:En->Mo (PQ Av))(k:Av->En->Mo Fl)(h:En->Mo Fl):En->Mo Fl:=λenv S=>(bQ (g env S)).bind λvs S1=>rz sub x (λa=>k a env) (h env) (ro C vs S1)
~vp{K}(p:PostS K d m H D E (rz sub x k h r)):PostS K d m H D E (rz sub x k h r.res):=by
 induction r with
 |br b x y c a =>
  #b
  ·~a (p.2 rfl)
  ·~c (p.1 rfl)
 |_=>~p
~nW{K}(w:tS K i E (dTry sub x C g k h) D j H)
  (A:∀ a env v S b m1,Sim K i b m1 S->SimE K b m1 env j->env°<=j°->RA K b m1 a v->PostS K i m1 b D E (k a env S)->Q v b)
  (B:∀ c env S b m1 o,sub c x=PU->i c=PN (.ref o)->Sim K i b m1 S->SimE K b m1 env j->env°<=j°->PostS K i m1 b D E (h env S)->J (.ref o) PR b):tL K i E0 g j H λvs b=>spC K i C vs b Q J:=by
 &m,S,env,G,z,s,p:=w;!⟨m,S,env,G,z,s,j8 (PostS.bind p λvs O T b m1 _ L N I P d=>u0 I P (PostG.of_res ?_))⟩;@l:=z.mono N L;replace d:=vp d
 #n:(ro C vs O).res with
 |br _ _ _=>~absurd n Rs.res_br
 |bad=>rw[n]at d;~d
 |ok a u =>
  rw[n]at d;~λv q r f e t M=>A a env v u q r t (l.mono e f) s M (PostS.trans f e d)
 |ex c u =>
  rw[n,rz]at d
  by_cases y:sub c x=PU
  ·rw[Lj y]at d;~λo q r R f e t=>B c env u q r o y R t (l.mono e f) s (PostS.trans f e d)
  ·rw[Ln y]at d;~d.elim
§cRF(rc:Rc T)(g:Str)(gp cp p1:Pos)(e:Expr)(es:PQ Expr)(x y:Str)(np hpos pos np2 cpos cp2 pos2 pz:Pos)(z:Str)(j kz:Nat) :
  PY (SgT T U xs sc N (.Try [.Return (PN (.Call (.Name g gp) (e :: es) [] cp)) p1] [.ExceptHandler (PN (.Name x np)) PR [.Raise (PN (.Call (.Name y np2) [.Constant (.str z) kz pz] [] cpos)) (PN (.Constant .none j cp2)) pos2] hpos] [] [] pos)):=
 if h:glb sc g=PU/\glb sc x=PU/\glb sc y=PU/\xs.contains x=PU/\xs.contains y=PU then match hC:U.C2 g,cAs (rc sc N) (e :: es)with
  |some C,PN a=>PN ⟨dTry U.sub x C a.f (λv _ S=>.ok (.rt v) S) λ_ S=>.ex y S,fun{X E} Z hx=>by
    &hg,hgx,hgy,h1,h2:=h;&fa,fd,st,ps,k,D,F,R:=Z.c2 g C hC;&Cx,hCx:=Z.exc x (by simpa using h1);&Cyy,hCy:=Z.exc y (by simpa using h2);@A2:=a.st;rw[aAL,aAn]at A2;@Y:=Z.toCb.nox;!(qW (E:=E) hx Z.stk Z.fr Z.ex (tU F R (Y.gl hg) D.m D.F.kp D.b (a.pa Y) (bV hg) (star1 A2.1) (eB A2.2)) hCx.m (Y.gl hgx) hCy (Y.gl hgy) (λea=>a8 mE pa_nil rfl) (bV hgx) (bV hgy)).imp λD' σ H w=>?_;!nW (Q:=λv H1=>D'.rt v H1) w (λv env u S H1 m1 s1 _ _ r p=>p u H1 m1 (aAj _) (Fz.refl _) s1 r) λc env S H1 m1 Ca hs hm s1 _ _ p=>?_;!⟨Ca,rfl,Z.sb c x hs Ca Cx hm hCx.m,λea he=>⟨by show 1<=Ld;decide,aw,?_⟩⟩;~p Cyy _ m1 hCy.m (aAj _) (Fz.same (ay he _)) (s1.same (ay he _))⟩
  |_,_=>PR
 else PR
§cTE(rc:Rc T)(g:Str)(gp cp p1:Pos)(e:Expr)(es:PQ Expr)(x:Str)(np hpos pos:Pos)(b:LP)(suite:PQ LP) :
  PY (SgT T U xs sc N (.Try [.Expr (.Call (.Name g gp) (e :: es) [] cp) p1] [.ExceptHandler (PN (.Name x np)) PR (b :: suite) hpos] [] [] pos)):=
 if h:glb sc g=PU/\glb sc x=PU/\xs.contains x=PU then match hC:T.C g,cAs (rc sc N) (e :: es),cH (T:=T) (xs:=xs) (sc:=sc) (N:=N) (b :: suite)with
  |some C,PN a,PN hd=>PN ⟨dTry U.sub x C a.f (λ_ env S=>.ok (.nx env) S) hd.f,fun{X E} Z hx=>by
    &hg,hgx,h1:=h;@Y:=Z.toCb.nox;&fa,fd,st,ps,k,D,F,R:=Y.call g C hC;&Cx,hCx:=Z.exc x (by simpa using h1);@A2:=a.st;rw[aAL,aAn]at A2;!(xY (X:=X) Z.stk Z.fr (oJ (A9 F) R (Y.gl hg) D.m D.F.kp D.b (a.pa Y) (bV hg) (star1 A2.1) (eB A2.2)) (.cons hCx.m (Y.gl hgx) (λea=>hd.ps (E:=E) Z.toCb ea) .nil (bV hgx)) rfl).imp λD' σ H w=>?_;!nW (Q:=λ_ H1=>D'.nx σ H1) w (λv env u S H1 m1 s1 se hl r p=>p.nx s1 se hl) λc env S H1 m1 Ca hs hm s1 se hl p=>?_;~⟨Ca,rfl,PU,Z.sb c x hs Ca Cx hm hCx.m,λ_=>⟨m1,S,env,s1,se,hl,p⟩,λh=>nomatch h⟩⟩
  |_,_,_=>PR
 else PR
§cTH(rc:Rc T)(y:Str)(py:Pos)(g:Str)(gp cp p1:Pos)(e:Expr)(es:PQ Expr)(x:Str)(np hpos pos:Pos)(b:LP)(suite:PQ LP) :
  PY (SgT T U xs sc N (.Try [.Assign [.Name y py] (.Call (.Name g gp) (e :: es) [] cp) p1] [.ExceptHandler (PN (.Name x np)) PR (b :: suite) hpos] [] [] pos)):=
 if h:glb sc g=PU/\glb sc x=PU/\xs.contains x=PU then match hC:T.C g,cAs (rc sc N) (e :: es),cH (T:=T) (xs:=xs) (sc:=sc) (N:=N) (b :: suite),ixS y N with
  |some C,PN a,PN hd,PN i=>if hn:fE sc N PU i (.Name y py)=PU then PN ⟨dTry U.sub x C a.f (λv env S=>match bindA (.nm i) v env with
     |some env'=>.ok (.nx env') S
     |none=>.bad) hd.f,fun{X E} Z hx=>by
    &hg,hgx,h1:=h;@Y:=Z.toCb.nox;&fa,fd,st,ps,k,D,F,R:=Y.call g C hC;&Cx,hCx:=Z.exc x (by simpa using h1);@A2:=a.st;rw[aAL,aAn]at A2;@L:=bf Y hn;!(xX (X:=X) Z.stk Z.fr (oJ (A9 F) R (Y.gl hg) D.m D.F.kp D.b (a.pa Y) (bV hg) (star1 A2.1) (eB A2.2)) (by show X.nox.N.Nodup;rw[Y.eN];~Y.nd) L.1 L.2.1 (.cons hCx.m (Y.gl hgx) (λea=>hd.ps (E:=E) Z.toCb ea) .nil (bV hgx)) rfl L.2.2).imp λD' σ H w=>?_;!nW (Q:=λv H1=>D'.nx (σ.set i (PN v)) H1) w (λv env u S H1 m1 s1 se hl r p=>uS s1 se hl r p) λc env S H1 m1 Ca hs hm s1 se hl p=>?_;~⟨Ca,rfl,PU,Z.sb c x hs Ca Cx hm hCx.m,λ_=>⟨m1,S,env,s1,se,hl,p⟩,λh=>nomatch h⟩⟩else PR
  |_,_,_,_=>PR
 else PR
§cTt(rc:Rc T)(s:LP):PY (SgT T U xs sc N s):=match s with
 |.Try [.Return (PN (.Call (.Name g gp) (e :: es) [] cp)) p1] [.ExceptHandler (PN (.Name x np)) PR [.Raise (PN (.Call (.Name y np2) [.Constant (.str z) kz pz] [] cpos)) (PN (.Constant .none j cp2)) pos2] hpos] [] [] pos=>cRF rc g gp cp p1 e es x y np hpos pos np2 cpos cp2 pos2 pz z j kz
 |.Try [.Expr (.Call (.Name g gp) (e :: es) [] cp) p1] [.ExceptHandler (PN (.Name x np)) PR (b :: suite) hpos] [] [] pos=>cTE rc g gp cp p1 e es x np hpos pos b suite
 |.Try [.Assign [.Name y py] (.Call (.Name g gp) (e :: es) [] cp) p1] [.ExceptHandler (PN (.Name x np)) PR (b :: suite) hpos] [] [] pos=>cTH rc y py g gp cp p1 e es x np hpos pos b suite
 |_=>PR
§cU(rc:Rc T)(rs:(s:LP)->PY (SgS T xs sc N s)):(ss:PQ LP)->PY (SgU T U xs sc N ss)
 |[]=>PN ⟨λenv S=>.ok (.nx env) S,λ_ _=>g7⟩
 |s :: ss=>match cU rc rs ss with
  |some b=>match cTt rc s with
   |some a=>PN ⟨rq a.f b.f,λZ h=>i9 (a.ps Z h) (b.ps Z h)⟩
   |none=>match rs s with
    |some a=>PN ⟨rq a.f b.f,λZ h=>i9 (PS.wing3 Z.stk Z.fr h (a.ps Z.toCb)) (b.ps Z h)⟩
    |none=>PR
  |none=>PR
§Bc(T:Tb)(U:Tt)(xs:PQ Str)(st:LP):PY (SgU T U xs (ar st) (da st) (aM st)):=cU (cE T 30) (cS T xs 30 (ar st) (da st) 30) (aM st)
§nX(T:Tb)(U:Tt)(xs:PQ Str)(st:LP)(as:PQ Av):Mo Av:=λS=>match scB (da st) (psD st) (ar st),Bc T U xs st with
 |true,PN b=>l7 (psD st)° (da st)° b.f as S
 |_,_=>.bad
end
section
variable {P:Lw}{w:Lu}{K:W.Frag}{mg:Str->PY Li}{base:LE}{T:Tb}{U:Tt}{xs:PQ Str}{n:Nat}{f:Str}
~JW(t:Ts P w K mg base T xs n)(t2:∀ f C,U.C2 f=PN C->∃ k,k<=n/\Ok2 P w K mg base k f C)(ts:∀ c x,U.sub c x=PU->∀ C O,mg c=PN (.ref C)->mg x=PN (.ref O)->W.exmOne K (.ref C) (.ref O)=PN PU){st}(g:Gn K mg f st a N fd)(hp:a=psD st):FnOk P w K mg base (bY P w) (n+1) N fd a (spC K mg (nX T U xs st)):=by
 subst hp
 by_cases u:scB (da st) (psD st) (ar st)=PU
 case neg =>
  !dh λG H Q E ⟨m,S,R,z,v,p⟩=>?_;unfold nX at p;rw[aA6.mpr u]at p;~p
 @J:=vm u
 #X:Bc T U xs st with
 |none =>
  !dh λG H Q E ⟨m,S,R,z,v,p⟩=>?_;unfold nX at p;rw[u,X]at p;~p
 |some b =>
  @F:nX T U xs st=l7 (psD st)° (da st)° b.f:=by PL nX;rw[u,X]
  rw[F];!g.F.okE3 J (λG H Q E h=>fV h) λI A e s H G Q E y h=>?_;@Y:=fV h;&m,S0,R,z,v,p:=h;@Z:Ct T U xs (ii (bY P w) P w K mg base _ f _ N I A e s H E) _ _:=
   ⟨⟨λE'=>⟨rfl,J.nd,λx k h=>.inl h,rfl,λ_ _=>rfl,y.units,wing_on3 rfl rfl rfl,t.wd,λM C i=>by
    &k,D,r,l,j,q,L,B:=t.call M C i;~⟨r,l,j,q,k,L,B,y.mono D⟩⟩,rfl,rfl,rfl,J.kind,t.exc⟩,λM C i=>by
    &k,D,r,l,j,q,L,B:=t2 M C i;~⟨r,l,j,q,k,L,B,y.mono D⟩,ts⟩
  PM _,b.ps Z FD,jd rfl z v (by rw[v°,Y]) p
end
end
noncomputable section
structure Tx where
 top:Nat->LP
 ms:PQ (Str×Nat)
 m2:PQ Nat
 gs:PQ (Str×Dt)
 ds:PQ (Str×PQ (Str×Int))
 das:PQ (Str×PQ (Str×PQ Str))
 bs:PQ Str
 lx:PQ Str
 xs:PQ Str
 sb:PQ (Str×Str)
 bk:PQ (Nat×Nat×Nat)
§Tx.tb(t:Tx)(r:Nat->PQ Av->Mo Av):Tb:=⟨λx=>(t.ms.lookup x).map r,λx=>t.gs.lookup x,λx=>t.ds.lookup x,λx=>t.das.lookup x,t.bs,t.lx,t.bk⟩
§Tx.tt(t:Tx)(r:Nat->PQ Av->Mo Av):Tt:=⟨λx=>match t.ms.lookup x with
 |some i=>if t.m2.contains i then PN (r i)else PR
 |none=>PR,λc x=>t.sb.contains (c,x)⟩
§Tx.step(t:Tx)(r:Nat->PQ Av->Mo Av)(i:Nat):PQ Av->Mo Av:=bif t.m2.contains i then hY (t.tb r) t.xs (t.top i)else nX (t.tb r) (t.tt r) t.xs (t.top i)
§GOk(mg:Str->PY Li)(p:Str×Dt):Prop:=(∃ i t,p.2=.int i/\mg p.1=PN (.int i t))\/∃ z t,p.2=.str z/\mg p.1=PN (.str z t)
structure TxOk(t:Tx)(K:W.Frag)(mg:Str->PY Li):Prop where
 df:∀ p∈t.ms,∃ f fd,Gn K mg p.1 (t.top p.2) (psD (t.top p.2)) f fd
 gv:∀ p∈t.gs,GOk mg p
 kd:∀ p∈t.ds,∃ a,mg p.1=PN (.ref a)/\iM K a p.2
 ka:∀ p∈t.das,∃ a l',mg p.1=PN (.ref a)/\cC K a l'/\∀ z,(l'.lookup z=PR/\p.2.lookup z=PR)\/∃ b ws,l'.lookup z=PN b/\p.2.lookup z=PN ws/\∀ H:Hp,SqT K H b (ws.map V.str)
 bn:∀ x∈t.bs,mg x=PR
 ex:∀ c∈t.xs,∃ C,ExC K mg c C
 sb:∀ p∈t.sb,∀ C HC,mg p.1=PN (.ref C)->mg p.2=PN (.ref HC)->W.exmOne K (.ref C) (.ref HC)=PN PU
~cv{a:Type}{d}:∀ {l:PQ (Str×a)},l.lookup x=PN d->(x,d)∈l
 |[],h=>by #h
 |(y,e) :: l,h=>by
  rw[aAJ]at h
  #q:x == y with
  |true =>
   rw[q]at h;@b:=beq_iff_eq.mp q;subst b
   #h
   ~aAe
  |false =>
   rw[q]at h;~aAk _ (cv h)
section
variable {P:Lw}{w:Lu}{K:W.Frag}{mg:Str->PY Li}{base:LE}{t:Tx}
~TxOk.wd(h:TxOk t K mg)(r):Wd (t.tb r) K mg:=
 ⟨λx d e=>h.gv _ (cv e),λx d e=>h.kd _ (cv e),λx d e=>h.ka _ (cv e),h.bn⟩
~af{a:Type}{p:a->Prop}:∀ x∈([]),p x:=λ_ h=>by #h
~ac{b:Type}{p:b->Prop}{a}{l}(h:p a)(t:∀ x∈l,p x):∀ x∈a :: l,p x:=λx q=>by
 rcases aAl.mp q with rfl | q
 ·~h
 ·~t x q
~ID(h:∃ t,a x=PN (.int i t)):GOk a (x,.int i):=by
 &t,h:=h;~.inl ⟨i,t,rfl,h⟩
~IE(h:∃ t,a x=PN (.str z t)):GOk a (x,.str z):=by
 &t,h:=h;~.inr ⟨z,t,rfl,h⟩
§daB(S:PQ (Ll×PQ Str)):PQ (Str×Ll)->PQ (Str×PQ Str)->Bool
 |[],[]=>PU
 |(x,b) :: D,(y,ws) :: l=>x == y && S.any (λp=>p.1 == b && p.2 == ws) && daB S D l
 |_,_=>PV
~l9(h:tJ K S):∀ {D}{l},daB S D l=PU->∀ z,(D.lookup z=PR/\l.lookup z=PR)\/∃ b ws,D.lookup z=PN b/\l.lookup z=PN ws/\∀ H:Hp,SqT K H b (ws.map V.str)
 |[],[],_,z=>.inl ⟨rfl,rfl⟩
 |(x,b) :: D,(y,ws) :: l,e,z=>by
  rw[daB,aAn,aAn,LO,aBt]at e;&⟨rfl,⟨p,c,a⟩⟩,d:=e;rw[aAn,LO,LO]at a;&rfl,rfl:=a;rw[aAJ,aAJ]
  #q:z == x with
  |true=>~.inr ⟨_,_,rfl,rfl,λH=>h p c H⟩
  |false=>~l9 h d z
 |[],_ :: _,e,_=>by #e
 |_ :: _,[],e,_=>by #e
~Lc(h:mg x=PN (.ref A)/\cC K A D/\tJ K S)(e:daB S D l=PU) :
  ∃ a l',mg x=PN (.ref a)/\cC K a l'/\∀ z,(l'.lookup z=PR/\l.lookup z=PR)\/∃ b ws,l'.lookup z=PN b/\l.lookup z=PN ws/\∀ H:Hp,SqT K H b (ws.map V.str):=⟨A,D,h.1,h.2.1,l9 h.2.2 e⟩
end
end
~gnM{K}(X:K.In h)(G:h.Ns LC s){st}{r kV q j m d}
  (a:W.nsIn K LC x=PN (PN (.ref f))) (l:K.lookup f=PN ⟨r,od,.func (W.fnOf x x (bL st) (aM st) (ar st) .none kV q j o m d),t⟩) (c:W.codeIn K m x=PU) (k:W.keepIn K (.ref f)=PU)
  (b:∀ (kV g j) (o) (i d) (us),us°=n°->Pp (W.fnOf x x (bL st) (aM st) (ar st) .none kV g j o i d) ⟨us,[]⟩=pure (n.zip us)):∃ f p,Gn K s x st n f p:=
 ⟨f,_,sL l c k,(sL l c k).binds b,W.mg_of X G a⟩
~exM{K}(X:K.In h)(G:h.Ns LC j)(b:W.nsIn K LC x=PN (PN (.ref C)))(l:W.excIn K C bmV "ValueError.__new__" = PU)(a:W.findIn K (.ref C) "__getattribute__" = PN (PN (.builtin "BaseException.__getattribute__")))(c:W.findIn K (.ref C) "__getattr__" = PN PR)(g:W.findIn K (.ref C) "__class__" = PN (PN (.builtin "object.__class__")))(e:W.mroIn K C (.type "BaseException")=PN PU)(i:W.mroIn K C (.type "object")=PN PU)(f:W.clsIn K C=PN d)(k:W.keepIn K (.ref C)=PU):ExC K j x C:=⟨W.mg_of X G b,l,⟨a,c,g,e,i,_,f⟩,k⟩
~csM{K}(X:K.In h)(G:h.Ns LC a)(g:W.nsIn K LC x=PN (PN (.str z t))):∃ t,a x=PN (.str z t):=⟨_,W.mg_of X G g⟩
~ciM{K}(X:K.In h)(G:h.Ns LC a)(g:W.nsIn K LC x=PN (PN (.int i t))):∃ t,a x=PN (.int i t):=⟨_,W.mg_of X G g⟩
~cdM{K}(X:K.In h)(G:h.Ns LC c)(g:W.nsIn K LC x=PN (PN (.ref a)))(d:KTD.tabLook (KTD.datLooks λb=>K.lookup b) (λb=>K.lookup b) a (im l)=PU):∃ a,c x=PN (.ref a)/\iM K a l:=⟨_,W.mg_of X G g,sU d⟩
~sbM{K}(X:K.In h)(G:h.Ns LC d)(j:W.nsIn K LC c=PN (PN (.ref l)))(f:W.nsIn K LC x=PN (PN (.ref g)))(e:W.exmOne K (.ref l) (.ref g)=PN PU):∀ C b,d c=PN (.ref C)->d x=PN (.ref b)->W.exmOne K (.ref C) (.ref b)=PN true:=λC b k n=>by
 @i:=(W.mg_of X G j).symm.trans k;@m:=(W.mg_of X G f).symm.trans n
 #i
 #m
 ~e
@[elab_as_elim] theorem yG{b:Type}{p:PQ b->Prop}{us}(c:us°=0)(h:p []):p us:=by simp_all
@[elab_as_elim] theorem yH{d:Type}{p:PQ d->Prop}{us}(c:us°=1)(h:∀ e,p [e]):p us:=by
 #us with
 |nil=>cases c
 |cons a r=>~yG (Nat.succ.inj c) (h a)
@[elab_as_elim] theorem yJ{d:Type}{p:PQ d->Prop}{us}(c:us°=2)(h:∀ f e,p [f,e]):p us:=by
 #us with
 |nil=>cases c
 |cons a r=>~yH (Nat.succ.inj c) (h a)
@[elab_as_elim] theorem yK{d:Type}{p:PQ d->Prop}{us}(c:us°=3)(h:∀ g e f,p [g,e,f]):p us:=by
 #us with
 |nil=>cases c
 |cons a r=>~yJ (Nat.succ.inj c) (h a)
@[elab_as_elim] theorem yL{d:Type}{p:PQ d->Prop}{us}(c:us°=4)(h:∀ e f g i,p [e,f,g,i]):p us:=by
 #us with
 |nil=>cases c
 |cons a r=>~yK (Nat.succ.inj c) (h a)
@[elab_as_elim] theorem yM{d:Type}{p:PQ d->Prop}{us}(c:us°=5)(h:∀ f g i e j,p [f,g,i,e,j]):p us:=by
 #us with
 |nil=>cases c
 |cons a r=>~yL (Nat.succ.inj c) (h a)
@[elab_as_elim] theorem IF{d:Type}{p:PQ d->Prop}{us}(c:us°=6)(h:∀ g i j f e k,p [g,i,j,f,e,k]):p us:=by
 #us with
 |nil=>cases c
 |cons a r=>~yM (Nat.succ.inj c) (h a)
noncomputable section
open Classical in
§pb(p:Prop):Bool:=decide p
~j9:pb p=PU↔p:=@decide_eq_true_iff p (Classical.propDecidable p)
~kb(h:p):pb p=true:=j9.mpr h
~fW:∀ {r:Rs a},r.res.res=r.res
 |.ok _ _ | .ex _ _ | .bad=>rfl
 |.br PU x y=>fW (r:=x)
 |.br PV x y=>fW (r:=y)
¶Sp1:=PQ Av->Mo Av
§same(A:PQ Av)(S:Sto)(A':PQ Av)(S':Sto):Bool:=pb (A=A'/\S=S')
§ent(A:PQ Av)(S0:Sto)(x:Rs Av):Sp1:=λas S=>.br (same as S A S0) x .bad
§q(A:PQ Av)(S:Sto){α:Type}(x:Rs α):Rs α:=same A S A S~>x
~ah{x:Rs a}:q A S x=x:=by
 PL q same;rw[kb ⟨rfl,rfl⟩]
 rfl
variable (t:Tx)
§Sk(l:PQ (Nat×Sp1)):Nat->Nat->Sp1
 |0,_=>λ_ _=>.bad
 |k+1,i=>t.step (λj=>match l.lookup j with
  |some s=>s
  |none=>Sk l k j) i
§Ev(l:PQ (Nat×Sp1))(i:Nat)(as:PQ Av)(S:Sto):Rs Av:=(Sk t l 6 i as S).res
§Lp(l:PQ (Nat×Sp1))(i k:Nat):En->Mo Fl:=
 match (aM (t.top i))[k]? with
  |some (.For _ _ body _ _)=>match cBk (cS (t.tb λj=>match l.lookup j with
   |some s=>s
   |none=>Sk t l 5 j) t.xs 30 (ar (t.top i)) (da (t.top i)) 30) body with
   |some b=>b.f
   |none=>λ_ _=>.bad
  |_=>λ_ _=>.bad
end
section
variable {P:Lw}{w:Lu}{K:W.Frag}{mg:Str->PY Li}{base:LE}{t:Tx}
§Ho(P:Lw)(w:Lu)(K:W.Frag)(mg:Str->PY Li)(base:LE)(t:Tx)(N:Nat)(i:Nat)(r:Sp1):Prop:=∀ f,t.ms.lookup f=PN i->∀ fa fd,Gn K mg f (t.top i) (psD (t.top i)) fa fd->∃ k,k<=N/\FnOk P w K mg base (bY P w) k fa fd (psD (t.top i)) (spC K mg r)/\(t.m2.contains i=PU->FnOk P w K mg base (eP P w) k fa fd (psD (t.top i)) (spC K mg r))
~Dz:Ho P w K mg base t N i (λ_ _=>.bad):=λf e c d g=>⟨0,aAM _,dh λ_ _ _ _ ⟨_,_,_,_,_,p⟩=>p,λ_=>dh λ_ _ _ _ ⟨_,_,_,_,_,p⟩=>p⟩
~kc(h:Ho P w K mg base t N i r)(l:N<=M):Ho P w K mg base t M i r:=λf e c j g=>by
 &k,m,d:=h f e c j g;PM k,aAq m l,d
~vq(h:Ho P w K mg base t N i r)(l:∀ as S,Le (o as S) (r as S)):Ho P w K mg base t N i o:=λf e d s g=>by
 &k,j,p,n:=h f e d s g;@b:=λas S=>(l as S).imp id Eq.symm;PM k,j,vn p b,λm=>vn (n m) b
~vr(h:∀ A S,(r A S).res=.bad\/Ho P w K mg base t N i (ent A S (r A S).res)):Ho P w K mg base t N i r:=λf e R T g=>by
 @C:∀ {c H Q E},spC K mg r c H Q E->∃ s:Sp1,spC K mg s c H Q E/\Ho P w K mg base t N i s:=by
  rintro c H Q E ⟨m,S,v,L,l,p⟩;rcases h v S with e | e
  ·@J:=PostG.to_res p;rw[e]at J;~J.elim
  ·!⟨_,⟨m,S,v,L,l,PostG.of_res ?_⟩,e⟩;PL ent same;rw[kb ⟨rfl,rfl⟩];show PostG _ _ _ _ _ _ _ (r v S).res.res;rw[fW];~PostG.to_res p
 !⟨N,aAo _,⟨λc H Q E z=>?_,λA a s H b B c Q E y x u l z=>?_⟩,λG=>⟨λc H Q E z=>?_,λA a s H b B c Q E y x u l z=>?_⟩⟩
 all_goals
  &U,o,O:=C z;&k,I,F,D:=O f e R T g
 ·~F.len _ _ _ _ o
 ·~F.run A a s H b B c Q E (y.mono I) x u l o
 ·~(D G).len _ _ _ _ o
 ·~(D G).run A a s H b B c Q E (y.mono I) x u l o
~yN(h:TxOk t K mg){r:Nat->Sp1}(v:∀ j,Ho P w K mg base t N j (r j))(i):Ho P w K mg base t (N+1) i (t.step r i):=λf e d b g=>by
 @s:Ts P w K mg base _ _ N:=⟨h.wd _,λf p e=>by
  change (t.ms.lookup f).map r=PN p at e
  #q:t.ms.lookup f with
  |none=>rw[q]at e;#e
  |some i =>
   rw[q]at e
   #e
   &d,b,g:=h.df _ (cv q);&k,u,A,_:=v i f q d b g;~⟨k,u,d,b,_,_,g,A⟩,h.ex⟩
 !⟨_,aAo _,?_⟩
 by_cases o:t.m2.contains i=PU
 ·@l:t.step r i=hY (t.tb r) t.xs (t.top i):=by PL Tx.step;rw[o];rfl
  rw[l];PM G6 (Ba s g rfl),λ_=>Ba s g rfl
 ·!⟨?_,λq=>absurd q o⟩;@l:t.step r i=nX (t.tb r) (t.tt r) t.xs (t.top i):=by PL Tx.step;rw[aA6.mpr o];rfl
  rw[l];!JW s (λf p e=>?_) (λc x e=>h.sb _ (by simpa [Tx.tt]using e)) g rfl;change (match t.ms.lookup f with | PN i=>if t.m2.contains i then PN _ else PR | PR=>PR)=PN p at e
  #q:t.ms.lookup f with
  |none=>rw[q]at e;#e
  |some j =>
   rw[q]at e
   by_cases m:t.m2.contains j=PU
   ·PK[m]at e
    #e
    &d,b,g:=h.df _ (cv q);&k,u,_,z:=v j f q d b g;PM k,u,d,b,_,_,g,z m
   ·PK[m, aA2]at e
    #e
~ma{a:Type}{d}:∀ {l:PQ (Nat×a)},l.lookup x=PN d->(x,d)∈l
 |[],h=>by #h
 |(y,e) :: l,h=>by
  rw[aAJ]at h
  #q:x == y with
  |true =>
   rw[q]at h;@b:=beq_iff_eq.mp q;subst b
   #h
   ~aAe
  |false=>rw[q]at h;~aAk _ (ma h)
~Bd(h:TxOk t K mg)(c:∀ p∈l,Ho P w K mg base t N p.1 p.2):∀ k i,Ho P w K mg base t (N+k) i (Sk t l k i)
 |0,_=>Dz
 |k+1,i=>yN h (λj=>by
  #q:l.lookup j with
  |none=>~Bd h c k j
  |some s=>~kc (c _ (ma q)) (aBD _ _)) i
~G7(h:TxOk t K mg)(c:∀ p∈l,Ho P w K mg base t N p.1 p.2)(e:Ev t l i A S=x):Ho P w K mg base t (N+6) i (ent A S x):=
 vq (Bd h c 6 i) λd f=>c9 λq=>by
  &rfl,rfl:=j9.mp q;rw[<- e];~.inr fW
~JX(e:t.ms.lookup f=PN i)(X:∀ ns:PQ Int,ns°<=63->Ho P w K mg base t n i (ent [.l (ns.map Dt.int)] [] (.ok (.d (.bl PU)) [])))(g:Gn K mg f (t.top i) (psD (t.top i)) I O):FnOk P w K mg base CX0 n I O (psD (t.top i)) (vo K):=by
 @p:∀ ns:PQ Int,ns°<=63->∃ k,k<=n/\FnOk P w K mg base CX0 k I O _ λc H Q (_)=>∃ a,c=[.ref a]/\FzL K H a _/\∀ u,Q _ u:=λns y=>by
  &k,D,F,_:=X ns y f e I O g;!⟨k,D,?_⟩;@R:∀ c H Q (E:XK),(∃ a,c=[.ref a]/\FzL K H a (ns.map V.int)/\∀ u,Q (.bl PU) u)->spC K mg (ent [.l (ns.map Dt.int)] [] (.ok (.d (.bl PU)) [])) c H Q λ_ _ _=>False:=by
   rintro c H Q E ⟨a,rfl,x,B⟩;!⟨[],[],[.l _],⟨rfl,aBW,λn o a h=>nomatch h⟩,.cons ⟨a,_,rfl,x,je ns⟩ .nil,PostG.of_res ?_⟩;@e:(ent [.l (ns.map Dt.int)] [] (.ok (.d (.bl PU)) []) [.l (ns.map Dt.int)] []).res=.ok (.d (.bl PU)) []:=by
    PL ent same;rw[kb ⟨rfl,rfl⟩]
    rfl
   rw[e];intro v u Z pf g s1 r
   #r
   ~B u
  !⟨λc H Q E q=>F.len _ _ _ _ (R c H Q E q),λA b s H j J c Q E L N M r q=>L6 (F.run A b s H j J c Q _ L N M r (R c H Q E q)) λW s' S=>?_⟩
  #W with
  |error ex =>
   &_,_,_,_,_,_,_,_,_,_,_,_,_,_,_,z:=S;~z.2.elim
  |ok U=>cases U <;> ~S
 !⟨λc H Q E ⟨a,ns,G,x,y,B⟩=>?_,λA b s H j J c Q E L N M r ⟨a,ns,G,x,y,B⟩=>?_⟩
 ·&k,D,F:=p ns y;~F.len c H Q E ⟨a,G,x,B⟩
 ·&k,D,F:=p ns y;~F.run A b s H j J c Q E (L.mono D) N M r ⟨a,G,x,B⟩
end
end L2
namespace Q27
open PySem L2 PyProof.Rows
noncomputable section
¶top(i:Nat):LP:=PySem.Challenge.pw_oldhands_k27_pieces_about.main.body.getD i (.Pass ⟨0,0,0,0⟩)
§tx:Tx where
 top:=top
 ms:=(("is_name",16) :: ("is_whole",17) :: ("is_whole_within",18) :: ("made_kind",19) :: ("is_formed",20) :: ("has_parts",21) :: ("are_bounds",22) :: ("are_words",23) :: ("are_fields",24) :: ("is_field",25) :: ("are_rows",26) :: ("field_kind",27) :: ("item_kind",28) :: ("kinds_within",29) :: ("kind_many",30) :: ("is_sign",33) :: ("is_of",34) :: ("is_text_of",35) :: ("holds_tuple",36) :: ("holds_items",37) :: ("is_record_of",38) :: ("is_pair_of",39) :: ("are_keyed",40) :: ("field_of",41) :: ("record_of",42) :: ("with_fields",43) :: ("without_fields",44) :: ("figures_of",50) :: ("is_factor",51) :: ("kind_behind",52) :: ("is_turn_of",53) :: ("has_turn_parts",54) :: ("most_figures",55) :: ("are_led_words",56) :: ("words_behind",57) :: ("led_kind",58) :: ("turn_about",59) :: ("led_about",60) :: ("taken_paths",63) :: ("made_paths",64) :: ("record_behind",65) :: ("has_piece_form",66) :: ("is_part",67) :: ("can_take",68) :: ("kind_down",69) :: ("takes_kinds",70) :: ("is_kind",71) :: ("is_separator",72) :: ("part_kinds",73) :: ("made_kinds",74) :: ("can_make",75) :: ("is_free",76) :: ("piece_about",77) :: ("old_values",78) :: ("value_down",79) :: ("with_new",80) :: ("without_taken",81) :: ("without_down",82) :: ("with_down",83) :: ("_law_mixed",85) :: ("_law_stream",86) :: ("_law_digit",87) :: ("_law_leaf",88) :: ("_law_record",89) :: ("_law_rows",90) :: ("_law_kind",91) :: ("_law_shape",92) :: ("_law_text",93) :: ("_law_number",94) :: ("_law_pairs",95) :: ("_law_value",96) :: ("_law_figures",97) :: ("_law_words",98) :: ("_law_number_turn",99) :: ("_law_turn",100) :: ("_law_free",101) :: ("_law_piece_of",102) :: ("_law_boxed",103) :: ("_law_piece",104) :: ("_law_paths",105) :: ("_law_change",106) :: ("_law_box_shape",107) :: ("_law_drawn",108) :: ("_law_behind",109) :: ("_law_word_about",110) :: ("law",111) :: [])
 m2:=[19]
 gs:=(("LETTERS",.str "abcdefghijklmnopqrstuvwxyz") :: ("LONGEST_NAME",.int 8) :: ("EACH",.str "each") :: ("MOST_SIGNS",.int 60) :: ("MOST_WORDS",.int 8) :: ("MOST_FIELDS",.int 8) :: ("MOST_ITEMS",.int 8) :: ("MOST_KINDS",.int 40) :: ("DEEPEST",.int 5) :: ("PERCENT",.int 37) :: ("LEAST_FACTOR",.int 2) :: ("GREATEST_FACTOR",.int 1000) :: [])
 ds:=(("PART_COUNTS",(("number",3) :: ("text",2) :: ("choice",2) :: ("list",3) :: ("record",2) :: ("rows",4) :: [])) :: ("TURN_COUNTS",(("bounds",3) :: ("scale",2) :: ("shrink",2) :: ("figures",2) :: ("number",3) :: ("words",3) :: ("cut",2) :: ("first",2) :: ("one",2) :: ("out",1) :: ("items",2) :: [])) :: [])
 das:=(("TURN_SORTS",(("bounds",("number" :: [])) :: ("scale",("number" :: [])) :: ("shrink",("number" :: [])) :: ("figures",("number" :: [])) :: ("number",("text" :: [])) :: ("words",("choice" :: [])) :: ("cut",("text" :: [])) :: ("first",("list" :: "rows" :: [])) :: ("out",("list" :: [])) :: ("items",("list" :: [])) :: [])) :: ("PIECE_FORMS",(("put",("text" :: "tuple" :: "any" :: [])) :: ("drop",("text" :: "any" :: [])) :: ("name",("text" :: "text" :: [])) :: ("sink",("text" :: "text" :: [])) :: ("lift",("text" :: "text" :: [])) :: ("turn",("text" :: "tuple" :: [])) :: ("split",("text" :: "text" :: "text" :: "text" :: [])) :: ("join",("text" :: "text" :: "text" :: "text" :: [])) :: ("part",("text" :: "number" :: "text" :: "text" :: [])) :: ("whole",("text" :: "text" :: "number" :: "text" :: "number" :: "number" :: [])) :: [])) :: [])
 bs:=("isinstance" :: "str" :: "int" :: "bool" :: "tuple" :: "len" :: "all" :: "sum" :: "set" :: "max" :: "min" :: "abs" :: "zip" :: "range" :: "dict" :: "sorted" :: "ord" :: [])
 lx:=["one","other"]
 xs:=("HandError" :: "BadKind" :: "BadTurn" :: "BadPiece" :: [])
 sb:=(("HandError","HandError") :: ("BadKind","HandError") :: ("BadKind","BadKind") :: ("BadTurn","HandError") :: ("BadTurn","BadTurn") :: ("BadPiece","HandError") :: ("BadPiece","BadPiece") :: [])
 bk:=[]
structure Ct where
 P:Lw
 w:Lu
 K:W.Frag
 mg:Str->PY Li
 base:LE
 h:TxOk tx K mg
¶Ct.H(c:Ct)(N i:Nat)(s:Sp1):Prop:=Ho c.P c.w c.K c.mg c.base tx (6*(N / 13)) i s
¶E(l:PQ (Nat×Sp1))(i:Nat)(as:PQ Av)(S:Sto):Rs Av:=Ev tx l i as S
variable {c:Ct}{N:Nat}
~go(a:∀ p∈l,c.H N p.1 p.2)(e:E l i A S=x):c.H (N+13) i (ent A S x):=kc (G7 c.h a e) or
¶bb(b:Bool):Rs Av:=.ok (.d (.bl b)) []
¶dd(b:Dt):Rs Av:=.ok (.d b) []
¶rc(fs:PQ Dt):Dt:=.tup [.str "record",.tup fs]
§fam(l:PQ Dt)(rest:PQ Av)(f:Dt->Dt):Sp1:=λas S=>match as with
 |.d x :: as=>.br (pb (x∈l/\as=rest/\S=[])) (dd (f x)) .bad
 |_=>.bad
~H_fam{rest}(h:∀ x∈l,c.H N i (ent (.d x :: rest) [] (dd (f x)))):c.H N i (fam l rest f):=vr λA S=>by
 match A with
 |[] | .r _ :: _ | .l _ :: _ | .it _ _ :: _ | .c _ :: _=>~.inl rfl
 |.d x :: b =>
  PL fam
  by_cases q:x∈l/\b=rest/\S=[]
  ·&a,rfl,rfl:=q;!.inr ?_;dsimp only;rw[kb ⟨a,rfl,rfl⟩];~h x a
  ·!.inl ?_;dsimp only;rw[aA6.mpr λz=>q (j9.mp z)]
   rfl
~up(h:c.H N i s)(l:N<=M):c.H M i s:=kc h (Nat.mul_le_mul_left 6 (Nat.div_le_div_right l))
~dr{l m:PQ Dt}{rest:PQ Av}(h:∀ x∈m,x∈l):(m.all λx=>bif pb (x∈l/\rest=rest/\([]:Sto)=[])then PU else PV)=true:=aAf.mpr λx a=>by rw[kb ⟨h x a,rfl,rfl⟩];rfl
§lt2(x:Dt):Dt:=ae (av .lt (.d (ag 0 x)) (.d (ag 1 x)) [])
§prs(ns:PQ Dt):PQ Dt:=(ns.zip (L2.io ns (PN 1) PR)).map λp=>.tup [p.1,p.2]
~e24(l)(r)(f):E [(25,fam l [.d (.int r)] f)] 24 [.d (.tup l),.d (.int r)] [] =
 bif decide (8 < (l°:Int))then bb PV else
 bif l.all (λx=>bif pb (x∈l/\[Av.d (.int r)]=[.d (.int r)]/\([]:Sto)=[])then PU else PV)then
 bif decide (l°<=Ld)then bif (l.map f).all isB then bif (l.map f).all bv then
 (l.all (λx=>bif bZ 2 x then PU else PV)~>decide (l°<=Ld)~>((prs (l.map (ag 0))).all (λx=>bif bZ 2 x then bif ak (av .lt (.d (ag 0 x)) (.d (ag 1 x)) [])then PU else PV else PV)~>(decide ((prs (l.map (ag 0)))°<=Ld)~>((prs (l.map (ag 0))).map lt2).all isB~>bb (((prs (l.map (ag 0))).map lt2).all bv)))) else bb PV else .bad else .bad else .bad:=IO
~e25(a)(k)(r)(b d):E [(16,ent [.d (.str a)] [] (bb b)),(20,ent [.d k,.d (.int r)] [] (bb d))] 25 [.d (.tup [.str a,k]),.d (.int r)] []=q [.d (.str a)] [] (bif b then q [.d k,.d (.int r)] [] (bb d)else bb PV):=IO
~G8(a b r):E [] 20 [.d (.tup [.str "number",.int a,.int b]),.d (.int r)] []=bif r == 0 then bb PV else bif decide (-10 ^ 30<=a)then bif decide (a<=b)then bb (decide (b<=10 ^ 30))else bb PV else bb false:=IO
~G9(m r):E [] 20 [.d (.tup [.str "text",.int m]),.d (.int r)] []=bif r == 0 then bb PV else bif decide (0<=m)then bb (decide (m<=60))else bb false:=IO
~Ha(l)(r)(b):E [(23,ent [.d (.tup l)] [] (bb b))] 20 [.d (.tup [.str "choice",.tup l]),.d (.int r)] []=bif r == 0 then bb PV else q [.d (.tup l)] [] (bb b):=IO
~Hb(k)(m r)(b):E [(20,ent [.d k,.d (.int (r - 1))] [] (bb b))] 20 [.d (.tup [.str "list",k,.int m]),.d (.int r)] []=bif r == 0 then bb PV else q [.d k,.d (.int (r - 1))] [] (bif b then bif decide (0<=m)then bb (decide (m<=8))else bb PV else bb PV):=IO
~Hc(l)(r)(b):E [(24,ent [.d (.tup l),.d (.int (r - 1))] [] (bb b))] 20 [.d (rc l),.d (.int r)] []=bif r == 0 then bb PV else q [.d (.tup l),.d (.int (r - 1))] [] (bb b):=IO
~Hd(a)(l)(m r)(b d):E [(20,ent [.d (rc l),.d (.int (r - 1))] [] (bb b)),(26,ent [.d (.str a),.d (rc l),.d (.int (r - 1))] [] (bb d))] 20 [.d (.tup [.str "rows",.str a,rc l,.int m]),.d (.int r)] []=bif r == 0 then bb PV else q [.d (.str a),.d (rc l),.d (.int (r - 1))] [] (bif d then bif decide (0<=m)then bb (decide (m<=8))else bb PV else bb PV):=IO
~He(c)(l)(a z r)(b):E [(20,ent [.d (rc l),.d (.int r)] [] (bb b)),(27,ent [.d (rc l),.d (.str c)] [] (dd (.tup [.str "number",.int a,.int z])))] 26 [.d (.str c),.d (rc l),.d (.int r)] []=q [.d (rc l),.d (.int r)] [] (bif b then q [.d (rc l),.d (.str c)] [] (bb PU)else bb PV):=IO
~Hf(c)(l)(a r)(b):E [(20,ent [.d (rc l),.d (.int r)] [] (bb b)),(27,ent [.d (rc l),.d (.str c)] [] (dd (.tup [.str "text",.int a])))] 26 [.d (.str c),.d (rc l),.d (.int r)] []=q [.d (rc l),.d (.int r)] [] (bif b then q [.d (rc l),.d (.str c)] [] (bb PU)else bb PV):=IO
~e19(k)(b)(i):E [(20,ent [.d k,.d (.int 5)] [] (bb b)),(30,ent [.d k] [] (dd (.int i)))] 19 [.d k] []=q [.d k,.d (.int 5)] [] (bif b then q [.d k] [] (bif decide (40 < i)then .ex "BadKind" []else dd k)else .ex "BadKind" []):=IO
~Hg(a b):E [] 30 [.d (.tup [.str "number",.int a,.int b])] []=dd (.int 1):=IO
~Hh(m):E [] 30 [.d (.tup [.str "text",.int m])] []=dd (.int 1):=IO
~Hi(l):E [] 30 [.d (.tup [.str "choice",.tup l])] []=dd (.int 1):=IO
~Hj(a)(m i):E [(30,ent [.d (.tup a)] [] (dd (.int i)))] 30 [.d (.tup [.str "list",.tup a,.int m])] []=((bif same [.d (.tup a)] [] [.d (.tup a)] []then PU else PV) && PU~>dd (.int (1+(i+0)))):=IO
~Hk(b)(a)(m i):E [(30,ent [.d (.tup a)] [] (dd (.int i)))] 30 [.d (.tup [.str "rows",.str b,.tup a,.int m])] []=((bif same [.d (.tup a)] [] [.d (.tup a)] []then PU else PV) && PU~>dd (.int (1+(i+0)))):=IO
~JY(l ks)(f):E [(30,fam ks [] f)] 30 [.d (rc l)] [] =
 (l.all (λx=>bif bZ 2 x then PU else PV)~>decide (l°<=Ld)~>(l.map (ag 1)).all (λx=>bif pb (x∈ks/\([]:PQ Av)=[]/\([]:Sto)=[])then PU else PV)~>decide ((l.map (ag 1))°<=Ld)~>((l.map (ag 1)).map f).all isI~>dd (.int (1+(((l.map (ag 1)).map f).map iv).sum))):=IO
~e27(l)(a):E [] 27 [.d (rc l),.d (.str a)] []=(tidy 0 (aU ((aL [] (.tp [2,3]) (Lp tx [] 27 1) l [PN (.d (rc l)),PN (.d (.str a)),PR,PR] []).bind λf S1=>match f with
  |.nx _=>.ok (.rt (.d .non)) S1
  |f=>.ok f S1))).res:=IO
~f27(x o)(y k:Dt)(u v)(l)(z):(aL [] (.tp [2,3]) (Lp tx [] 27 1) (.tup [.str o,k] :: l) [PN (.d z),PN (.d (.str x)),u,v] []).res=bif o == x then .ok (.rt (.d k)) []else(aL [] (.tp [2,3]) (Lp tx [] 27 1) l [PN (.d z),PN (.d (.str x)),PN (.d (.str o)),PN (.d k)] []).res:=IO
§vt:En->Mo (PY Dt):=dEl (Dq λenv S=>(eU 0 env S).bind λx S1=>((tidy S1° ((eU 1 env S1).bind λx S1=>(eU 0 env S1).bind λy S2=>ixB x y S2)).bind λx S1=>(Rs.ok [] S1).bind λxs S2=>.ok (x :: xs) S2).bind λxs S2=>.ok (x :: xs) S2)
§RF(kvs:PQ (Key×Dt))(xs:PQ Dt):Rs Av:=(tidy 1 (aU ((((((tidy 1 ((((bQ (ai 1 [] (.nm 0) vt xs [PR,PN (.r 0)] [.dic kvs,.lst []])).bind λ_ S2=>.ok (.r 1) S2).bind fun(x:Av) S1=>Rs.ok [x] S1).bind λvs S1=>eT .tuple vs S1)).bind fun(y:Av) S1=>Rs.ok [y] S1).bind λxs S1=>Rs.ok (Av.d (.str "record") :: xs) S1).bind λvs S1=>(match cn vs with | PN l=>if l°<=Ld then Rs.ok (Av.d (.tup l)) S1 else .bad | PR=>.bad)).bind λa S1=>Rs.ok (Fl.rt a) S1).bind λf S1=>match f with
 |.nx env'=>.ok (.nx env') S1
 |f=>.ok f S1))).res
~e42(kvs):E [] 42 [.r 0] [.dic kvs]=bif kvs.all kS then decide ((kvs.map kSv)° < 64)~>RF kvs ((sortS (kvs.map kSv)).map .str) else kvs.all kI~>decide ((kvs.map kIv)° < 64)~>RF kvs ((sortI (kvs.map kIv)).map .int):=IO
~f42(kvs)(a xs)(z)(u):(ai 1 [] (.nm 0) vt (.str z :: xs) [u,PN (.r 0)] [.dic kvs,.lst a]).res=((au kvs (.inr z)).isSome~>(if a° < Ld then ai 1 [] (.nm 0) vt xs [PN (.d (.str z)),PN (.r 0)] [.dic kvs,.lst (a++[.tup [.str z,(au kvs (.inr z)).getD .non]])]else .bad).res):=IO
~e43(l)(a)(v x):E [(42,ent [.r 0] [.dic (ck (named (prs? l)) (.inr a) v)] (.ok (.d x) [.dic (ck (named (prs? l)) (.inr a) v)]))] 43 [.d (rc l),.d (.tup [.str a]),.r 0] [.lst [v]] =
 (l.all j5~>decide (((prs? l).map (·.1)).Nodup/\(prs? l)°<=1000)~>dtE v v && PU && PU~>decide ((named (prs? l))° < Ld)~>dtE v v && PU && PU~>q [.r 0] [.dic (ck (named (prs? l)) (.inr a) v)] (.ok (.d x) [.lst [v]])):=IO
~e44(l)(a):E [] 44 [.d (rc l),.d (.tup [.str a])] [] =
 (l.all (λx=>bif ak (ixA (.d x) (.d (.int 0)) [])then bif ak (av .nin (.d (ae (ixA (.d x) (.d (.int 0)) []))) (.d (.tup [.str a])) [])then bif isB (ae (av .nin (.d (ae (ixA (.d x) (.d (.int 0)) []))) (.d (.tup [.str a])) []))then bif bv (ae (av .nin (.d (ae (ixA (.d x) (.d (.int 0)) []))) (.d (.tup [.str a])) []))then PU else PU else PV else PV else PV)~>(decide (l°<=Ld)~>dd (rc (l.filterMap λx=>bif bv (ae (av .nin (.d (ae (ixA (.d x) (.d (.int 0)) []))) (.d (.tup [.str a])) []))then PN x else PR)))):=IO
¶Fs:=PQ (Str×Dt)
§slt(a b:Str):Prop:=a.cps.toList < b.cps.toList
§Srt(fs:Fs):Prop:=fs.Pairwise λp q=>slt p.1 q.1
§lk:Fs->Str->Dt
 |[],_=>.non
 |(o,k) :: fs,a=>bif o == a then k else lk fs a
§pr(p:Str×Dt):Dt:=.tup [.str p.1,p.2]
¶rf(fs:Fs):Dt:=rc (fs.map pr)
~dW(h:slt a b):a≠b:=λe=>by subst e;~List.lt_irrefl _ h
~DB(h:slt a b)(q:slt b d):slt a d:=List.lt_trans h q
~DC(h:bC a b=PU)(n:a≠b):slt a b:=by
 rcases Classical.em _ with q | q
 ·~q
 ·~absurd (gI h (by PL bC;PK[aBM,decide_eq_false_iff_not];~q)) n
~cK:∀ {fs},lk fs a≠.non->(a,lk fs a)∈fs
 |[],h=>absurd rfl h
 |(o,k) :: fs,h=>by
  unfold lk at h ⊢
  #e:o == a with
  |true=>rw[LO]at e;subst e;~aAe
  |false=>rw[e]at h;~aAk _ (cK h)
~bO:∀ {fs},Srt fs->(a,k)∈fs->lk fs a=k
 |[],_,h=>nomatch h
 |(o,c) :: fs,s,h=>by
  @b:=aA4.mp s;PL lk;rcases aAl.mp h with e | h
  ·#e;rw[Lz];rfl
  ·@:(o == a)=false:=by
    @:=dW (b.1 _ h)
    simpa using this
   rw[this];~bO b.2 h
~jf(h:∀ p∈fs,p.1≠a):lk fs a=.non:=by
 rcases Classical.em _ with q | q
 ·~q
 ·~absurd rfl (h _ (cK q))
~vw:∀ {fs gs},Srt fs->Srt gs->(∀ p∈fs,p.2≠.non)->(∀ p∈gs,p.2≠.non)->(∀ a,lk fs a=lk gs a)->fs=gs
 |[],[],_,_,_,_,_=>rfl
 |[],(o,k) :: gs,_,f,_,j,e=>absurd (e o).symm (by rw[bO f aAe];~j _ aAe)
 |(o,k) :: fs,[],g,_,i,_,e=>absurd (e o) (by rw[bO g aAe];~i _ aAe)
 |(o,k) :: fs,(p,l) :: gs,g,f,i,j,e=>by
  @m:=aA4.mp g;@r:=aA4.mp f;@t:(o,k)∈(p,l) :: gs:=by
   @c:=e o;rw[bO g aAe]at c;@d:=cK (by rw[<- c];~i _ aAe);rw[<- c]at d;~d
  @u:(p,l)∈(o,k) :: fs:=by
   @c:=e p;rw[bO f aAe]at c;@d:=cK (by rw[c];~j _ aAe);rw[c]at d;~d
  @s:(o,k)=(p,l):=by
   rcases aAl.mp t with q | q
   ·~q
   ·rcases aAl.mp u with n | n
    ·~n.symm
    ·~absurd (DB (m.1 _ n) (r.1 _ q)) (List.lt_irrefl _)
  #s
  !Mg _ (vw m.2 r.2 (λp h=>i p (aAk _ h)) (λp h=>j p (aAk _ h)) λa=>?_);@h:=e a;unfold lk at h
  #q:o == a with
  |false=>rw[q]at h;~h
  |true =>
   rw[LO]at q;subst q;rw[jf λp h=>(dW (m.1 p h)).symm,jf λp h=>(dW (r.1 p h)).symm]
§rem(fs:Fs)(a:Str):Fs:=fs.filter λp=>!(p.1 == a)
~yP(h:Srt fs):Srt (rem fs a):=h.filter _
~nY:∀ {fs},lk (rem fs a) b=bif a == b then .non else lk fs b
 |[]=>by
  show Dt.non=bif a == b then .non else .non;rw[aBi]
 |(o,k) :: fs=>by
  PL rem;rw[aBS];@c:=nY (a:=a) (b:=b) (fs:=fs);unfold rem at c
  #e:o == a with
  |true =>
   rw[LO]at e;subst e;show lk (fs.filter _) b=_;rw[c];show _=bif o == b then Dt.non else(bif o == b then k else lk fs b)
   cases o == b <;> rfl
  |false =>
   show lk ((o,k) :: fs.filter _) b=_;PL lk;rw[c]
   #q:o == b with
   |false=>rfl
   |true =>
    rw[LO]at q;subst q;@:(a == o)=false:=by
     #z:a == o with
     |false=>rfl
     |true=>rw[LO]at z;subst z;rw[Lz]at e;#e
    rw[this]
    rfl
§pd(fs:Fs)(a:Str)(v:Dt):PQ (Key×Dt):=ck (named fs) (.inr a) v
§ins(fs:Fs)(a:Str)(v:Dt):Fs:=(sortS ((pd fs a v).map kSv)).map λz=>(z,(au (pd fs a v) (.inr z)).getD .non)
~fX(fs)(a)(v):(pd fs a v).map kSv=if a∈fs.map (·.1)then fs.map (·.1)else fs.map (·.1)++[a]:=by
 @f:(named fs).map kSv=fs.map (·.1):=by PL named;rw[aAz];rfl
 @l:((named fs).any λi=>decide (i.1=Sum.inr a))=decide (a∈fs.map (·.1)):=by
  rw[Bool.eq_iff_iff,aBt,decide_eq_true_iff,aAc]
  constructor
  ·rintro⟨x,g,e⟩;&p,c,rfl:=aAc.mp g;@e:=My e;PM p,c,Sum.inr.inj e
  ·rintro⟨p,c,rfl⟩;PM _,aAc.mpr ⟨p,c,rfl⟩,Lh rfl
 PL pd ck;rw[l]
 by_cases h:a∈fs.map (·.1)
 ·rw[Lj (Lh h),Lj h,aAz,<- f];!aBu λx g=>?_;show kSv (if x.1=Sum.inr a then(x.1,v)else x)=kSv x
  split
  ·cases x with | mk k d=>cases k <;> rfl
  ·rfl
 ·rw[Ln (by simp[h]),Ln h,aAH,f]
  rfl
~a9(k a)(d)(l):au ((k,d) :: l) a=if k=a then PN d else au l a:=by
 PL au
 by_cases h:k=a
 ·simp[h]
 ·simp[h]
~md(k)(d)(b):∀ l:PQ _,au (l++[(k,d)]) b=match au l b with
  |some x=>PN x
  |none=>if k=b then PN d else PR
 |[]=>by rw[aCc,a9];rfl
 |(a,x) :: l=>by
  rw[List.cons_append,a9,a9,md k d b l]
  by_cases h:a=b
  ·rw[Lj h,Lj h]
  ·rw[Ln h,Ln h]
~me(k)(v)(b):∀ l:PQ _,au (l.map λd=>if d.1=k then(d.1,v)else d) b=if k=b/\(au l b).isSome then PN v else au l b
 |[]=>by
  show(PR)=if k=b/\PV=PU then PN v else PR
  rw[Ln λh=>nomatch h.2]
 |(a,x) :: l=>by
  rw[aAr,a9 a b x l];@f:=me k v b l
  by_cases h:a=k
  ·subst h;rw[Lj rfl,a9,f]
   by_cases q:a=b
   ·rw[Lj q,Lj q,Lj ⟨q,rfl⟩]
   ·rw[Ln q,Ln q]
  ·rw[Ln h,a9,f]
   by_cases q:a=b
   ·rw[Lj q,Lj q,Ln λz=>h (q.trans z.1.symm)]
   ·rw[Ln q,Ln q]
~cw:∀ {l}{k},(l.any λc=>decide (c.1=k))=PU↔(au l k).isSome=PU
 |[],k=>⟨(λh=>nomatch h),(λh=>nomatch h)⟩
 |(a,x) :: l,k=>by
  rw[aAQ,a9]
  by_cases h:a=k
  ·simp[h]
  ·rw[Ln h,<- cw];simp[h]
~mh(l)(k a)(v):au (ck l k v) a=if k=a then PN v else au l a:=by
 PL ck
 by_cases h:(l.any λb=>decide (b.1=k))=PU
 ·rw[Lj h,me]
  by_cases q:k=a
  ·subst q;rw[Lj ⟨rfl,cw.mp h⟩,Lj rfl]
  ·rw[Ln λz=>q z.1,Ln q]
 ·rw[Ln h,md]
  by_cases q:k=a
  ·subst q
   #e:au l k with
   |none=>rw[Lj rfl]
   |some x=>~absurd (cw.mpr (by rw[e];rfl)) h
  ·rw[Ln q,Ln q]
   cases au l a <;> rfl
~dX:∀ (fs:Fs) (a),(∀ p∈fs,p.2≠.non)->(au (named fs) (.inr a)).getD .non=lk fs a/\((au (named fs) (.inr a)).isSome=PU↔lk fs a≠.non)
 |[],a,_=>⟨rfl,(λh=>nomatch h),λh=>absurd rfl h⟩
 |(o,k) :: fs,a,n=>by
  @d:=dX fs a λp h=>n p (aAk _ h);rw[show au (named _) _=au ((Sum.inr o,k) :: named fs) _ from rfl,a9];PL lk
  by_cases h:o=a
  ·subst h;rw[Lj rfl,Lz];PM rfl,λ_=>n _ aAe,λ_=>rfl
  ·@q:(o == a)=false:=by simpa using h
   rw[Ln λz=>h (Sum.inr.inj z),q];~d
~vy(h:Srt fs):((pd fs a v).map kSv).Nodup:=by
 @c:=aBf.mpr (h.imp λq=>dW q);rw[fX]
 split
 ·~c
 ·rename_i q
  !aBN.mpr ⟨c,aBw _ _,λx f y d e=>?_⟩;rw[aAy]at d;subst d e;~q f
~nZ:z∈(pd fs a v).map kSv↔z=a\/z∈fs.map (·.1):=by
 rw[fX]
 split
 ·rename_i h
  PM .inr,λq=>q.elim (λe=>e ▸ h) id
 ·rw[aAG,aAy];~or_comm
~vz(n:∀ p∈fs,p.2≠.non)(h:Srt fs):z∈fs.map (·.1)↔lk fs z≠.non:=by
 constructor
 ·rintro q;&p,a,rfl:=aAc.mp q;rw[bO h a];~n p a
 ·intro q;~aAc.mpr ⟨_,cK q,rfl⟩
~DD(n:∀ p∈fs,p.2≠.non):(au (pd fs a v) (.inr z)).getD .non=bif a == z then v else lk fs z:=by
 PL pd;rw[mh]
 by_cases h:a=z
 ·subst h;rw[Lj rfl,Lz];rfl
 ·@q:(a == z)=false:=by simpa using h
  rw[Ln λe=>h (Sum.inr.inj e),q];~(dX fs z n).1
~fY(h:Srt fs):Srt (ins fs a v):=by
 !aBf.mpr ?_;@s:=jR ((pd fs a v).map kSv);@f:(sortS ((pd fs a v).map kSv)).Nodup:=(aO _).nodup_iff.mpr (vy h);~(s.and f).imp λq=>DC q.1 q.2
~vB(n:∀ p∈fs,p.2≠.non)(h:Srt fs):lk (ins fs a v) b=bif a == b then v else lk fs b:=by
 by_cases q:b∈(pd fs a v).map kSv
 ·rw[<- DD n];~bO (fY h) (aAc.mpr ⟨b,(aO _).mem_iff.mpr q,rfl⟩)
 ·rw[jf λp g=>?_]
  ·rw[nZ,not_or,vz n h]at q;@e:(a == b)=false:=by simpa using λe:a=b=>q.1 e.symm
   rw[e];~(Classical.not_not.mp q.2).symm
  ·&z,i,rfl:=aAc.mp g;intro e;~q (e ▸ (aO _).mem_iff.mp i)
~pD(n:∀ p∈fs,p.2≠.non)(h:Srt fs)(g:v≠.non):∀ p∈ins fs a v,p.2≠.non:=λp d=>by
 @e:=bO (fY h) d;rw[vB n h]at e;rw[<- e]
 #q:a == p.1 with
 |true=>~g
 |false =>
  &z,c,rfl:=aAc.mp d;@c:=nZ.mp ((aO _).mem_iff.mp c);@f:z≠a:=λe=>by simp_all
  ~(vz n h).mp (c.resolve_left f)
~yQ(n:∀ p∈fs,p.2≠.non):∀ p∈rem fs a,p.2≠.non:=λp b=>n p (aBn.mp b).1
~pE:(ins fs a v)°<=fs°+1:=by
 PL ins;rw[aAa,(aO _).length_eq,fX]
 split
 ·rw[aAa];~aBj _
 ·rw[aAi,aAa];~aAo _
~fZ:(rem fs a)°<=fs°:=aCh _ _
structure FW(fs:Fs):Prop where
 s:Srt fs
 n:∀ p∈fs,p.2≠.non
 l:fs°<=20
~FW.rem(h:FW fs):FW (rem fs a):=⟨yP h.s,yQ h.n,aAq fZ h.l⟩
~aE:∀ {r},(aU r).res=(aU r.res).res
 |.ok (.rt _) _ | .ok (.nx _) _ | .ok (.bk _) _ | .ok _ _ | .ex _ _ | .bad=>rfl
 |.br PU x y=>aE (r:=x)
 |.br PV x y=>aE (r:=y)
~e41(l)(a):E [] 41 [.d (rc l),.d (.str a)] []=(tidy 0 (aU ((aL [] (.tp [2,3]) (Lp tx [] 41 0) l [PN (.d (rc l)),PN (.d (.str a)),PR,PR] []).bind λf S1=>match f with
  |.nx _=>.ok (.rt (.d .non)) S1
  |f=>.ok f S1))).res:=IO
~f41(x o)(k)(u v)(l)(z):(aL [] (.tp [2,3]) (Lp tx [] 41 0) (.tup [.str o,k] :: l) [PN (.d z),PN (.d (.str x)),u,v] []).res=bif o == x then .ok (.rt (.d k)) []else(aL [] (.tp [2,3]) (Lp tx [] 41 0) l [PN (.d z),PN (.d (.str x)),PN (.d (.str o)),PN (.d k)] []).res:=IO
~jg(h:∀ (o) (k) (u v) (l),(aL [] (.tp [2,3]) L (.tup [.str o,k] :: l) [PN (.d z),PN (.d (.str a)),u,v] []).res=bif o == a then .ok (.rt (.d k)) []else(aL [] (.tp [2,3]) L l [PN (.d z),PN (.d (.str a)),PN (.d (.str o)),PN (.d k)] []).res) :
  ∀ (fs) (u v),(tidy 0 (aU ((aL [] (.tp [2,3]) L (fs.map pr) [PN (.d z),PN (.d (.str a)),u,v] []).bind λf S1=>match f with
  |.nx _=>.ok (.rt (.d .non)) S1
  |f=>.ok f S1))).res=dd (lk fs a):=by
 intro fs u v;rw[aC,aE,Rs.bindRes]
 suffices k:∀ (fs) (u v),((aL [] _ L (fs.map pr) [PN _,PN _,u,v] []).res.bind λf S1=>match f with
  |.nx _=>.ok _ S1
  |f=>.ok f S1)=.ok (.rt (.d (lk fs a))) []by rw[k];rfl
 intro fs
 induction fs with
 |nil=>intro u v;rfl
 |cons p fs c =>
  intro u v;show((aL [] _ L (.tup _ :: fs.map pr) _ []).res.bind _)=_;rw[h];show _=Rs.ok (Fl.rt (.d (bif p.1 == a then p.2 else lk fs a))) []
  #q:p.1 == a with
  |true=>rfl
  |false=>~c _ _
~h27(fs)(a):c.H 13 27 (ent [.d (rf fs),.d (.str a)] [] (dd (lk fs a))):=go af ((e27 _ _).trans (jg (λo k u v l=>f27 a o k k u v l _) fs PR PR))
~h41(fs)(a):c.H 13 41 (ent [.d (rf fs),.d (.str a)] [] (dd (lk fs a))):=go af ((e41 _ _).trans (jg (λo k u v l=>f41 a o k u v l _) fs PR PR))
~g42:∀ (ns:PQ Str) (a) (u),(∀ z∈ns,(au kvs (.inr z)).isSome=PU)->a°+ns°<=Ld->(ai 1 [] (.nm 0) vt (ns.map .str) [u,PN (.r 0)] [.dic kvs,.lst a]).res=.ok () [.dic kvs,.lst (a++ns.map λz=>.tup [.str z,(au kvs (.inr z)).getD .non])]
 |[],a,u,_,_=>by rw[aBa,aBa,aAA];rfl
 |z :: ns,a,u,h,f=>by
  rw[aAv]at f;rw[aAr,f42,h z aAe,Lj or];rw[g42 ns _ _ (λy d=>h y (aAk _ d)) (by rw[aAi];show a°+1+_<=_;on),aAO]
  rfl
§RFc(r:Rs Unit):Rs Av:=tidy 1 (aU ((((((tidy 1 ((((bQ r).bind λ_ S2=>.ok (.r 1) S2).bind fun(x:Av) S1=>Rs.ok [x] S1).bind λvs S1=>eT .tuple vs S1)).bind fun(y:Av) S1=>Rs.ok [y] S1).bind λxs S1=>Rs.ok (Av.d (.str "record") :: xs) S1).bind λvs S1=>(match cn vs with | PN l=>if l°<=Ld then Rs.ok (Av.d (.tup l)) S1 else .bad | PR=>.bad)).bind λa S1=>Rs.ok (Fl.rt a) S1).bind λf S1=>match f with
 |.nx env'=>.ok (.nx env') S1
 |f=>.ok f S1))
~f7:∀ r:Rs Unit,(RFc r).res=(RFc r.res).res
 |.ok _ _ | .ex _ _ | .bad=>rfl
 |.br PU x y=>f7 x
 |.br PV x y=>f7 y
~h42{fs:Fs}(h:FW fs)(a:Str)(v:Dt):c.H 13 42 (ent [.r 0] [.dic (pd fs a v)] (.ok (.d (rf (ins fs a v))) [.dic (pd fs a v)])):=go (N:=0) af (by
 @hk:(pd fs a v).all kS=true:=by
  !aAf.mpr λx hx=>?_;unfold pd ck named at hx
  split at hx
  ·&y,hy,rfl:=aAc.mp hx;&p,_,rfl:=aAc.mp hy
   split <;> rfl
  ·rcases aAG.mp hx with hx | hx
   ·&p,_,rfl:=aAc.mp hx;rfl
   ·rw[aAy.mp hx];rfl
 @hn:((pd fs a v).map kSv)°<=21:=by
  rw[fX];@:=h.l
  split
  ·rw[aAa];on
  ·rw[aAi,aAa];show _+1<=_;on
 rw[e42,hk,Lh (by on:_ < 64)];show(RFc (ai 1 [] (.nm 0) vt ((sortS ((pd fs a v).map kSv)).map .str) _ _)).res=_;rw[f7,g42 _ _ _ (λz hz=>?_) (by rw[(aO _).length_eq];show 0+_<=16777216;on)]
 ·@e3:(ins fs a v).map pr=(sortS ((pd fs a v).map kSv)).map λz=>.tup [.str z,(au (pd fs a v) (.inr z)).getD .non]:=by PL ins;rw[aAz];rfl
  show _=Rs.ok (Av.d (rc ((ins fs a v).map pr))) _;rw[e3]
  rfl
 ·@hz:=(aO _).mem_iff.mp hz;PL pd;rw[mh]
  by_cases q:a=z
  ·subst q;rw[Lj rfl];rfl
  ·rw[Ln λe=>q (Sum.inr.inj e)];!(dX fs z h.n).2.mpr ((vz h.n h.s).mp ?_);~(nZ.mp hz).resolve_left (Ne.symm q))
~hZ(fs:Fs):prs? (fs.map pr)=fs:=by
 unfold prs?;rw[aAz];~(aBu λp _=>rfl).trans (List.map_id fs)
~h43(h:FW fs)(a)(v):c.H 26 43 (ent [.d (rf fs),.d (.tup [.str a]),.r 0] [.lst [v]] (.ok (.d (rf (ins fs a v))) [.lst [v]])):=by
 @g:=aBf.mpr (h.s.imp λq=>dW q);@l:=h.l;@e:=e43 (fs.map pr) a v (rf (ins fs a v));rw[hZ]at e;!go (ac (h42 h a v) af) (e.trans ?_);rw[aAf.mpr λx f=>by &p,_,rfl:=aAc.mp f;rfl,Lh ⟨g,or⟩,oR,Lh (show(named fs)° < Ld by PL named;rw[aAa];show _ < 16777216;on),ah]
 rfl
§kp(a:Str)(x:Dt):PY Dt:=bif bv (ae (av .nin (.d (ae (ixA (.d x) (.d (.int 0)) []))) (.d (.tup [.str a])) []))then PN x else PR
~vC(a):∀ fs:Fs,(fs.map pr).filterMap (kp a)=(rem fs a).map pr
 |[]=>rfl
 |p :: fs=>by
  @c:=vC a fs;@k:kp a (pr p)=bif !(a == p.1 || PV)then PN _ else none:=rfl;unfold rem at c ⊢;rw[aAr,aAP,aBS,k,c,aBY,Bool.beq_comm]
  cases p.1 == a <;> rfl
~h44(fs)(g:fs°<=20)(a):c.H 13 44 (ent [.d (rf fs),.d (.tup [.str a])] [] (dd (rf (rem fs a)))):=go af (by
 @k:∀ p:Str×Dt,ae (av .nin (.d (ae (ixA (.d (pr p)) (.d (.int 0)) []))) (.d (.tup [.str a])) [])=.bl _:=λp=>rfl;rw[e44,aAf.mpr λx f=>by
  &p,_,rfl:=aAc.mp f;show(bif bv _ then PU else PU)=PU;rw[aBi],Lh (show(fs.map pr)°<=Ld by rw[aAa];show _<=16777216;on)]
 show dd (rc ((fs.map pr).filterMap (kp a)))=_;rw[vC])
~Hl:L2.io l (PN 1) PR=l.drop 1:=by
 PL L2.io HT.sIx
 #l with
 |nil=>rfl
 |cons x l =>
  simp
~pF{l:PQ Str}(h:x∈prs (l.map .str)):∃ a b,x=.tup [.str a,.str b]:=by
 unfold prs at h;rw[Hl]at h;&p,d,rfl:=aAc.mp h;@c:=aBo d;&a,_,e:=aAc.mp c.1;&b,_,f:=aAc.mp (List.mem_of_mem_drop c.2);~⟨a,b,by rw[<- e,<- f]⟩
~pG:(prs l)°<=l°:=by
 PL prs;rw[aAa,aA0];on
~vE:∀ {l:PQ Str},l.Pairwise slt->((prs (l.map .str)).map lt2).all bv=PU
 |[],_=>rfl
 |[a],_=>rfl
 |a :: b :: l,h=>by
  @e:=vE (aA4.mp h).2;unfold prs at e ⊢;rw[Hl]at e ⊢;show(bv _ && (((((b :: l).map _).zip ((((b :: l).map _).drop 1))).map λp=>Dt.tup _).map lt2).all bv)=PU;rw[e,aBx];~Lh ((aA4.mp h).1 b aAe)
~Hm(fs)(r)(g:Dt->Bool):∃ b,E [(25,fam (fs.map pr) [.d (.int r)] λx=>.bl (g x))] 24 [.d (.tup (fs.map pr)),.d (.int r)] []=bb b/\(fs°<=8->(∀ p∈fs,g (pr p)=PU)->Srt fs->b=PU):=by
 rw[e24];@o:(fs.map pr).map (ag 0)=(fs.map (·.1)).map .str:=by rw[aAz,aAz];rfl
 @t:((fs.map pr).map λx=>Dt.bl (g x)).all isB=true:=aAf.mpr λx i=>by &y,_,rfl:=aAc.mp i;rfl
 @u:((fs.map pr).all λx=>bif bZ 2 x then PU else PV)=true:=aAf.mpr λx i=>by &y,_,rfl:=aAc.mp i;rfl
 @k:((prs ((fs.map (·.1)).map _)).all λx=>bif bZ 2 x then bif ak (av .lt (.d (ag 0 x)) (.d (ag 1 x)) [])then PU else PV else PV)=true:=aAf.mpr λx i=>by &a,b,rfl:=pF i;rfl
 @n:((prs ((fs.map (·.1)).map _)).map lt2).all isB=true:=aAf.mpr λx i=>by
  &y,j,rfl:=aAc.mp i;&a,b,rfl:=pF j
  rfl
 by_cases w:8 < fs°
 ·!⟨PV,?_,λh=>or⟩;rw[Lh (show(8) < ((fs.map pr)°:Int)by rw[aAa];on)]
  rfl
 ·rw[Lv (show ¬ (8:Int) < ((fs.map pr)°)by rw[aAa];on),dr λx h=>h,Lh (show(fs.map pr)°<=Ld by rw[aAa];show _<=16777216;on),t,u,o,k,n,Lh (show(prs _)°<=Ld by
   @:=pG (l:=(fs.map (·.1)).map Dt.str);rw[aAa,aAa]at this;show _<=16777216;on)]
  #m:((fs.map pr).map λx=>Dt.bl _).all bv with
  |false =>
   !⟨PV,rfl,λ_ v _=>?_⟩;rw[aAf.mpr λx i=>by
    &y,j,rfl:=aAc.mp i;&p,k,rfl:=aAc.mp j;~v p k]at m
   #m
  |true=>PM _,rfl,λ_ _ s=>vE (aBf.mpr s)
structure Ty(c:Ct)(N:Nat)(k:Dt):Prop where
 f:∀ r:Int,∃ b,c.H N 20 (ent [.d k,.d (.int r)] [] (bb b))
 m:∃ i:Int,c.H N 30 (ent [.d k] [] (dd (.int i)))
 t:∃ l,k=.tup l
~Ty.up(h:Ty c N k)(l:N<=M):Ty c M k:=⟨λr=>by &b,q:=h.f r;~⟨b,Q27.up q l⟩,by &b,q:=h.m;~⟨b,Q27.up q l⟩,h.t⟩
~a7(a:∃ b,x=bb b)(c:∃ b,y=bb b):∃ b,(bif c0 then x else y)=bb b:=by
 #c0
 ·~c
 ·~a
~ty_num(a b):Ty c 13 (.tup [.str "number",.int a,.int b]):=⟨λr=>by
 &d,e:=a7 ⟨PV,rfl⟩ (a7 (a7 ⟨_,rfl⟩ ⟨PV,rfl⟩) ⟨PV,rfl⟩);~⟨d,go af ((G8 a b r).trans e)⟩,⟨1,go af (Hg a b)⟩,_,rfl⟩
~n6(m):Ty c 13 (.tup [.str "text",.int m]):=⟨λr=>by
 &d,e:=a7 ⟨PV,rfl⟩ (a7 ⟨_,rfl⟩ ⟨PV,rfl⟩);~⟨d,go af ((G9 m r).trans e)⟩,⟨1,go af (Hh m)⟩,_,rfl⟩
~vF(h:c.H 13 23 (ent [.d (.tup l)] [] (bb b))):Ty c 26 (.tup [.str "choice",.tup l]):=⟨λr=>by
 &d,e:=a7 ⟨PV,rfl⟩ ⟨b,ah⟩;~⟨d,go (ac h af) ((Ha l r b).trans e)⟩,⟨1,up (go (N:=0) af (Hi l)) or⟩,_,rfl⟩
~cm1{x:Rs Av}:((bif same A S A S then PU else PV) && PU~>x)=x:=by
 PL same;rw[kb ⟨rfl,rfl⟩]
 rfl
~ke(h:Ty c N k)(m):Ty c (N+13) (.tup [.str "list",k,.int m]):=⟨λr=>by
 &b,a:=h.f _;&d,e:=a7 ⟨PV,rfl⟩ (a7 (a7 ⟨_,rfl⟩ ⟨PV,rfl⟩) ⟨PV,rfl⟩);~⟨d,go (ac a af) ((Hb k m r b).trans (by rw[ah];~e))⟩,by
 &i,f:=h.m;&l,rfl:=h.t;~⟨_,go (ac f af) ((Hj l m i).trans cm1)⟩,_,rfl⟩
§Nm(c:Ct)(a:Str):Prop:=c.H 13 16 (ent [.d (.str a)] [] (bb PU))
~fld{fs:Fs}(l:∀ p∈fs,Nm c p.1)(i:13<=N)(n:∀ p∈fs,∃ b,c.H N 20 (ent [.d p.2,.d (.int r)] [] (bb b))):∃ g:Dt->Bool,c.H (N+13) 25 (fam (fs.map pr) [.d (.int r)] λx=>.bl (g x))/\∀ p∈fs,c.H N 20 (ent [.d p.2,.d (.int r)] [] (bb (g (pr p)))):=by
 @:∀ x:Dt,∃ b:Bool,∀ p∈fs,x=pr p->c.H N 20 (ent [.d p.2,.d _] [] (bb b)):=λx=>by
  by_cases q:∃ p∈fs,x=pr p
  ·&p,f,rfl:=q;&b,m:=n p f;!⟨b,λt s e=>?_⟩;@j:p.2=t.2:=by injection e with e;injection e with u j;injection j with v _
   rw[<- j];~m
  ·PM PU,λp f e=>absurd ⟨p,f,e⟩ q
 &g,k:=Classical.skolem.mp this;!⟨g,H_fam λx o=>?_,λp f=>k _ p f rfl⟩;&p,f,rfl:=aAc.mp o;!go (ac (a:=(16,_)) (up (l p f) i) (ac (k _ p f rfl) af)) ((e25 _ _ r PU _).trans ?_);rw[ah,ah]
 rfl
~vG{fs:Fs}{f:Dt->Int}:((((fs.map pr).map (ag 1)).map λx=>Dt.int (f x)).map iv).sum=(fs.map λp=>f p.2).sum:=by
 rw[aAz,aAz,aAz]
 rfl
~mny(m:fs°<=20){f:Dt->Int}(k:∀ p∈fs,c.H N 30 (ent [.d p.2] [] (dd (.int (f p.2))))):c.H (N+13) 30 (ent [.d (rf fs)] [] (dd (.int (1+(fs.map λp=>f p.2).sum)))):=by
 @e:=JY (fs.map pr) (fs.map (·.2)) λx=>.int (f x);!go (ac (H_fam λx b=>?_) af) (e.trans ?_)
 ·&p,j,rfl:=aAc.mp b;~k p j
 ·@i:(fs.map pr).map (ag 1)=fs.map (·.2):=by rw[aAz];rfl
  rw[vG,i,dr λx h=>h,aAf.mpr λx b=>by &y,_,rfl:=aAc.mp b;rfl,aAf.mpr λx b=>by &y,_,rfl:=aAc.mp b;rfl,
   Lh (show(fs.map pr)°<=Ld by rw[aAa];show _<=16777216;on),Lh (show(fs.map _)°<=Ld by rw[aAa];show _<=16777216;on)]
  rfl
~ty_rec(s:fs°<=20)(n:∀ p∈fs,Nm c p.1)(k:13<=N)(h:∀ p∈fs,Ty c N p.2):Ty c (N+39) (rf fs):=⟨λr=>by
 &g,u,_:=fld n k λp j=>(h p j).f _;&b,l,_:=Hm fs _ g;&d,e:=a7 ⟨PV,rfl⟩ ⟨b,rfl⟩;~⟨d,go (ac (go (ac u af) l) af) ((Hc _ r b).trans (by rw[ah];~e))⟩,by
 @:∀ x:Dt,∃ i:Int,∀ p∈fs,x=p.2->c.H N 30 (ent [.d p.2] [] (dd (.int i))):=λx=>by
  by_cases q:∃ p∈fs,x=p.2
  ·&p,j,rfl:=q;&i,o:=(h p j).m;~⟨i,λv _ e=>by rw[<- e];~o⟩
  ·PM 0,λp j e=>absurd ⟨p,j,e⟩ q
 &f,t:=Classical.skolem.mp this;~⟨_,up (mny s λp j=>t _ p j rfl) or⟩,_,rfl⟩
~vH(h:Ty c N (rf fs))(g:13<=N)(o:(∃ a b:Int,lk fs f=.tup [.str "number",.int a,.int b])\/∃ m:Int,lk fs f=.tup [.str "text",.int m])(m):Ty c (N+26) (.tup [.str "rows",.str f,rf fs,.int m]):=⟨λr=>by
 &b,j:=h.f _;@l:c.H (N+13) 26 (ent [.d (.str f),.d (rf fs),.d (.int (r - 1))] [] (bb b)):=by
  @k:=h27 (c:=c) fs f;rcases o with⟨x,y,e⟩ | ⟨x,e⟩
  ·rw[e]at k;!go (ac j (ac (up k g) af)) ((He f _ x y _ b).trans ?_);rw[ah,ah];cases b <;> rfl
  ·rw[e]at k;!go (ac j (ac (up k g) af)) ((Hf f _ x _ b).trans ?_);rw[ah,ah];cases b <;> rfl
 &d,e:=a7 ⟨PV,rfl⟩ (a7 (a7 ⟨_,rfl⟩ ⟨PV,rfl⟩) ⟨PV,rfl⟩);~⟨d,go (ac (up j or) (ac l af)) ((Hd f _ m r b b).trans (by rw[ah];~e))⟩,by
 &i,n:=h.m;~⟨_,up (go (ac n af) ((Hk f _ m i).trans cm1)) or⟩,_,rfl⟩
~Be(h:Ty c N k):∃ b:Bool,c.H (N+13) 19 (ent [.d k] [] (bif b then dd k else .ex "BadKind" [])):=by
 &b,a:=h.f 5;&i,e:=h.m;!⟨b && !decide (40 < i),go (ac a (ac e af)) ((e19 k b i).trans ?_)⟩;rw[ah,ah]
 cases b <;> cases decide (40 < i) <;> rfl
structure Fo(c:Ct)(N:Nat)(k:Dt)(d i:Int):Prop where
 f:∀ r:Int,d<=r->c.H N 20 (ent [.d k,.d (.int r)] [] (bb PU))
 m:c.H N 30 (ent [.d k] [] (dd (.int i)))
 d1:1<=d
 i1:1<=i
~Fo.up(h:Fo c N k d i)(l:N<=M):Fo c M k d i:=⟨λr q=>Q27.up (h.f r q) l,Q27.up h.m l,h.d1,h.i1⟩
~vI(h:Fo c N k d i)(a:d<=5)(b:i<=40):c.H (N+13) 19 (ent [.d k] [] (dd k)):=by
 !go (ac (h.f 5 a) (ac h.m af)) ((e19 k PU i).trans ?_);rw[ah,ah,Lv or]
 rfl
~nz{r d:Int}(h:d<=r)(q:1<=d):(r == 0)=false:=by simpa using (show r≠0 by on)
~DE(d:-10 ^ 30<=a)(f:a<=b)(e:b<=10 ^ 30):Fo c 13 (.tup [.str "number",.int a,.int b]) 1 1:=⟨λr q=>go af ((G8 a b r).trans (by rw[nz q or,Lh d,Lh f,Lh e];rfl)),go af (Hg a b),or,or⟩
~DG(a:0<=m)(b:m<=60):Fo c 13 (.tup [.str "text",.int m]) 1 1:=⟨λr q=>go af ((G9 m r).trans (by rw[nz q or,Lh a,Lh b];rfl)),go af (Hh m),or,or⟩
~DH(h:c.H 13 23 (ent [.d (.tup l)] [] (bb PU))):Fo c 26 (.tup [.str "choice",.tup l]) 1 1:=⟨λr q=>go (ac h af) ((Ha l r PU).trans (by rw[nz q or,ah];rfl)),Q27.up (go (N:=0) af (Hi l)) or,or,or⟩
~DI(h:Fo c N (.tup k) d i)(b:0<=m)(a:m<=8):Fo c (N+13) (.tup [.str "list",.tup k,.int m]) (d+1) (i+1):=⟨λr q=>go (ac (h.f _ or) af) ((Hb _ m r PU).trans (by rw[nz q (by @:=h.d1;on),ah,Lh b,Lh a];rfl)),go (ac h.m af) ((Hj k m i).trans (by rw[cm1,show 1+(i+0)=i+1 by on])),by @:=h.d1;on,by @:=h.i1;on⟩
~vJ{f:Dt->Int}(l:Srt fs)(u:fs°<=8)(o:∀ p∈fs,Nm c p.1)(j:13<=N)(w:0<=d)(h:∀ p∈fs,Fo c N p.2 d (f p.2))(v:0<=(fs.map λp=>f p.2).sum):Fo c (N+39) (rf fs) (d+1) (1+(fs.map λp=>f p.2).sum):=⟨λr q=>by
 @t:=λp e=>(h p e).f (r - 1) or;@i:c.H _ 25 (fam _ _ λx=>.bl _):=H_fam λx s=>by
  &p,e,rfl:=aAc.mp s;!go (ac (a:=(16,_)) (up (o p e) j) (ac (t p e) af)) ((e25 _ _ _ PU PU).trans ?_);rw[ah,ah]
  rfl
 &b,n,g:=Hm fs _ λ_=>PU;obtain rfl:=g u (λ_ _=>rfl) l;~go (ac (go (ac i af) n) af) ((Hc _ r PU).trans (by rw[ah,nz q or];rfl)),
 up (mny or λp e=>(h p e).m) or,or,or⟩
~DJ(h:Fo c N (rf fs) d i)(g:13<=N)(o:(∃ a b:Int,lk fs f=.tup [.str "number",.int a,.int b])\/∃ m:Int,lk fs f=.tup [.str "text",.int m])(n:0<=m)(p:m<=8):Fo c (N+26) (.tup [.str "rows",.str f,rf fs,.int m]) (d+1) (i+1):=⟨λr q=>by
 @j:=h.f (r - 1) or;@l:c.H (N+13) 26 (ent [.d (.str f),.d (rf fs),.d (.int (r - 1))] [] (bb PU)):=by
  @k:=h27 (c:=c) fs f;rcases o with⟨x,y,e⟩ | ⟨x,e⟩
  ·rw[e]at k;!go (ac j (ac (up k g) af)) ((He f _ x y _ PU).trans ?_);rw[ah,ah];rfl
  ·rw[e]at k;!go (ac j (ac (up k g) af)) ((Hf f _ x _ PU).trans ?_);rw[ah,ah];rfl
 ~go (ac (up j or) (ac l af)) ((Hd f _ m r PU PU).trans (by rw[ah,nz q (by @:=h.d1;on),Lh n,Lh p];rfl)),
 up (go (ac h.m af) ((Hk f _ m i).trans (by rw[cm1,show 1+(i+0)=i+1 by on]))) or,by @:=h.d1;on,by @:=h.i1;on⟩
§hg(c:Ct)(N i:Nat)(F:PQ Av->Sto->Rs Av)(A:PQ Av)(S:Sto):Bool:=pb (c.H N i (ent A S (F A S).res))
~bq(h:c.H N i (ent A S (F A S).res)):hg c N i F A S=true:=kb h
§sem(c:Ct)(N i:Nat)(F:PQ Av->Sto->Rs Av):Sp1:=λas S=>.br (hg c N i F as S) (F as S) .bad
~aJ:c.H N i (sem c N i F):=vr λA S=>by
 PL sem hg
 by_cases h:c.H N i (ent A S (F A S).res)
 ·!.inr ?_;rw[kb h];~h
 ·!.inl ?_;rw[aA6.mpr λz=>h (j9.mp z)]
  rfl
§lkD:PQ Dt->Str->Dt
 |[],_=>.non
 |x :: l,a=>bif sv (ag 0 x) == a then ag 1 x else lkD l a
~cb(a):∀ fs:Fs,lkD (fs.map pr) a=lk fs a
 |[]=>rfl
 |p :: fs=>by
  show(bif p.1 == a then p.2 else lkD _ a)=_;rw[cb a fs]
  rfl
§kg(l:PQ Dt)(a:Str):PQ Dt:=(rem (prs? l) a).map pr
§fH(l:PQ Dt)(a:Str)(v:Dt):PQ Dt:=(ins (prs? l) a v).map pr
§F44:PQ Av->Sto->Rs Av
 |[.d (.tup [_,.tup l]),.d (.tup [.str a])],S=>.ok (.d (rc (kg l a))) S
 |_,_=>.bad
§F43:PQ Av->Sto->Rs Av
 |[.d (.tup [_,.tup l]),.d (.tup [.str a]),.r 0],[.lst [v]]=>.ok (.d (rc (fH l a v))) [.lst [v]]
 |_,_=>.bad
¶cm(A:PQ Av):Bool:=bif same A [] A []then PU else PV
~bW:cm A=true:=by PL cm same;rw[kb ⟨rfl,rfl⟩];rfl
¶s1(a:Str):Dt:=.tup [.str a]
¶K27(l:PQ Dt)(a:Str)(k:Dt):Nat×Sp1:=(27,ent [.d (rc l),.d (.str a)] [] (dd k))
~e65(p)(K vs ks a)(b1 b m):E [(66,ent [.d (.tup p)] [] (bb PU)),(68,ent [.d (.tup p),.d K] [] (bb b1)),(78,ent [.d (.tup p),.d K] [] (dd vs)),(74,ent [.d (.tup p),.d vs] [] (dd ks)),(75,ent [.d (.tup p),.d K] [] (bb b)),(80,ent [.d (.tup p),.d K,.d K,.d ks] [] (dd a)),(19,ent [.d a] [] (.br m (dd a) (.ex "BadKind" [])))] 65 [.d (.tup p),.d K] [] =
 q [.d (.tup p)] [] (q [.d (.tup p),.d K] [] (bif b1 then q [.d (.tup p),.d K] [] (q [.d (.tup p),.d vs] [] (q [.d (.tup p),.d K] [] (bif b then q [.d (.tup p),.d K,.d K,.d ks] [] (q [.d a] [] (bif m then dd a else .ex "BadPiece" []))else .ex "BadPiece" [])))else .ex "BadPiece" [])):=IO
~DK(a)(k)(v):E [] 66 [.d (.tup [.str "put",.str a,.tup k,v])] []=bb true:=IO
~yR(a)(v):E [] 66 [.d (.tup [.str "drop",.str a,v])] []=bb true:=IO
~yS(a b):E [] 66 [.d (.tup [.str "name",.str a,.str b])] []=bb true:=IO
~yT(a b):E [] 66 [.d (.tup [.str "sink",.str a,.str b])] []=bb true:=IO
~yU(a b):E [] 66 [.d (.tup [.str "lift",.str a,.str b])] []=bb true:=IO
~pH(a)(t):E [] 66 [.d (.tup [.str "turn",.str a,.tup t])] []=bb true:=IO
~vK(a s b d):E [] 66 [.d (.tup [.str "split",.str a,.str s,.str b,.str d])] []=bb true:=IO
~yV(a s b d):E [] 66 [.d (.tup [.str "join",.str a,.str b,.str s,.str d])] []=bb true:=IO
~yW(a b d)(x):E [] 66 [.d (.tup [.str "part",.str a,.int x,.str b,.str d])] []=bb true:=IO
~vL(a b d)(x y z):E [] 66 [.d (.tup [.str "whole",.str a,.str b,.int x,.str d,.int y,.int z])] []=bb true:=IO
~DL(a)(k v)(l)(b d):E [(19,ent [.d k] [] (.br b (dd k) (.ex "BadKind" []))),(34,ent [.d v,.d k] [] (bb d))] 68 [.d (.tup [.str "put",.str a,k,v]),.d (rc l)] []=q [.d k] [] (bif b then q [.d v,.d k] [] (bb d)else bb PV):=IO
~yX(a)(v)(k l)(d):E [K27 l a (.tup k),(34,ent [.d v,.d (.tup k)] [] (bb d))] 68 [.d (.tup [.str "drop",.str a,v]),.d (rc l)] []=(cm [.d (rc l),.d (.str a)] && PU~>decide ((Dt.tup k).dep<=60) && PU~>q [.d v,.d (.tup k)] [] (bb d)):=IO
~yY(a b)(k l):E [K27 l a (.tup k)] 68 [.d (.tup [.str "name",.str a,.str b]),.d (rc l)] []=(cm [.d (rc l),.d (.str a)] && PU~>decide ((Dt.tup k).dep<=60) && PU~>bb PU):=IO
~yZ(a b)(k l):E [K27 l a (.tup k)] 68 [.d (.tup [.str "sink",.str a,.str b]),.d (rc l)] []=(cm [.d (rc l),.d (.str a)] && PU~>decide ((Dt.tup k).dep<=60) && PU~>bb PU):=IO
~pI(a)(t k l):E [K27 l a (.tup k)] 68 [.d (.tup [.str "turn",.str a,.tup t]),.d (rc l)] []=(cm [.d (rc l),.d (.str a)] && PU~>decide ((Dt.tup k).dep<=60) && PU~>bb PU):=IO
~vM(a s b d)(m)(l)(w):E [K27 l a (.tup [.str "text",.int m]),(72,ent [.d (.str s)] [] (bb w))] 68 [.d (.tup [.str "split",.str a,.str s,.str b,.str d]),.d (rc l)] []=(cm [.d (rc l),.d (.str a)] && PU~>q [.d (.str s)] [] (bb w)):=IO
~y2(a b d)(x m n)(l):E [K27 l a (.tup [.str "number",.int m,.int n])] 68 [.d (.tup [.str "part",.str a,.int x,.str b,.str d]),.d (rc l)] []=(cm [.d (rc l),.d (.str a)] && PU~>bif decide (2<=x)then bb (decide (x<=1000))else bb PV):=IO
~e76(b)(l):E [K27 l b .non,(16,ent [.d (.str b)] [] (bb PU))] 76 [.d (rc l),.d (s1 b)] []=q [.d (.str b)] [] (q [.d (rc l),.d (.str b)] [] (bb PU)):=IO
~DM(a)(k v)(l):E [] 81 [.d (.tup [.str "put",.str a,k,v]),.d (rc l)] []=dd (rc l):=IO
¶cc(a:Str)(k v:Dt):Dt:=.tup [.str "put",.str a,k,v]
¶ba(a:Str)(v:Dt):Dt:=.tup [.str "drop",.str a,v]
¶bc(a b:Str):Dt:=.tup [.str "name",.str a,.str b]
¶bE(a b:Str):Dt:=.tup [.str "sink",.str a,.str b]
¶bx(a b:Str):Dt:=.tup [.str "lift",.str a,.str b]
¶bz(a:Str)(t:PQ Dt):Dt:=.tup [.str "turn",.str a,.tup t]
¶aS(a s b d:Str):Dt:=.tup [.str "split",.str a,.str s,.str b,.str d]
¶bp(a b s d:Str):Dt:=.tup [.str "join",.str a,.str b,.str s,.str d]
¶bF(a:Str)(x:Int)(b d:Str):Dt:=.tup [.str "part",.str a,.int x,.str b,.str d]
¶aW(a b:Str)(x:Int)(d:Str)(y z:Int):Dt:=.tup [.str "whole",.str a,.str b,.int x,.str d,.int y,.int z]
¶T44(l:PQ Dt)(a:Str)(l':PQ Dt):Nat×Sp1:=(44,ent [.d (rc l),.d (s1 a)] [] (dd (rc l')))
¶T43(l:PQ Dt)(a:Str)(v:Dt)(l':PQ Dt):Nat×Sp1:=(43,ent [.d (rc l),.d (s1 a),.r 0] [.lst [v]] (.ok (.d (rc l')) [.lst [v]]))
¶T41(l:PQ Dt)(a:Str)(k:Dt):Nat×Sp1:=(41,ent [.d (rc l),.d (.str a)] [] (dd k))
~y3(a)(v)(l l'):E [T44 l a l'] 81 [.d (ba a v),.d (rc l)] []=q [.d (rc l),.d (s1 a)] [] (dd (rc l')):=IO
~y4(a b)(l l'):E [T44 l a l'] 81 [.d (bc a b),.d (rc l)] []=q [.d (rc l),.d (s1 a)] [] (dd (rc l')):=IO
~y6(a b)(l l'):E [T44 l a l'] 81 [.d (bE a b),.d (rc l)] []=q [.d (rc l),.d (s1 a)] [] (dd (rc l')):=IO
~y7(a)(t l l'):E [T44 l a l'] 81 [.d (bz a t),.d (rc l)] []=q [.d (rc l),.d (s1 a)] [] (dd (rc l')):=IO
~vN(a s b d)(l l'):E [T44 l a l'] 81 [.d (aS a s b d),.d (rc l)] []=q [.d (rc l),.d (s1 a)] [] (dd (rc l')):=IO
~y8(a b d)(x)(l l'):E [T44 l a l'] 81 [.d (bF a x b d),.d (rc l)] []=q [.d (rc l),.d (s1 a)] [] (dd (rc l')):=IO
~y9(a b)(l l' m m'):E [T41 l a (rc m),T44 m b m',T43 l a (rc m') l'] 81 [.d (bx a b),.d (rc l)] []=q [.d (rc l),.d (.str a)] [] (q [.d (rc m),.d (s1 b)] [] (q [.d (rc l),.d (s1 a),.r 0] [.lst [rc m']] (dd (rc l')))):=IO
~za(a b s d)(l):E [(44,sem c N 44 F44)] 81 [.d (bp a b s d),.d (rc l)] []=(hg c N 44 F44 [.d (rc l),.d (s1 a)] []~>hg c N 44 F44 [.d (rc (kg l a)),.d (s1 b)] []~>dd (rc (kg (kg l a) b))):=IO
~vO(a b d)(x y z)(l):E [(44,sem c N 44 F44)] 81 [.d (aW a b x d y z),.d (rc l)] []=(hg c N 44 F44 [.d (rc l),.d (s1 a)] []~>hg c N 44 F44 [.d (rc (kg l a)),.d (s1 b)] []~>dd (rc (kg (kg l a) b))):=IO
~DN(a)(k v)(l):E [] 78 [.d (cc a k v),.d (rc l)] []=dd (.tup []):=IO
~zb(a)(v k)(l):E [T41 l a k] 78 [.d (ba a v),.d (rc l)] []=(cm [.d (rc l),.d (.str a)] && PU~>dd (.tup [k])):=IO
~zc(a b)(k)(l):E [T41 l a k] 78 [.d (bc a b),.d (rc l)] []=(cm [.d (rc l),.d (.str a)] && PU~>dd (.tup [k])):=IO
~zd(a b)(k)(l):E [T41 l a k] 78 [.d (bE a b),.d (rc l)] []=(cm [.d (rc l),.d (.str a)] && PU~>dd (.tup [k])):=IO
~pJ(a)(t)(k)(l):E [T41 l a k] 78 [.d (bz a t),.d (rc l)] []=(cm [.d (rc l),.d (.str a)] && PU~>dd (.tup [k])):=IO
~vP(a s b d)(k)(l):E [T41 l a k] 78 [.d (aS a s b d),.d (rc l)] []=(cm [.d (rc l),.d (.str a)] && PU~>dd (.tup [k])):=IO
~ze(a b d)(x)(k)(l):E [T41 l a k] 78 [.d (bF a x b d),.d (rc l)] []=(cm [.d (rc l),.d (.str a)] && PU~>dd (.tup [k])):=IO
~DO(a)(k v)(vs):E [] 74 [.d (cc a k v),.d (.tup vs)] []=dd (.tup [k]):=IO
~zf(a)(v)(vs):E [] 74 [.d (ba a v),.d (.tup vs)] []=dd (.tup []):=IO
~zg(a b)(k):E [] 74 [.d (bc a b),.d (.tup [k])] []=dd (.tup [k]):=IO
~zh(a b)(k):E [] 74 [.d (bE a b),.d (.tup [k])] []=dd (.tup [k]):=IO
~zi(a b)(k):E [] 74 [.d (bx a b),.d (.tup [k])] []=dd (.tup [k]):=IO
~vQ(a s b d)(k):E [] 74 [.d (aS a s b d),.d (.tup [k])] []=dd (.tup [k,k]):=IO
~zj(a b s d)(k c):E [] 74 [.d (bp a b s d),.d (.tup [k,c])] []=dd (.tup [k]):=IO
~vS(a b d)(x y z)(k c):E [] 74 [.d (aW a b x d y z),.d (.tup [k,c])] []=dd (.tup [.tup [.str "number",.int y,.int z]]):=IO
~zk(a)(v)(l l'):E [(81,ent [.d (ba a v),.d (rc l)] [] (dd (rc l')))] 75 [.d (ba a v),.d (rc l)] []=q [.d (ba a v),.d (rc l)] [] (bb PU):=IO
~DP(a)(k v)(l l'):E [(81,ent [.d (cc a k v),.d (rc l)] [] (dd (rc l'))),(76,ent [.d (rc l'),.d (s1 a)] [] (bb PU))] 75 [.d (cc a k v),.d (rc l)] []=q [.d (cc a k v),.d (rc l)] [] (cm [.d (rc l'),.d (s1 a)] && PU~>bb PU):=IO
~zl(a b)(l l'):E [(81,ent [.d (bc a b),.d (rc l)] [] (dd (rc l'))),(76,ent [.d (rc l'),.d (s1 b)] [] (bb PU))] 75 [.d (bc a b),.d (rc l)] []=q [.d (bc a b),.d (rc l)] [] (cm [.d (rc l'),.d (s1 b)] && PU~>bb PU):=IO
~zm(a)(v K)(l l'):E [(81,ent [.d (ba a v),.d (rc l)] [] (dd (rc l')))] 80 [.d (ba a v),.d K,.d (rc l),.d (.tup [])] []=q [.d (ba a v),.d (rc l)] [] (dd (rc l')):=IO
~DQ(a)(k v K x)(l l' b):E [(81,ent [.d (cc a k v),.d (rc l)] [] (dd (rc l'))),T43 l' a x b] 80 [.d (cc a k v),.d K,.d (rc l),.d (.tup [x])] []=q [.d (cc a k v),.d (rc l)] [] (q [.d (rc l'),.d (s1 a),.r 0] [.lst [x]] (dd (rc b))):=IO
~zn(a b)(K x)(l l' c):E [(81,ent [.d (bc a b),.d (rc l)] [] (dd (rc l'))),T43 l' b x c] 80 [.d (bc a b),.d K,.d (rc l),.d (.tup [x])] []=q [.d (bc a b),.d (rc l)] [] (q [.d (rc l'),.d (s1 b),.r 0] [.lst [x]] (dd (rc c))):=IO
§fk:Dt->Str->Dt
 |.tup [.str w,.tup l],a=>bif w == "record" then lkD l a else .non
 |_,_=>.non
§Ffk:PQ Av->Sto->Rs Av
 |[.d k,.d (.str a)],S=>.ok (.d (fk k a)) S
 |_,_=>.bad
¶cg(c:Ct)(N i:Nat)(F:PQ Av->Sto->Rs Av)(A:PQ Av):Bool:=bif hg c N i F A []then PU else PV
~zo(a b)(l m k:PQ Dt):E [(69,ent [.d (rc l),.d (.tup [.str a,.str b])] [] (dd (.tup k)))] 68 [.d (bx a b),.d (rc l)] []=(cm [.d (rc l),.d (.tup [.str a,.str b])] && PU~>decide ((Dt.tup k).dep<=60) && PU~>bb PU):=IO
~DS(a b)(l):E [(27,sem c N 27 Ffk)] 69 [.d (rc l),.d (.tup [.str a,.str b])] []=(hg c N 27 Ffk [.d (rc l),.d (.str a)] []~>bif ca (lkD l a)then dd .non else hg c N 27 Ffk [.d (lkD l a),.d (.str b)] []~>dd (fk (lkD l a) b)):=IO
~DT(a)(l)(k):E [K27 l a k] 69 [.d (rc l),.d (s1 a)] []=q [.d (rc l),.d (.str a)] [] (dd k):=IO
~zp(a b s d)(m)(l)(w):E [(27,sem c N 27 λ_ _=>dd (.tup [.str "text",.int m])),(72,ent [.d (.str s)] [] (bb w))] 68 [.d (bp a b s d),.d (rc l)] [] =
 (cg c N 27 (λ_ _=>dd (.tup [.str "text",.int m])) [.d (rc l),.d (.str a)] && (cg c N 27 (λ_ _=>dd (.tup [.str "text",.int m])) [.d (rc l),.d (.str b)] && PU)~>bif !eqD (.int (manyK [[.inr a],[.inr b]])) (.int 2)then bb PV else bif eqD (.tup [.str "text",.int m]) (.tup [.str "text",.int m])then q [.d (.str s)] [] (bb w)else bb PV):=IO
~zr(a b)(l m:PQ Dt)(k):E [(79,ent [.d (rc l),.d (.tup [.str a,.str b])] [] (dd k))] 78 [.d (bx a b),.d (rc l)] []=(cm [.d (rc l),.d (.tup [.str a,.str b])] && PU~>dd (.tup [k])):=IO
~DU(a b)(l):E [(41,sem c N 41 Ffk)] 79 [.d (rc l),.d (.tup [.str a,.str b])] []=(hg c N 41 Ffk [.d (rc l),.d (.str a)] []~>hg c N 41 Ffk [.d (lkD l a),.d (.str b)] []~>dd (fk (lkD l a) b)):=IO
~zt(a b s d)(k)(l):E [(41,sem c N 41 λ_ _=>dd k)] 78 [.d (bp a b s d),.d (rc l)] []=(cg c N 41 (λ_ _=>dd k) [.d (rc l),.d (.str a)] && (cg c N 41 (λ_ _=>dd k) [.d (rc l),.d (.str b)] && PU)~>dd (.tup [k,k])):=IO
~vT(a b d)(x y z)(l):E [(41,sem c N 41 Ffk)] 78 [.d (aW a b x d y z),.d (rc l)] []=(cg c N 41 Ffk [.d (rc l),.d (.str a)] && (cg c N 41 Ffk [.d (rc l),.d (.str b)] && PU)~>dd (.tup [lkD l a,lkD l b])):=IO
~zv(a b d)(x m n):E [(73,ent [.d (.int m),.d (.int n),.d (.int x)] [] (dd (.tup [.tup [.str "number",.int (m / x),.int (n / x)],.tup [.str "number",.int 0,.int (x - 1)]])))] 74 [.d (bF a x b d),.d (.tup [.tup [.str "number",.int m,.int n]])] []=q [.d (.int m),.d (.int n),.d (.int x)] [] (dd (.tup [.tup [.str "number",.int (m / x),.int (n / x)],.tup [.str "number",.int 0,.int (x - 1)]])):=IO
~zw(a)(t)(k b):E [(52,ent [.d (.tup t),.d k] [] (dd b))] 74 [.d (bz a t),.d (.tup [k])] []=q [.d (.tup t),.d k] [] (dd (.tup [b])):=IO
~vU(a)(t)(k):E [(52,ent [.d (.tup t),.d k] [] (.ex "BadTurn" []))] 74 [.d (bz a t),.d (.tup [k])] []=q [.d (.tup t),.d k] [] (.ex "BadTurn" []):=IO
~JZ(p)(K vs):E [(66,ent [.d (.tup p)] [] (bb PU)),(68,ent [.d (.tup p),.d K] [] (bb PU)),(78,ent [.d (.tup p),.d K] [] (dd vs)),(74,ent [.d (.tup p),.d vs] [] (.ex "BadTurn" []))] 65 [.d (.tup p),.d K] [] =
 q [.d (.tup p)] [] (q [.d (.tup p),.d K] [] (q [.d (.tup p),.d K] [] (q [.d (.tup p),.d vs] [] (.ex "BadTurn" [])))):=IO
~zx(a b)(l l'):E [(81,ent [.d (bE a b),.d (rc l)] [] (dd (rc l'))),(76,ent [.d (rc l'),.d (.tup [.str b,.str a])] [] (bb PU))] 75 [.d (bE a b),.d (rc l)] []=q [.d (bE a b),.d (rc l)] [] (cm [.d (rc l'),.d (.tup [.str b,.str a])] && PU~>bb PU):=IO
~DV(a b)(l m):E [(69,ent [.d (rc l),.d (s1 b)] [] (dd (rc m))),K27 m a .non,(16,ent [.d (.str a)] [] (bb PU))] 76 [.d (rc l),.d (.tup [.str b,.str a])] []=q [.d (rc l),.d (s1 b)] [] (q [.d (.str a)] [] (q [.d (rc m),.d (.str a)] [] (bb PU))):=IO
~zy(a b)(l l'):E [(81,ent [.d (bx a b),.d (rc l)] [] (dd (rc l'))),(76,ent [.d (rc l'),.d (s1 b)] [] (bb PU))] 75 [.d (bx a b),.d (rc l)] []=q [.d (bx a b),.d (rc l)] [] (cm [.d (rc l'),.d (s1 b)] && PU~>bb PU):=IO
~zA(a)(t l l'):E [(81,ent [.d (bz a t),.d (rc l)] [] (dd (rc l'))),(76,ent [.d (rc l'),.d (s1 a)] [] (bb PU))] 75 [.d (bz a t),.d (rc l)] []=q [.d (bz a t),.d (rc l)] [] (cm [.d (rc l'),.d (s1 a)] && PU~>bb PU):=IO
~zB(a b s d)(l l'):E [(81,ent [.d (bp a b s d),.d (rc l)] [] (dd (rc l'))),(76,ent [.d (rc l'),.d (s1 d)] [] (bb PU))] 75 [.d (bp a b s d),.d (rc l)] []=q [.d (bp a b s d),.d (rc l)] [] (cm [.d (rc l'),.d (s1 d)] && PU~>bb PU):=IO
~vV(a b d)(x y z)(l l'):E [(81,ent [.d (aW a b x d y z),.d (rc l)] [] (dd (rc l'))),(76,ent [.d (rc l'),.d (s1 d)] [] (bb PU))] 75 [.d (aW a b x d y z),.d (rc l)] []=q [.d (aW a b x d y z),.d (rc l)] [] (cm [.d (rc l'),.d (s1 d)] && PU~>bb PU):=IO
~vW(a s b d)(l l'):E [(81,ent [.d (aS a s b d),.d (rc l)] [] (dd (rc l'))),(76,sem c N 76 λ_ _=>bb PU)] 75 [.d (aS a s b d),.d (rc l)] []=bif !eqD (.int (manyK [[.inr b],[.inr d]])) (.int 2)then bb PV else q [.d (aS a s b d),.d (rc l)] [] (cg c N 76 (λ_ _=>bb PU) [.d (rc l'),.d (s1 b)] && (cg c N 76 (λ_ _=>bb PU) [.d (rc l'),.d (s1 d)] && PU)~>bb PU):=IO
~zC(a b d)(x)(l l'):E [(81,ent [.d (bF a x b d),.d (rc l)] [] (dd (rc l'))),(76,sem c N 76 λ_ _=>bb PU)] 75 [.d (bF a x b d),.d (rc l)] []=bif !eqD (.int (manyK [[.inr b],[.inr d]])) (.int 2)then bb PV else q [.d (bF a x b d),.d (rc l)] [] (cg c N 76 (λ_ _=>bb PU) [.d (rc l'),.d (s1 b)] && (cg c N 76 (λ_ _=>bb PU) [.d (rc l'),.d (s1 d)] && PU)~>bb PU):=IO
~zE(a)(t)(K x)(l l' b):E [(81,ent [.d (bz a t),.d (rc l)] [] (dd (rc l'))),T43 l' a x b] 80 [.d (bz a t),.d K,.d (rc l),.d (.tup [x])] []=q [.d (bz a t),.d (rc l)] [] (q [.d (rc l'),.d (s1 a),.r 0] [.lst [x]] (dd (rc b))):=IO
~zF(a b)(K x)(l l' c):E [(81,ent [.d (bx a b),.d (rc l)] [] (dd (rc l'))),T43 l' b x c] 80 [.d (bx a b),.d K,.d (rc l),.d (.tup [x])] []=q [.d (bx a b),.d (rc l)] [] (q [.d (rc l'),.d (s1 b),.r 0] [.lst [x]] (dd (rc c))):=IO
~zG(a b s d)(K x)(l l' c):E [(81,ent [.d (bp a b s d),.d (rc l)] [] (dd (rc l'))),T43 l' d x c] 80 [.d (bp a b s d),.d K,.d (rc l),.d (.tup [x])] []=q [.d (bp a b s d),.d (rc l)] [] (q [.d (rc l'),.d (s1 d),.r 0] [.lst [x]] (dd (rc c))):=IO
~vX(a b d)(e y z)(K x)(l l' c):E [(81,ent [.d (aW a b e d y z),.d (rc l)] [] (dd (rc l'))),T43 l' d x c] 80 [.d (aW a b e d y z),.d K,.d (rc l),.d (.tup [x])] []=q [.d (aW a b e d y z),.d (rc l)] [] (q [.d (rc l'),.d (s1 d),.r 0] [.lst [x]] (dd (rc c))):=IO
~vY(a s b d)(K x y)(l l'):E [(81,ent [.d (aS a s b d),.d (rc l)] [] (dd (rc l'))),(43,sem c N 43 F43)] 80 [.d (aS a s b d),.d K,.d (rc l),.d (.tup [x,y])] []=q [.d (aS a s b d),.d (rc l)] [] (hg c N 43 F43 [.d (rc l'),.d (s1 b),.r 0] [.lst [x]]~>hg c N 43 F43 [.d (rc (fH l' b x)),.d (s1 d),.r 0] [.lst [y]]~>dd (rc (fH (fH l' b x) d y))):=IO
~zH(a b d)(e)(K x y)(l l'):E [(81,ent [.d (bF a e b d),.d (rc l)] [] (dd (rc l'))),(43,sem c N 43 F43)] 80 [.d (bF a e b d),.d K,.d (rc l),.d (.tup [x,y])] []=q [.d (bF a e b d),.d (rc l)] [] (hg c N 43 F43 [.d (rc l'),.d (s1 b),.r 0] [.lst [x]]~>hg c N 43 F43 [.d (rc (fH l' b x)),.d (s1 d),.r 0] [.lst [y]]~>dd (rc (fH (fH l' b x) d y))):=IO
~zI(a b)(K x)(l l' m):E [(81,ent [.d (bE a b),.d (rc l)] [] (dd (rc l'))),T41 l' b (rc m),(43,sem c N 43 F43)] 80 [.d (bE a b),.d K,.d (rc l),.d (.tup [x])] []=q [.d (bE a b),.d (rc l)] [] (q [.d (rc l'),.d (.str b)] [] (hg c N 43 F43 [.d (rc m),.d (s1 a),.r 0] [.lst [x]]~>hg c N 43 F43 [.d (rc l'),.d (s1 b),.r 0] [.lst [rc (fH m a x)]]~>dd (rc (fH l' b (rc (fH m a x)))))):=IO
¶nm(m n:Int):Dt:=.tup [.str "number",.int m,.int n]
~e73(m n x):E [] 73 [.d (.int m),.d (.int n),.d (.int x)] []=(ak (aj .fdiv (.d (.int m)) (.d (.int x)) [])~>ak (aj .fdiv (.d (.int n)) (.d (.int x)) [])~>dd (.tup [.tup [.str "number",ae (aj .fdiv (.d (.int m)) (.d (.int x)) []),ae (aj .fdiv (.d (.int n)) (.d (.int x)) [])],nm 0 (x - 1)])):=IO
~J0:E [] 72 [.d (.str "-")] []=bb true:=IO
~J1:E [] 72 [.d (.str "|")] []=bb true:=IO
~J2:E [] 72 [.d (.str " ")] []=bb true:=IO
~vZ(a b d)(x y z)(l):E [(27,sem c N 27 Ffk),(73,ent [.d (.int y),.d (.int z),.d (.int x)] [] (dd (.tup [nm (y / x) (z / x),nm 0 (x - 1)])))] 68 [.d (aW a b x d y z),.d (rc l)] [] =
 (cg c N 27 Ffk [.d (rc l),.d (.str a)] && (cg c N 27 Ffk [.d (rc l),.d (.str b)] && PU)~>bif !eqD (.int (manyK [[.inr a],[.inr b]])) (.int 2)then bb PV else uY (lkD l a) && (uY (lkD l b) && PU)~>bif ca (lkD l a) || (ca (lkD l b) || PV)then bb PV else bif decide (2<=x)then bif decide (x<=1000)then q [.d (.int y),.d (.int z),.d (.int x)] [] (decide ((Dt.tup [lkD l a,lkD l b]).dep<=60)~>bb (eqD (.tup [lkD l a,lkD l b]) (.tup [nm (y / x) (z / x),nm 0 (x - 1)])))else bb PV else bb PV):=IO
~v2(a)(k v K b):E [(65,ent [.d (cc a k v),.d K] [] (dd b))] 77 [.d (cc a k v),.d K] []=q [.d (cc a k v),.d K] [] (dd (ba a v)):=IO
~pK(a)(k v b)(l):E [(65,ent [.d (ba a v),.d (rc l)] [] (dd b)),K27 l a k] 77 [.d (ba a v),.d (rc l)] []=q [.d (ba a v),.d (rc l)] [] (q [.d (rc l),.d (.str a)] [] (dd (cc a k v))):=IO
~pL(a b)(K c):E [(65,ent [.d (bc a b),.d K] [] (dd c))] 77 [.d (bc a b),.d K] []=q [.d (bc a b),.d K] [] (dd (bc b a)):=IO
~pM(a b)(K c):E [(65,ent [.d (bE a b),.d K] [] (dd c))] 77 [.d (bE a b),.d K] []=q [.d (bE a b),.d K] [] (dd (bx b a)):=IO
~pN(a b)(K c):E [(65,ent [.d (bx a b),.d K] [] (dd c))] 77 [.d (bx a b),.d K] []=q [.d (bx a b),.d K] [] (dd (bE b a)):=IO
~mi(a s b d)(K c):E [(65,ent [.d (aS a s b d),.d K] [] (dd c))] 77 [.d (aS a s b d),.d K] []=q [.d (aS a s b d),.d K] [] (dd (bp b d s a)):=IO
~pO(a b s d)(K c):E [(65,ent [.d (bp a b s d),.d K] [] (dd c))] 77 [.d (bp a b s d),.d K] []=q [.d (bp a b s d),.d K] [] (dd (aS d s a b)):=IO
~zJ(a b d)(x m n)(c)(l):E [(65,ent [.d (bF a x b d),.d (rc l)] [] (dd c)),K27 l a (nm m n)] 77 [.d (bF a x b d),.d (rc l)] []=q [.d (bF a x b d),.d (rc l)] [] (q [.d (rc l),.d (.str a)] [] (dd (aW b d x a m n))):=IO
~v3(a b d)(x y z)(K c):E [(65,ent [.d (aW a b x d y z),.d K] [] (dd c))] 77 [.d (aW a b x d y z),.d K] []=q [.d (aW a b x d y z),.d K] [] (dd (bF d x a b)):=IO
~pP(a)(t t')(k b)(l):E [(65,ent [.d (bz a t),.d (rc l)] [] (dd b)),K27 l a k,(59,ent [.d (.tup t),.d k] [] (dd (.tup t')))] 77 [.d (bz a t),.d (rc l)] []=q [.d (bz a t),.d (rc l)] [] (q [.d (rc l),.d (.str a)] [] (q [.d (.tup t),.d k] [] (dd (bz a t')))):=IO
~J3(p K k):E [(65,ent [.d p,.d K] [] (dd k))] 109 [.d p,.d K] []=q [.d p,.d K] [] (dd k):=IO
~Hn(p K):E [(65,ent [.d p,.d K] [] (.ex "BadPiece" []))] 109 [.d p,.d K] []=q [.d p,.d K] [] (dd .non):=IO
~Hq(p K):E [(65,ent [.d p,.d K] [] (.ex "BadTurn" []))] 109 [.d p,.d K] []=q [.d p,.d K] [] (dd .non):=IO
~n7(h:c.H N i (ent A S (bif m then x else y))):c.H N i (ent A S (.br m x y)):=vq h λa b=>by
 PL ent
 #same a b A S with
 |false=>~.inl rfl
 |true=>cases m <;> ~.inr rfl
~rb{K vs ks a}(i:c.H N 66 (ent [.d (.tup p)] [] (bb PU)))(b:c.H N 68 (ent [.d (.tup p),.d K] [] (bb b1)))(e:c.H N 78 (ent [.d (.tup p),.d K] [] (dd vs)))(j:c.H N 74 (ent [.d (.tup p),.d vs] [] (dd ks)))(h:c.H N 75 (ent [.d (.tup p),.d K] [] (bb PU)))(f:c.H N 80 (ent [.d (.tup p),.d K,.d K,.d ks] [] (dd a)))(g:c.H N 19 (ent [.d a] [] (bif m then dd a else .ex "BadKind" []))) :
  c.H (N+13) 65 (ent [.d (.tup p),.d K] [] (bif b1 && m then dd a else .ex "BadPiece" [])):=by
 !go (ac i (ac b (ac e (ac j (ac h (ac f (ac (n7 g) af))))))) ((e65 p K vs ks a b1 PU m).trans ?_);PK[ah]
 cases b1 <;> rfl
~g1(h:c.H N i (ent A S x))(e:E [(i,ent A S x)] j B []=y)(a:y=z):c.H (N+13) j (ent B [] z):=go (ac h af) (e.trans a)
~g0(e:E [] j B S=z):c.H 13 j (ent B S z):=go af e
~h76(e:Nm c b)(h:lk fs b=.non):c.H 26 76 (ent [.d (rf fs),.d (s1 b)] [] (bb PU)):=by
 @k:=h27 (c:=c) fs b;rw[h]at k;~go (ac k (ac (a:=(16,_)) e af)) ((e76 b _).trans (by rw[ah,ah]))
~rbPut(w:FW fs)(s:∃ l,k=.tup l)(n:c.H N 19 (ent [.d k] [] (bif b then dd k else .ex "BadKind" [])))(h:c.H N 34 (ent [.d v,.d k] [] (bb d)))(r:Nm c a)(o:lk fs a=.non)(p:c.H (N+52) 19 (ent [.d (rf (ins fs a k))] [] (bif m then dd (rf (ins fs a k))else .ex "BadKind" []))):c.H (N+65) 65 (ent [.d (cc a k v),.d (rf fs)] [] (bif (b && d) && m then dd (rf (ins fs a k))else .ex "BadPiece" [])):=by
 &f,rfl:=s;@e:c.H 13 81 (ent [.d (cc a (.tup f) v),.d (rf fs)] [] _):=g0 (DM _ _ _ _);@g:c.H _ 68 (ent [.d _,.d (rf fs)] [] (bb (b && d))):=go (ac (n7 n) (ac h af)) ((DL a _ v _ b d).trans (by PK[ah];cases b <;> rfl));@j:c.H 39 75 (ent _ [] (bb PU)):=go (ac (up e or) (ac (h76 r o) af)) ((DP a _ v _ _).trans (by rw[ah,bW];rfl));@i:c.H 39 80 (ent [.d _,.d (rf fs),.d _,.d (.tup [.tup f])] [] (dd (rf (ins fs a (.tup f))))):=go (ac (up e or) (ac (h43 w a _) af)) ((DQ a _ v _ _ _ _ _).trans (by PK[ah]));~rb (up (g0 (DK a f v)) or) (up g or) (up (g0 (DN a _ v _)) or) (up (g0 (DO a _ v [])) or) (up j or) (up i or) p
~cL(fs)(a)(v):fH (fs.map pr) a v=(ins fs a v).map pr:=by PL fH;rw[hZ]
~eE(fs)(a):kg (fs.map pr) a=(rem fs a).map pr:=by PL kg;rw[hZ]
~FW.ins{a}{v}(h:FW fs)(c:fs°<=19)(b:v≠.non):FW (ins fs a v):=⟨fY h.s,pD h.n h.s b,by @:=pE (fs:=fs) (a:=a) (v:=v);on⟩
~rA(w:FW fs)(a)(v)(h:26<=N):hg c N 43 F43 [.d (rf fs),.d (s1 a),.r 0] [.lst [v]]=true:=bq (by
 show c.H N 43 (ent _ _ (.ok _ _));rw[cL];~up (h43 w a v) h)
~zK(w:FW fs)(a)(h:13<=N):hg c N 44 F44 [.d (rf fs),.d (s1 a)] []=true:=bq (by
 show c.H N 44 (ent _ _ (.ok _ _));rw[eE];~up (h44 fs w.l a) h)
~DW(a)(h:13<=N):hg c N 27 Ffk [.d (rf fs),.d (.str a)] []=true:=bq (by
 show c.H N 27 (ent _ _ (dd (lkD _ a)));rw[cb];~up (h27 fs a) h)
~DX(a)(h:13<=N):hg c N 41 Ffk [.d (rf fs),.d (.str a)] []=true:=bq (by
 show c.H N 41 (ent _ _ (dd (lkD _ a)));rw[cb];~up (h41 fs a) h)
~k27(h:lk fs a=k):c.H 13 27 (ent [.d (rf fs),.d (.str a)] [] (dd k)):=by @q:=h27 (c:=c) fs a;rw[h]at q;~q
~k41(h:lk fs a=k):c.H 13 41 (ent [.d (rf fs),.d (.str a)] [] (dd k)):=by @q:=h41 (c:=c) fs a;rw[h]at q;~q
§M19(c:Ct)(N:Nat)(m:Bool)(k:Dt):Prop:=c.H N 19 (ent [.d k] [] (bif m then dd k else .ex "BadKind" []))
§R65(c:Ct)(N:Nat)(p:Dt)(fs fs':Fs)(b:Bool):Prop:=c.H N 65 (ent [.d p,.d (rf fs)] [] (bif b then dd (rf fs')else .ex "BadPiece" []))
~rbDrop(w:FW fs)(f:lk fs a=.tup kl)(h:(Dt.tup kl).dep<=60)(e:c.H N 34 (ent [.d v,.d (.tup kl)] [] (bb d)))(j:13<=N)(g:M19 c (N+52) m (rf (rem fs a))):R65 c (N+65) (ba a v) fs (rem fs a) (d && m):=by
 @b:c.H 26 81 _:=go (ac (h44 fs w.l a) af) ((y3 a v _ _).trans ah);~rb (up (g0 (yR a v)) or) (up (go (ac (up (k27 f) j) (ac e af)) ((yX a v kl _ d).trans (by rw[bW,Lh h,ah];rfl))) or) (up (go (ac (k41 f) af) ((zb a v _ _).trans (by rw[bW];rfl))) or) (up (g0 (zf a v _)) or)
  (up (go (ac b af) ((zk a v _ _).trans ah)) or) (up (go (ac b af) ((zm a v _ _ _).trans ah)) or) g
~rbName(w:FW fs)(e:lk fs a=.tup kl)(f:(Dt.tup kl).dep<=60)(j:Nm c b)(h:lk (rem fs a) b=.non)(i:M19 c (N+52) m (rf (ins (rem fs a) b (.tup kl)))):R65 c (N+65) (bc a b) fs (ins (rem fs a) b (.tup kl)) m:=by
 @d:c.H 26 81 _:=go (ac (h44 fs w.l a) af) ((y4 a b _ _).trans ah);~rb (up (g0 (yS a b)) or) (up (go (ac (k27 e) af) ((yY a b kl _).trans (by rw[bW,Lh f];rfl))) or) (up (go (ac (k41 e) af) ((zc a b _ _).trans (by rw[bW];rfl))) or) (up (g0 (zg a b _)) or)
  (up (go (ac d (ac (h76 j h) af)) ((zl a b _ _).trans (by rw[ah,bW];rfl))) or) (up (go (ac d (ac (h43 w.rem b _) af)) ((zn a b _ _ _ _ _).trans (by PK[ah]))) or) i
~v4(w:FW fs)(g:lk fs a=.tup kl)(k:(Dt.tup kl).dep<=60)(e:c.H N 52 (ent [.d (.tup t),.d (.tup kl)] [] (dd f)))(l:Nm c a)(j:M19 c (N+52) m (rf (ins (rem fs a) a f))):R65 c (N+65) (bz a t) fs (ins (rem fs a) a f) m:=by
 @i:lk (rem fs a) a=.non:=by rw[nY,Lz];rfl
 @b:c.H 26 81 _:=go (ac (h44 fs w.l a) af) ((y7 a t _ _).trans ah);~rb (up (g0 (pH a t)) or) (up (go (ac (k27 g) af) ((pI a t kl _).trans (by rw[bW,Lh k];rfl))) or) (up (go (ac (k41 g) af) ((pJ a t _ _).trans (by rw[bW];rfl))) or) (up (go (ac e af) ((zw a t _ f).trans ah)) or)
  (up (go (ac b (ac (h76 l i) af)) ((zA a t _ _).trans (by rw[ah,bW];rfl))) or) (up (go (ac b (ac (h43 w.rem a _) af)) ((zE a t _ _ _ _ _).trans (by PK[ah]))) or) j
~pQ(w:FW fs)(e:lk fs a=.tup kl)(g:(Dt.tup kl).dep<=60)(b:c.H N 52 (ent [.d (.tup t),.d (.tup kl)] [] (.ex "BadTurn" []))):c.H (N+65) 65 (ent [.d (bz a t),.d (rf fs)] [] (.ex "BadTurn" [])):=
 up (go (N:=N+26) (ac (up (g0 (pH a t)) or) (ac (up (go (ac (k27 e) af) ((pI a t kl _).trans (by rw[bW,Lh g];rfl))) or) (ac (up (go (ac (k41 e) af) ((pJ a t _ _).trans (by rw[bW];rfl))) or) (ac (up (go (ac b af) ((vU a t _).trans ah)) or) af)))) ((JZ _ _ _).trans (by PK[ah]))) or
~two(h:a≠b):(!eqD (.int (manyK [[.inr a],[.inr b]])) (.int 2))=false:=by
 @:manyK [[(Sum.inr a)],[Sum.inr b]]=2:=by
  PL manyK;simp[h]
 rw[this]
 rfl
~Hr(h:s∈[("-" : Str),"|"," "]):c.H 13 72 (ent [.d (.str s)] [] (bb PU)):=by
 PK[aAl,aAu,LN]at h;rcases h with rfl | rfl | rfl
 ·~g0 J0
 ·~g0 J1
 ·~g0 J2
~pR(e:Nm c b)(a:lk fs b=.non)(h:26<=N):cg c N 76 (λ_ _=>bb PU) [.d (rf fs),.d (s1 b)]=true:=by
 PL cg;rw[bq (up (h76 e a) h)]
 rfl
~rbSplit(w:FW fs)(o:fs°<=19)(f:lk fs a=.tup [.str "text",.int x])(hs:s∈[("-" : Str),"|"," "])(n:Nm c b)(l:Nm c d)(i:b≠d)(j:lk (rem fs a) b=.non)(h:lk (rem fs a) d=.non)(k:M19 c (N+52) m (rf (ins (ins (rem fs a) b (.tup [.str "text",.int x])) d (.tup [.str "text",.int x])))):R65 c (N+65) (aS a s b d) fs (ins (ins (rem fs a) b (.tup [.str "text",.int x])) d (.tup [.str "text",.int x])) m:=by
 @e:c.H 26 81 _:=go (ac (h44 fs w.l a) af) ((vN a s b d _ _).trans ah);@g:FW (ins (rem fs a) b (.tup [.str "text",.int x])):=w.rem.ins (by @:=fZ (fs:=fs) (a:=a);on) nofun;!rb (up (g0 (vK a s b d)) or) (up (go (ac (k27 f) (ac (Hr hs) af)) ((vM a s b d x _ PU).trans (by rw[bW,ah];rfl))) or) (up (go (ac (k41 f) af) ((vP a s b d _ _).trans (by rw[bW];rfl))) or) (up (g0 (vQ a s b d _)) or)
  (up (go (ac e (ac aJ af)) ((vW a s b d _ _).trans (by rw[two i,ah,pR n j or,pR l h or];rfl))) or) (up (go (ac e (ac aJ af)) ((vY a s b d _ _ _ _ _).trans ?_)) or) k
 rw[ah,rA w.rem b _ or,cL,rA g d _ or,cL]
 rfl
~rbPart(w:FW fs)(t:fs°<=19)(g:lk fs a=nm u v)(h:2<=x)(s:x<=1000)(l:Nm c b)(o:Nm c d)(j:b≠d)(k:lk (rem fs a) b=.non)(i:lk (rem fs a) d=.non)(n:M19 c (N+52) m (rf (ins (ins (rem fs a) b (nm (u / x) (v / x))) d (nm 0 (x - 1))))):R65 c (N+65) (bF a x b d) fs (ins (ins (rem fs a) b (nm (u / x) (v / x))) d (nm 0 (x - 1))) m:=by
 @e:c.H 26 81 _:=go (ac (h44 fs w.l a) af) ((y8 a b d x _ _).trans ah);@r:FW (ins (rem fs a) b (nm (u / x) (v / x))):=w.rem.ins (by @:=fZ (fs:=fs) (a:=a);on) nofun;@p:0 < x/\x < 10000000000000000000000000000000000000000000000000000000000000:=or
 @f:c.H 13 73 _:=g0 ((e73 u v x).trans (by PK[aj,cj,Lj p];rfl));!rb (up (g0 (yW a b d x)) or) (up (go (ac (k27 g) af) ((y2 a b d x u v _).trans (by rw[bW,Lh h,Lh s];rfl))) or) (up (go (ac (k41 g) af) ((ze a b d x _ _).trans (by rw[bW];rfl))) or) (up (go (ac f af) ((zv a b d x u v).trans ah)) or)
  (up (go (ac e (ac aJ af)) ((zC a b d x _ _).trans (by rw[two j,ah,pR l k or,pR o i or];rfl))) or) (up (go (ac e (ac aJ af)) ((zH a b d x _ _ _ _ _).trans ?_)) or) n
 rw[ah,rA w.rem b _ or,cL,rA r d _ or,cL]
 rfl
¶tx'(x:Int):Dt:=.tup [.str "text",.int x]
~cgK(h:c.H N i (ent A [] (dd k))):cg c N i (λ_ _=>dd k) A=true:=by
 PL cg;rw[bq (h)]
 rfl
~Hs(a)(h:13<=N):cg c N 27 Ffk [.d (rf fs),.d (.str a)]=true:=by PL cg;rw[DW a h];rfl
~Ht(a)(h:13<=N):cg c N 41 Ffk [.d (rf fs),.d (.str a)]=true:=by PL cg;rw[DX a h];rfl
~v5(w:FW fs)(f:lk fs a=tx' x)(g:lk fs b=tx' x)(ab:a≠b)(hs:s∈[("-" : Str),"|"," "])(i:Nm c d)(h:lk (rem (rem fs a) b) d=.non)(j:M19 c (N+52) m (rf (ins (rem (rem fs a) b) d (tx' x)))):R65 c (N+65) (bp a b s d) fs (ins (rem (rem fs a) b) d (tx' x)) m:=by
 @e:c.H 26 81 (ent _ [] (dd _)):=go (ac aJ af) ((za a b s d _).trans (by rw[zK w a or,eE,zK w.rem b or,eE];rfl));~rb (up (g0 (yV a s b d)) or) (up (go (ac aJ (ac (Hr hs) af)) ((zp a b s d x _ PU).trans (by
   rw[cgK (k27 f),cgK (k27 g),two ab,ah];rw[show eqD _ _=PU by simp[eqD,bu]]
   rfl))) or) (up (go (ac aJ af) ((zt a b s d _ _).trans (by rw[cgK (k41 f),cgK (k41 g)];rfl))) or) (up (g0 (zj a b s d _ _)) or)
  (up (go (ac e (ac (h76 i h) af)) ((zB a b s d _ _).trans (by rw[ah,bW];rfl))) or) (up (go (ac e (ac (h43 w.rem.rem d _) af)) ((zG a b s d _ _ _ _ _).trans (by PK[ah]))) or) j
~zL(w:FW fs)(h:lk fs a=nm (u / x) (v / x))(g:lk fs b=nm 0 (x - 1))(ab:a≠b)(j:2<=x)(o:x<=1000)(n:Nm c d)(i:lk (rem (rem fs a) b) d=.non)(l:M19 c (N+52) m (rf (ins (rem (rem fs a) b) d (nm u v)))):R65 c (N+65) (aW a b x d u v) fs (ins (rem (rem fs a) b) d (nm u v)) m:=by
 @e:c.H 26 81 (ent _ [] (dd _)):=go (ac aJ af) ((vO a b d x u v _).trans (by rw[zK w a or,eE,zK w.rem b or,eE];rfl));@k:0 < x/\x < 10000000000000000000000000000000000000000000000000000000000000:=or
 @f:c.H 13 73 _:=g0 ((e73 u v x).trans (by PK[aj,cj,Lj k];rfl));~rb (up (g0 (vL a b d x u v)) or) (up (go (ac aJ (ac f af)) ((vZ a b d x u v _).trans (by
   rw[Hs a or,Hs b or,two ab,cb,cb,h,g,ah,Lh j,Lh o];show bb _=_;rw[show eqD _ _=PU by simp[eqD,bu]]))) or) (up (go (N:=13) (ac aJ af) ((vT a b d x u v _).trans (by rw[Ht a or,Ht b or,cb,cb,h,g];rfl))) or) (up (g0 (vS a b d x u v _ _)) or)
  (up (go (ac e (ac (h76 n i) af)) ((vV a b d x u v _ _).trans (by rw[ah,bW];rfl))) or) (up (go (ac e (ac (h43 w.rem.rem d _) af)) ((vX a b d x u v _ _ _ _ _).trans (by PK[ah]))) or) l
~v6(w:FW fs)(n:FW ms)(g:lk fs a=.tup kl)(i:(Dt.tup kl).dep<=60)(h:lk (rem fs a) b=rf ms)(k:Nm c a)(o:lk ms a=.non)(l:M19 c (N+52) m (rf (ins (rem fs a) b (rf (ins ms a (.tup kl)))))):R65 c (N+65) (bE a b) fs (ins (rem fs a) b (rf (ins ms a (.tup kl)))) m:=by
 @d:c.H 26 81 _:=go (ac (h44 fs w.l a) af) ((y6 a b _ _).trans ah);@f:c.H 26 69 _:=go (ac (k27 h) af) ((DT b _ _).trans ah);@e:c.H 39 76 (ent _ [] (bb PU)):=go (ac f (ac (up (k27 o) or) (ac (a:=(16,_)) (up k or) af))) ((DV a b _ _).trans (by PK[ah]));!rb (up (g0 (yT a b)) or) (up (go (ac (k27 g) af) ((yZ a b kl _).trans (by rw[bW,Lh i];rfl))) or) (up (go (ac (k41 g) af) ((zd a b _ _).trans (by rw[bW];rfl))) or) (up (g0 (zh a b _)) or)
  (up (go (ac (up d or) (ac e af)) ((zx a b _ _).trans (by rw[ah,bW];rfl))) or) (up (go (ac d (ac (up (k41 h) or) (ac aJ af))) ((zI a b _ _ _ _ _).trans ?_)) or) l
 rw[ah,ah,rA n a _ or,cL,rA w.rem b _ or,cL]
 rfl
~v7(w:FW fs)(p:fs°<=19)(n:FW ms)(g:lk fs a=rf ms)(k:lk ms b=.tup kl)(o:(Dt.tup kl).dep<=60)(i:Nm c b)(s:lk (ins fs a (rf (rem ms b))) b=.non)(l:M19 c (N+52) m (rf (ins (ins fs a (rf (rem ms b))) b (.tup kl)))):R65 c (N+65) (bx a b) fs (ins (ins fs a (rf (rem ms b))) b (.tup kl)) m:=by
 @e:c.H 39 81 (ent _ [] (dd (rf (ins fs a (rf (rem ms b)))))):=go (ac (up (k41 g) or) (ac (up (h44 ms n.l b) or) (ac (h43 w a _) af))) ((y9 a b _ _ _ _).trans (by PK[ah]));@r:FW (ins fs a (rf (rem ms b))):=w.ins p nofun;@d:fk (rf ms) b=.tup kl:=by
  show lkD _ b=_;rw[cb];~k
 @f:c.H 26 69 (ent _ [] (dd _)):=go (ac aJ af) ((DS a b _).trans (by rw[DW a or,cb,g,DW b or,d];rfl));@h:c.H 26 79 (ent _ [] (dd _)):=go (ac aJ af) ((DU a b _).trans (by rw[DX a or,cb,g,DX b or,d];rfl));~rb (up (g0 (yU a b)) or) (up (go (ac f af) ((zo a b _ [] kl).trans (by rw[bW,Lh o];rfl))) or) (up (go (ac h af) ((zr a b _ [] _).trans (by rw[bW];rfl))) or) (up (g0 (zi a b _)) or)
  (up (go (ac e (ac (up (h76 i s) or) af)) ((zy a b _ _).trans (by rw[ah,bW];rfl))) or) (up (go (ac e (ac (up (h43 r b _) or) af)) ((zF a b _ _ _ _ _).trans (by PK[ah]))) or) l
~ilk(w:FW fs):lk (ins fs a v) z=if a=z then v else lk fs z:=by
 rw[vB w.n w.s]
 by_cases h:a=z
 ·rw[Lj h];subst h;rw[Lz];rfl
 ·rw[Ln h];@q:(a == z)=false:=by simpa using h
  rw[q];rfl
~rlk:lk (rem fs a) z=if a=z then .non else lk fs z:=by
 rw[nY]
 by_cases h:a=z
 ·rw[Lj h];subst h;rw[Lz];rfl
 ·rw[Ln h];@q:(a == z)=false:=by simpa using h
  rw[q];rfl
~eV(w:FW fs)(u:FW gs)(h:∀ z,lk fs z=lk gs z):fs=gs:=vw w.s u.s w.n u.n h
~E1(w:FW fs)(b:fs°<=19)(c:k≠.non)(h:lk fs a=.non):rem (ins fs a k) a=fs:=eV (w.ins b c).rem w λz=>by
 rw[rlk,ilk w]
 by_cases q:a=z
 ·subst q;rw[Lj rfl,h]
 ·rw[Ln q,Ln q]
~rl(h:fs°<=n):(rem fs a)°<=n:=aAq fZ h
~il(h:fs°<=n):(ins fs a v)°<=n+1:=aAq pE (aB4 h)
~E2(w:FW fs)(b:fs°<=19)(c:k≠.non)(h:lk fs a=k):ins (rem fs a) a k=fs:=eV (w.rem.ins (rl b) c) w λz=>by
 rw[ilk w.rem,rlk]
 by_cases q:a=z
 ·subst q;rw[Lj rfl,h]
 ·rw[Ln q,Ln q]
~E5(w:FW fs)(n:fs°<=10)(p:k≠.non)(f:k1≠.non)(c:k2≠.non)(h:lk fs a=k)(m:lk (rem fs a) b=.non)(l:lk (rem fs a) d=.non)(o:b≠d):rem (rem (ins (ins (rem fs a) b k1) d k2) b) d=rem fs a:=by
 @g:=w.rem (a:=a);@i:=g.ins (a:=b) (rl or) f;@j:=i.ins (a:=d) (aAq (il (rl n)) or) c;!eV j.rem.rem g λz=>?_;rw[rlk,rlk,ilk i,ilk g]
 by_cases q:d=z
 ·subst q;rw[Lj rfl,l]
 ·by_cases e:b=z
  ·subst e;rw[Ln q,Lj rfl,m]
  ·rw[Ln q,Ln e,Ln q,Ln e]
~E6(w:FW fs)(l:fs°<=10)(m:k≠.non)(e:k1≠.non)(c:k0≠.non)(j:lk fs a=k)(n:lk fs b=k1)(i:lk (rem (rem fs a) b) d=.non)(ab:a≠b):ins (ins (rem (ins (rem (rem fs a) b) d k0) d) a k) b k1=fs:=by
 @f:=(w.rem (a:=a)).rem (a:=b);rw[E1 f (rl (rl or)) c i];@h:=f.ins (a:=a) (rl (rl or)) m;!eV (h.ins (aAq (il (rl (rl l))) or) e) w λz=>?_;rw[ilk h,ilk f,rlk,rlk]
 by_cases q:b=z
 ·subst q;rw[Lj rfl,n]
 ·by_cases g:a=z
  ·subst g;rw[Ln q,Lj rfl,j]
  ·rw[Ln q,Ln g,Ln q,Ln g]
~E8(w:FW fs)(g:fs°<=10)(l:k≠.non)(e:k1≠.non)(c:k2≠.non)(m:lk fs a=k)(j:lk (rem fs a) b=k1):ins (ins (ins (rem fs a) b k2) b k1) a k=fs:=by
 @h:=w.rem (a:=a);@i:=h.ins (a:=b) (rl or) c;@f:=i.ins (a:=b) (aAq (il (rl g)) or) e;!eV (f.ins (aAq (il (il (rl g))) or) l) w λz=>?_;rw[ilk f,ilk i,ilk h,rlk]
 by_cases q:a=z
 ·subst q;rw[Lj rfl,m]
 ·by_cases d:b=z
  ·subst d;rw[rlk,Ln q]at j;rw[Ln q,Lj rfl,j]
  ·rw[Ln q,Ln d,Ln d,Ln q]
~E9(w:FW fs)(f:fs°<=10)(g:k≠.non)(e:k1≠.non)(c:k2≠.non)(i:lk fs a=k)(ab:a≠b)(h:lk fs b=.non):ins (rem (ins (ins fs a k1) b k2) b) a k=fs:=by
 @d:=w.ins (a:=a) or e;rw[E1 d (aAq (il f) or) c (by rw[ilk w,Ln ab,h])];!eV (d.ins (aAq (il f) or) g) w λz=>?_;rw[ilk d,ilk w]
 by_cases q:a=z
 ·subst q;rw[Lj rfl,i]
 ·rw[Ln q,Ln q]
§wd(p:Dt):Str:=sv (ag 0 p)
§fl(K:Dt):Fs:=prs? (srcL (ag 1 K))
§lkK(K a:Dt):Dt:=lk (fl K) (sv a)
§tD:Nat->Dt->Dt->Dt
 |0,_,_=>.non
 |n+1,t,k =>
  bif wd t == "bounds" then .tup [.str "bounds",ag 1 k,ag 2 k]else
  bif wd t == "scale" then .tup [.str "shrink",ag 1 t]else
  bif wd t == "shrink" then .tup [.str "scale",ag 1 t]else
  bif wd t == "figures" then .tup [.str "number",ag 1 k,ag 2 k]else
  bif wd t == "number" then .tup [.str "figures",ag 1 k]else
  bif wd t == "words" then .tup [.str "words",.tup ((srcL (ag 2 t)).map (ag 1)),.tup (zD (srcL (ag 1 k)) (srcL (ag 1 t)))]else
  bif wd t == "cut" then .tup [.str "cut",ag 1 k]else
  bif wd t == "first" then .tup [.str "first",bif wd k == "list" then ag 2 k else ag 3 k]else
  bif wd t == "one" then .tup [.str "out"]else
  bif wd t == "out" then .tup [.str "one",ag 2 k]else .tup [.str "items",tD n (ag 1 t) (ag 1 k)]
§kD:Nat->Dt->Dt->Dt
 |0,_,_=>.non
 |n+1,t,k =>
  bif wd t == "bounds" || wd t == "number" then .tup [.str "number",ag 1 t,ag 2 t]else
  bif wd t == "scale" then .tup [.str "number",.int (iv (ag 1 k)*iv (ag 1 t)),.int (iv (ag 2 k)*iv (ag 1 t))]else
  bif wd t == "shrink" then .tup [.str "number",.int (iv (ag 1 k) / iv (ag 1 t)),.int (iv (ag 2 k) / iv (ag 1 t))]else
  bif wd t == "figures" || wd t == "cut" then .tup [.str "text",ag 1 t]else
  bif wd t == "words" then .tup [.str "choice",.tup ((srcL (ag 2 t)).map (ag 0))]else
  bif wd t == "first" then(bif wd k == "list" then .tup [.str "list",ag 1 k,ag 1 t]else .tup [.str "rows",ag 1 k,ag 2 k,ag 1 t])else
  bif wd t == "one" then .tup [.str "list",k,ag 1 t]else
  bif wd t == "out" then ag 1 k else .tup [.str "list",kD n (ag 1 t) (ag 1 k),ag 2 k]
§abD(p K:Dt):Dt:=
 bif wd p == "put" then .tup [.str "drop",ag 1 p,ag 3 p]else
 bif wd p == "drop" then .tup [.str "put",ag 1 p,lkK K (ag 1 p),ag 2 p]else
 bif wd p == "name" then .tup [.str "name",ag 2 p,ag 1 p]else
 bif wd p == "sink" then .tup [.str "lift",ag 2 p,ag 1 p]else
 bif wd p == "lift" then .tup [.str "sink",ag 2 p,ag 1 p]else
 bif wd p == "turn" then .tup [.str "turn",ag 1 p,tD 99 (ag 2 p) (lkK K (ag 1 p))]else
 bif wd p == "split" then .tup [.str "join",ag 3 p,ag 4 p,ag 2 p,ag 1 p]else
 bif wd p == "join" then .tup [.str "split",ag 4 p,ag 3 p,ag 1 p,ag 2 p]else
 bif wd p == "part" then .tup [.str "whole",ag 3 p,ag 4 p,ag 2 p,ag 1 p,ag 1 (lkK K (ag 1 p)),ag 2 (lkK K (ag 1 p))]else
 .tup [.str "part",ag 4 p,ag 3 p,ag 1 p,ag 2 p]
§reF(w:Str)(a b d e:Str)(p k:Dt)(fs:Fs):Fs:=
 bif w == "put" then ins fs a (ag 2 p)else
 bif w == "drop" then rem fs a else
 bif w == "name" then ins (rem fs a) b (lk fs a)else
 bif w == "sink" then ins (rem fs a) b (rf (ins (fl (lk (rem fs a) b)) a (lk fs a)))else
 bif w == "lift" then ins (ins fs a (rf (rem (fl (lk fs a)) b))) b (lk (fl (lk fs a)) b)else
 bif w == "turn" then ins (rem fs a) a (kD 99 (ag 2 p) (lk fs a))else
 bif w == "split" then ins (ins (rem fs a) d (lk fs a)) e (lk fs a)else
 bif w == "join" then ins (rem (rem fs a) b) e (lk fs a)else
 ins (rem (rem fs a) b) e (.tup [.str "number",ag 5 p,ag 6 p])
§reD(p K:Dt):Dt:=rf (reF (wd p) (sv (ag 1 p)) (sv (ag 2 p)) (sv (ag 3 p)) (sv (ag 4 p)) p .non (fl K))
~cR(fs):fl (rf fs)=fs:=hZ fs
~n8(fs)(a):lkK (rf fs) (.str a)=lk fs a:=by PL lkK;rw[cR];rfl
~v8(a)(k v K):abD (cc a k v) K=ba a v:=IO
~pU(a)(v)(fs):abD (ba a v) (rf fs)=cc a (lk fs a) v:=(show abD _ _=cc a (lkK _ _) v by kernel_rfl).trans (by rw[n8])
~pV(a b)(K):abD (bc a b) K=bc b a:=IO
~pW(a b)(K):abD (bE a b) K=bx b a:=IO
~pX(a b)(K):abD (bx a b) K=bE b a:=IO
~pY(a)(t)(fs):abD (bz a t) (rf fs)=.tup [.str "turn",.str a,tD 99 (.tup t) (lk fs a)]:=(show abD _ _=.tup [.str _,.str a,tD 99 _ (lkK _ _)]by kernel_rfl).trans (by rw[n8])
~mj(a s b d)(K):abD (aS a s b d) K=bp b d s a:=IO
~pZ(a b s d)(K):abD (bp a b s d) K=aS d s a b:=IO
~zM(a b d)(x u v)(fs)(h:lk fs a=nm u v):abD (bF a x b d) (rf fs)=aW b d x a u v:=(show abD _ _=.tup [.str _,.str b,.str d,.int x,.str a,ag 1 (lkK _ _),ag 2 (lkK _ _)]by kernel_rfl).trans (by rw[n8,h];rfl)
~v9(a b d)(x u v)(K):abD (aW a b x d u v) K=bF d x a b:=IO
~DY(a)(k v)(fs):reD (cc a k v) (rf fs)=rf (ins fs a k):=(show _=rf (ins (fl _) a k)by kernel_rfl).trans (by rw[cR])
~zN(a)(v)(fs):reD (ba a v) (rf fs)=rf (rem fs a):=(show _=rf (rem (fl _) a)by kernel_rfl).trans (by rw[cR])
~zO(a b)(fs):reD (bc a b) (rf fs)=rf (ins (rem fs a) b (lk fs a)):=(show _=rf (ins (rem (fl _) a) b (lk (fl _) a))by kernel_rfl).trans (by rw[cR])
~zP(a b)(fs):reD (bE a b) (rf fs)=rf (ins (rem fs a) b (rf (ins (fl (lk (rem fs a) b)) a (lk fs a)))):=(show _=rf (ins (rem (fl _) a) b (rf (ins (fl (lk (rem (fl _) a) b)) a (lk (fl _) a))))by kernel_rfl).trans (by rw[cR])
~zQ(a b)(fs):reD (bx a b) (rf fs)=rf (ins (ins fs a (rf (rem (fl (lk fs a)) b))) b (lk (fl (lk fs a)) b)):=(show _=rf (ins (ins (fl _) a (rf (rem (fl (lk (fl _) a)) b))) b (lk (fl (lk (fl _) a)) b))by kernel_rfl).trans (by rw[cR])
~zR(a:Str)(t:PQ Dt)(fs:Fs):reD (bz a t) (rf fs)=rf (ins (rem fs a) a (kD 99 (.tup t) (lk fs a))):=(show _=rf (ins (rem (fl (rf fs)) a) a (kD 99 (.tup t) (lk (fl (rf fs)) a)))by kernel_rfl).trans (by rw[cR])
~wc(a s b d)(fs):reD (aS a s b d) (rf fs)=rf (ins (ins (rem fs a) b (lk fs a)) d (lk fs a)):=(show _=rf (ins (ins (rem (fl _) a) b (lk (fl _) a)) d (lk (fl _) a))by kernel_rfl).trans (by rw[cR])
~zS(a b s d)(fs):reD (bp a b s d) (rf fs)=rf (ins (rem (rem fs a) b) d (lk fs a)):=(show _=rf (ins (rem (rem (fl _) a) b) d (lk (fl _) a))by kernel_rfl).trans (by rw[cR])
~wf(a b d)(x u v)(fs):reD (aW a b x d u v) (rf fs)=rf (ins (rem (rem fs a) b) d (nm u v)):=(show _=rf (ins (rem (rem (fl _) a) b) d _)by kernel_rfl).trans (by rw[cR])
§wds:PQ (Str×Str):=[("put","drop"),("drop","put"),("sink","lift"),("lift","sink"),("split","join"),("join","split"),("part","whole"),("name","name"),("turn","turn")]
inductive GP(c:Ct)(N:Nat)(p K:Dt):Prop
 |x (h:c.H N 65 (ent [.d p,.d K] [] (.ex "BadPiece" [])))
 |y (h:c.H N 65 (ent [.d p,.d K] [] (.ex "BadTurn" [])))
 |ok (w w':Str) (l l' k':PQ Dt) (hp:p=.tup (.str w :: l)) (hw:(w,w')∈wds) (h65:c.H N 65 (ent [.d p,.d K] [] (dd (.tup k')))) (h77:c.H N 77 (ent [.d p,.d K] [] (dd (.tup (.str w' :: l'))))) (h65':c.H N 65 (ent [.d (.tup (.str w' :: l')),.d (.tup k')] [] (dd K))) (h77':c.H N 77 (ent [.d (.tup (.str w' :: l')),.d (.tup k')] [] (dd p))) (ea:abD p K=.tup (.str w' :: l')) (eb:abD (.tup (.str w' :: l')) (.tup k')=p) (ec:reD (.tup (.str w' :: l')) (.tup k')=K)
~GP.of(g:p=.tup (.str w :: l))(i:(w,w')∈wds)(n:abD p (rf fs)=.tup (.str w' :: l'))(m:abD (.tup (.str w' :: l')) (rf a)=p)(k:reD (.tup (.str w' :: l')) (rf a)=rf fs)(e:R65 c N p fs a b)(h:b=PU->R65 c N p fs a PU->c.H (N+13) 77 (ent [.d p,.d (rf fs)] [] (dd (.tup (.str w' :: l'))))/\R65 c (N+65) (.tup (.str w' :: l')) a fs PU/\(R65 c (N+65) (.tup (.str w' :: l')) a fs PU->c.H (N+78) 77 (ent [.d (.tup (.str w' :: l')),.d (rf a)] [] (dd p)))):GP c (N+78) p (rf fs):=by
 #b with
 |false=>~.x (up e or)
 |true =>
  &o,f,j:=h rfl e;~.ok w w' l l' _ g i (up e or) (up o or) (up f or) (j f) n m k
structure KF(c:Ct)(N:Nat)(fs:Fs):Prop where
 w:FW fs
 l:fs°<=8
 ok:c.H N 19 (ent [.d (rf fs)] [] (dd (rf fs)))
 nm:∀ p∈fs,Nm c p.1
 kd:∀ p∈fs,∃ kl,p.2=.tup kl/\(Dt.tup kl).dep<=50/\c.H N 19 (ent [.d p.2] [] (dd p.2))/\Ty c N p.2
~zT(w:FW fs)(b:v≠.non)(h:p∈ins fs a v):(p.1=a/\p.2=v)\/p∈fs:=by
 @e:=bO (fY w.s) h;rw[ilk w]at e
 by_cases q:a=p.1
 ·rw[Lj q]at e;~.inl ⟨q.symm,e.symm⟩
 ·rw[Ln q]at e;@n:=pD w.n w.s b p h;rw[<- e]at n;@:=cK n;rw[e]at this;~.inr this
~zU(h:p∈rem fs a):p∈fs:=(aBn.mp h).1
§TF(c:Ct)(N:Nat)(fs:Fs):Prop:=∀ p∈fs,Nm c p.1/\Ty c N p.2
~KF.tf(h:KF c N fs):TF c N fs:=λp a=>⟨h.nm p a,by &_,_,_,_,t:=h.kd p a;~t⟩
~TF.rem(h:TF c N fs):TF c N (rem fs a):=λp b=>h p (zU b)
~TF.ins{a}{v}(h:TF c N fs)(w:FW fs)(f:v≠.non)(n:Nm c a)(t:Ty c N v):TF c N (ins fs a v):=λp b=>by
 rcases zT w f b with⟨e,d⟩ | q
 ·rw[e,d];PM n,t
 ·~h p q
~TF.mk(h:TF c N fs)(d:fs°<=20)(b:13<=N):∃ m,M19 c (N+52) m (rf fs):=Be (ty_rec d (λp a=>(h p a).1) b λp a=>(h p a).2)
~R65.t(h:R65 c N p fs a PU):c.H N 65 (ent [.d p,.d (rf fs)] [] (dd (rf a))):=h
~Hu(K:KF c N fs)(j:13<=N)(l:c.H N 19 (ent [.d (.tup kl)] [] (dd (.tup kl))))(t:Ty c N (.tup kl))(x:(Dt.tup kl).dep<=50)(f:c.H N 34 (ent [.d v,.d (.tup kl)] [] (bb d)))(o:Nm c a)(g:lk fs a=.non):GP c (N+143) (cc a (.tup kl) v) (rf fs):=by
 @p:=K.w.ins (a:=a) (v:=.tup kl) (by @:=K.l;on) nofun;&m,u:=(K.tf.ins K.w nofun o t:TF c N (ins fs a (.tup kl))).mk p.l j;!GP.of rfl (by simp[wds]) (v8 _ _ _ _) ((pU _ _ _).trans (by rw[ilk K.w,Lj rfl])) ((zN _ _ _).trans (by rw[E1 (k:=.tup kl) K.w (by @:=K.l;on) nofun g])) (rbPut (b:=PU) K.w ⟨_,rfl⟩ l f o g u) λe n=>?_;@i:d=true:=by simp_all
 subst i;!⟨go (ac n.t af) ((v2 a _ v _ _).trans ah),?_,λh=>?_⟩
 ·@r:=rbDrop (N:=N+65) (m:=PU) p (by rw[ilk K.w,Lj rfl]) or (up f or) or (by
   rw[E1 (k:=.tup kl) K.w (by @:=K.l;on) nofun g];~up K.ok or)
  rw[E1 (k:=.tup kl) K.w (by @:=K.l;on) nofun g]at r;~r
 ·~go (ac h.t (ac (up (k27 (by rw[ilk K.w,Lj rfl])) or) af)) ((pK a _ v _ _).trans (by PK[ah]))
~KF.at(K:KF c N fs)(h:lk fs a=k)(b:k≠.non):Nm c a/\∃ kl,k=.tup kl/\(Dt.tup kl).dep<=50/\c.H N 19 (ent [.d k] [] (dd k))/\Ty c N k:=by
 @m:=cK (by rw[h];~b);rw[h]at m;PM K.nm _ m,K.kd _ m
~DZ(K:KF c N fs)(g:13<=N)(f:lk fs a=.tup kl)(i:c.H N 34 (ent [.d v,.d (.tup kl)] [] (bb d))):GP c (N+143) (ba a v) (rf fs):=by
 &s,o,e,w,n,t:=K.at f nofun
 #e
 &m,p:=(K.tf.rem).mk K.w.rem.l g;@x:=K.l;!GP.of rfl (by simp[wds]) ((pU _ _ _).trans (by rw[f])) (v8 _ _ _ _) ((DY _ _ _ _).trans (by rw[E2 (k:=.tup kl) K.w or nofun f])) (rbDrop K.w f or i g p) λe j=>?_;@l:d=true:=by simp_all
 subst l;!⟨go (ac j.t (ac (up (k27 f) or) af)) ((pK a _ v _ _).trans (by PK[ah])),?_,λh=>?_⟩
 ·@r:=rbPut (N:=N+65) (m:=PU) (b:=PU) (K.w.rem) ⟨_,rfl⟩ (up n or) (up i or) s (by rw[rlk,Lj rfl]) (by
   rw[E2 (k:=.tup kl) K.w or nofun f];~up K.ok or)
  rw[E2 (k:=.tup kl) K.w or nofun f]at r;~r
 ·~go (ac h.t af) ((v2 a _ v _ _).trans ah)
~D1(K:KF c N fs)(g:13<=N)(d:lk fs a=.tup kl)(j:Nm c b)(n:lk (rem fs a) b=.non):GP c (N+143) (bc a b) (rf fs):=by
 &u,p,e,w,o,s:=K.at d nofun
 #e
 @x:=K.l;@l:=K.w.rem.ins (a:=b) (v:=.tup kl) (rl (a:=a) or) nofun;&m,t:=((K.tf.rem).ins (v:=.tup kl) K.w.rem nofun j s).mk l.l g;@f:rem (ins _ b (.tup kl)) b=rem fs a:=E1 K.w.rem (rl or) nofun n;!GP.of rfl (by simp[wds]) (pV _ _ _) (pV _ _ _) ((zO _ _ _).trans (by rw[f,ilk K.w.rem,Lj rfl,E2 (k:=.tup kl) K.w or nofun d])) (rbName K.w d or j n t) λe i=>?_;!⟨go (ac i.t af) ((pL a b _ _).trans ah),?_,λh=>go (ac h.t af) ((pL b a _ _).trans ah)⟩;@r:=rbName (N:=N+65) (m:=PU) l (by rw[ilk K.w.rem,Lj rfl]) or u (by rw[f,rlk,Lj rfl]) (by
  rw[f,E2 (k:=.tup kl) K.w or nofun d];~up K.ok or)
 rw[f,E2 (k:=.tup kl) K.w or nofun d]at r;~r
~zV(K:KF c N fs)(n:13<=N)(f:lk fs a=tx' x)(hs:s∈[("-" : Str),"|"," "])(t:Nm c b)(w:Nm c d)(g:b≠d)(p:lk (rem fs a) b=.non)(y:lk (rem fs a) d=.non):GP c (N+143) (aS a s b d) (rf fs):=by
 &F,D,e,A,C,u:=K.at f nofun;@B:=K.l;@i:=K.w.rem.ins (a:=b) (v:=tx' x) (rl (a:=a) or) nofun;@o:=i.ins (a:=d) (v:=tx' x) (aAq (il (rl B)) or) nofun;&m,z:=((K.tf.rem).ins (v:=tx' x) K.w.rem nofun t u |>.ins (v:=tx' x) i nofun w u).mk o.l n;@j:=E5 (k:=tx' x) (k1:=tx' x) (k2:=tx' x) K.w or nofun nofun nofun f p y g;!GP.of rfl (by simp[wds]) (mj _ _ _ _ _) (pZ _ _ _ _ _) ((zS _ _ _ _ _).trans (by rw[j,ilk i,Ln (Ne.symm g),ilk K.w.rem,Lj rfl,E2 (k:=tx' x) K.w or nofun f])) (rbSplit K.w or f hs t w g p y z) λe l=>?_;!⟨go (ac l.t af) ((mi a s b d _ _).trans ah),?_,λh=>go (ac h.t af) ((pO b d s a _ _).trans ah)⟩;@r:=v5 (N:=N+65) (m:=PU) o (by rw[ilk i,Ln (Ne.symm g),ilk K.w.rem,Lj rfl]) (by rw[ilk i,Lj rfl]) g hs F (by rw[j,rlk,Lj rfl]) (by
  rw[j,E2 (k:=tx' x) K.w or nofun f];~up K.ok or)
 rw[j,E2 (k:=tx' x) K.w or nofun f]at r;~r
~n9(K:KF c N fs)(n:13<=N)(j:lk fs a=tx' x)(g:lk fs b=tx' x)(ab:a≠b)(hs:s∈[("-" : Str),"|"," "])(u:Nm c d)(i:lk (rem (rem fs a) b) d=.non):GP c (N+143) (bp a b s d) (rf fs):=by
 &y,_,_,_,_,A:=K.at j nofun;&B,_:=K.at g nofun;@w:=K.l;@f:=(K.w.rem (a:=a)).rem (a:=b);@p:=f.ins (a:=d) (v:=tx' x) (rl (rl or)) nofun;&m,z:=((K.tf.rem).rem |>.ins (v:=tx' x) f nofun u A).mk p.l n;@t:rem (ins _ d (tx' x)) d=rem _ b:=E1 f (rl (rl or)) nofun i;@l:=E6 (k:=tx' x) (k1:=tx' x) (k0:=tx' x) K.w or nofun nofun nofun j g i ab;!GP.of rfl (by simp[wds]) (pZ _ _ _ _ _) (mj _ _ _ _ _) ((wc _ _ _ _ _).trans (by rw[ilk f,Lj rfl,l])) (v5 K.w j g ab hs u i z) λe o=>?_;!⟨go (ac o.t af) ((pO a b s d _ _).trans ah),?_,λh=>go (ac h.t af) ((mi d s a b _ _).trans ah)⟩;@r:=rbSplit (N:=N+65) (m:=PU) p (aAq (il (rl (rl w))) or) (by rw[ilk f,Lj rfl]) hs y B ab (by rw[t,rlk,rlk,Lj rfl];split <;> rfl) (by rw[t,rlk,Lj rfl]) (by
  rw[l];~up K.ok or)
 rw[l]at r;~r
~D2(K:KF c N fs)(g:13<=N)(f:lk fs a=nm u v)(z:2<=x)(y:x<=1000)(w:Nm c b)(t:Nm c d)(j:b≠d)(p:lk (rem fs a) b=.non)(s:lk (rem fs a) d=.non):GP c (N+143) (bF a x b d) (rf fs):=by
 &G,D,e,C,B,I:=K.at f nofun;@A:=K.l;@l:=K.w.rem.ins (a:=b) (v:=nm (u / x) (v / x)) (rl (a:=a) or) nofun;@o:=l.ins (a:=d) (v:=nm 0 (x - 1)) (aAq (il (rl A)) or) nofun;&m,F:=((K.tf.rem).ins (v:=nm _ _) K.w.rem nofun w ((ty_num _ _).up g) |>.ins (v:=nm 0 _) l nofun t ((ty_num _ _).up g)).mk o.l g;@i:=E5 (k:=nm u v) (k1:=nm (u / x) (v / x)) (k2:=nm 0 (x - 1)) K.w or nofun nofun nofun f p s j;!GP.of rfl (by simp[wds]) (zM _ _ _ _ _ _ _ f) (v9 _ _ _ _ _ _ _) ((wf _ _ _ _ _ _ _).trans (by rw[i,E2 (k:=nm u v) K.w or nofun f])) (rbPart K.w or f z y w t j p s F) λe n=>?_;!⟨go (ac n.t (ac (up (k27 f) or) af)) ((zJ a b d x u v _ _).trans (by PK[ah])),?_,λh=>go (ac h.t af) ((v3 b d a x u v _ _).trans ah)⟩;@r:=zL (N:=N+65) (m:=PU) o (by rw[ilk l,Ln (Ne.symm j),ilk K.w.rem,Lj rfl]) (by rw[ilk l,Lj rfl]) j z y G (by rw[i,rlk,Lj rfl]) (by
  rw[i,E2 (k:=nm u v) K.w or nofun f];~up K.ok or)
 rw[i,E2 (k:=nm u v) K.w or nofun f]at r;~r
~TF.up(h:TF c N fs)(l:N<=M):TF c M fs:=λp a=>⟨(h p a).1,(h p a).2.up l⟩
structure BX(c:Ct)(N:Nat)(ms:Fs):Prop where
 w:FW ms
 l:ms°<=8
 tf:TF c N ms
 kd:∀ p∈ms,∃ kl,p.2=.tup kl/\(Dt.tup kl).dep<=50
~BX.ty(h:TF c N ms)(d:ms°<=20)(b:13<=N):Ty c (N+39) (rf ms):=ty_rec d (λp a=>(h p a).1) b λp a=>(h p a).2
~D3(K:KF c N fs)(B:BX c N ms)(i:13<=N)(p:lk fs a=.tup kl)(d:lk (rem fs a) b=rf ms)(u:lk ms a=.non):GP c (N+182) (bE a b) (rf fs):=by
 &l,C,e,F,A,x:=K.at p nofun
 #e
 @z:=K.l;@G:=B.l;@s:a≠b:=λe=>by subst e;rw[rlk,Lj rfl]at d;#d
 @n:lk fs b=rf ms:=by rw[rlk,Ln s]at d;~d
 &w,_:=K.at n nofun;@t:=B.w.ins (a:=a) (v:=.tup kl) or nofun;@y:=BX.ty (B.tf.ins (v:=.tup kl) B.w nofun l x) t.l i;@o:=K.w.rem.ins (a:=b) (v:=rf (ins ms a (.tup kl))) (rl (a:=a) or) nofun;&m,D:=(((K.tf.up or).rem).ins (v:=rf _) K.w.rem nofun w y).mk o.l or;@f:=E1 (k:=.tup kl) B.w or nofun u;@j:=E8 (k:=.tup kl) (k1:=rf ms) (k2:=rf (ins ms a (.tup kl))) K.w or nofun nofun nofun p d;!GP.of rfl (by simp[wds]) (pW _ _ _) (pX _ _ _) ((zQ _ _ _).trans (by rw[show lk _ b=rf _ by rw[ilk K.w.rem,Lj rfl],cR,f,ilk B.w,Lj rfl,j])) (v6 K.w B.w p or d l u D) λe g=>?_;!⟨go (ac g.t af) ((pM a b _ _).trans ah),?_,λh=>go (ac h.t af) ((pN b a _ _).trans ah)⟩;@r:=v7 (N:=N+39+65) (m:=PU) o (aAq (il (rl z)) or) t (by rw[ilk K.w.rem,Lj rfl]) (by rw[ilk B.w,Lj rfl]) or l (by rw[f,ilk o,Ln (Ne.symm s),ilk K.w.rem,Ln (Ne.symm s),rlk,Lj rfl]) (by
  rw[f,j];~up K.ok or)
 rw[f,j]at r;~r
~D4(K:KF c N fs)(B:BX c N ms)(p:13<=N)(s:lk fs a=rf ms)(f:lk ms b=.tup kl)(ab:a≠b)(y:lk fs b=.non):GP c (N+182) (bx a b) (rf fs):=by
 &C,_:=K.at s nofun;@u:=K.l;@H:=B.l;@j:=cK (by rw[f];nofun);rw[f]at j;&o,z:=B.tf _ j;&_,e,G:=B.kd _ j
 #e
 @t:=B.w.rem (a:=b);@A:=BX.ty B.tf.rem t.l p;@d:=K.w.ins (a:=a) (v:=rf (rem ms b)) or nofun;@x:=d.ins (a:=b) (v:=.tup kl) (aAq (il u) or) nofun;&m,D:=(((K.tf.up or).ins (v:=rf _) K.w nofun C A).ins (v:=.tup kl) d nofun o (z.up or)).mk x.l or;@w:lk (ins fs a (rf (rem ms b))) b=.non:=by rw[ilk K.w,Ln ab,y]
 @n:=E1 (k:=.tup kl) d (aAq (il u) or) nofun w;@l:=E2 (k:=.tup kl) B.w or nofun f;@i:=E9 (k:=rf ms) (k1:=rf (rem ms b)) (k2:=.tup kl) K.w or nofun nofun nofun s ab y;!GP.of rfl (by simp[wds]) (pX _ _ _) (pW _ _ _) ((zP _ _ _).trans (by rw[n,show lk _ a=rf _ by rw[ilk K.w,Lj rfl],cR,show lk _ b=.tup kl by rw[ilk d,Lj rfl],l,<- n,i])) (v7 K.w or B.w s f or o w D) λe g=>?_;!⟨go (ac g.t af) ((pN a b _ _).trans ah),?_,λh=>go (ac h.t af) ((pM b a _ _).trans ah)⟩;@r:=v6 (N:=N+39+65) (m:=PU) x t (by rw[ilk d,Lj rfl]) or (by rw[n,ilk K.w,Lj rfl]) o (by rw[rlk,Lj rfl]) (by
  rw[l,i];~up K.ok or)
 rw[l,i]at r;~r
~e52(t k a)(b m):E [(53,ent [.d t,.d k] [] (bb b)),(58,ent [.d t,.d k] [] (dd a)),(19,ent [.d a] [] (.br m (dd a) (.ex "BadKind" [])))] 52 [.d t,.d k] []=q [.d t,.d k] [] (bif b then q [.d t,.d k] [] (q [.d a] [] (bif m then dd a else .ex "BadTurn" []))else .ex "BadTurn" []):=IO
~e59(t k a t'):E [(52,ent [.d t,.d k] [] (dd a)),(60,ent [.d t,.d k] [] (dd t'))] 59 [.d t,.d k] []=q [.d t,.d k] [] (q [.d t,.d k] [] (dd t')):=IO
¶bM(a b:Int):Dt:=.tup [.str "bounds",.int a,.int b]
¶db(f:Int):Dt:=.tup [.str "scale",.int f]
¶bS(f:Int):Dt:=.tup [.str "shrink",.int f]
¶bX(f:Int):Dt:=.tup [.str "figures",.int f]
¶cM(a b:Int):Dt:=.tup [.str "number",.int a,.int b]
¶og(f:Int):Dt:=.tup [.str "cut",.int f]
¶bA(f:Int):Dt:=.tup [.str "first",.int f]
¶eF(f:Int):Dt:=.tup [.str "one",.int f]
¶rB:Dt:=.tup [.str "out"]
¶bh(t:Dt):Dt:=.tup [.str "items",t]
¶ls(k:Dt)(m:Int):Dt:=.tup [.str "list",k,.int m]
¶rw'(key k:Dt)(m:Int):Dt:=.tup [.str "rows",key,k,.int m]
~jh(a b x y):E [] 53 [.d (bM x y),.d (nm a b)] []=bb true:=IO
~ji(a b x y):E [] 58 [.d (bM x y),.d (nm a b)] []=dd (nm x y):=IO
~jj(a b x y):E [] 60 [.d (bM x y),.d (nm a b)] []=dd (bM a b):=IO
~wg(a b f):E [] 53 [.d (db f),.d (nm a b)] []=bif decide (2<=f)then bb (decide (f<=1000))else bb false:=IO
~wh(a b f):E [] 60 [.d (db f),.d (nm a b)] []=dd (bS f):=IO
~rC(a b f):E [] 60 [.d (bS f),.d (nm a b)] []=dd (db f):=IO
~oh(a b f):E [] 60 [.d (bX f),.d (nm a b)] []=dd (cM a b):=IO
~rD(a b f):E [] 60 [.d (cM a b),.d (tx' f)] []=dd (bX f):=IO
~oi(a b f):E [] 58 [.d (bX f),.d (nm a b)] []=dd (tx' f):=IO
~rE(a b f):E [] 58 [.d (cM a b),.d (tx' f)] []=dd (nm a b):=IO
~h9(a b f i):E [(55,ent [.d (.int a),.d (.int b)] [] (dd (.int i)))] 53 [.d (bX f),.d (nm a b)] []=q [.d (.int a),.d (.int b)] [] (bb (decide (i<=f))):=IO
~jk(a b f i)(d):E [(22,ent [.d (.int a),.d (.int b)] [] (bb d)),(55,ent [.d (.int a),.d (.int b)] [] (dd (.int i)))] 53 [.d (cM a b),.d (tx' f)] []=q [.d (.int a),.d (.int b)] [] (bif d then q [.d (.int a),.d (.int b)] [] (bb (decide (i<=f)))else bb PV):=IO
~e22(a b):E [] 22 [.d (.int a),.d (.int b)] []=bif decide (-10 ^ 30<=a)then bif decide (a<=b)then bb (decide (b<=10 ^ 30))else bb PV else bb false:=IO
~wj(x f):E [] 53 [.d (og f),.d (tx' x)] []=bb true:=IO
~wk(x f):E [] 58 [.d (og f),.d (tx' x)] []=dd (tx' f):=IO
~wl(x f):E [] 60 [.d (og f),.d (tx' x)] []=dd (og x):=IO
~jl(k)(x f):E [] 53 [.d (bA f),.d (ls k x)] []=bb true:=IO
~jm(k)(x f):E [] 58 [.d (bA f),.d (ls k x)] []=dd (ls k f):=IO
~jn(k)(x f):E [] 60 [.d (bA f),.d (ls k x)] []=dd (bA x):=IO
~jo(a k)(x f):E [] 53 [.d (bA f),.d (rw' a k x)] []=bb true:=IO
~jp(a k)(x f):E [] 58 [.d (bA f),.d (rw' a k x)] []=dd (rw' a k f):=IO
~jq(a k)(x f):E [] 60 [.d (bA f),.d (rw' a k x)] []=dd (bA x):=IO
~D5(k)(f):E [] 58 [.d (eF f),.d (.tup k)] []=dd (ls (.tup k) f):=IO
~D6(k)(f):E [] 60 [.d (eF f),.d (.tup k)] []=dd rB:=IO
~D7(k)(f):E [] 53 [.d rB,.d (ls k f)] []=bb (decide (1<=f)):=IO
~D8(k)(f):E [] 58 [.d rB,.d (ls k f)] []=dd k:=IO
~D9(k)(f):E [] 60 [.d rB,.d (ls k f)] []=dd (eF f):=IO
~ia(t k)(x)(d):E [(53,ent [.d t,.d k] [] (bb d))] 53 [.d (bh t),.d (ls k x)] []=q [.d t,.d k] [] (bb d):=IO
~ml(t k a)(x):E [(58,ent [.d t,.d k] [] (dd a))] 58 [.d (bh t),.d (ls k x)] []=q [.d t,.d k] [] (dd (ls a x)):=IO
~mn(t k t')(x):E [(60,ent [.d t,.d k] [] (dd t'))] 60 [.d (bh t),.d (ls k x)] []=q [.d t,.d k] [] (dd (bh t')):=IO
¶ch(l:PQ Dt):Dt:=.tup [.str "choice",.tup l]
~zW(a b f):E [] 53 [.d (eF f),.d (nm a b)] []=bb (decide (1<=f)):=IO
~zX(a f):E [] 53 [.d (eF f),.d (tx' a)] []=bb (decide (1<=f)):=IO
~zY(l)(f):E [] 53 [.d (eF f),.d (ch l)] []=bb (decide (1<=f)):=IO
~zZ(k)(m f):E [] 53 [.d (eF f),.d (ls k m)] []=bb (decide (1<=f)):=IO
~z6(l)(f):E [] 53 [.d (eF f),.d (rc l)] []=bb (decide (1<=f)):=IO
~z7(a k)(m f):E [] 53 [.d (eF f),.d (rw' a k m)] []=bb (decide (1<=f)):=IO
~p7(d:2<=f)(c:f<=1000):fm i f=true:=by
 @b:Builtin.Int.intBits f<=Mv:=by
  PL Builtin.Int.intBits
  split
  ·~aAM _
  ·@:f.natAbs.log2 < 10:=(aCd or).mpr or;show _<=64;on
 PL fm;rw[show decide (Builtin.Int.intBits f > Mv)=PV from Lv or,aBA,aBX]
 rfl
~wm(a b f):E [] 58 [.d (db f),.d (nm a b)] []=(ak (aj .mul (.d (.int a)) (.d (.int f)) [])~>ak (aj .mul (.d (.int b)) (.d (.int f)) [])~>dd (.tup [.str "number",ae (aj .mul (.d (.int a)) (.d (.int f)) []),ae (aj .mul (.d (.int b)) (.d (.int f)) [])])):=IO
~rF(a b f):E [] 58 [.d (bS f),.d (nm a b)] []=(ak (aj .fdiv (.d (.int a)) (.d (.int f)) [])~>ak (aj .fdiv (.d (.int b)) (.d (.int f)) [])~>dd (.tup [.str "number",ae (aj .fdiv (.d (.int a)) (.d (.int f)) []),ae (aj .fdiv (.d (.int b)) (.d (.int f)) [])])):=IO
~jr(a b f):E [] 53 [.d (bS f),.d (nm a b)] []=bif decide (2<=f)then bif decide (f<=1000)then ak (aj .mod (.d (.int a)) (.d (.int f)) [])~>decide ((ae (aj .mod (.d (.int a)) (.d (.int f)) [])).dep<=60)~>bif eqD (ae (aj .mod (.d (.int a)) (.d (.int f)) [])) (.int 0)then ak (aj .mod (.d (.int b)) (.d (.int f)) [])~>decide ((ae (aj .mod (.d (.int b)) (.d (.int f)) [])).dep<=60)~>bb (eqD (ae (aj .mod (.d (.int b)) (.d (.int f)) [])) (.int 0)) else bb PV else bb PV else bb false:=IO
§PT(t k k' t':Dt):Prop:=∀ n,k.dep<=n->tD n t k=t'/\kD n t k=k'
~pt1(h:∀ n,tD (n+1) t (.tup l)=t'/\kD (n+1) t (.tup l)=a):PT t (.tup l) a t':=λn q=>by
 #n with
 |zero=>PK[Dt.dep]at q;on
 |succ n=>~h n
structure LT(c:Ct)(N:Nat)(t k k' t':Dt):Prop where
 a:c.H N 53 (ent [.d t,.d k] [] (bb PU))
 b:c.H N 58 (ent [.d t,.d k] [] (dd k'))
 d:c.H N 60 (ent [.d t,.d k] [] (dd t'))
 a':c.H N 53 (ent [.d t',.d k'] [] (bb PU))
 b':c.H N 58 (ent [.d t',.d k'] [] (dd k))
 d':c.H N 60 (ent [.d t',.d k'] [] (dd t))
 p:PT t k k' t'/\PT t' k' k t
~LT.up(h:LT c N t k k' t')(l:N<=M):LT c M t k k' t':=⟨Q27.up h.a l,Q27.up h.b l,Q27.up h.d l,Q27.up h.a' l,Q27.up h.b' l,Q27.up h.d' l,h.p⟩
~LT.symm(h:LT c N t k k' t'):LT c N t' k' k t:=⟨h.a',h.b',h.d',h.a,h.b,h.d,h.p.2,h.p.1⟩
~rG(a b x y):LT c 13 (bM x y) (nm a b) (nm x y) (bM a b):=⟨g0 (jh _ _ _ _),g0 (ji _ _ _ _),g0 (jj _ _ _ _),g0 (jh _ _ _ _),g0 (ji _ _ _ _),g0 (jj _ _ _ _),pt1 λn=>⟨IO,IO⟩,pt1 λn=>⟨IO,IO⟩⟩
~Ea(x f):LT c 13 (og f) (tx' x) (tx' f) (og x):=⟨g0 (wj _ _),g0 (wk _ _),g0 (wl _ _),g0 (wj _ _),g0 (wk _ _),g0 (wl _ _),pt1 λn=>⟨IO,IO⟩,pt1 λn=>⟨IO,IO⟩⟩
~rH(k)(x f):LT c 13 (bA f) (ls k x) (ls k f) (bA x):=⟨g0 (jl _ _ _),g0 (jm _ _ _),g0 (jn _ _ _),g0 (jl _ _ _),g0 (jm _ _ _),g0 (jn _ _ _),pt1 λn=>⟨IO,IO⟩,pt1 λn=>⟨IO,IO⟩⟩
~rJ(a k)(x f):LT c 13 (bA f) (rw' a k x) (rw' a k f) (bA x):=⟨g0 (jo _ _ _ _),g0 (jp _ _ _ _),g0 (jq _ _ _ _),g0 (jo _ _ _ _),g0 (jp _ _ _ _),g0 (jq _ _ _ _),pt1 λn=>⟨IO,IO⟩,pt1 λn=>⟨IO,IO⟩⟩
~wq(h:1<=f)(e:E [] 53 [.d (eF f),.d (.tup k)] []=bb (decide (1<=f))):LT c 13 (eF f) (.tup k) (ls (.tup k) f) rB:=⟨g0 (e.trans (by rw[Lh h])),g0 (D5 _ _),g0 (D6 _ _),g0 ((D7 _ _).trans (by rw[Lh h])),g0 (D8 _ _),g0 (D9 _ _),pt1 λn=>⟨IO,IO⟩,pt1 λn=>⟨IO,IO⟩⟩
~mo(h:PT t k d t')(x):PT (bh t) (ls k x) (ls d x) (bh t'):=λn q=>by
 #n with
 |zero=>PK[Dt.dep]at q;on
 |succ n =>
  &c,e:=h n (by PK[Dt.dep,al]at q;on);@a:tD (n+1) (bh t) (ls k x)=bh (tD n t k):=IO
  @b:kD (n+1) (bh t) (ls k x)=ls (kD n t k) x:=IO
  PM a.trans (by rw[c]),b.trans (by rw[e])
~wt(h:LT c N t k a t')(x):LT c (N+13) (bh t) (ls k x) (ls a x) (bh t'):=⟨g1 h.a (ia _ _ _ _) ah,g1 h.b (ml _ _ _ _) ah,g1 h.d (mn _ _ _ _) ah,g1 h.a' (ia _ _ _ _) ah,g1 h.b' (ml _ _ _ _) ah,g1 h.d' (mn _ _ _ _) ah,mo h.p.1 x,mo h.p.2 x⟩
~mq(d:2<=f)(e:f<=1000):LT c 13 (db f) (nm a b) (nm (a*f) (b*f)) (bS f):=by
 @h:0 < f:=or
 @g:0 < f/\f < 10000000000000000000000000000000000000000000000000000000000000:=or
 !⟨g0 ((wg _ _ _).trans (by simp_all)),g0 ((wm _ _ _).trans (by PK[aj,cj,p7 d e];rfl)),g0 (wh _ _ _),g0 ((jr _ _ _).trans ?_),g0 ((rF _ _ _).trans ?_),g0 (rC _ _ _),pt1 λn=>⟨IO,IO⟩,pt1 λn=>⟨IO,?_⟩⟩
 ·PK[aj,cj,Lj h,Lh d,Lh e,Int.mul_emod_left]
  rfl
 ·PK[aj,cj,Lj g,aBV _ (show f≠0 by on)]
  rfl
 ·@b:kD (n+1) (bS f) (nm (a*f) (b*f))=nm (a*f / f) (b*f / f):=IO
  rw[aBV _ (show f≠0 by on),aBV _ (show f≠0 by on)]at b;~b
~rK(l:2<=f)(i:f<=1000)(k:a % f=0)(e:b % f=0):LT c 13 (bS f) (nm a b) (nm (a / f) (b / f)) (db f):=by
 @j:=Int.ediv_mul_cancel (aB8 k);@g:=Int.ediv_mul_cancel (aB8 e);@h:=(mq (c:=c) (a:=a / f) (b:=b / f) l i).symm;rw[j,g]at h;~h
§sl(a:Int):Rs Av:=aV .len (.d (ae (aV .str (.d (.int a)) []))) []
~e55(a b):E [] 55 [.d (.int a),.d (.int b)] []=(ak (aV .str (.d (.int a)) [])~>ak (sl a)~>ak (aV .str (.d (.int b)) [])~>ak (sl b)~>ak (blt2 .max (.d (ae (sl a))) (.d (ae (sl b))) [])~>dd (ae (blt2 .max (.d (ae (sl a))) (.d (ae (sl b))) []))):=IO
~kh(k:-10 ^ 62<=a)(l:a<=10 ^ 62):∃ i:Int,ak (aV .str (.d (.int a)) [])=PU/\sl a=dd (.int i):=by
 @f:a.natAbs.log2 < 1920:=by
  by_cases z:a.natAbs=0
  ·rw[z];decide
  ·!(aCd z).mpr (aBH (show a.natAbs<=10 ^ 62 by on) ?_)
   decide +kernel
 @e:aV .str (.d (.int a)) []=dd (.str (toString a)):=by
  show aF (if a.natAbs.log2 < 1920 then PN _ else PR) []=_;rw[Lj f]
  rfl
 @j:(toString a:Str)°<=Ld:=by
  @h:(Str.ofString (toString a))°=(xL a)°:=by rw[<- qL];rfl
  @m:=tq 62 _ (aBH (show a.natAbs<=10 ^ 62 by on) (by decide +kernel));show(Str.ofString _)°<=16777216;rw[h];PL xL
  split
  ·rw[aAv];on
  ·on
 !⟨(toString a:Str)°,by rw[e];rfl,?_⟩;PL sl;rw[e];show(if(toString a:Str)°<=Ld then _ else _)=_;rw[Lj j]
~mf(e:-10 ^ 62<=a)(n:a<=10 ^ 62)(f:-10 ^ 62<=b)(m:b<=10 ^ 62):∃ i:Int,c.H 13 55 (ent [.d (.int a),.d (.int b)] [] (dd (.int i))):=by
 &i,l,g:=kh e n;&j,h,k:=kh f m;PM _,g0 ((e55 a b).trans (by rw[l,g,h,k];rfl))
~ww(e:c.H 13 55 (ent [.d (.int a),.d (.int b)] [] (dd (.int i))))(k:-10 ^ 30<=a)(h:a<=b)(j:b<=10 ^ 30)(g:i<=f):LT c 26 (bX f) (nm a b) (tx' f) (cM a b):=⟨g1 e (h9 a b f i) (by rw[ah,Lh g]),up (g0 (oi _ _ _)) or,up (g0 (oh _ _ _)) or,
 go (ac (g0 ((e22 a b).trans (by simp_all))) (ac e af)) ((jk a b f i PU).trans (by PK[ah,Lh g];rfl)),up (g0 (rE _ _ _)) or,up (g0 (rD _ _ _)) or,pt1 λn=>⟨IO,IO⟩,pt1 λn=>⟨IO,IO⟩⟩
~Eb(e:c.H 13 55 (ent [.d (.int a),.d (.int b)] [] (dd (.int i))))(g:¬ i<=f):c.H 26 53 (ent [.d (bX f),.d (nm a b)] [] (bb PV)):=g1 e (h9 a b f i) (by rw[ah,Lv g])
~Ec(e:c.H 13 55 (ent [.d (.int a),.d (.int b)] [] (dd (.int i))))(k:-10 ^ 30<=a)(h:a<=b)(j:b<=10 ^ 30)(g:¬ i<=f):c.H 26 53 (ent [.d (cM a b),.d (tx' f)] [] (bb PV)):=go (ac (g0 ((e22 a b).trans (by simp_all))) (ac e af)) ((jk a b f i PU).trans (by PK[ah,Lv g];rfl))
~Hv(h:LT c N t k a t')(b:M19 c N m a):c.H (N+13) 52 (ent [.d t,.d k] [] (bif m then dd a else .ex "BadTurn" [])):=go (ac h.a (ac h.b (ac (n7 b) af))) ((e52 t k a PU m).trans (by PK[ah];cases m <;> rfl))
~Hw(t k):E [(53,ent [.d t,.d k] [] (bb PV))] 52 [.d t,.d k] []=q [.d t,.d k] [] (.ex "BadTurn" []):=IO
~J4(h:c.H N 53 (ent [.d t,.d k] [] (bb PV))):c.H (N+13) 52 (ent [.d t,.d k] [] (.ex "BadTurn" [])):=g1 h (Hw t k) ah
~Ed(K:KF c N fs)(D:13<=N)(g:lk fs a=.tup kl)(h:LT c N (.tup t) (.tup kl) (.tup b) (.tup t'))(i:Ty c N (.tup b))(n:(Dt.tup b).dep<=60):GP c (N+169) (bz a t) (rf fs):=by
 &u,C,e,I,p,J:=K.at g nofun
 #e
 @G:=K.l;&B,l:=Be i;@f:=Hv (h.up or) l
 #B with
 |false=>~.y (up (pQ K.w g or f) or)
 |true =>
  @d:=Hv (m:=PU) (h.symm.up (M:=N+13) or) (up p or);@x:=K.w.rem.ins (a:=a) (v:=.tup b) (rl (a:=a) or) nofun;&m,A:=(((K.tf.up (M:=N+26) or).rem).ins (v:=.tup b) K.w.rem nofun u (i.up or)).mk x.l or;@o:rem _ a=rem fs a:=E1 (k:=.tup b) K.w.rem (rl or) nofun (by rw[rlk,Lj rfl]);@s:=E2 (k:=.tup kl) K.w or nofun g;@j:lk (ins (rem fs a) a (.tup b)) a=.tup b:=by rw[ilk K.w.rem,Lj rfl]
  !GP.of rfl (by simp[wds]) ((pY _ _ _).trans (by rw[g,(h.p.1 99 or).1])) ((pY _ _ _).trans (by rw[j,(h.p.2 99 or).1])) ((zR _ _ _).trans (by rw[j,(h.p.2 99 or).2,o,s])) (v4 K.w g or f u A) λe w=>?_;!⟨go (ac w.t (ac (up (k27 g) or) (ac (up (go (ac f (ac (up h.d or) af)) ((e59 _ _ _ _).trans (by PK[ah]))) or) af))) ((pP a t t' _ _ _).trans (by PK[ah])),?_,λF=>?_⟩
  ·@r:=v4 (N:=N+26+65) (m:=PU) x j n (up d or) u (by
    rw[o,s];~up K.ok or)
   rw[o,s]at r;~r
  ·~go (ac F.t (ac (up (k27 j) or) (ac (up (go (ac d (ac (up h.d' or) af)) ((e59 _ _ _ _).trans (by PK[ah]))) or) af))) ((pP a t' t _ _ _).trans (by PK[ah]))
¶rw1(x:Int):Ob:=.lst [.int x]
~ce{l:PQ Int}(h:0 < l°):∃ d∈l,atI (l.map Dt.int) (y % (l°))=PN (.int d):=by
 @c:0<=y % (l°):=aBT _ or;@e:y % (l°) < l°:=aBI _ or;@b:(y % (l°)).toNat < l°:=or
 !⟨_,aA3 b,?_⟩;rw[oW];@:atI l (y % (l°))=PN l[(y % (l°)).toNat]:=by
  PL atI ixN;rw[Lj c,Lj e];~aAh b
 rw[this]
 rfl
§lows:PQ Int:=[0,0,-7,10,3,-10 ^ 30]
§wide:PQ Int:=[9,0,30,99,20,10 ^ 30]
§lens:PQ Int:=[0,1,3,5,60]
§Ee:PQ Dt:=[.str "b",.str "a",.str "no",.str "yes"]
~e88(x):E [] 88 [.r 0] [rw1 x]=bif x % 4 == 0 then PU && (atI (lens.map Dt.int) (x / 4 % 5)).isSome~>.ok (.d (.tup [.str "text",(atI (lens.map Dt.int) (x / 4 % 5)).getD .non])) [rw1 (x / 4 / 5)] else bif x % 4 == 1 then .ok (.d (ch (L2.io Ee (PN (x / 4 % 3)) PR))) [rw1 (x / 4 / 3)]else
 (PU && (atI (lows.map Dt.int) (x / 4 % 6)).isSome~>PU && (atI (wide.map Dt.int) (x / 4 / 6 % 6)).isSome~>ak (aj .add (.d ((atI (lows.map Dt.int) (x / 4 % 6)).getD .non)) (.d ((atI (wide.map Dt.int) (x / 4 / 6 % 6)).getD .non)) [])~>ak (blt2 .min (.d (.int (10 ^ 30))) (.d (ae (aj .add (.d ((atI (lows.map Dt.int) (x / 4 % 6)).getD .non)) (.d ((atI (wide.map Dt.int) (x / 4 / 6 % 6)).getD .non)) []))) [])~>.ok (.d (.tup [.str "number",(atI (lows.map Dt.int) (x / 4 % 6)).getD .non,ae (blt2 .min (.d (.int (10 ^ 30))) (.d (ae (aj .add (.d ((atI (lows.map Dt.int) (x / 4 % 6)).getD .non)) (.d ((atI (wide.map Dt.int) (x / 4 / 6 % 6)).getD .non)) []))) [])])) [rw1 (x / 4 / 6 / 6)]):=IO
§CH:PQ (PQ Dt):=[Ee,[.str "a",.str "no",.str "yes"],[.str "no",.str "yes"]]
~J5:E [] 23 [.d (.tup Ee)] []=bb true:=IO
~J6:E [] 23 [.d (.tup [.str "a",.str "no",.str "yes"])] []=bb true:=IO
~J7:E [] 23 [.d (.tup [.str "no",.str "yes"])] []=bb true:=IO
inductive Lf:Dt->Prop
 |num (a b:Int) (h1:-10 ^ 30<=a) (h2:a<=b) (h3:b<=10 ^ 30):Lf (nm a b)
 |txt (m:Int) (h1:0<=m) (h2:m<=60):Lf (tx' m)
 |cho (l:PQ Dt) (h:l∈CH):Lf (ch l)
~h23(h:l∈CH):c.H 13 23 (ent [.d (.tup l)] [] (bb PU)):=by
 PK[CH,aAl,aAu,LN]at h;rcases h with rfl | rfl | rfl
 ·~g0 J5
 ·~g0 J6
 ·~g0 J7
~Lf.fo(h:Lf k):Fo c 26 k 1 1/\Ty c 26 k/\∃ kl,k=.tup kl/\(Dt.tup kl).dep<=2:=by
 #h with
 |num a b e d f=>PM(DE e d f).up or,(ty_num a b).up or,_,rfl,aBj 1
 |txt m e d=>PM(DG e d).up or,(n6 m).up or,_,rfl,aBj 1
 |cho l h =>
  !⟨DH (h23 h),vF (h23 h),_,rfl,?_⟩;PK[CH,aAl,aAu,LN]at h;rcases h with rfl | rfl | rfl <;> decide
~h88(x):∃ v m,c.H 13 88 (ent [.r 0] [rw1 x] (.ok (.d v) [rw1 m]))/\Lf v:=by
 @e:=e88 x
 #g:x % 4 == 0 with
 |true =>
  &d,b,a:=ce (l:=lens) (by decide);rw[g,show atI _ (x / 4 % 5)=PN _ from a]at e;!⟨_,_,g0 e,.txt d ?_ ?_⟩ <;> (PK[lens,aAl,aAu,LN]at b;on)
 |false =>
  #i:x % 4 == 1 with
  |true =>
   rw[g,i]at e;!⟨_,_,g0 e,.cho _ ?_⟩;@j:x / 4 % 3=0\/x / 4 % 3=1\/x / 4 % 3=2:=or
   rcases j with h | h | h <;> rw[h]
   ·~.head _
   ·~.tail _ (.head _)
   ·~.tail _ (.tail _ (.head _))
  |false =>
   &d,b,a:=ce (l:=lows) (by decide);&f,k,n:=ce (l:=wide) (by decide);rw[g,i,show atI _ (x / 4 % 6)=PN _ from a,show atI _ (x / 4 / 6 % 6)=PN _ from n]at e;!⟨_,_,g0 e,.num d _ ?_ ?_ ?_⟩ <;> (PK[lows,wide,aAl,aAu,LN]at b k) <;> first | on | (split <;> on)
¶T88(x:Int)(v:Dt)(y:Int):Nat×Sp1:=(88,ent [.r 0] [rw1 x] (.ok (.d v) [rw1 y]))
¶T91(d x:Int)(v:Dt)(y:Int):Nat×Sp1:=(91,ent [.r 0,.d (.int d)] [rw1 x] (.ok (.d v) [rw1 y]))
¶T89(d:Int)(ns:PQ Dt)(x:Int)(v:Dt)(y:Int):Nat×Sp1:=(89,ent [.r 0,.d (.int d),.r 1] [rw1 x,.lst ns] (.ok (.d v) [rw1 y,.lst ns]))
¶T90(d x:Int)(v:Dt)(y:Int):Nat×Sp1:=(90,ent [.r 0,.d (.int d)] [rw1 x] (.ok (.d v) [rw1 y]))
¶nab:PQ Dt:=[.str "a",.str "b"]
§mst:PQ Int:=[0,1,2,8]
~J8(x y)(v):E [T88 (x / 8) v y] 91 [.r 0,.d (.int 0)] [rw1 x]=q [.r 0] [rw1 (x / 8)] (.ok (.d v) [rw1 y]):=IO
~J9(x y z u)(v k r):E [T88 (x / 8) v y,T91 0 (x / 8) k z,T89 1 nab (x / 8) r u] 91 [.r 0,.d (.int 1)] [rw1 x]=bif decide (x % 8 < 4)then q [.r 0] [rw1 (x / 8)] (.ok (.d v) [rw1 y])else bif x % 8 == 4 then q [.r 0,.d (.int 0)] [rw1 (x / 8)] (PU && (atI (mst.map Dt.int) (z % 4)).isSome~>.ok (.d (.tup [.str "list",k,(atI (mst.map Dt.int) (z % 4)).getD .non])) [rw1 (z / 4)])else bif x % 8 == 5 then q [.r 0,.d (.int 1),.r 1] [rw1 (x / 8),.lst nab] (.ok (.d r) [rw1 u])else q [.r 0,.d (.int 1),.r 1] [rw1 (x / 8),.lst nab] (.ok (.d r) [rw1 u]):=IO
~Ka(x y z u s)(v k r w):E [T88 (x / 8) v y,T91 1 (x / 8) k z,T89 2 nab (x / 8) r u,T90 2 (x / 8) w s] 91 [.r 0,.d (.int 2)] [rw1 x]=bif decide (x % 8 < 4)then q [.r 0] [rw1 (x / 8)] (.ok (.d v) [rw1 y])else bif x % 8 == 4 then q [.r 0,.d (.int 1)] [rw1 (x / 8)] (PU && (atI (mst.map Dt.int) (z % 4)).isSome~>.ok (.d (.tup [.str "list",k,(atI (mst.map Dt.int) (z % 4)).getD .non])) [rw1 (z / 4)])else bif x % 8 == 5 then q [.r 0,.d (.int 2)] [rw1 (x / 8)] (.ok (.d w) [rw1 s])else q [.r 0,.d (.int 2),.r 1] [rw1 (x / 8),.lst nab] (.ok (.d r) [rw1 u]):=IO
§FR(kv:Int->Dt)(kx:Int->Int):PQ Av->Sto->Rs Av:=λ_ S=>match S with
 |.lst [.int x] :: S'=>.ok (.d (kv x)) (.lst [.int (kx x)] :: S')
 |_=>.bad
¶t89(c:Ct)(N:Nat)(kv:Int->Dt)(kx:Int->Int):PQ (Nat×Sp1):=[(91,sem c N 91 (FR kv kx))]
~e89(g)(e)(x d)(ns):E (t89 c N g e) 89 [.r 0,.d (.int d),.r 1] [rw1 x,.lst ns]=(tidy 2 (aU ((aL [(1,ns)] (.nm 4) (Lp tx (t89 c N g e) 89 1) ns [PN (.r 0),PN (.d (.int d)),PN (.r 1),PN (.r 2),PR] [rw1 x,.lst ns,.lst []]).bind λf S1=>match f with
  |.nx env=>((eU 3 env S1).bind λx S1=>.ok [x] S1).bind (λvs S1=>eT .tuple vs S1) |> tidy S1° |> (·.bind λx S1=>.ok [x] S1) |> (·.bind λxs S1=>.ok (.d (.str "record") :: xs) S1) |> (·.bind λvs S1=>match cn vs with | PN l=>if l°<=Ld then Rs.ok (Av.d (.tup l)) S1 else .bad | PR=>.bad) |> (·.bind λa S1=>.ok (Fl.rt a) S1) |> (·.bind λf S1=>match f with | .nx b=>.ok (.nx b) S1 | f=>.ok f S1)
  |f=>.ok f S1))).res:=IO
~f89(f)(b)(x d)(n)(l ns a)(u):(aL [(1,ns)] (.nm 4) (Lp tx (t89 c N f b) 89 1) (.str n :: l) [PN (.r 0),PN (.d (.int d)),PN (.r 1),PN (.r 2),u] [rw1 x,.lst ns,.lst a]).res=(dsE ns ns && PU~>bif decide (0 < x % 3)then hg c N 91 (FR f b) [.r 0,.d (.int (d - 1))] [rw1 (x / 3)]~>decide (a° < Ld)~>(aL [(1,ns)] (.nm 4) (Lp tx (t89 c N f b) 89 1) l [PN (.r 0),PN (.d (.int d)),PN (.r 1),PN (.r 2),PN (.d (.str n))] [rw1 (b (x / 3)),.lst ns,.lst (a++[.tup [.str n,f (x / 3)]])]).res else(aL [(1,ns)] (.nm 4) (Lp tx (t89 c N f b) 89 1) l [PN (.r 0),PN (.d (.int d)),PN (.r 1),PN (.r 2),PN (.d (.str n))] [rw1 (x / 3),.lst ns,.lst a]).res):=IO
~oj(h:∀ y,c.H N 91 (ent [.r 0,.d (.int (d - 1))] [rw1 y] (.ok (.d (kv y)) [rw1 (kx y)]))):∀ (l) (fs:Fs) (x:Int) (u:PY Av),fs°+l°<=1000->∃ gs x' a,(aL [(1,ns)] (.nm 4) (Lp tx (t89 c N kv kx) 89 1) (l.map .str) [PN (.r 0),PN (.d (.int d)),PN (.r 1),PN (.r 2),u] [rw1 x,.lst ns,.lst (fs.map pr)]).res=.ok (.nx [PN (.r 0),PN (.d (.int d)),PN (.r 1),PN (.r 2),a]) [rw1 x',.lst ns,.lst ((fs++gs).map pr)]/\(gs.map (·.1)).Sublist l/\∀ p∈gs,∃ y,p.2=kv y
 |[],fs,x,u,_=>⟨[],x,u,by
  rw[aAA];show(bif dsE ns ns && PU then _ else _)=_;rw[b4]
  rfl,.slnil,λ_ h=>nomatch h⟩
 |n :: l,fs,x,u,hl=>by
  rw[aAv]at hl;rw[aAr,f89,b4]
  #hx:decide (0 < x % 3)with
  |false =>
   &gs,x',a,e,s,k:=oj h l fs (x / 3) _ or;PM gs,x',a,e,s.cons _,k
  |true =>
   rw[bq (h (x / 3)),Lh (show(fs.map pr)° < Ld by rw[aAa];show _ < 16777216;on)];&gs,x',a,e,s,k:=oj h l (fs++[(n,kv (x / 3))]) _ _ (by rw[aAi];show _+1+_<=_;on);!⟨(n,kv (x / 3)) :: gs,x',a,?_,s.cons₂ _,λp hp=>?_⟩
   ·rw[aAH,aAO]at e;~e
   ·rcases aAl.mp hp with rfl | hp
    ·PM _,rfl
    ·~k p hp
~d89{kv:Int->Dt}{kx:Int->Int}{d:Int}(h:∀ y,c.H N 91 (ent [.r 0,.d (.int (d - 1))] [rw1 y] (.ok (.d (kv y)) [rw1 (kx y)])))(l:PQ Str)(hl:l°<=8)(x:Int):∃ gs x',c.H (N+13) 89 (ent [.r 0,.d (.int d),.r 1] [rw1 x,.lst (l.map .str)] (.ok (.d (rf gs)) [rw1 x',.lst (l.map .str)]))/\(gs.map (·.1)).Sublist l/\∀ p∈gs,∃ y,p.2=kv y:=by
 &gs,x',u',e,s,k:=oj h (ns:=l.map .str) l [] x PR (by simp;on);!⟨gs,x',go (ac (a:=(91,_)) aJ af) ((e89 kv kx x d (l.map .str)).trans ?_),s,k⟩;rw[aC,aE,Rs.bindRes];@e':(aL [(1,l.map Dt.str)] (.nm 4) (Lp tx (t89 c N kv kx) 89 1) (l.map .str) _ [rw1 x,.lst (l.map .str),.lst []]).res=_:=e;rw[e']
 rfl
~b5(h:(gs.map (·.1)).Sublist l)(b:l.Pairwise slt):Srt gs:=aBf.mp (b.sublist h)
§Ef:PQ Dt:=[nm (-3) 40,tx' 3]
§mst5:PQ Int:=[0,1,2,3,8]
¶kK(u:Int):Dt:=(atI Ef (u % 2)).getD .non
¶mM(u:Int):Dt:=(atI (mst5.map Dt.int) (u / 2 % 5)).getD .non
~e90(x u)(l):E [T89 1 nab x (rc l) u] 90 [.r 0,.d (.int 2)] [rw1 x]=q [.r 0,.d (.int 1),.r 1] [rw1 x,.lst nab] (PU && (atI Ef (u % 2)).isSome~>PU && (atI (mst5.map Dt.int) (u / 2 % 5)).isSome~>ak (aj .add (.d (.tup l)) (.d (.tup [.tup [.str "id",kK u]])) [])~>.ok (.d (.tup [.str "rows",.str "id",.tup [.str "record",ae (aj .add (.d (.tup l)) (.d (.tup [.tup [.str "id",kK u]])) [])],mM u])) [rw1 (u / 2 / 5)]):=IO
inductive Sh(c:Ct)(N:Nat):Dt->Prop
 |lf {k:Dt}(h:Lf k):Sh c N k
 |ls {k:PQ Dt}{m:Int}(h:Sh c N (.tup k)) (ty:Ty c N (.tup k)) (h1:0<=m) (h2:m<=8):Sh c N (ls (.tup k) m)
 |rcd {ms:Fs}(h:BX c N ms) (hs:∀ p∈ms,Sh c N p.2):Sh c N (rf ms)
 |row {ms:Fs}{m:Int}(ty:Ty c N (rf ms)) (h1:0<=m) (h2:m<=8) (hk:(∃ a b:Int,lk ms "id" = .tup [.str "number",.int a,.int b])\/∃ m:Int,lk ms "id" = .tup [.str "text",.int m]) (w:FW ms) (hs:∀ p∈ms,Lf p.2):Sh c N (rw' (.str "id") (rf ms) m)
~BX.up(h:BX c N ms)(l:N<=M):BX c M ms:=⟨h.w,h.l,h.tf.up l,h.kd⟩
~Sh.up(h:Sh c N k)(l:N<=M):Sh c M k:=by
 induction h with
 |lf h=>~.lf h
 |ls h b d a e=>~.ls e (b.up l) d a
 |rcd h _ e=>~.rcd (h.up l) e
 |row b d a f w g=>~.row (b.up l) d a f w g
structure Dk(c:Ct)(N:Nat)(D I P:Nat)(k:Dt):Prop where
 fo:∃ d i:Int,Fo c N k d i/\d<=D/\i<=I
 ty:Ty c N k
 tp:∃ kl,k=.tup kl/\(Dt.tup kl).dep<=P
 sh:Sh c N k
~Dk.up(h:Dk c N D I P k)(l:N<=M):Dk c M D I P k:=⟨by &d,i,a,b:=h.fo;~⟨d,i,a.up l,b⟩,h.ty.up l,h.tp,h.sh.up l⟩
~Lf.dk(h:Lf k):Dk c 26 1 1 2 k:=⟨⟨1,1,(h.fo).1,or,or⟩,(h.fo).2.1,(h.fo (c:=c)).2.2,.lf h⟩
§NMS:PQ Str:=["a","b","box","n","t","u","w","id","q","new","p","z","aa","m","zz","ua","ub","uc","ud","ue","uf","ug","uh","ui"]
~nms:∀ a∈NMS,Nm c a:=by
 intro a h;PK[NMS,aAl,aAu,LN]at h;rcases h with rfl | rfl | rfl | rfl | rfl | rfl | rfl | rfl | rfl | rfl | rfl | rfl | rfl | rfl | rfl | rfl | rfl | rfl | rfl | rfl | rfl | rfl | rfl | rfl <;> ~g0 (IO)
~bT:∀ {l}{m},(∀ x∈l,x.dep<=m)->al l<=m
 |[],m,_=>by ~aAM _
 |x :: l,m,h=>by
  ~Nat.max_le.mpr ⟨h x aAe,bT λy a=>h y (aAk _ a)⟩
~rf_dep(h:∀ p∈fs,p.2.dep<=m):(rf fs).dep<=m+3:=by
 @d:al (fs.map pr)<=m+1:=bT λx c=>by
  &p,b,rfl:=aAc.mp c;@:=h p b;PL pr;PK[Dt.dep,al];on
 PK[Dt.dep,al];on
~om{fs:Fs}{f:Dt->Int}{I:Nat}(h:∀ p∈fs,1<=f p.2/\f p.2<=I):0<=(fs.map λp=>f p.2).sum/\(fs.map λp=>f p.2).sum<=fs°*I:=by
 induction fs with
 |nil=>simp
 |cons p fs c =>
  @d:=h p aAe;@e:=c λq b=>h q (aAk _ b);rw[aAr,List.sum_cons,aAv];@:((fs°+1:Nat):Int)*(I)=fs°*I+I:=by rw[aCa,Int.add_mul];on
  on
~ki(s:Srt fs)(C:fs°<=L)(H:L<=8)(l:∀ p∈fs,Nm c p.1)(g:13<=N)(h:∀ p∈fs,Dk c N D I P p.2)(y:P<=50):Dk c (N+39) (D+1) (1+L*I) (P+3) (rf fs)/\FW fs:=by
 @u:∀ p∈fs,p.2≠.non:=λp a e=>by &m,q,_:=(h p a).tp;rw[e]at q;#q
 @n:FW fs:=⟨s,u,or⟩;!⟨⟨?_,ty_rec or l g λp a=>(h p a).ty,⟨_,rfl,rf_dep λp a=>by &m,q,t:=(h p a).tp;rw[q];~t⟩,.rcd ⟨n,or,λp a=>⟨l p a,(h p a).ty.up or⟩,λp a=>by &m,q,t:=(h p a).tp;~⟨m,q,or⟩⟩ λp a=>(h p a).sh.up or⟩,n⟩;@:∀ x:Dt,∃ i:Int,∀ p∈fs,x=p.2->Fo c N p.2 D i/\i<=I:=λx=>by
  by_cases q:∃ p∈fs,x=p.2
  ·&p,a,rfl:=q;&d,i,j,F,v:=(h p a).fo;~⟨i,λG _ e=>by rw[<- e];~⟨⟨λr q=>j.f r or,j.m,by @:=j.d1;on,j.i1⟩,v⟩⟩
  ·PM 0,λp a e=>absurd ⟨p,a,e⟩ q
 &f,k:=Classical.skolem.mp this;@sl:=om λp a=>⟨(k _ p a rfl).1.i1,(k _ p a rfl).2⟩;!⟨_,_,vJ s or l g or (λp a=>(k _ p a rfl).1) sl.1,or,?_⟩;@z:(fs°)*I<=(L:Int)*I:=Int.mul_le_mul_of_nonneg_right or or;on
~sk2{p:Int->Dt->Int->Prop}(h:∀ x,∃ v y,p x v y):∃ (c:Int->Dt) (b:Int->Int),∀ x,p x (c x) (b x):=by
 &c,e:=Classical.skolem.mp h;&b,d:=Classical.skolem.mp e;PM c,b,d
~Dk.weak(h:Dk c N D I P k)(p:D<=j)(n:I<=g)(o:P<=b):Dk c N j g b k:=⟨by &d,i,a,m,l:=h.fo;~⟨d,i,a,or,or⟩,h.ty,by &f,e,q:=h.tp;~⟨f,e,or⟩,h.sh⟩
~Bg(h:Dk c N D I P k)(e:0<=m)(b:m<=8):Dk c (N+13) (D+1) (I+1) (P+1) (ls k m):=by
 &f,rfl,q:=h.tp;&d,i,a,j,g:=h.fo;!⟨⟨_,_,DI a e b,or,or⟩,ke h.ty m,⟨_,rfl,?_⟩,.ls (h.sh.up or) (h.ty.up or) e b⟩;PK[Dt.dep,al]at q ⊢;on
~dk0(x):∃ v y,c.H 26 91 (ent [.r 0,.d (.int 0)] [rw1 x] (.ok (.d v) [rw1 y]))/\Lf v:=by
 &v,y,h,l:=h88 _;PM v,y,go (ac h af) ((J8 x y v).trans ah),l
¶LAB:PQ Str:=["a","b"]
¶LABI:PQ Str:=["a","b","id"]
~ib{l:PQ Str}(h:(l.all λa=>NMS.contains a)=PU)(b:a∈l):a∈NMS:=by simp_all
~oo:LABI.Pairwise slt:=by
 PL slt
 decide +kernel
~cN{gs:Fs}(h:(gs.map (·.1)).Sublist l)(b:p∈gs):p.1∈l:=h.subset (aAc.mpr ⟨p,b,rfl⟩)
~r1(x):∃ gs y,c.H 39 89 (ent [.r 0,.d (.int 1),.r 1] [rw1 x,.lst nab] (.ok (.d (rf gs)) [rw1 y,.lst nab]))/\(gs.map (·.1)).Sublist LAB/\∀ p∈gs,Lf p.2:=by
 &i,g,b:=sk2 (dk0);&gs,y,h,s,k:=d89 (d:=1) (λy=>(b y).1) LAB (by decide) x;~⟨gs,y,h,s,λp f=>by &z,e:=k p f;rw[e];~(b z).2⟩
~wx:∃ d:Int,atI (mst.map Dt.int) (z % 4)=PN (.int d)/\0<=d/\d<=8:=by
 &d,b,a:=ce (l:=mst) (by decide);!⟨d,a,?_,?_⟩ <;> (PK[mst,aAl,aAu,LN]at b;on)
~dk1(x):∃ v y,c.H 52 91 (ent [.r 0,.d (.int 1)] [rw1 x] (.ok (.d v) [rw1 y]))/\Dk c 65 2 3 5 v:=by
 &v,y,h,l:=h88 (x / 8);&k,z,o,j:=dk0 (x / 8);&C,u,n,s,A:=r1 (x / 8);@e:=J9 x y z u v k (rf C);PK[ah]at e;@tbl:∀ p∈[T88 _ v y,T91 0 _ k z,T89 1 nab _ _ u],c.H 39 p.1 p.2:=ac (up h or) (ac (up o or) (ac n af));@m:Dk c 65 2 3 5 _:=(ki (L:=2) (b5 s (oo.sublist (.cons₂ _ (.cons₂ _ (.cons _ .slnil))))) (by @:=s.length_le;rw[aAa]at this;~this) or (λp g=>nms _ (ib (by decide +kernel) (cN s g))) or (λp g=>(A p g).dk) or).1
 #f:decide (x % 8 < 4)with
 |true=>rw[f]at e;PM _,_,go tbl e,(l.dk.up or).weak or or or
 |false =>
  #i:x % 8 == 4 with
  |true =>
   &d,B,w,t:=wx;rw[f,i,B]at e;PM _,_,go tbl e,((Bg j.dk w t).up or).weak or or or
  |false =>
   rw[f,i]at e;!⟨_,_,go tbl (e.trans (c:=.ok _ [rw1 u]) ?_),m⟩
   cases x % 8 == 5 <;> rfl
~d90(x:Int):∃ v y,c.H 52 90 (ent [.r 0,.d (.int 2)] [rw1 x] (.ok (.d v) [rw1 y]))/\Dk c 91 3 5 6 v:=by
 &f,u,Z,s,G:=r1 (c:=c) x;@Y:∃ K,atI Ef (u % 2)=PN K/\(K=nm (-3) 40\/K=tx' 3):=by
  @:u % 2=0\/u % 2=1:=or
  rcases this with h | h <;> rw[h]
  ·PM _,rfl,.inl rfl
  ·PM _,rfl,.inr rfl
 &K,M,F:=Y;&m,X,Q:=ce (l:=mst5) (y:=u / 2) (by decide);@C:atI (mst5.map Dt.int) (u / 2 % 5)=PN (.int m):=Q;@g:0<=m/\m<=8:=by PK[mst5,aAl,aAu,LN]at X;on
 @H:Lf K:=by
  rcases F with rfl | rfl
  ·~.num _ _ or or or
  ·~.txt _ or or
 @gl:f°<=2:=by @:=s.length_le;rw[aAa]at this;~this
 @e:=e90 x u (f.map pr);rw[ah]at e;unfold kK mM at e;rw[M,C]at e;@ad:aj .add (.d (.tup (f.map pr))) (.d (.tup [.tup [.str "id",K]])) []=dd (.tup ((f++[(("id" : Str),K)]).map pr)):=by
  show(if(f.map pr)°+1<=Ld then _ else _)=_;rw[Lj (by rw[aAa];show _<=16777216;on),aAH]
  rfl
 @O:E [T89 1 nab x (rf f) u] 90 [.r 0,.d (.int 2)] [rw1 x]=.ok (.d (rw' (.str "id") (rf (f++[(("id" : Str),K)])) m)) [rw1 (u / 2 / 5)]:=by
  !e.trans ?_;show(ak (aj .add (.d (.tup (f.map pr))) (.d (.tup [.tup [.str "id",K]])) [])~>Rs.ok (Av.d (.tup [.str "rows",.str "id",.tup [.str "record",ae (aj .add (.d (.tup (f.map pr))) (.d (.tup [.tup [.str "id",K]])) [])],.int m])) [rw1 (u / 2 / 5)])=_;rw[ad]
  rfl
 @J:((f++[(("id" : Str),K)]).map (·.1)).Sublist LABI:=by
  rw[aAH];~s.append (List.Sublist.refl _)
 @t:=b5 J oo;@A:=bO t (aAG.mpr (.inr aAe));@T:∀ p∈f++[(("id" : Str),K)],Lf p.2:=λp o=>by
  rcases aAG.mp o with h | h
  ·~G p h
  ·rw[aAy]at h;subst h;~H
 @n:=ki (c:=c) (N:=26) (L:=3) (D:=1) (I:=1) (P:=2) t (by rw[aAi];show _+1<=_;on) or (λp o=>nms _ (ib (l:=LABI) (by decide +kernel) (cN J o))) or (λp o=>by
  rcases aAG.mp o with h | h
  ·~(G p h).dk
  ·rw[aAy]at h;subst h;~H.dk) or
 @j:(∃ a b:Int,lk (f++[(("id" : Str),K)]) "id" = .tup [.str "number",.int a,.int b])\/∃ m:Int,lk (f++[(("id" : Str),K)]) "id" = .tup [.str "text",.int m]:=by
  rw[A];rcases F with rfl | rfl
  ·~.inl ⟨_,_,rfl⟩
  ·~.inr ⟨_,rfl⟩
 &d,i,a,b1,b2:=n.1.fo;!⟨_,_,go (ac (a:=(89,_)) Z af) O,⟨_,_,DJ a or j g.1 g.2,or,or⟩,vH n.1.ty or j m,⟨_,rfl,?_⟩,.row (n.1.ty.up or) g.1 g.2 j n.2 T⟩;&kl,U,q:=n.1.tp;@S:(rf (f++[(("id" : Str),K)])).dep<=5:=by rw[U];~q
 PK[Dt.dep,al]at S ⊢;on
~r2(x):∃ gs y,c.H 65 89 (ent [.r 0,.d (.int 2),.r 1] [rw1 x,.lst nab] (.ok (.d (rf gs)) [rw1 y,.lst nab]))/\(gs.map (·.1)).Sublist LAB/\∀ p∈gs,Dk c 65 2 3 5 p.2:=by
 &i,g,b:=sk2 (dk1);&gs,y,h,s,k:=d89 (d:=2) (λy=>(b y).1) LAB (by decide) x;~⟨gs,y,h,s,λp f=>by &z,e:=k p f;rw[e];~(b z).2⟩
~ic{gs:Fs}(s:(gs.map (·.1)).Sublist l):gs°<=l°:=by @:=s.length_le;rw[aAa]at this;~this
~dk2(x):∃ v y,c.H 78 91 (ent [.r 0,.d (.int 2)] [rw1 x] (.ok (.d v) [rw1 y]))/\Dk c 104 3 7 8 v:=by
 &v,y,h,l:=h88 _;&k,z,F,j:=dk1 _;&I,u,B,s,o:=r2 _;&w,t,G,D:=d90 _;@e:=Ka x y z u t v k (rf I) w;PK[ah]at e;@tbl:∀ p∈[T88 (x / 8) v y,T91 1 (x / 8) k z,T89 2 nab (x / 8) _ u,T90 2 (x / 8) w t],c.H 65 p.1 p.2:=ac (up h or) (ac (up F or) (ac B (ac (up G or) af)));@A:=(ki (L:=2) (b5 s (oo.sublist (.cons₂ _ (.cons₂ _ (.cons _ .slnil))))) (ic s) or (λp H=>nms _ (ib (by decide +kernel) (cN s H))) or o or).1
 #f:decide (x % 8 < 4)with
 |true=>rw[f]at e;PM _,_,go tbl e,(l.dk.up or).weak or or or
 |false =>
  #g:x % 8 == 4 with
  |true =>
   &d,n,m,C:=wx;rw[f,g,n]at e;PM _,_,go tbl e,((Bg j m C).up or).weak or or or
  |false =>
   #i:x % 8 == 5 with
   |true=>rw[f,g,i]at e;PM _,_,go tbl e,(D.up or).weak or or or
   |false=>rw[f,g,i]at e;PM _,_,go tbl e,A
¶L5:PQ Str:=["a","b","box","n","t"]
¶n5:PQ Dt:=[.str "a",.str "b",.str "box",.str "n",.str "t"]
~r3(x):∃ gs y,c.H 91 89 (ent [.r 0,.d (.int 3),.r 1] [rw1 x,.lst n5] (.ok (.d (rf gs)) [rw1 y,.lst n5]))/\(gs.map (·.1)).Sublist L5/\∀ p∈gs,Dk c 104 3 7 8 p.2:=by
 &i,g,b:=sk2 (dk2);&gs,y,h,s,k:=d89 (d:=3) (λy=>(b y).1) L5 (by decide) x;~⟨gs,y,h,s,λp f=>by &z,e:=k p f;rw[e];~(b z).2⟩
~e92(b)(a)(x y)(l):E [T89 3 n5 x (rc l) y,(88,sem c N 88 (FR b a))] 92 [.r 0] [rw1 x]=q [.r 0,.d (.int 3),.r 1] [rw1 x,.lst n5] (bif y % 8 == 5 then hg c N 88 (FR b a) [.r 0] [rw1 y]~>hg c N 88 (FR b a) [.r 0] [rw1 (a y)]~>ak (aj .add (.d (.tup l)) (.d (.tup [.tup [.str "u",b y],.tup [.str "w",b (a y)]])) [])~>.ok (.d (.tup [.str "record",ae (aj .add (.d (.tup l)) (.d (.tup [.tup [.str "u",b y],.tup [.str "w",b (a y)]])) [])])) [rw1 (a (a y))] else .ok (.d (rc l)) [rw1 y]):=IO
§FQ(kl:Int->PQ Dt->Int->PQ Dt)(kx:Int->PQ Dt->Int->Int):PQ Av->Sto->Rs Av:=λas S=>match as,S with
 |[_,.d (.int d),_],.lst [.int x] :: .lst ns :: S'=>.ok (.d (rc (kl d ns x))) (.lst [.int (kx d ns x)] :: .lst ns :: S')
 |_,_=>.bad
¶eW:PQ Dt:=[.str "a",.str "q",.str "t"]
¶nnt:PQ Dt:=[.str "n",.str "t"]
~Kb(kl)(a)(x):E [(89,sem c N 89 (FQ kl a))] 107 [.r 0] [rw1 x] =
 (hg c N 89 (FQ kl a) [.r 0,.d (.int 1),.r 1] [rw1 x,.lst eW]~>hg c N 89 (FQ kl a) [.r 0,.d (.int 2),.r 1] [rw1 (a 1 eW x),.lst nab]~>(ak (aj .add (.d (.tup (kl 2 nab (a 1 eW x)))) (.d (.tup [.tup [.str "box",rc (kl 1 eW x)]])) [])~>hg c N 89 (FQ kl a) [.r 0,.d (.int 1),.r 1] [rw1 (a 2 nab (a 1 eW x)),.lst nnt]~>(ak (aj .add (.d (ae (aj .add (.d (.tup (kl 2 nab (a 1 eW x)))) (.d (.tup [.tup [.str "box",rc (kl 1 eW x)]])) []))) (.d (.tup (kl 1 nnt (a 2 nab (a 1 eW x))))) [])~>.ok (.d (.tup [.str "record",ae (aj .add (.d (ae (aj .add (.d (.tup (kl 2 nab (a 1 eW x)))) (.d (.tup [.tup [.str "box",rc (kl 1 eW x)]])) []))) (.d (.tup (kl 1 nnt (a 2 nab (a 1 eW x))))) [])])) [rw1 (a 1 nnt (a 2 nab (a 1 eW x)))]))):=IO
¶L7:PQ Str:=["a","b","box","n","t","u","w"]
~oq:L7.Pairwise slt:=by
 PL slt
 decide +kernel
~Bh{l:PQ Str}(h:(l.all λa=>L7.contains a)=PU)(b:a∈l):a∈L7:=by simp_all
structure DF(c:Ct)(fs:Fs):Prop where
 k:KF c 169 fs
 s:∀ p∈fs,Sh c 169 p.2
 i:∀ p∈fs,p.1∈L7
 d:∀ p∈fs,p.2.dep<=8
~p8{gs ls:Fs}(s:Srt (gs++ls))(hg:gs°<=5)(hl:ls°<=2)(hn:∀ p∈gs++ls,p.1∈L7)(h:∀ p∈gs,Dk c 104 3 7 8 p.2)(h2:∀ p∈ls,Lf p.2):DF c (gs++ls):=by
 @dk:∀ p∈gs++ls,Dk c 104 3 7 8 p.2:=λp a=>by
  rcases aAG.mp a with q | q
  ·~h p q
  ·~((h2 p q).dk.up or).weak or or or
 @nn:∀ p∈gs++ls,p.2≠.non:=λp a e=>by &kl,q,_:=(dk p a).tp;rw[e]at q;#q
 @ll:(gs++ls)°<=7:=by rw[aAi];on
 @w:FW (gs++ls):=⟨s,nn,or⟩;@j:∀ p∈gs++ls,Nm c p.1:=λp a=>nms _ (ib (l:=L7) (by decide +kernel) (hn p a));@:∀ x:Dt,∃ i:Int,∀ p∈gs++ls,x=p.2->Fo c 104 p.2 3 i/\i<=7/\(Lf p.2->i<=1):=λx=>by
  by_cases q:∃ p∈gs++ls,x=p.2
  ·&p,a,rfl:=q
   by_cases lf:Lf p.2
   ·~⟨1,λp' _ e=>by rw[<- e];~⟨⟨λr q=>((lf.fo (c:=c)).1.up or).f r or,((lf.fo (c:=c)).1.up (M:=104) or).m,or,or⟩,or,λ_=>or⟩⟩
   ·&d,i,k,hd,hI:=(dk p a).fo;~⟨i,λp' _ e=>by rw[<- e];~⟨⟨λr q=>k.f r or,k.m,or,k.i1⟩,or,λz=>absurd z lf⟩⟩
  ·PM 0,λp a e=>absurd ⟨p,a,e⟩ q
 &f,n:=Classical.skolem.mp this;@s1:=om (fs:=gs) (f:=f) (I:=7) λp a=>⟨(n _ p (aAG.mpr (.inl a)) rfl).1.i1,(n _ p (aAG.mpr (.inl a)) rfl).2.1⟩;@s2:=om (fs:=ls) (f:=f) (I:=1) λp a=>⟨(n _ p (aAG.mpr (.inr a)) rfl).1.i1,(n _ p (aAG.mpr (.inr a)) rfl).2.2 (h2 p a)⟩;@fo:=vJ (c:=c) (N:=104) (d:=3) (f:=f) s or j or or (λp a=>(n _ p a rfl).1) (by rw[aAH,aB9];on);!⟨⟨w,or,up (vI fo or (by rw[aAH,aB9];on)) or,j,λp a=>?_⟩,λp a=>(dk p a).sh.up or,hn,λp a=>by &kl,e,hd:=(dk p a).tp;rw[e];~hd⟩;&kl,e,hd:=(dk p a).tp;&d,i,k,hd2,hI:=(dk p a).fo;~⟨kl,e,or,up (vI k or or) or,(dk p a).ty.up or⟩
~ou(h:l°+m°<=1000):aj .add (.d (.tup l)) (.d (.tup m)) []=dd (.tup (l++m)):=by
 show(if l°+m°<=Ld then _ else _)=_;rw[Lj (aAq h (by decide))]
~d92(x:Int):∃ fs y,c.H 104 92 (ent [.r 0] [rw1 x] (.ok (.d (rf fs)) [rw1 y]))/\DF c fs:=by
 &i,b,l:=sk2 (h88 (c:=c));&g,y,h,s,k:=r3 (c:=c) x;@m:=ic s;@e:=e92 (c:=c) (N:=91) i b x y (g.map pr);rw[ah]at e;@u:∀ p∈[T89 3 n5 x (rf g) y,(88,sem c 91 88 (FR i b))],c.H 91 p.1 p.2:=ac h (ac aJ af);@t:∀ z,hg c 91 88 (FR i b) [.r 0] [rw1 z]=true:=λz=>bq (show c.H 91 88 _ from up (l z).1 or)
 #n:y % 8 == 5 with
 |false =>
  rw[n]at e;!⟨g,y,go u e,?_⟩;@:=p8 (c:=c) (ls:=[]) (by rw[aAA];~b5 s (oq.sublist (.cons₂ _ (.cons₂ _ (.cons₂ _ (.cons₂ _ (.cons₂ _ (.cons _ (.cons _ .slnil))))))))) m (aAM _) (by rw[aAA];~λp a=>Bh (by decide +kernel) (cN s a)) k (λp a=>nomatch a);rw[aAA]at this;~this
 |true =>
  rw[n,t,t,ou (by rw[aAa];show _+2<=_;@:g°<=5:=m;on)]at e;@o:((g++[(("u" : Str),i y),(("w" : Str),i (b y))]).map (·.1)).Sublist L7:=by
   rw[aAH];~s.append (List.Sublist.refl _)
  !⟨_,b (b y),go u (e.trans ?_),p8 (b5 o oq) m (aAo 2) (λp a=>cN o a) k λp a=>?_⟩
  ·show Rs.ok _ _=Rs.ok (Av.d (.tup _)) _;rw[aAH]
   rfl
  ·PK[aAl,aAu,LN]at a;rcases a with rfl | rfl
   ·~(l _).2
   ·~(l _).2
~r1g(l)(f:l°<=8)(x):∃ gs y,c.H 39 89 (ent [.r 0,.d (.int 1),.r 1] [rw1 x,.lst (l.map .str)] (.ok (.d (rf gs)) [rw1 y,.lst (l.map .str)]))/\(gs.map (·.1)).Sublist l/\∀ p∈gs,Lf p.2:=by
 &j,i,b:=sk2 (dk0);&gs,y,h,s,k:=d89 (d:=1) (λy=>(b y).1) l f x;~⟨gs,y,h,s,λp g=>by &z,e:=k p g;rw[e];~(b z).2⟩
¶LAQT:PQ Str:=["a","q","t"]
¶LNT:PQ Str:=["n","t"]
¶LBX:PQ Str:=["a","b","box","n","t"]
~z8:LAQT.Pairwise slt:=by
 PL slt
 decide +kernel
~Kc(x:Int):∃ fs y,c.H 78 107 (ent [.r 0] [rw1 x] (.ok (.d (rf fs)) [rw1 y]))/\DF c fs:=by
 &g1,u,C,s1,G:=r1g (c:=c) LAQT (by decide) x;&b,t,B,v,J:=r2 (c:=c) u;&h,A,H,z,Q:=r1g (c:=c) LNT (by decide) t;@M:g1°<=3:=ic s1;@T:b°<=2:=ic v;@S:h°<=2:=ic z
 let j:Int->PQ Dt->Int->PQ Dt:=λd s _=>if d=2 then b.map pr else if s°=3 then g1.map pr else h.map pr
 let k:Int->PQ Dt->Int->Int:=λd s _=>if d=2 then t else if s°=3 then u else A
 @e:E [(89,sem c 65 89 (FQ j k))] 107 [.r 0] [rw1 x]=(hg c 65 89 (FQ j k) [.r 0,.d (.int 1),.r 1] [rw1 x,.lst eW]~>hg c 65 89 (FQ j k) [.r 0,.d (.int 2),.r 1] [rw1 u,.lst nab]~>ak (aj .add (.d (.tup (b.map pr))) (.d (.tup [.tup [.str "box",rf g1]])) [])~>hg c 65 89 (FQ j k) [.r 0,.d (.int 1),.r 1] [rw1 t,.lst nnt]~>(ak (aj .add (.d (ae (aj .add (.d (.tup (b.map pr))) (.d (.tup [.tup [.str "box",rf g1]])) []))) (.d (.tup (h.map pr))) [])~>.ok (.d (.tup [.str "record",ae (aj .add (.d (ae (aj .add (.d (.tup (b.map pr))) (.d (.tup [.tup [.str "box",rf g1]])) []))) (.d (.tup (h.map pr))) [])])) [rw1 A])):=Kb j k x
 rw[bq (up C or),bq (B),bq (up H or),ou (by rw[aAa];show _+1<=_;on)]at e;rw[show ae (dd (.tup (b.map pr++[.tup [.str "box",rf g1]])))=.tup (b.map pr++[.tup [.str "box",rf g1]])from rfl,ou (by rw[aAi,aAa,aAa];show _+1+_<=_;on)]at e;@R:b.map pr++[.tup [.str "box",rf g1]]++h.map pr=(b++[(("box" : Str),rf g1)]++h).map pr:=by rw[aAH,aAH];rfl
 rw[R]at e;@w:((b++[(("box" : Str),rf g1)]++h).map (·.1)).Sublist LBX:=by
  rw[aAH,aAH];~(v.append (List.Sublist.refl _)).append z
 @F:=(ki (c:=c) (N:=26) (L:=3) (D:=1) (I:=1) (P:=2) (b5 s1 z8) M or (λp f=>nms _ (ib (l:=LAQT) (by decide +kernel) (cN s1 f))) or (λp f=>(G p f).dk) or).1;@:=p8 (c:=c) (gs:=b++[(("box" : Str),rf g1)]++h) (ls:=[]) (by rw[aAA];~b5 w (oq.sublist (.cons₂ _ (.cons₂ _ (.cons₂ _ (.cons₂ _ (.cons₂ _ (.cons _ (.cons _ .slnil))))))))) (by rw[aAi,aAi];show _+1+_<=_;on) (aAM _) (by rw[aAA];~λp f=>Bh (l:=LBX) (by decide +kernel) (cN w f)) (λp f=>by
  rcases aAG.mp f with q | q
  ·rcases aAG.mp q with q | q
   ·~((J p q).up or).weak or or or
   ·rw[aAy]at q;subst q;~(F.up or).weak or or or
  ·~((Q p q).dk.up or).weak or or or) (λp f=>nomatch f)
 rw[aAA]at this;PM _,_,go (ac (a:=(89,_)) aJ af) e,this
§VT(c:Ct)(N:Nat)(v k:Dt):Prop:=∃ d,c.H N 34 (ent [.d v,.d k] [] (bb d))
~VT.up(h:VT c N v k)(l:N<=M):VT c M v k:=by &d,q:=h;PM d,Q27.up q l
~Kd(v a b):E [] 34 [.d (.int v),.d (nm a b)] []=bif decide (a<=v)then bb (decide (v<=b))else bb false:=IO
~Eg(v a b):VT c 13 (.int v) (nm a b):=by
 &d,e:=a7 ⟨_,rfl⟩ ⟨PV,rfl⟩;PM d,g0 ((Kd v a b).trans e)
~Ke(z)(m)(b):E [(35,ent [.d (.str z),.d (.int m)] [] (bb b))] 34 [.d (.str z),.d (tx' m)] []=q [.d (.str z),.d (.int m)] [] (bb b):=IO
~e35(z)(m)(g):E [(33,fam (srcL (.str z)) [] g)] 35 [.d (.str z),.d (.int m)] []=bif ak (aV .len (.d (.str z)) [])then bif ak (av .gt (.d (ae (aV .len (.d (.str z)) []))) (.d (.int m)) [])then bif isB (ae (av .gt (.d (ae (aV .len (.d (.str z)) []))) (.d (.int m)) []))then bif bv (ae (av .gt (.d (ae (aV .len (.d (.str z)) []))) (.d (.int m)) []))then bb PV else
 ((srcL (.str z)).all (λx=>bif pb (x∈srcL (.str z)/\([]:PQ Av)=[]/\([]:Sto)=[])then PU else PV)~>decide ((srcL (.str z))°<=Ld)~>((srcL (.str z)).map g).all isB~>bb (((srcL (.str z)).map g).all bv)) else .bad else .bad else .bad:=IO
~e33(n):∃ b,E [] 33 [.d (.str ⟨#[n]⟩)] []=bb b:=by
 @e:E [] 33 [.d (.str ⟨#[n]⟩)] []=bif !decide ([n] < [32])then bif !decide ([126] < [n])then bif !eqD (.str ⟨#[n]⟩) (.str "\"")then bb (!eqD (.int ((⟨#[n]⟩:Str).cps.getD 0 0)) (.int 37))else bb PV else bb PV else bb false:=IO
 rw[e];~a7 (a7 (a7 ⟨_,rfl⟩ ⟨PV,rfl⟩) ⟨PV,rfl⟩) ⟨PV,rfl⟩
~Eh(hz:z°<=1000)(m):VT c 39 (.str z) (tx' m):=by
 @f:∀ x∈srcL (.str z),∃ b,c.H 13 33 (ent [.d x] [] (bb b)):=λx f=>by
  &n,_,rfl:=aAc.mp f;&b,e:=e33 n;PM b,g0 e
 @:∀ x,∃ b:Bool,x∈srcL _->c.H 13 33 _:=λx=>by
  by_cases q:x∈srcL (.str z)
  ·&b,h:=f x q;PM b,λ_=>h
  ·PM PU,λh=>absurd h q
 &g,hg:=Classical.skolem.mp this;@k:aV .len (.d (.str z)) []=dd (.int z°):=by
  show(if z°<=Ld then _ else _)=_;rw[Lj (aAq hz (by decide))]
 @j:(srcL (.str z))°<=Ld:=by
  show(z.cps.toList.map _)°<=_;rw[aAa];~aAq hz (by decide)
 @:∃ b,E [(33,fam (srcL (.str z)) [] λx=>.bl (g x))] 35 [.d (.str z),.d (.int m)] []=bb b:=by
  rw[e35,k,dr λx h=>h,Lh j,aAf.mpr λx f=>by &y,_,rfl:=aAc.mp f;rfl];show ∃ b,(bif decide _ then bb PV else bb _)=bb b;~a7 ⟨PV,rfl⟩ ⟨_,rfl⟩
 &b,e:=this;PM b,go (ac (go (ac (H_fam λx f=>hg x f) af) e) af) ((Ke z m b).trans ah)
~Kf(z)(l):E [] 34 [.d (.str z),.d (ch l)] []=(ak (av .inn (.d (.str z)) (.d (.tup l)) [])~>dd (ae (av .inn (.d (.str z)) (.d (.tup l)) []))):=IO
~Ei(h:l.all aH=PU)(z):VT c 13 (.str z) (ch l):=⟨_,g0 ((Kf z l).trans (by
 @e:av .inn (.d (.str z)) (.d (.tup l)) []=dd (.bl (inD (.str z) l)):=by
  show(if aH _ && l.all aH then _ else _)=_;rw[h]
  rfl
 rw[e]
 rfl))⟩
~sk1{l:PQ Dt}(h:∀ x∈l,VT c N x k):∃ g:Dt->Bool,∀ x∈l,c.H N 34 (ent [.d x,.d k] [] (bb (g x))):=by
 @:∀ x,∃ b:Bool,x∈l->c.H N 34 _:=λx=>by
  by_cases q:x∈l
  ·&b,h:=h x q;PM b,λ_=>h
  ·PM PU,λh=>absurd h q
 &g,hg:=Classical.skolem.mp this;PM g,λx e=>hg x e
~Kg(k)(m)(l)(g):E [(34,fam l [.d k] g)] 34 [.d (.tup [.str "list",.tup l]),.d (ls k m)] []=bif decide (m < (l°))then bb PV else l.all (λx=>bif pb (x∈l/\[Av.d k]=[.d k]/\([]:Sto)=[])then PU else PV)~>decide (l°<=Ld)~>(l.map g).all isB~>bb ((l.map g).all bv):=IO
~Hx(f:l°<=1000)(h:∀ x∈l,VT c N x k):VT c (N+13) (.tup [.str "list",.tup l]) (ls k m):=by
 &g,hg:=sk1 h;@:∃ b,E [(34,fam l [.d k] λx=>.bl (g x))] 34 [.d (.tup [.str "list",.tup l]),.d (ls k m)] []=bb b:=by
  rw[Kg,dr λx h=>h,Lh (aAq f (by decide)),aAf.mpr λx a=>by &y,_,rfl:=aAc.mp a;rfl];~a7 ⟨PV,rfl⟩ ⟨_,rfl⟩
 &b,e:=this;PM b,go (ac (H_fam λx a=>hg x a) af) e
~Kh(vs fs)(b):E [(38,ent [.d (rc vs),.d (.tup fs)] [] (bb b))] 34 [.d (rc vs),.d (rc fs)] []=q [.d (rc vs),.d (.tup fs)] [] (bb b):=IO
§F39(g:Dt->Dt->Bool):PQ Av->Sto->Rs Av
 |[.d p,.d f],S=>.ok (.d (.bl (g p f))) S
 |_,_=>.bad
§zz(vs fs:PQ Dt):PQ Dt:=(vs.zip fs).map λp=>.tup [p.1,p.2]
~e38(vs fs)(g):E [(39,sem c N 39 (F39 g))] 38 [.d (rc vs),.d (.tup fs)] []=bif !eqD (.int (vs°)) (.int (fs°))then bb PV else (zz vs fs).all (λx=>bif bZ 2 x then bif hg c N 39 (F39 g) [.d (ag 0 x),.d (ag 1 x)] []then PU else PV else PV)~>decide ((zz vs fs)°<=Ld)~>((zz vs fs).map λx=>.bl (g (ag 0 x) (ag 1 x))).all isB~>bb (((zz vs fs).map λx=>.bl (g (ag 0 x) (ag 1 x))).all bv):=IO
~e39(a a')(v k)(b):E [(34,ent [.d v,.d k] [] (bb b))] 39 [.d (.tup [.str a,v]),.d (.tup [.str a',k])] []=bif a == a' then q [.d v,.d k] [] (bb b)else bb false:=IO
~Aa(h:VT c N v k):∃ d,c.H (N+13) 39 (ent [.d (.tup [.str a,v]),.d (.tup [.str a',k])] [] (bb d)):=by
 &d,f:=h;&e,b:=a7 ⟨d,ah⟩ ⟨PV,rfl⟩;PM e,go (ac f af) ((e39 a a' v k d).trans b)
~wy{i l:Fs}(v:i°<=1000)(h:∀ z∈i.zip l,VT c N z.1.2 z.2.2):VT c (N+39) (rf i) (rf l):=by
 @o:∀ x∈zz (i.map pr) (l.map pr),∃ b p n,x=.tup [p,n]/\c.H (N+13) 39 (ent [.d p,.d n] [] (bb b)):=λx k=>by
  unfold zz at k;rw[aCk,aAz]at k;&z,u,rfl:=aAc.mp k;&d,f:=Aa (a:=z.1.1) (a':=z.2.1) (h z u);PM d,_,_,rfl,f
 @:∀ y:Dt×Dt,∃ b:Bool,∀ d,c.H (N+13) 39 (ent [.d y.1,.d y.2] [] (bb d))->c.H (N+13) 39 _:=λy=>by
  by_cases q:∃ d,c.H (N+13) 39 (ent [.d y.1,.d y.2] [] (bb d))
  ·&d,f:=q;PM d,λ_ _=>f
  ·PM PU,λd f=>absurd ⟨d,f⟩ q
 &g,r:=Classical.skolem.mp this;@t:((zz (i.map pr) (l.map pr)).all λx=>bif bZ 2 x then bif hg c (N+13) 39 (F39 λa b=>g (a,b)) [.d (ag 0 x),.d (ag 1 x)] []then PU else PV else PV)=true:=aAf.mpr λx k=>by
  &b,p,n,rfl,f:=o x k;rw[bq (r (p,n) b f)]
  rfl
 @s:(zz (i.map pr) (l.map pr))°<=Ld:=by
  PL zz;rw[aAa,aA0,aAa];~aAq (Nat.min_le_left _ _) (aAq v (by decide))
 @:∃ b,E [(39,sem c (N+13) 39 (F39 λa b=>g (a,b)))] 38 [.d (rf i),.d (.tup (l.map pr))] []=bb b:=by
  rw[e38,t,Lh s,aAf.mpr λx k=>by &y,_,rfl:=aAc.mp k;rfl];~a7 ⟨PV,rfl⟩ ⟨_,rfl⟩
 &b,e:=this;PM b,go (ac (a:=(38,_)) (go (N:=N+13) (ac (a:=(39,_)) aJ af) e) af) ((Kh _ _ b).trans ah)
¶vR(l:PQ Dt):Dt:=.tup [.str "rows",.tup l]
~Ki(a)(l)(k)(m)(b d):E [(37,ent [.d (vR l),.d (.str "rows"),.d k,.d (.int m)] [] (bb b)),(40,ent [.d (.tup l),.d (.str a)] [] (bb d))] 34 [.d (vR l),.d (rw' (.str a) k m)] []=q [.d (vR l),.d (.str "rows"),.d k,.d (.int m)] [] (bif b then q [.d (.tup l),.d (.str a)] [] (bb d)else bb PV):=IO
~e37(k)(m)(l)(g):E [(34,fam l [.d k] g)] 37 [.d (vR l),.d (.str "rows"),.d k,.d (.int m)] []=bif decide (m < (l°))then bb PV else l.all (λx=>bif pb (x∈l/\[Av.d k]=[.d k]/\([]:Sto)=[])then PU else PV)~>decide (l°<=Ld)~>(l.map g).all isB~>bb ((l.map g).all bv):=IO
~e40(a)(l)(g):E [(41,fam l [.d (.str a)] g)] 40 [.d (.tup l),.d (.str a)] []=(l.all (λx=>bif pb (x∈l/\[Av.d (.str a)]=[.d (.str a)]/\([]:Sto)=[])then PU else PV)~>decide (l°<=Ld)~>(prs (l.map g)).all (λx=>bif bZ 2 x then bif ak (av .lt (.d (ag 0 x)) (.d (ag 1 x)) [])then PU else PV else PV)~>decide ((prs (l.map g))°<=Ld)~>((prs (l.map g)).map lt2).all isB~>bb (((prs (l.map g)).map lt2).all bv)):=IO
§wz(P:Dt->Prop):Prop:=∀ a b,P a->P b->ak (av .lt (.d a) (.d b) [])=PU/\isB (ae (av .lt (.d a) (.d b) []))=PU
~wA:wz λd=>∃ i,d=.int i:=by rintro _ _ ⟨i,rfl⟩ ⟨j,rfl⟩;PM rfl,rfl
~wB:wz λd=>∃ i,d=.str i:=by rintro _ _ ⟨i,rfl⟩ ⟨j,rfl⟩;PM rfl,rfl
~wC(h:x∈prs l):∃ a∈l,∃ b∈l,x=.tup [a,b]:=by
 &⟨a,b⟩,d,rfl:=aAc.mp h;@c:=aBo d;!⟨a,c.1,b,?_,rfl⟩;~List.mem_of_mem_drop (List.mem_of_mem_take c.2)
~Ej(t:wz P)(s:l°<=1000)(h:∀ x∈l,∃ n:Fs,x=rf n/\P (lk n e)):∃ b,c.H 26 40 (ent [.d (.tup l),.d (.str e)] [] (bb b)):=by
 @:∀ x,∃ d:Dt,x∈l->P d/\c.H 13 41 (ent [.d x,.d _] [] (dd d)):=λx=>by
  by_cases q:x∈l
  ·&n,rfl,m:=h x q;PM _,λ_=>⟨m,h41 n e⟩
  ·PM .non,λh=>absurd h q
 &g,hg:=Classical.skolem.mp this;@m:∀ x∈prs _,∃ a b,x=.tup [a,b]/\P a/\P b:=λx i=>by
  &a,j,b,k,rfl:=wC i;&y,p,rfl:=aAc.mp j;&z,v,rfl:=aAc.mp k;PM _,_,rfl,(hg y p).1,(hg z v).1
 @A:((prs _).all λx=>bif bZ 2 x then bif ak (av _ (.d (ag 0 x)) (.d (ag 1 x)) [])then PU else PV else PV)=true:=aAf.mpr λx i=>by
  &a,b,rfl,j,k:=m x i;show(bif ak (av _ (.d a) (.d b) [])then PU else PV)=PU;rw[(t a b j k).1]
  rfl
 @B:((prs _).map lt2).all isB=true:=aAf.mpr λx i=>by
  &y,p,rfl:=aAc.mp i;&a,b,rfl,j,k:=m y p;~(t a b j k).2
 @w:(prs (l.map g))°<=Ld:=aAq pG (by rw[aAa];~aAq s (by decide));~⟨_,go (ac (H_fam λx i=>(hg x i).2) af) ((e40 e l g).trans (by
  rw[dr λx h=>h,Lh (aAq s (by decide)),A,Lh w,B]
  rfl))⟩
~Ek(p:wz P)(o:l°<=1000)(h:∀ x∈l,VT c N x k)(t:∀ x∈l,∃ n:Fs,x=rf n/\P (lk n a)):VT c (N+39) (vR l) (rw' (.str a) k m):=by
 &g,hg:=sk1 h;@:∃ b,E [(34,fam l [.d k] λx=>.bl (g x))] 37 [.d (vR l),.d (.str "rows"),.d k,.d (.int m)] []=bb b:=by
  rw[e37,dr λx h=>h,Lh (aAq o (by decide)),aAf.mpr λx i=>by &y,_,rfl:=aAc.mp i;rfl];~a7 ⟨PV,rfl⟩ ⟨_,rfl⟩
 &b,e:=this;&d,j:=Ej p o t;@f:=go (ac (H_fam λx i=>hg x i) af) e;&r,s:=a7 ⟨d,ah⟩ ⟨PV,rfl⟩;PM r,go (ac (up f or) (ac (up j or) af)) ((Ki a l k m b d).trans (ah.trans s))
¶SIG:Str:= "a-|170 b"
~e93(x m):E [] 93 [.r 0,.d (.int m)] [rw1 x]=bif PU && inR (iv (ae (blt2 .min (.d (.int m)) (.d (.int (x % 6))) [])))then(tidy 1 (aU ((aL [] (.nm 3) (Lp tx [] 93 1) (rngL 0 1 (iv (ae (blt2 .min (.d (.int m)) (.d (.int (x % 6))) []))).toNat) [PN (.r 0),PN (.d (.int m)),PN (.d (.str "")),PR] [rw1 (x / 6)]).bind λf S1=>match f with
  |.nx env=>(eU 2 env S1).bind (λa S1=>.ok (Fl.rt a) S1) |> (·.bind λf S1=>match f with | .nx b=>.ok (.nx b) S1 | f=>.ok f S1)
  |f=>.ok f S1))).res else .bad:=IO
~f93(x m)(k)(u)(t)(l):(aL [] (.nm 3) (Lp tx [] 93 1) (k :: l) [PN (.r 0),PN (.d (.int m)),PN (.d (.str t)),u] [rw1 x]).res=(ak (ixA (.d (.str SIG)) (.d (.int (x % 8))) [])~>ak (aj .add (.d (.str t)) (.d (ae (ixA (.d (.str SIG)) (.d (.int (x % 8))) []))) [])~>(aL [] (.nm 3) (Lp tx [] 93 1) l [PN (.r 0),PN (.d (.int m)),PN (.d (ae (aj .add (.d (.str t)) (.d (ae (ixA (.d (.str SIG)) (.d (.int (x % 8))) []))) []))),PN (.d k)] [rw1 (x / 8)]).res):=IO
~sig(x):∃ n,ixA (.d (.str SIG)) (.d (.int (x % 8))) []=dd (.str ⟨#[n]⟩):=by
 @:x % 8=0\/x % 8=1\/x % 8=2\/x % 8=3\/x % 8=4\/x % 8=5\/x % 8=6\/x % 8=7:=or
 rcases this with h | h | h | h | h | h | h | h <;> rw[h]
 ·~⟨97,IO⟩
 ·~⟨45,IO⟩
 ·~⟨124,IO⟩
 ·~⟨49,IO⟩
 ·~⟨55,IO⟩
 ·~⟨48,IO⟩
 ·~⟨32,IO⟩
 ·~⟨98,IO⟩
~Ab(h:t°<=1000):∃ t',aj .add (.d (.str t)) (.d (.str ⟨#[n]⟩)) []=dd (.str t')/\t'°=t°+1:=by
 !⟨⟨t.cps++#[n]⟩,?_,?_⟩
 ·show(if t°+1<=Ld then _ else _)=_;rw[Lj (aAq (aB4 h) (by decide))]
  rfl
 ·show(t.cps++#[n]).size=t.cps.size+1;rw[Array.size_append]
  rfl
~wD(m):∀ (l) (t) (x) (u),t°+l°<=1000->∃ t' y a,(aL [] (.nm 3) (Lp tx [] 93 1) l [PN (.r 0),PN (.d (.int m)),PN (.d (.str t)),u] [rw1 x]).res=.ok (.nx [PN (.r 0),PN (.d (.int m)),PN (.d (.str t')),a]) [rw1 y]/\t'°=t°+l°
 |[],t,x,u,_=>⟨t,x,u,rfl,rfl⟩
 |k :: l,t,x,u,g=>by
  rw[aAv]at g;&n,i:=sig x;&j,f,c:=Ab (show t°<=1000 by on);&t',y,a,e,h:=wD m l j _ _ or;!⟨t',y,a,?_,by rw[h,c,aAv];on⟩;rw[f93,i];show(ak (aj _ _ (.d (.str _)) [])~>(aL [] _ _ l [PN _,PN _,PN (.d (ae (aj _ _ (.d (.str _)) []))),PN _] _).res)=_;rw[f];~e
~d93(h0:0<=m)(x):∃ z y,c.H 13 93 (ent [.r 0,.d (.int m)] [rw1 x] (.ok (.d (.str z)) [rw1 y]))/\z°<=5:=by
 @f:∃ j:Int,ae (blt2 .min (.d (.int m)) (.d (.int (x % 6))) [])=.int j/\j<=5/\0<=j:=by
  !⟨_,rfl,?_⟩
  split <;> on
 &j,i,n,o:=f;@b:(rngL 0 1 j.toNat)°=j.toNat:=by PL rngL;rw[aAa,aBr]
 &k,y,l,e,h:=wD m _ "" _ PR (by rw[b];show 0+_<=_;on);!⟨k,y,go af ((e93 x m).trans ?_),by rw[h,b];show 0+_<=_;on⟩;rw[i];show(bif inR j then _ else _)=_;rw[dq.mpr ⟨or,or⟩];show(tidy 1 (aU ((aL [] _ _ (rngL 0 1 j.toNat) _ _).bind _))).res=_;rw[aC,aE,Rs.bindRes,e]
 rfl
~e94(x a b):E [] 94 [.r 0,.d (.int a),.d (.int b)] [rw1 x]=bif x % 6 == 0 then .ok (.d (.int a)) [rw1 (x / 6)]else bif x % 6 == 1 then .ok (.d (.int b)) [rw1 (x / 6)]else ak (aj .mod (.d (.int (x / 6))) (.d (.int (b - a+1))) [])~>ak (aj .fdiv (.d (.int (x / 6))) (.d (.int (b - a+1))) [])~>ak (aj .add (.d (.int a)) (.d (ae (aj .mod (.d (.int (x / 6))) (.d (.int (b - a+1))) []))) [])~>.ok (.d (ae (aj .add (.d (.int a)) (.d (ae (aj .mod (.d (.int (x / 6))) (.d (.int (b - a+1))) []))) []))) [.lst [ae (aj .fdiv (.d (.int (x / 6))) (.d (.int (b - a+1))) [])]]:=IO
~bK(h:0 < d):aj .mod (.d (.int x)) (.d (.int d)) []=dd (.int (x % d)):=by
 show(match (if 0 < d then PN _ else PR)with | PN x=>Rs.ok (Av.d x) [] | PR=>.bad)=_;rw[Lj h]
~dY(h:0 < d)(a:d<=10 ^ 40):aj .fdiv (.d (.int x)) (.d (.int d)) []=dd (.int (x / d)):=by
 show(match (if 0 < d/\d < 10000000000000000000000000000000000000000000000000000000000000 then PN _ else PR)with | PN x=>Rs.ok (Av.d x) [] | PR=>.bad)=_;rw[Lj ⟨h,or⟩]
~d94(i:-10 ^ 30<=a)(j:a<=b)(h:b<=10 ^ 30)(x):∃ v y,c.H 13 94 (ent [.r 0,.d (.int a),.d (.int b)] [rw1 x] (.ok (.d (.int v)) [rw1 y])):=by
 @e:=e94 x a b;rw[bK or,dY or or]at e
 #f:x % 6 == 0 with
 |true=>rw[f]at e;PM _,_,go af e
 |false =>
  #g:x % 6 == 1 with
  |true=>rw[f,g]at e;PM _,_,go af e
  |false=>rw[f,g]at e;PM _,_,go af e
~Kj(x y)(a b)(v):E [(94,ent [.r 0,.d (.int a),.d (.int b)] [rw1 x] (.ok (.d v) [rw1 y]))] 96 [.r 0,.d (nm a b)] [rw1 x]=q [.r 0,.d (.int a),.d (.int b)] [rw1 x] (.ok (.d v) [rw1 y]):=IO
~Kk(x y)(a)(v):E [(93,ent [.r 0,.d (.int a)] [rw1 x] (.ok (.d v) [rw1 y]))] 96 [.r 0,.d (tx' a)] [rw1 x]=q [.r 0,.d (.int a)] [rw1 x] (.ok (.d v) [rw1 y]):=IO
~Kl(x)(l):E [] 96 [.r 0,.d (ch l)] [rw1 x]=(ak (aj .mod (.d (.int x)) (.d (.int (l°))) [])~>ak (aj .fdiv (.d (.int x)) (.d (.int (l°))) [])~>ak (ixA (.d (.tup l)) (.d (ae (aj .mod (.d (.int x)) (.d (.int (l°))) []))) [])~>.ok (.d (ae (ixA (.d (.tup l)) (.d (ae (aj .mod (.d (.int x)) (.d (.int (l°))) []))) []))) [.lst [ae (aj .fdiv (.d (.int x)) (.d (.int (l°))) [])]]):=IO
§Ac(C:PQ Av->Mo Av):En->Mo (PY Dt):=dEl (Dq λenv S=>(eU 0 env S).bind λx S1=>((vi C (λenv S=>(eU 2 env S).bind λr S1=>((eU 1 env S1).bind λo S2=>(Rs.ok [] S2).bind λxs S3=>.ok (o :: xs) S3).bind λxs S2=>.ok (r :: xs) S2) env S1).bind λx S1=>(Rs.ok [] S1).bind λxs S2=>.ok (x :: xs) S2).bind λxs S2=>.ok (x :: xs) S2)
~e95(F)(x)(l):E [(96,sem c N 96 F)] 95 [.r 0,.d (rc l)] [rw1 x]=(RFc (ai 1 [] (.tp [0,1]) (Ac (sem c N 96 F)) l [PR,PR,PN (.r 0)] [rw1 x,.lst []])).res:=IO
§FV(kv:Int->Dt->Dt)(kx:Int->Dt->Int):PQ Av->Sto->Rs Av
 |[.r 0,.d k],.lst [.int x] :: S=>.ok (.d (kv x k)) (.lst [.int (kx x k)] :: S)
 |_,_=>.bad
~f95(f)(e)(x)(a)(k)(l b)(u v):(ai 1 [] (.tp [0,1]) (Ac (sem c N 96 (FV f e))) (.tup [.str a,k] :: l) [u,v,PN (.r 0)] [rw1 x,.lst b]).res=(hg c N 96 (FV f e) [.r 0,.d k] [rw1 x]~>(if b° < Ld then ai 1 [] (.tp [0,1]) (Ac (sem c N 96 (FV f e))) l [PN (.d (.str a)),PN (.d k),PN (.r 0)] [rw1 (e x k),.lst (b++[.tup [.str a,f x k]])]else .bad).res):=IO
§Vl(c:Ct)(N:Nat)(P:Dt->Dt->Prop)(k:Dt):Prop:=∀ x,∃ v y,c.H N 96 (ent [.r 0,.d k] [rw1 x] (.ok (.d v) [rw1 y]))/\P v k
~Vl.up(h:Vl c N P k)(l:N<=M):Vl c M P k:=λx=>by &v,y,a,b:=h x;PM v,y,Q27.up a l,b
~wE{P:Dt->Dt->Prop}:∀ (fs:Fs) (a:PQ Dt) (x:Int) (u v:PY Av),(∀ p∈fs,∀ x,c.H N 96 (ent [.r 0,.d p.2] [rw1 x] (.ok (.d (g x p.2)) [rw1 (j x p.2)]))/\P (g x p.2) p.2)->a°+fs°<=1000->∃ (b:Fs) (y:Int),(ai 1 [] (.tp [0,1]) (Ac (sem c N 96 (FV g j))) (fs.map pr) [u,v,PN (.r 0)] [rw1 x,.lst a]).res=.ok () [rw1 y,.lst (a++b.map pr)]/\b.map (·.1)=fs.map (·.1)/\∀ z∈b.zip fs,P z.1.2 z.2.2
 |[],a,x,u,v,_,_=>⟨[],x,by show _=Rs.ok () [rw1 x,.lst (a++[])];rw[aAA];rfl,rfl,λ_ h=>nomatch h⟩
 |p :: fs,a,x,u,v,h,m=>by
  rw[aAv]at m;&o,s:=h p aAe x;&b,y,e,n,l:=wE fs (a++[.tup [.str p.1,g x p.2]]) (j x p.2) (PN (.d (.str p.1))) (PN (.d p.2)) (λq k=>h q (aAk _ k)) (by rw[aAi];show _+1+_<=_;on);!⟨(p.1,g x p.2) :: b,y,?_,by rw[aAr,aAr,n],λz f=>?_⟩
  ·rw[aAr];show(ai 1 [] (.tp [0,1]) _ (.tup [.str p.1,p.2] :: fs.map pr) _ _).res=_;rw[f95,bq (o),Lj (show a° < Ld by show _ < 16777216;on)];rw[aAO]at e;~e
  ·rw[aBJ]at f;rcases aAl.mp f with rfl | f
   ·~s
   ·~l z f
~Hy{ks:PQ Dt}(h:∀ k∈ks,Vl c N P k):∃ (f:Int->Dt->Dt) (i:Int->Dt->Int),∀ k∈ks,∀ x,c.H N 96 (ent [.r 0,.d k] [rw1 x] (.ok (.d (f x k)) [rw1 (i x k)]))/\P (f x k) k:=by
 @:∀ z:Int×Dt,∃ w:Dt×Int,z.2∈ks->c.H N 96 (ent _ _ (.ok (.d w.1) [rw1 w.2]))/\P w.1 _:=λz=>by
  by_cases q:z.2∈ks
  ·&v,y,a,b:=h _ q z.1;PM(v,y),λ_=>⟨a,b⟩
  ·PM(.non,0),λh=>absurd h q
 &g,hg:=Classical.skolem.mp this;PM λx k=>(g _).1,λx k=>(g _).2,λk j x=>hg (x,k) j
~d95{fs:Fs}(h:∀ p∈fs,Vl c N P p.2)(m:fs°<=20)(x:Int):∃ (a:Fs) (y:Int),c.H (N+13) 95 (ent [.r 0,.d (rf fs)] [rw1 x] (.ok (.d (rf a)) [rw1 y]))/\a.map (·.1)=fs.map (·.1)/\∀ z∈a.zip fs,P z.1.2 z.2.2:=by
 &l,g,b:=Hy λk b=>by &p,f,rfl:=aAc.mp b;~h p f
 &a,y,e,j,i:=wE fs [] x PR PR (λp f=>b p.2 (aBF f)) (by show 0+_<=_;on);!⟨a,y,go (ac aJ af) ((e95 (FV l g) x (fs.map pr)).trans ?_),j,i⟩;rw[f7,e]
 rfl
~Km(x y)(l)(v):E [(95,ent [.r 0,.d (rc l)] [rw1 x] (.ok (.d v) [rw1 y]))] 96 [.r 0,.d (rc l)] [rw1 x]=q [.r 0,.d (rc l)] [rw1 x] (.ok (.d v) [rw1 y]):=IO
structure Vk(c:Ct)(v k:Dt):Prop where
 t:VT c (39*k.dep) v k
 d:v.dep<=2*k.dep
 n:∀ a b,k=nm a b->∃ i,v=.int i
 s:∀ m,k=tx' m->∃ z,v=.str z
~Hz(h:l∈CH)(x):∃ z y,E [] 96 [.r 0,.d (ch l)] [rw1 x]=.ok (.d (.str z)) [rw1 y]:=by
 @e:=Kl x l;@a:0 < (l°:Int)/\(l°:Int)<=10 ^ 40:=by
  PK[CH,aAl,aAu,LN]at h;rcases h with rfl | rfl | rfl <;> ~⟨by decide,by decide⟩
 rw[bK a.1,dY a.1 a.2]at e;@:∃ z,ixA (.d (.tup l)) (.d (.int (x % (l°)))) []=dd (.str z):=by
  PK[CH,aAl,aAu,LN]at h;rcases h with rfl | rfl | rfl
  ·@:x % 4=0\/x % 4=1\/x % 4=2\/x % 4=3:=or
   show ∃ z,ixA _ (.d (.int (x % 4))) []=_;rcases this with h | h | h | h <;> rw[h]
   ·~⟨"b",IO⟩
   ·~⟨"a",IO⟩
   ·~⟨"no",IO⟩
   ·~⟨"yes",IO⟩
  ·@:x % 3=0\/x % 3=1\/x % 3=2:=or
   show ∃ z,ixA _ (.d (.int (x % 3))) []=_;rcases this with h | h | h <;> rw[h]
   ·~⟨"a",IO⟩
   ·~⟨"no",IO⟩
   ·~⟨"yes",IO⟩
  ·@:x % 2=0\/x % 2=1:=or
   show ∃ z,ixA _ (.d (.int (x % 2))) []=_;rcases this with h | h <;> rw[h]
   ·~⟨"no",IO⟩
   ·~⟨"yes",IO⟩
 &z,b:=this;!⟨z,x / (l°),e.trans ?_⟩;show(bif ak (ixA _ (.d (.int _)) [])then Rs.ok (Av.d (ae (ixA _ (.d (.int _)) []))) _ else _)=_;rw[b]
 rfl
~vlf(h:Lf k):Vl c 26 (Vk c) k:=λx=>by
 #h with
 |num a b g i n =>
  &v,y,d:=d94 g i n x;~⟨_,y,go (ac d af) ((Kj x y a b _).trans ah),(Eg v a b).up (by PK[Dt.dep];on),by PK[Dt.dep];on,λ_ _ _=>⟨v,rfl⟩,λm e=>(by #e)⟩
 |txt m g i =>
  &z,y,d,o:=d93 g x;~⟨_,y,go (ac d af) ((Kk x y m _).trans ah),(Eh or m).up (by PK[Dt.dep];on),by PK[Dt.dep];on,λ_ _ e=>(by #e),λ_ _=>⟨z,rfl⟩⟩
 |cho l f =>
  &z,y,e:=Hz f x;@j:l.all aH=true:=by
   PK[CH,aAl,aAu,LN]at f;rcases f with rfl | rfl | rfl <;> decide
  ~⟨_,y,up (go (N:=0) af e) or,(Ei j z).up (by PK[Dt.dep];on),by PK[Dt.dep];on,λ_ _ e=>(by #e),λ_ e=>(by #e)⟩
~kj:∀ {l}{x},x∈l->x.dep<=al l
 |y :: l,x,h=>by
  rcases aAl.mp h with rfl | h
  ·~Nat.le_max_left _ _
  ·~aAq (kj h) (Nat.le_max_right _ _)
~wF(w:fs°<=20)(r:g.map (·.1)=fs.map (·.1))(hz:∀ z∈g.zip fs,Vk c z.1.2 z.2.2):Vk c (rf g) (rf fs):=by
 @o:g°=fs°:=by @:=Mg List.length r;rwa [aAa,aAa]at this
 @l:∀ p∈fs,p.2.dep+3<=(rf fs).dep:=λp m=>by
  @:(pr p).dep<=al (fs.map pr):=kj (aBF m);@e:(pr p).dep=1+p.2.dep:=by PL pr;PK[Dt.dep,al];on
  PK[Dt.dep,al];on
 !⟨?_,?_,λ_ _ e=>(by #e),λ_ e=>(by #e)⟩
 ·#fs with
  |nil =>
   @:=aBU o;subst this;~(wy (N:=0) (by decide) λz hz=>(by #hz)).up (by PK[Dt.dep,al,List.map];on)
  |cons p fs =>
   @:=l p aAe;!(wy (N:=39*((rf (p :: fs)).dep - 3)) or λz j=>(hz z j).t.up ?_).up or;@:=l z.2 (aBo j).2;on
 ·#fs with
  |nil =>
   @:=aBU o;subst this;on
  |cons h fs =>
   @v:=l h aAe;@:(rf g).dep<=2*((rf (h :: fs)).dep - 3)+3:=rf_dep λp m=>by
    &i,x,rfl:=aAS.mp m;@n:i < (h :: fs)°:=or
    @s:(g[i],(h :: fs)[i])∈g.zip (h :: fs):=aAS.mpr ⟨i,by rw[aA0];on,by rw[aB6]⟩;@a:=(hz _ s).d;@b:=l _ (aA3 n);@u:(g[i]).2.dep<=2*((h :: fs)[i]).2.dep:=a;on
   on
~Kn(a:fs°<=20)(h:∀ p∈fs,Vl c N (Vk c) p.2):Vl c (N+26) (Vk c) (rf fs):=λx=>by
 &f,y,e,b,d:=d95 h a x;PM _,y,go (ac e af) ((Km x y _ _).trans ah),wF a b d
§Bk(l:PQ (Nat×Sp1))(i k:Nat):En->Mo Fl:=
 match cBk (cS (tx.tb λj=>match l.lookup j with
   |some s=>s
   |none=>Sk tx l 5 j) tx.xs 30 (ar (tx.top i)) (da (tx.top i)) 30) ((aM (tx.top i)).drop k)with
  |some b=>b.f
  |none=>λ_ _=>.bad
§RFw(w:Str)(B:En->Mo Fl)(r:Rs Unit):Rs Av:=tidy 1 (aU (((((((tidy 1 ((((bQ r).bind λ_ S2=>.ok (.r 1) S2).bind fun(x:Av) S1=>Rs.ok [x] S1).bind λvs S1=>eT .tuple vs S1)).bind fun(y:Av) S1=>Rs.ok [y] S1).bind λxs S1=>Rs.ok (Av.d (.str w) :: xs) S1).bind λvs S1=>(match cn vs with | PN l=>if l°<=Ld then Rs.ok (Av.d (.tup l)) S1 else .bad | PR=>.bad)).bind λa S1=>Rs.ok (Fl.rt a) S1).bind λf S1=>match f with
 |.nx env'=>.ok (.nx env') S1
 |f=>.ok f S1).bind λf S1=>match f with
 |.nx env'=>B env' S1
 |f=>.ok f S1))
~km:∀ r:Rs Unit,(RFw w B r).res=(RFw w B r.res).res
 |.ok _ _ | .ex _ _ | .bad=>rfl
 |.br PU x y=>km x
 |.br PV x y=>km y
§rN(i j:Nat)(C:PQ Av->Mo Av):En->Mo (PY Dt):=dEl (vi C (λenv S=>(eU i env S).bind λr S1=>((tidy S1° ((eU j env S1).bind λx S1=>(Rs.ok (.d (.int 1)) S1).bind λy S2=>ixB x y S2)).bind λo S2=>(Rs.ok [] S2).bind λxs S3=>.ok (o :: xs) S3).bind λxs S2=>.ok (r :: xs) S2))
~Ko(F)(x m)(k):E [(96,sem c N 96 F)] 96 [.r 0,.d (ls k m)] [rw1 x]=(ak (aj .mod (.d (.int x)) (.d (.int (m+1))) [])~>ak (aj .fdiv (.d (.int x)) (.d (.int (m+1))) [])~>isI (ae (aj .mod (.d (.int x)) (.d (.int (m+1))) [])) && inR (iv (ae (aj .mod (.d (.int x)) (.d (.int (m+1))) [])))~>(RFw "list" (Bk [(96,sem c N 96 F)] 96 5) (ai 1 [] (.nm 0) (rN 2 1 (sem c N 96 F)) (rngL 0 1 (iv (ae (aj .mod (.d (.int x)) (.d (.int (m+1))) []))).toNat) [PR,PN (.d (ls k m)),PN (.r 0)] [.lst [ae (aj .fdiv (.d (.int x)) (.d (.int (m+1))) [])],.lst []])).res):=IO
~Kp(e)(b)(x m)(k d)(l a)(u):(ai 1 [] (.nm 0) (rN 2 1 (sem c N 96 (FV e b))) (d :: l) [u,PN (.d (ls k m)),PN (.r 0)] [rw1 x,.lst a]).res=(hg c N 96 (FV e b) [.r 0,.d k] [rw1 x]~>(if a° < Ld then ai 1 [] (.nm 0) (rN 2 1 (sem c N 96 (FV e b))) l [PN (.d d),PN (.d (ls k m)),PN (.r 0)] [rw1 (b x k),.lst (a++[e x k])]else .bad).res):=IO
~wG{P:Dt->Dt->Prop}(h:∀ x,c.H N 96 (ent [.r 0,.d k] [rw1 x] (.ok (.d (b x k)) [rw1 (g x k)]))/\P (b x k) k):∀ (l a) (x) (u),a°+l°<=1000->∃ (vs:PQ Dt) (y:Int),(ai 1 [] (.nm 0) (rN 2 1 (sem c N 96 (FV b g))) l [u,PN (.d (ls k m)),PN (.r 0)] [rw1 x,.lst a]).res=.ok () [rw1 y,.lst (a++vs)]/\vs°=l°/\∀ v∈vs,P v k
 |[],a,x,u,_=>⟨[],x,by rw[aAA];rfl,rfl,λ_ h=>nomatch h⟩
 |d :: l,a,x,u,n=>by
  rw[aAv]at n;&i,p:=h x;&vs,y,e,s,o:=wG h l (a++[b x k]) _ _ (by rw[aAi];show _+1+_<=_;on);!⟨b x k :: vs,y,?_,by simp_all,λz f=>?_⟩
  ·rw[Kp,bq (i),Lj (show a° < Ld by show _ < 16777216;on)];rw[aAO]at e;~e
  ·rcases aAl.mp f with rfl | f
   ·~p
   ·~o z f
~vls{k:Dt}{m:Int}(h1:0<=m)(h2:m<=8)(hd:1<=k.dep)(h:Vl c N (Vk c) k):Vl c (N+13) (Vk c) (ls k m):=λx=>by
 &kv,kx,hk:=Hy (c:=c) (N:=N) (P:=Vk c) (ks:=[k]) λk' hk=>by rw[aAy.mp hk];~h
 @e:=Ko (c:=c) (N:=N) (FV kv kx) x m k;rw[bK or,dY or or]at e;@hn:0<=x % (m+1)/\x % (m+1) < m+1:=⟨aBT _ or,aBI _ or⟩;@hr:(rngL 0 1 (x % (m+1)).toNat)°=(x % (m+1)).toNat:=by PL rngL;rw[aAa,aBr]
 &vs,y,el,en,ez:=wG (m:=m) (hk k aAe) (rngL 0 1 (x % (m+1)).toNat) [] (x / (m+1)) PR (by rw[hr];show 0+_<=_;on);@ed:(ls k m).dep=k.dep+1:=by PK[Dt.dep,al];on
 !⟨.tup [.str "list",.tup vs],y,go (ac (a:=(96,_)) aJ af) (e.trans ?_),?_,?_,λ_ _ e=>(by #e),λ_ e=>(by #e)⟩
 ·show(inR (x % (m+1))~>(RFw "list" (Bk _ 96 5) (ai 1 [] (.nm 0) (rN 2 1 (sem c N 96 (FV kv kx))) (rngL 0 1 (x % (m+1)).toNat) [PR,PN (.d (ls k m)),PN (.r 0)] [rw1 (x / (m+1)),.lst []])).res)=_;rw[dq.mpr ⟨or,or⟩];show(RFw "list" (Bk _ 96 5) (ai 1 [] (.nm 0) (rN 2 1 (sem c N 96 (FV kv kx))) (rngL 0 1 (x % (m+1)).toNat) [PR,PN (.d (ls k m)),PN (.r 0)] [rw1 (x / (m+1)),.lst []])).res=_;rw[km,el]
  rfl
 ·rw[ed];~(Hx (m:=m) or λv hv=>(ez v hv).t).up or
 ·@:al vs<=2*k.dep:=bT λv hv=>(ez v hv).d;rw[ed];PK[Dt.dep,al];on
¶t96(c:Ct)(N:Nat)(F:PQ Av->Sto->Rs Av):PQ (Nat×Sp1):=[(95,sem c N 95 F)]
~Kq(F)(x m)(k):E (t96 c N F) 96 [.r 0,.d (rw' (.str "id") k m)] [rw1 x]=bif ak (aj .mod (.d (.int x)) (.d (.int (m+1))) [])then bif ak (aj .fdiv (.d (.int x)) (.d (.int (m+1))) [])then bif isI (ae (aj .mod (.d (.int x)) (.d (.int (m+1))) [])) && inR (iv (ae (aj .mod (.d (.int x)) (.d (.int (m+1))) [])))then(tidy 1 (aU ((aL [] (.nm 2) (Lp tx (t96 c N F) 96 6) (rngL 0 1 (iv (ae (aj .mod (.d (.int x)) (.d (.int (m+1))) []))).toNat) [PN (.r 0),PN (.d (rw' (.str "id") k m)),PR,PN (.r 1),PR] [.lst [ae (aj .fdiv (.d (.int x)) (.d (.int (m+1))) [])],.dic []]).bind λf S1=>match f with
  |.nx env=>Bk (t96 c N F) 96 7 env S1
  |f=>.ok f S1))).res else .bad else .bad else .bad:=IO
¶pId(l:PQ Dt):Dt:=(au (named (prs? l)) (.inr "id")).getD .non
¶rO(k:Dt)(m:Int)(u w:PY Av):En:=[PN (.r 0),PN (.d (rw' (.str "id") k m)),u,PN (.r 1),w]
~Kr(pv:Int->PQ Dt)(px)(x m)(k d)(l)(kvs)(u w):(aL [] (.nm 2) (Lp tx (t96 c N (FR (λx=>rc (pv x)) px)) 96 6) (d :: l) (rO k m u w) [rw1 x,.dic kvs]).res =
 (hg c N 95 (FR (λx=>rc (pv x)) px) [.r 0,.d k] [rw1 x]~>(pv x).all j5~>decide (((prs? (pv x)).map (·.1)).Nodup/\(prs? (pv x))°<=1000)~>(au (named (prs? (pv x))) (.inr "id")).isSome~>(aP? (pId (pv x))).isSome~>decide (kvs° < Ld)~>(aL [] (.nm 2) (Lp tx (t96 c N (FR (λx=>rc (pv x)) px)) 96 6) l (rO k m (PN (.d d)) (PN (.d (rc (pv x))))) [rw1 (px x),.dic (ck kvs ((aP? (pId (pv x))).getD (.inl 0)) (rc (pv x)))]).res):=IO
§elR:En->Mo (PY Dt):=dEl (λenv S=>tidy S° ((eU 1 env S).bind λx S1=>(eU 0 env S1).bind λy S2=>ixB x y S2))
§RFr(r:Rs Unit):Rs Fl:=((((((tidy 2 ((((bQ r).bind λ_ S2=>.ok (.r 2) S2).bind fun(x:Av) S1=>Rs.ok [x] S1).bind λvs S1=>eT .tuple vs S1)).bind fun(y:Av) S1=>Rs.ok [y] S1).bind λxs S1=>Rs.ok (Av.d (.str "rows") :: xs) S1).bind λvs S1=>(match cn vs with | PN l=>if l°<=Ld then Rs.ok (Av.d (.tup l)) S1 else .bad | PR=>.bad)).bind λa S1=>Rs.ok (Fl.rt a) S1).bind λf S1=>match f with
 |.nx env'=>.ok (.nx env') S1
 |f=>.ok f S1)
~f8:∀ r:Rs Unit,(RFr r).res=(RFr r.res).res
 |.ok _ _ | .ex _ _ | .bad=>rfl
 |.br PU x y=>f8 x
 |.br PV x y=>f8 y
~HA(F)(x m)(k)(u w)(kvs):(Bk (t96 c N F) 96 7 (rO k m u w) [rw1 x,.dic kvs]).res=bif kvs.all kS then decide ((kvs.map kSv)° < 64)~>(RFr (ai 2 [] (.nm 0) elR ((sortS (kvs.map kSv)).map .str) [PR,PN (.r 1)] [rw1 x,.dic kvs,.lst []])).res else kvs.all kI~>decide ((kvs.map kIv)° < 64)~>(RFr (ai 2 [] (.nm 0) elR ((sortI (kvs.map kIv)).map .int) [PR,PN (.r 1)] [rw1 x,.dic kvs,.lst []])).res:=IO
~Ks(kvs)(a xs)(z)(u)(x):(ai 2 [] (.nm 0) elR (.str z :: xs) [u,PN (.r 1)] [rw1 x,.dic kvs,.lst a]).res=((au kvs (.inr z)).isSome~>(if a° < Ld then ai 2 [] (.nm 0) elR xs [PN (.d (.str z)),PN (.r 1)] [rw1 x,.dic kvs,.lst (a++[(au kvs (.inr z)).getD .non])]else .bad).res):=IO
~Kt(kvs)(a xs)(z)(u)(x):(ai 2 [] (.nm 0) elR (.int z :: xs) [u,PN (.r 1)] [rw1 x,.dic kvs,.lst a]).res=((au kvs (.inl z)).isSome~>(if a° < Ld then ai 2 [] (.nm 0) elR xs [PN (.d (.int z)),PN (.r 1)] [rw1 x,.dic kvs,.lst (a++[(au kvs (.inl z)).getD .non])]else .bad).res):=IO
~f9:∀ {fs:Fs}{a}{v},(fs.map (·.1)).Nodup->(a,v)∈fs->au (named fs) (.inr a)=PN v
 |[],_,_,_,h=>nomatch h
 |(o,k) :: fs,a,v,b,h=>by
  rw[aAr,aAY]at b;show au ((Sum.inr o,k) :: named fs) _=_;rw[a9];rcases aAl.mp h with e | h
  ·#e;rw[Lj rfl]
  ·@:o≠a:=λe=>b.1 (e ▸ aAc.mpr ⟨_,h,rfl⟩);rw[Ln λe=>this (Sum.inr.inj e)];~f9 b.2 h
~wH(h:a∈ck kvs k v):a=(k,v)\/a∈kvs:=by
 unfold ck at h
 split at h
 ·&y,b,e:=aAc.mp h
  split at e
  ·rename_i q;left;rw[<- e,q]
  ·right;rw[<- e];~b
 ·rcases aAG.mp h with h | h
  ·~.inr h
  ·~.inl (aAy.mp h)
~wI:(ck kvs k v)°<=kvs°+1:=by
 PL ck
 split
 ·rw[aAa];on
 ·rw[aAi];~aAo _
~mr(h:(au kvs k).isSome=PU):∃ a∈kvs,a.2=(au kvs k).getD .non:=by
 unfold au at h ⊢
 #e:kvs.find? λa=>decide (a.1=k)with
 |none=>rw[e]at h;#h
 |some a=>PM a,aB0 e,rfl
structure KT where
 T:Key×Dt->Bool
 P:Dt->Prop
 lt:wz P
 k:∀ d,P d->∃ k,aP? d=PN k/\∀ v,T (k,v)=PU
§ktS:KT:=⟨kS,λd=>∃ i,d=.str i,wB,λd ⟨i,e⟩=>⟨.inr i,by rw[e];rfl,λ_=>rfl⟩⟩
§ktI:KT:=⟨kI,λd=>∃ i,d=.int i,wA,λd ⟨i,e⟩=>⟨.inl i,by rw[e];rfl,λ_=>rfl⟩⟩
§RW(c:Ct)(t:KT)(K v:Dt):Prop:=∃ ps:Fs,v=rf ps/\t.P (lk ps "id")/\Vk c v K
~p9{pv:Int->PQ Dt}(h:∀ x,c.H N 95 (ent [.r 0,.d k] [rw1 x] (.ok (.d (rc (pv x))) [rw1 (px x)]))/\∃ b:Fs,pv x=b.map pr/\(b.map (·.1)).Nodup/\b°<=20/\(("id" : Str),lk b "id")∈b/\t.P (lk b "id")/\Vk c (rf b) k):∀ (l) (kvs) (x) (u w),kvs°+l°<=20->(∀ f∈kvs,t.T f=PU/\RW c t k f.2)->∃ a y o w',(aL [] (.nm 2) (Lp tx (t96 c N (FR (λx=>rc (pv x)) px)) 96 6) l (rO k m u w) [rw1 x,.dic kvs]).res=.ok (.nx (rO k m o w')) [rw1 y,.dic a]/\(∀ f∈a,t.T f=PU/\RW c t k f.2)/\a°<=20
 |[],kvs,x,u,w,B,n=>⟨kvs,x,u,w,rfl,n,or⟩
 |d :: l,kvs,x,u,w,B,n=>by
  rw[aAv]at B;&I,b,P,D,R,H,A,J:=h x;&F,L,O:=t.k _ A;@Q:=f9 D H;@S:=wI (kvs:=kvs) (k:=F) (v:=rf b);&a,y,o,w',e,r:=p9 h l (ck kvs F (rf b)) _ _ _ or (λf s=>by
   rcases wH s with rfl | q
   ·PM O _,b,rfl,A,J
   ·~n f q)
  !⟨a,y,o,w',?_,r⟩;@j:(b.map pr).all j5=true:=aAf.mpr λx G=>by &p,_,rfl:=aAc.mp G;rfl
  rw[Kr,bq (I)];PL pId;rw[P,hZ,Q,j,Lh ⟨D,or⟩];show((aP? (lk b _)).isSome~>decide _~>(aL _ _ _ _ _ [_,.dic (ck kvs ((aP? (lk b _)).getD _) _)]).res)=_;rw[L,Lh (show kvs° < Ld by show _ < 16777216;on)];~e
~HB:∀ (ns:PQ Str) (a) (u),(∀ z∈ns,(au kvs (.inr z)).isSome=PU)->a°+ns°<=1000->(ai 2 [] (.nm 0) elR (ns.map .str) [u,PN (.r 1)] [rw1 x,.dic kvs,.lst a]).res=.ok () [rw1 x,.dic kvs,.lst (a++ns.map λz=>(au kvs (.inr z)).getD .non)]
 |[],a,u,_,_=>by rw[aBa,aBa,aAA];rfl
 |z :: ns,a,u,h,f=>by
  rw[aAv]at f;rw[aAr,Ks,h z aAe,Lj (by show _ < 16777216;on)];rw[HB ns _ _ (λy d=>h y (aAk _ d)) (by rw[aAi];show a°+1+_<=_;on),aAO]
  rfl
~HD:∀ (ns:PQ Int) (a) (u),(∀ z∈ns,(au kvs (.inl z)).isSome=PU)->a°+ns°<=1000->(ai 2 [] (.nm 0) elR (ns.map .int) [u,PN (.r 1)] [rw1 x,.dic kvs,.lst a]).res=.ok () [rw1 x,.dic kvs,.lst (a++ns.map λz=>(au kvs (.inl z)).getD .non)]
 |[],a,u,_,_=>by rw[aBa,aBa,aAA];rfl
 |z :: ns,a,u,h,f=>by
  rw[aAv]at f;rw[aAr,Kt,h z aAe,Lj (by show _ < 16777216;on)];rw[HD ns _ _ (λy d=>h y (aAk _ d)) (by rw[aAi];show a°+1+_<=_;on),aAO]
  rfl
~Ku{F:PQ Av->Sto->Rs Av}{t:KT}{k K:Dt}{m x:Int}{u w:PY Av}{kvs:PQ (Key×Dt)}(ht:t.T=kS\/t.T=kI)(h:∀ f∈kvs,t.T f=PU/\RW c t K f.2)(hl:kvs°<=20):∃ vs,(Bk (t96 c N F) 96 7 (rO k m u w) [rw1 x,.dic kvs]).res=.ok (.rt (.d (vR vs))) [rw1 x,.dic kvs]/\vs°<=20/\∀ v∈vs,RW c t K v:=by
 #hs:kvs.all kS with
 |true =>
  @hn:∀ z∈sortS (kvs.map kSv),(au kvs (.inr z)).isSome=true:=λz n=>by
   &f,b,rfl:=aAc.mp ((aO _).mem_iff.mp n);!cw.mp (aBt.mpr ⟨f,b,Lh ?_⟩);@:=aAf.mp hs f b;&ky,d:=f
   #ky with
   |inl i=>cases this
   |inr z=>rfl
  !⟨(sortS (kvs.map kSv)).map λz=>(au kvs (.inr z)).getD .non,?_,by rw[aAa,(aO _).length_eq,aAa];~hl,λv hv=>?_⟩
  ·rw[HA,hs,Lh (show(kvs.map kSv)° < 64 by rw[aAa];on)];show(RFr _).res=_;rw[f8,HB _ _ _ hn (by rw[(aO _).length_eq,aAa];show 0+_<=_;on)]
   rfl
  ·&z,n,rfl:=aAc.mp hv;&f,b,e:=mr (hn z n);rw[<- e];~(h f b).2
 |false =>
  @hi:kvs.all kI=true:=by
   rcases ht with e | e
   ·rw[aAf.mpr λf b=>by @:=(h f b).1;rw[e]at this;~this]at hs;#hs
   ·~aAf.mpr λf b=>by @:=(h f b).1;rw[e]at this;~this
  @hn:∀ z∈sortI (kvs.map kIv),(au kvs (.inl z)).isSome=true:=λz n=>by
   &f,b,rfl:=aAc.mp ((dP _).mem_iff.mp n);!cw.mp (aBt.mpr ⟨f,b,Lh ?_⟩);@:=aAf.mp hi f b;&ky,d:=f
   #ky with
   |inr i=>cases this
   |inl z=>rfl
  !⟨(sortI (kvs.map kIv)).map λz=>(au kvs (.inl z)).getD .non,?_,by rw[aAa,(dP _).length_eq,aAa];~hl,λv hv=>?_⟩
  ·rw[HA,hs,hi,Lh (show(kvs.map kIv)° < 64 by rw[aAa];on)];show(RFr _).res=_;rw[f8,HD _ _ _ hn (by rw[(dP _).length_eq,aAa];show 0+_<=_;on)]
   rfl
  ·&z,n,rfl:=aAc.mp hv;&f,b,e:=mr (hn z n);rw[<- e];~(h f b).2
~HE{t:KT}(ht:t.T=kS\/t.T=kI){ms:Fs}{m:Int}(w:FW ms)(hs:∀ p∈ms,Lf p.2)(h1:0<=m)(h2:m<=8)(hid:lk ms "id" ≠.non)(hP:∀ v,Vk c v (lk ms "id")->t.P v):Vl c 52 (Vk c) (rw' (.str "id") (rf ms) m):=λx=>by
 @key:∀ x,∃ (f:Fs) (y:Int),c.H 39 95 (ent [.r 0,.d (rf ms)] [rw1 x] (.ok (.d (rf f)) [rw1 y]))/\(f.map (·.1)).Nodup/\f°<=20/\(("id" : Str),lk f "id")∈f/\t.P (lk f "id")/\Vk c (rf f) (rf ms):=λx=>by
  &f,y,hh,en,hz:=d95 (c:=c) (N:=26) (P:=Vk c) (fs:=ms) (λp hp=>vlf (hs p hp)) w.l x;@nd:(ms.map (·.1)).Pairwise slt:=aBf.mpr w.s;@lp:f°=ms°:=by @:=Mg List.length en;rwa [aAa,aAa]at this
  rw[<- en]at nd;@sp:Srt f:=aBf.mp nd;&i,hi,ei:=aAS.mp (cK hid);@A:i < f°:=or
  @hm:(f[i],ms[i])∈f.zip ms:=aAS.mpr ⟨i,by rw[aA0];on,by rw[aB6]⟩;@e1:(f[i]).1=(ms[i]).1:=by
   @:=Mg (λl=>l[i]?) en;PK[aAE,aAh A,aAh hi,aCb,Option.some.injEq]at this;~this
  @e2:f[i]=(("id" : Str),(f[i]).2):=by rw[ei]at e1;~Prod.ext e1 rfl
  @o:(("id" : Str),(f[i]).2)∈f:=e2 ▸ aA3 A;@el:=bO sp o;@D:=hz _ hm;@hv2:Vk c (f[i]).2 (lk ms "id"):=by @q:Vk c (f[i]).2 (ms[i]).2:=D;rw[ei]at q;~q
  ~⟨f,y,hh,nd.imp λq=>dW q,by @:=w.l;on,el ▸ o,el ▸ hP _ hv2,wF w.l en hz⟩
 &C,k1:=Classical.skolem.mp key;&px,k2:=Classical.skolem.mp k1;@e:=Kq (c:=c) (N:=39) (FR (λx=>rc ((C x).map pr)) px) x m (rf ms);rw[bK or,dY or or]at e;@hn:0<=x % (m+1)/\x % (m+1) < m+1:=⟨aBT _ or,aBI _ or⟩;@hr:(rngL 0 1 (x % (m+1)).toNat)°=(x % (m+1)).toNat:=by PL rngL;rw[aAa,aBr]
 &kvs,y,u,w',el,hk,hl:=p9 (c:=c) (N:=39) (t:=t) (pv:=λx=>(C x).map pr) (px:=px) (k:=rf ms) (λx=>⟨(k2 x).1,C x,rfl,(k2 x).2⟩) (m:=m) (rngL 0 1 (x % (m+1)).toNat) [] (x / (m+1)) PR PR (by rw[hr];show 0+_<=_;on) (λ_ h=>nomatch h);&vs,eb,lv,D:=Ku (c:=c) (N:=39) (F:=FR (λx=>rc ((C x).map pr)) px) (k:=rf ms) (m:=m) (x:=y) (u:=u) (w:=w') ht hk hl;@ed:(rw' (.str "id") (rf ms) m).dep=(rf ms).dep+1:=by PK[Dt.dep,al];on
 !⟨vR vs,y,go (N:=39) (ac (a:=(95,_)) aJ af) (e.trans ?_),?_,?_,λ_ _ e=>(by #e),λ_ e=>(by #e)⟩
 ·show(bif inR (x % (m+1))then _ else _)=_;rw[dq.mpr ⟨or,or⟩];show(tidy 1 (aU ((aL [] (.nm 2) (Lp tx (t96 c 39 (FR (λx=>rc ((C x).map pr)) px)) 96 6) (rngL 0 1 (x % (m+1)).toNat) _ [rw1 (x / (m+1)),.dic []]).bind _))).res=_;rw[aC,aE,Rs.bindRes,el];show tidy 1 (aU (Bk _ 96 7 _ _).res).res=_;rw[eb]
  rfl
 ·rw[ed];~(Ek (m:=m) t.lt or (λv h=>by &_,_,_,q:=D v h;~q.t) (λv h=>by &f,a,b,_:=D v h;PM f,a,b)).up or
 ·@:al vs<=2*(rf ms).dep:=bT λv h=>by &_,_,_,q:=D v h;~q.d
  rw[ed];show(Dt.tup [.str "rows",.tup vs]).dep<=_;@e2:(Dt.tup [.str "rows",.tup vs]).dep=al vs+2:=by PK[Dt.dep,al];on
  on
~Em(h:Sh c N k):Vl c (26*k.dep) (Vk c) k:=by
 induction h with
 |lf h =>
  !(vlf h).up ?_;&_,_,s,e,_:=h.fo (c:=c);rw[e];PK[Dt.dep];on
 |ls h x i j o =>
  rename_i s m
  !(vls i j (by PK[Dt.dep];on) o).up ?_;@:(ls (.tup s) m).dep=(Dt.tup s).dep+1:=rfl;on
 |rcd h r o =>
  rename_i f
  @n:∀ p∈f,p.2.dep+3<=(rf f).dep:=λp g=>by
   @:(pr p).dep<=al _:=kj (aBF g);@e:(pr p).dep=1+p.2.dep:=by PL pr;PK[Dt.dep,al];on
   PK[Dt.dep,al];on
  !(Kn (N:=26*((rf f).dep - 1)) h.w.l λp g=>(o p g).up (by @:=n p g;on)).up ?_;@:1<=(rf f).dep:=by PK[Dt.dep];on
  on
 |row x i j n w r =>
  rename_i u m
  @y:2<=(rw' (.str "id") (rf u) m).dep:=by PK[Dt.dep,al];on
  rcases n with⟨a,b,e⟩ | ⟨z,e⟩
  ·~(HE (t:=ktI) (.inr rfl) w r i j (by rw[e];nofun) (λv l=>l.n a b e)).up or
  ·~(HE (t:=ktS) (.inl rfl) w r i j (by rw[e];nofun) (λv l=>l.s z e)).up or
§Tbl(l:PQ (Nat×Sp1)):Tb:=tx.tb λj=>match l.lookup j with
 |some s=>s
 |none=>Sk tx l 5 j
§El(n:Nat)(l:PQ (Nat×Sp1))(i:Nat)(e:PY Expr):En->Mo (PY Dt):=match e with
 |some (.ListComp elt [⟨tgt,_,ifs,_⟩] scope _)=>match ifs,cE (Tbl l) n scope (fG scope (da (tx.top i)) tgt) elt with
  |[],PN el=>dEl el.f
  |[cnd],PN el=>match cE (Tbl l) n scope (fG scope (da (tx.top i)) tgt) cnd with
   |some cd=>dElIf cd.f el.f
   |none=>λ_ _=>.bad
  |_,_=>λ_ _=>.bad
 |_=>λ_ _=>.bad
§stA(i k:Nat):PY LP:=(aM (tx.top i))[k]?
§inS(k:Nat):LP->PY LP
 |.For _ _ b _ _=>b[k]?
 |.If _ b _ _=>b[k]?
 |_=>PR
§mu:LP->PY Expr
 |.If c _ _ _=>PN c
 |.Return v _=>v
 |.Assign _ v _=>PN v
 |_=>PR
§inE(k:Nat):Expr->PY Expr
 |.UnaryOp _ a _=>PN a
 |.Call _ es _ _=>es[k]?
 |.Tuple es _ _=>es[k]?
 |_=>PR
¶t56(B BW:PQ Dt)(b:Bool):PQ (Nat×Sp1):=[(57,ent [.d (.tup B)] [] (dd (.tup BW))),(23,ent [.d (.tup BW)] [] (bb b))]
§P2(x:Dt):Dt:=(bif bv (ae (eR (.d x) .tuple []))then PN (.bl (eqD (ae (aV .len (.d x) [])) (.int 2)))else PN (.bl PV)).getD .non
¶eG(W:PQ Dt)(x:Dt):Rs Av:=av .inn (.d x) (.d (.tup W)) []
¶mw(F B W BW:PQ Dt):En:=[PN (.d (.tup F)),PN (.d (.tup B)),PN (.d (.tup W)),PN (.d (.tup BW)),PN (.r 0),PN (.r 1)]
~e56(F B W BW)(b):E (t56 B BW b) 56 [.d (.tup F),.d (.tup B),.d (.tup W)] [] =
 bif !eqD (.int (F°)) (.int (W°))then bb PV else
 bif B.all (λx=>bif ak (eR (.d x) .tuple [])then bif isB (ae (eR (.d x) .tuple []))then bif bv (ae (eR (.d x) .tuple []))then bif ak (aV .len (.d x) [])then bif decide ((ae (aV .len (.d x) [])).dep<=60)then PU else PV else PV else PU else PV else PV)then bif decide (B°<=Ld)then bif (B.map P2).all isB then bif (B.map P2).all bv then
 q [.d (.tup B)] [] (q [.d (.tup BW)] [] (bif b then bif F.all (λx=>bif ak (eG BW x)then PU else PV)then bif decide (F°<=Ld)then bif (F.map (λx=>ae (eG BW x))).all isB then bif (F.map (λx=>ae (eG BW x))).all bv then bif B.all (λx=>bif bZ 2 x then bif ak (eG W (ag 1 x))then PU else PV else PV)then bif decide (B°<=Ld)then bif (B.map λx=>ae (eG W (ag 1 x))).all isB then bif (B.map λx=>ae (eG W (ag 1 x))).all bv then
 (W.all yx~>decide (F°=(W.map sv)°/\(W.map sv).Nodup/\(W.map sv)°<=1000)~>B.all j5~>decide (((prs? B).map (·.1)).Nodup/\(prs? B)°<=1000)~>(tidy 0 (aU (Bk (t56 B BW b) 56 7 (mw F B W BW) [.dic (named ((W.map sv).zip F)),.dic (named (prs? B))]))).res) else bb PV else .bad else .bad else .bad else bb PV else .bad else .bad else .bad else bb PV))else bb PV else .bad else .bad else .bad:=IO
§Ad:PY Expr:=stA 56 7 >>= mu >>= inE 0 >>= inE 0
§Ae:PY Expr:=stA 56 8 >>= mu >>= inE 0
§rP(k:Nat)(r:Rs Unit):Rs Av:=tidy k ((((bQ r).bind λ_ S2=>.ok (.r k) S2).bind fun(x:Av) S1=>Rs.ok [x] S1).bind λvs S1=>eT .all vs S1)
~Kv(F B W BW)(b)(A D):(Bk (t56 B BW b) 56 7 (mw F B W BW) [.dic A,.dic D]).res=((((rP 2 (ai 2 [] (.nm 0) (El 28 (t56 B BW b) 56 Ad) F [PR,PN (.r 1),PN (.r 0)] [.dic A,.dic D,.lst []])).bind λx S1=>chB x (Rs.ok (.d (.bl PV)) S1) (Rs.ok (.d (.bl PU)) S1)).bind λx S1=>chB x (Rs.ok (Fl.rt (.d (.bl PV))) S1) (Rs.ok (Fl.nx (mw F B W BW)) S1)).bind λf S1=>match f with
 |.nx a=>Bk (t56 B BW b) 56 8 a S1
 |f=>.ok f S1).res:=IO
~Kw(F B W BW)(b)(A D):(Bk (t56 B BW b) 56 8 (mw F B W BW) [.dic A,.dic D]).res=(((rP 2 (ai 2 [] (.tp [0,1]) (El 28 (t56 B BW b) 56 Ae) B [PR,PR,PN (.r 1),PN (.r 0)] [.dic A,.dic D,.lst []])).bind λa S1=>Rs.ok (Fl.rt a) S1).bind λf S1=>match f with
 |.nx c=>.ok (.nx c) S1
 |f=>.ok f S1).res:=IO
§vv(A D:PQ (Key×Dt))(w:Str):Dt:=(au A ((aP? ((au D (.inr w)).getD .non)).getD (.inl 0))).getD .non
~Kx(l)(A D)(w)(xs c)(u):(ai 2 [] (.nm 0) (El 28 l 56 Ad) (.str w :: xs) [u,PN (.r 1),PN (.r 0)] [.dic A,.dic D,.lst c]).res=((au D (.inr w)).isSome~>(aP? ((au D (.inr w)).getD .non)).isSome~>(au A ((aP? ((au D (.inr w)).getD .non)).getD (.inl 0))).isSome~>decide ((vv A D w).dep<=60)~>(if c° < Ld then ai 2 [] (.nm 0) (El 28 l 56 Ad) xs [PN (.d (.str w)),PN (.r 1),PN (.r 0)] [.dic A,.dic D,.lst (c++[.bl (eqD (vv A D w) (.str w))])]else .bad).res):=IO
~Ky(l)(A D)(f w)(xs c)(u v):(ai 2 [] (.tp [0,1]) (El 28 l 56 Ae) (.tup [.str f,.str w] :: xs) [u,v,PN (.r 1),PN (.r 0)] [.dic A,.dic D,.lst c]).res=((au A (.inr w)).isSome~>(aP? ((au A (.inr w)).getD .non)).isSome~>(au D ((aP? ((au A (.inr w)).getD .non)).getD (.inl 0))).isSome~>decide ((vv D A w).dep<=60)~>(if c° < Ld then ai 2 [] (.tp [0,1]) (El 28 l 56 Ae) xs [PN (.d (.str f)),PN (.d (.str w)),PN (.r 1),PN (.r 0)] [.dic A,.dic D,.lst (c++[.bl (eqD (vv D A w) (.str w))])]else .bad).res):=IO
~HF:∀ (ws:PQ Str) (a:PQ Dt) (u:PY Av),(∀ w∈ws,∃ y z,au D (.inr w)=PN (.str y)/\au A (.inr y)=PN (.str z))->a°+ws°<=1000->(ai 2 [] (.nm 0) (El 28 l 56 Ad) (ws.map .str) [u,PN (.r 1),PN (.r 0)] [.dic A,.dic D,.lst a]).res=.ok () [.dic A,.dic D,.lst (a++ws.map λw=>.bl (eqD (vv A D w) (.str w)))]
 |[],a,u,_,_=>by rw[aBa,aBa,aAA];rfl
 |w :: ws,a,u,h,g=>by
  rw[aAv]at g;&y,z,c,f:=h w aAe;@e:=HF (l:=l) ws (a++[.bl (eqD (vv A D w) (.str w))]) (PN (.d (.str w))) (λy k=>h y (aAk _ k)) (by rw[aAi];show a°+1+_<=_;on);@j:vv A D w=.str z:=by PL vv;rw[c];show(au A (.inr y)).getD .non=_;rw[f];rfl
  @m:aP? ((au D (.inr w)).getD .non)=PN (.inr y):=by rw[c];rfl
  @n:au A ((PN _).getD (.inl 0))=PN (.str z):=f;rw[aAr,Kx,m,c,n,Lj (by show _ < 16777216;on),show decide _=PU by rw[j];rfl];rw[aAO]at e;~e
~HG:∀ (ws:PQ (Str×Str)) (a:PQ Dt) (u v:PY Av),(∀ p∈ws,∃ y z,au A (.inr p.2)=PN (.str y)/\au D (.inr y)=PN (.str z))->a°+ws°<=1000->(ai 2 [] (.tp [0,1]) (El 28 l 56 Ae) (ws.map λp=>.tup [.str p.1,.str p.2]) [u,v,PN (.r 1),PN (.r 0)] [.dic A,.dic D,.lst a]).res=.ok () [.dic A,.dic D,.lst (a++ws.map λp=>.bl (eqD (vv D A p.2) (.str p.2)))]
 |[],a,u,v,_,_=>by rw[aBa,aBa,aAA];rfl
 |p :: ws,a,u,v,h,g=>by
  rw[aAv]at g;&y,z,c,f:=h p aAe;@e:=HG (l:=l) ws (a++[.bl (eqD (vv D A p.2) (.str p.2))]) (PN (.d (.str p.1))) (PN (.d (.str p.2))) (λy k=>h y (aAk _ k)) (by rw[aAi];show a°+1+_<=_;on);@j:vv D A p.2=.str z:=by PL vv;rw[c];show(au D (.inr y)).getD .non=_;rw[f];rfl
  @m:aP? ((au A (.inr p.2)).getD .non)=PN (.inr y):=by rw[c];rfl
  @n:au D ((PN (Sum.inr y:Key)).getD (.inl 0))=PN (.str z):=f;rw[aAr,Ky,m,c,n,Lj (by show _ < 16777216;on),show decide _=PU by rw[j];rfl];rw[aAO]at e;~e
¶pS(p:Str×Str):Dt:=.tup [.str p.1,.str p.2]
¶sd(p:Str×Str):Str×Dt:=(p.1,.str p.2)
¶sS(l:PQ Str):PQ Dt:=l.map .str
¶aT(F B:PQ Dt):Dt:=.tup [.str "words",.tup F,.tup B]
~e57(B):E [] 57 [.d (.tup B)] []=(B.all (λx=>bif bZ 2 x then PU else PV)~>decide (B°<=Ld)~>dd (.tup (B.map (ag 0)))):=IO
~Kz(F B W):E [] 60 [.d (aT F B),.d (ch W)] []=(B.all (λx=>bif bZ 2 x then PU else PV)~>decide (B°<=Ld)~>ak (dF [.d (.tup W),.d (.tup F)] [])~>dd (.tup [.str "words",.tup (B.map (ag 1)),ae (dF [.d (.tup W),.d (.tup F)] [])])):=IO
~Eo(F B W)(b):E [(56,ent [.d (.tup F),.d (.tup B),.d (.tup W)] [] (bb b))] 53 [.d (aT F B),.d (ch W)] []=q [.d (.tup F),.d (.tup B),.d (.tup W)] [] (bb b):=IO
~HH(F B W BW):E [(57,ent [.d (.tup B)] [] (dd (.tup BW)))] 58 [.d (aT F B),.d (ch W)] []=q [.d (.tup B)] [] (dd (ch BW)):=IO
~tn2(B:PQ _):((B.map pS).all λx=>bif bZ 2 x then PU else PV)=true:=aAf.mpr λx b=>by &p,_,rfl:=aAc.mp b;rfl
~n0(B:PQ _):(B.map pS).map (ag 0)=sS (B.map (·.1)):=by show _=(B.map _).map _;rw[aAz,aAz];rfl
~n1(B:PQ _):(B.map pS).map (ag 1)=sS (B.map (·.2)):=by show _=(B.map _).map _;rw[aAz,aAz];rfl
~h57{B:PQ _}(b:B°<=8):c.H 13 57 (ent [.d (.tup (B.map pS))] [] (dd (.tup (sS (B.map (·.1)))))):=g0 ((e57 _).trans (by
 rw[tn2,n0,Lh (show(B.map pS)°<=Ld by rw[aAa];show _<=16777216;on)]
 rfl))
~HI{B:PQ _}(f:W°=F°)(g:W°<=8)(h:B°<=8):c.H 13 60 (ent [.d (aT (sS F) (B.map pS)),.d (ch (sS W))] [] (dd (aT (sS (B.map (·.2))) ((W.zip F).map pS)))):=g0 ((Kz _ _ _).trans (by
 @e:dF [.d (.tup (sS W)),.d (.tup (sS F))] []=dd (.tup ((W.zip F).map pS)):=by
  show(if(sS W)°=(sS F)°/\(sS W)°<=1000 then _ else _)=_;rw[Lj ⟨by simp_all,by rw[aAa];on⟩];PL zD;rw[aCk,aAz]
  rfl
 rw[tn2,n1,e,Lh (show(B.map pS)°<=Ld by rw[aAa];show _<=16777216;on)]
 rfl))
§dA(F W:PQ Str):PQ (Key×Dt):=named (W.zip (sS F))
§dD(B:PQ (Str×Str)):PQ (Key×Dt):=named (B.map sd)
§led(F W:PQ Str)(B:PQ (Str×Str)):Bool:=(F.all λw=>eqD (vv (dA F W) (dD B) w) (.str w)) && (B.all λp=>eqD (vv (dD B) (dA F W) p.2) (.str p.2))
~qa:eG (sS W) (.str f)=dd (.bl (inD (.str f) (sS W))):=by
 show(if aH _ && (sS W).all aH then _ else _)=_;rw[aAf.mpr λx b=>by &p,_,rfl:=aAc.mp b;rfl]
 rfl
~Ep(h:f∈W):inD (.str f) (sS W)=true:=aBt.mpr ⟨_,aBF h,by ~Lz f⟩
~ie:∀ r:Rs Unit,(rP k r).res=(rP k r.res).res
 |.ok _ _ | .ex _ _ | .bad=>rfl
 |.br PU x y=>ie x
 |.br PV x y=>ie y
~wJ{f}{g:d->Mo γ}:∀ r:Rs b,((r.bind f).bind g).res=((r.res.bind f).bind g).res
 |.ok _ _ | .ex _ _ | .bad=>rfl
 |.br PU x y=>wJ x
 |.br PV x y=>wJ y
~wK{f:b->Mo e}{h:d->Mo δ}:∀ r:Rs b,(((r.bind f).bind g).bind h).res=(((r.res.bind f).bind g).bind h).res
 |.ok _ _ | .ex _ _ | .bad=>rfl
 |.br PU x y=>wK x
 |.br PV x y=>wK y
~qb{k:Nat}{r:Rs Unit}{bs:PQ Bool}{S:Sto}(c:S°=k)(h:r.res=.ok () (S++[.lst (bs.map .bl)])):(rP k r).res=.ok (.d (.bl (bs.all id))) S:=by
 rw[ie,h];PL rP;show(tidy k (onL (lsB .all) (.r k) _)).res=_;@e:(S++[Ob.lst (bs.map .bl)])[k]?=PN (.lst (bs.map .bl)):=by simp_all
 @g:onL (lsB .all) (.r k) (S++[.lst (bs.map .bl)])=.br ((bs.map Dt.bl).all isB) (.ok (.d (.bl ((bs.map Dt.bl).all bv))) (S++[.lst (bs.map .bl)])) .bad:=by
  PK[onL,aA,e]
  rfl
 rw[g,aAf.mpr λx f=>by &p,_,rfl:=aAc.mp f;rfl,aBz];show Rs.ok _ ((S++_).take k)=_;rw[<- c,aCg]
 rfl
~Bi{F W:PQ Str}{B:PQ (Str×Str)}(hl:F°=W°)(hw:W.Nodup)(hb:(B.map (·.1)).Nodup)(l8:W°<=8)(b8:B°<=8)(h23:c.H 13 23 (ent [.d (.tup (sS (B.map (·.1))))] [] (bb PU)))(hF:∀ f∈F,f∈B.map (·.1))(hB:∀ p∈B,p.2∈W) :
  c.H 26 56 (ent [.d (.tup (sS F)),.d (.tup (B.map pS)),.d (.tup (sS W))] [] (bb (led F W B))):=by
 @nA:((W.zip (sS F)).map (·.1)).Nodup:=by
  rw[aBR (by rw[aAa];on)];~hw
 @nD:((B.map sd).map (·.1)).Nodup:=by rw[aAz];~hb
 @vD:∀ f∈F,∃ p∈B,au (dD B) (.inr f)=PN (.str p.2):=λf hf=>by
  &p,n,rfl:=aAc.mp (hF f hf);PM p,n,f9 nD (aAc.mpr ⟨p,n,rfl⟩)
 @vA:∀ p∈B,∃ f∈F,au (dA F W) (.inr p.2)=PN (.str f):=λp n=>by
  &i,hi,e:=aAS.mp (hB p n);@hi2:i < F°:=or
  !⟨F[i],aA3 hi2,f9 nA (aAS.mpr ⟨i,by rw[aA0,aAa];on,?_⟩)⟩;rw[aB6,e,aB7]
 !go (ac (a:=(57,_)) (h57 b8) (ac (a:=(23,_)) h23 af)) ((e56 _ _ _ _ PU).trans ?_);@m1:((B.map pS).map P2)=B.map λ_=>.bl true:=by rw[aAz];rfl
 @m2:((sS F).map λx=>ae (eG (sS (B.map (·.1))) x))=F.map λf=>.bl true:=by
  rw[aAz];!aBu λf hf=>?_;show ae (eG (sS (B.map (·.1))) (.str f))=_;rw[qa,Ep (hF f hf)]
  rfl
 @m3:((B.map pS).map λx=>ae (eG (sS W) (ag 1 x)))=B.map λ_=>.bl true:=by
  rw[aAz];!aBu λp n=>?_;show ae (eG (sS W) (.str p.2))=_;rw[qa,Ep (hB p n)]
  rfl
 @t1:∀ {α:Type}(l:PQ α),(l.map λ_=>Dt.bl PU).all isB=true:=λl=>aAf.mpr λx j=>by &p,_,rfl:=aAc.mp j;rfl
 @t2:∀ {α:Type}(l:PQ α),(l.map λ_=>Dt.bl PU).all bv=true:=λl=>aAf.mpr λx j=>by &p,_,rfl:=aAc.mp j;rfl
 @a1:((B.map pS).all λx=>bif ak (eR (.d x) .tuple [])then bif isB (ae (eR (.d x) .tuple []))then bif bv (ae (eR (.d x) .tuple []))then bif ak (aV .len (.d x) [])then bif decide ((ae (aV .len (.d x) [])).dep<=60)then PU else PV else PV else PU else PV else PV)=true:=aAf.mpr λx j=>by &p,_,rfl:=aAc.mp j;rfl
 @a2:((sS F).all λx=>bif ak (eG (sS (B.map (·.1))) x)then PU else PV)=true:=aAf.mpr λx j=>by
  &f,_,rfl:=aAc.mp j;rw[qa]
  rfl
 @a3:((B.map pS).all λx=>bif bZ 2 x then bif ak (eG (sS W) (ag 1 x))then PU else PV else PV)=true:=aAf.mpr λx j=>by
  &p,_,rfl:=aAc.mp j;show(bif ak (eG (sS W) (.str p.2))then PU else PV)=PU;rw[qa]
  rfl
 @a4:(sS W).all yx=true:=aAf.mpr λx j=>by &p,_,rfl:=aAc.mp j;rfl
 @a5:(B.map pS).all j5=true:=aAf.mpr λx j=>by &p,_,rfl:=aAc.mp j;rfl
 @m4:(sS W).map sv=W:=by rw[aAz];~List.map_id W
 @m5:prs? (B.map pS)=B.map sd:=by unfold prs?;rw[aAz];rfl
 @z1:(!eqD (.int ((sS F)°:Int)) (.int ((sS W)°:Int)))=false:=by
  rw[aAa,aAa,hl];show(!((W°:Int) == W°))=PV;rw[Lz]
  rfl
 @sB:decide ((B.map pS)°<=Ld)=true:=Lh (by rw[aAa];show _<=16777216;on);@sF:decide ((sS F)°<=Ld)=true:=Lh (by rw[aAa];show _<=16777216;on);rw[z1,a1,sB,m1,m2,m3,t1 B,t1 F,t2 B,t2 F,a2,sF,a3,a4,a5,m4,m5,Lh (p:=(sS F)°=W°/\W.Nodup/\W°<=1000) ⟨by rw[aAa];~hl,hw,or⟩,Lh (p:=((B.map sd).map (·.1)).Nodup/\(B.map sd)°<=1000) ⟨nD,by rw[aAa];on⟩];rw[ah,ah,show named (W.zip (sS F))=dA F W from rfl,show named (B.map sd)=dD B from rfl];PK[L1,Mr];@g1:=HF (l:=t56 (B.map pS) (sS (B.map (·.1))) PU) (A:=dA F W) (D:=dD B) F [] PR (λw hw=>by
  &p,n,e:=vD w hw;&f,_,e2:=vA p n;PM _,_,e,e2) (by show 0+_<=_;on)
 @g2:=HG (l:=t56 (B.map pS) (sS (B.map (·.1))) PU) (A:=dA F W) (D:=dD B) B [] PR PR (λp n=>by
  &f,hf,e:=vA p n;&p',_,e2:=vD f hf;PM _,_,e,e2) (by show 0+_<=_;on)
 @h8:(Bk (t56 (B.map pS) (sS (B.map (·.1))) PU) 56 8 (mw (sS F) (B.map pS) (sS W) (sS (B.map (·.1)))) [.dic (dA F W),.dic (dD B)]).res=.ok (.rt (.d (.bl (B.all λp=>eqD (vv (dD B) (dA F W) p.2) (.str p.2))))) [.dic (dA F W),.dic (dD B)]:=by
  rw[Kw,wJ,qb (k:=2) (S:=[.dic (dA F W),.dic (dD B)]) (bs:=B.map λp=>eqD (vv (dD B) (dA F W) p.2) (.str p.2)) rfl (by rw[aAz];~g2),aBz]
  rfl
 rw[aC,aE,Kv,wK,qb (k:=2) (S:=[.dic (dA F W),.dic (dD B)]) (bs:=F.map λw=>eqD (vv (dA F W) (dD B) w) (.str w)) rfl (by rw[aAz];~g1),aBz];PL led;@ei:(F.all (id ∘ λw=>eqD (vv (dA F W) (dD B) w) (.str w)))=F.all λw=>eqD (vv (dA F W) (dD B) w) (.str w):=rfl;rw[ei]
 #F.all λw=>eqD (vv (dA F W) (dD B) w) (.str w)with
 |false=>rfl
 |true =>
  show tidy 0 (aU (Bk _ 56 8 _ _).res).res=_;rw[h8]
  rfl
~wL:∀ B:PQ (Str×Str),(B.map (·.1)).zip (B.map (·.2))=B
 |[]=>rfl
 |p :: B=>by rw[aAr,aAr,aBJ,wL B]
~Bj:∀ B:PQ _,(B.map (·.1)).zip (sS (B.map (·.2)))=B.map sd
 |[]=>rfl
 |p :: B=>by
  show((p.1 :: B.map _).zip (.str _ :: sS _))=_;rw[aBJ,Bj B]
  rfl
~Bl:∀ W F:PQ Str,(W.zip F).map sd=W.zip (sS F)
 |[],F=>rfl
 |w :: W,[]=>by rfl
 |w :: W,f :: F=>by
  show sd _ :: (W.zip F).map sd=(w :: W).zip (.str f :: sS F);rw[Bl W F,aBJ]
~rQ(f:F°=W°):led (B.map (·.2)) (B.map (·.1)) (W.zip F)=led F W B:=by
 PL led;@e:dA (B.map (·.2)) (B.map (·.1))=dD B:=by PL dA dD;rw[Bj]
 @c:dD (W.zip F)=dA F W:=by PL dA dD;rw[Bl]
 @b:((W.zip F).all λp=>eqD (vv (dA F W) (dD B) p.2) (.str p.2))=F.all λw=>eqD (vv (dA F W) (dD B) w) (.str w):=by
  rw[show((W.zip F).all λp=>eqD _ _)=((W.zip F).map _).all λw=>eqD _ _ by rw[aBz];rfl,List.map_snd_zip or]
 rw[e,c,b,aBz,Bool.and_comm]
 rfl
~KA:zD (sS W) (sS F)=(W.zip F).map pS:=by
 PL zD;rw[aCk,aAz]
 rfl
~mx{B:PQ _}(d:W°=F°):PT (aT (sS F) (B.map pS)) (ch (sS W)) (ch (sS (B.map (·.1)))) (aT (sS (B.map (·.2))) ((W.zip F).map pS)):=pt1 λn=>by
 @a:tD (n+1) (aT (sS F) (B.map pS)) (ch (sS W))=aT ((B.map pS).map (ag 1)) (zD (sS W) (sS F)):=IO
 @b:kD (n+1) (aT (sS F) (B.map pS)) (ch (sS W))=ch ((B.map pS).map (ag 0)):=IO
 PM a.trans (by rw[n1,KA]),b.trans (by rw[n0])
~wM{B:PQ _}(k:F°=W°)(o:W.Nodup)(w:(B.map (·.1)).Nodup)(x:W°<=8)(i:B°<=8)(h23:c.H 13 23 (ent [.d (.tup (sS (B.map (·.1))))] [] (bb PU)))(g:c.H 13 23 (ent [.d (.tup (sS W))] [] (bb PU)))(s:∀ f∈F,f∈B.map (·.1))(u:∀ p∈B,p.2∈W) :
  LT c 39 (aT (sS F) (B.map pS)) (ch (sS W)) (ch (sS (B.map (·.1)))) (aT (sS (B.map (·.2))) ((W.zip F).map pS))\/c.H 39 53 (ent [.d (aT (sS F) (B.map pS)),.d (ch (sS W))] [] (bb PV)):=by
 @j:=Bi k o w x i h23 s u;@a:(W.zip F).map (·.1)=W:=aBR or;@v:(W.zip F).map (·.2)=F:=List.map_snd_zip or;@n:=Bi (F:=B.map (·.2)) (by rw[aAa,aAa]) w (by rw[a];~o) (by rw[aAa];~i) (by rw[aA0];on) (by rw[a];~g) (λf y=>by rw[a];&p,l,rfl:=aAc.mp y;~u p l) (λp l=>s _ (aBo l).2);rw[rQ k]at n;@r:=h57 (c:=c) (B:=W.zip F) (by rw[aA0];on);@t:=HI (c:=c) (F:=B.map (·.2)) (W:=B.map (·.1)) (B:=W.zip F) (by rw[aAa,aAa]) (by rw[aAa];~i) (by rw[aA0];on);rw[a]at r;rw[v,wL]at t
 #e:led F W B with
 |false=>rw[e]at j;~.inr (g1 j (Eo _ _ _ _) ah)
 |true =>
  rw[e]at j n;~.inl ⟨g1 j (Eo _ _ _ _) ah,up (g1 (h57 i) (HH _ _ _ _) ah) or,up (HI k.symm x i) or,g1 n (Eo _ _ _ _) ah,up (g1 r (HH _ _ _ _) ah) or,up t or,mx k.symm,by @h:=mx (F:=B.map (·.2)) (W:=B.map (·.1)) (B:=W.zip F) (by rw[aAa,aAa]);rw[a,v,wL]at h;~h⟩
§Sq(l:PQ (Nat×Sp1))(i:Nat)(ss:PQ LP):En->Mo Fl:=match cBk (cS (Tbl l) tx.xs 30 (ar (tx.top i)) (da (tx.top i)) 30) ss with
 |some b=>b.f
 |none=>λ_ _=>.bad
§bod:PY LP->PQ LP
 |some (.For _ _ b _ _)=>b
 |some (.If _ b _ _)=>b
 |_=>[]
¶B98:PQ LP:=bod (stA 98 3)
§Af:PY Expr:=stA 98 1 >>= mu
§Ag:PY Expr:=stA 98 3 >>= inS 0 >>= mu
§Ah:PY Expr:=stA 98 3 >>= inS 1 >>= inS 1 >>= mu
¶XS:PQ Dt:=[.str "x",.str "b",.str "yy"]
¶my(W BW:PQ Dt)(z f b u v:PY Av):En:=[PN (.r 0),PN (.d (.tup W)),PN (.d (.tup BW)),z,f,b,u,v]
¶dv(W BW:PQ Dt)(z u v:PY Av):En:=my W BW z (PN (.r 1)) (PN (.r 2)) u v
¶S0(x:Int)(F bk:PQ Dt)(J:Sto):Sto:=rw1 x :: .lst F :: .lst bk :: J
§nmC(n:Nat)(e:Av->En)(B:En->Mo Fl)(r:Rs Unit):Rs Fl:=(((bQ r).bind λ_ S2=>Rs.ok (Av.r n) S2).bind λa S1=>Rs.ok (Fl.nx (e a)) S1).bind λf S1=>match f with
 |.nx env'=>B env' S1
 |f=>.ok f S1
~cO:∀ r:Rs Unit,(nmC n e B r).res=(nmC n e B r.res).res
 |.ok _ _ | .ex _ _ | .bad=>rfl
 |.br PU x y=>cO x
 |.br PV x y=>cO y
~e98(W)(x):E [] 98 [.r 0,.d (.tup W)] [rw1 x]=(tidy 1 (aU (Bk [] 98 1 (my W (L2.io XS PR (PN (1+x % 3))) PR PR PR PR PR) [rw1 (x / 3)]))).res:=IO
~b98(W BW)(x):(Bk [] 98 1 (my W BW PR PR PR PR PR) [rw1 x]).res=(nmC 1 (λa=>my W BW PR (PN a) PR PR PR) (Bk [] 98 2) (ai 1 [] (.nm 0) (El 30 [] 98 Af) W [PR,PN (.d (.tup BW)),PN (.r 0)] [rw1 x,.lst []])).res:=IO
~c98(W BW F)(x):(Bk [] 98 2 (my W BW PR (PN (.r 1)) PR PR PR) [rw1 x,.lst F]).res=((aL [] (.nm 3) (Lp tx [] 98 3) BW (dv W BW PR PR PR) (S0 x F [] [])).bind λf S1=>match f with
 |.nx a=>Bk [] 98 4 a S1
 |f=>.ok f S1).res:=IO
~d98(W BW F a)(x)(z u v)(J):(tidy 1 (aU (Bk [] 98 4 (dv W BW z u v) (S0 x F a J)))).res=.ok (.d (aT F a)) [rw1 x]:=IO
~KB(W BW:PQ Dt)(x)(d)(l a)(u):(ai 1 [] (.nm 0) (El 30 [] 98 Af) (d :: l) [u,PN (.d (.tup BW)),PN (.r 0)] [rw1 x,.lst a]).res=(ak (aj .mod (.d (.int x)) (.d (.int (BW.length))) [])~>ak (aj .fdiv (.d (.int x)) (.d (.int (BW.length))) [])~>ak (ixA (.d (.tup BW)) (.d (ae (aj .mod (.d (.int x)) (.d (.int (BW.length))) []))) [])~>(if a° < Ld then ai 1 [] (.nm 0) (El 30 [] 98 Af) l [PN (.d d),PN (.d (.tup BW)),PN (.r 0)] [.lst [ae (aj .fdiv (.d (.int x)) (.d (.int (BW.length))) [])],.lst (a++[ae (ixA (.d (.tup BW)) (.d (ae (aj .mod (.d (.int x)) (.d (.int (BW.length))) []))) [])])]else .bad).res):=IO
~mz(h:aZ t x env=PN env1):(aL [] t f (x :: l) env S).res=((f env1 S).res.bind λy S1=>match y with
   |.nx b=>aL [] t f l b S1
   |.ct b=>aL [] t f l b S1
   |.bk b=>.ok (.nx b) S1
   |.rt a=>.ok (.rt a) S1).res:=by
 rw[<- Rs.bindRes];@e:aL [] t f (x :: l) env S=.br _ _ _:=rfl;rw[e,h]
 rfl
¶rgW(W:PQ Dt):Bool:=inR (W°:Int)
~a98(W BW F e)(x)(w)(u v):∀ J:Sto,J°<=4->(Lp tx [] 98 3 (dv W BW (PN (.d (.str w))) u v) (S0 x F e J)).res=(PU && rgW W~>(nmC (J°+3) (λa=>dv W BW (PN (.d (.str w))) (PN a) v) (Sq [] 98 (B98.drop 1)) (ai (J°+3) [] (.nm 0) (El 30 [] 98 Ag) (rngL 0 1 (W°:Int).toNat) [PR,PN (.r 1),PN (.d (.str w)),PN (.d (.tup W))] (S0 x F e (J++[.lst []])))).res)
 |[],_=>IO
 |[_],_=>IO
 |[_,_],_=>IO
 |[_,_,_],_=>IO
 |[_,_,_,_],_=>IO
 |_ :: _ :: _ :: _ :: _ :: _,h=>absurd h (by simp)
¶mdW(x:Int)(W:PQ Dt):Rs Av:=aj .mod (.d (.int x)) (.d (.int (W°:Int))) []
¶dvW(x:Int)(W:PQ Dt):Rs Av:=aj .fdiv (.d (.int x)) (.d (.int (W°:Int))) []
~HJ(W BW F c b)(x:Int)(w)(v):∀ J:Sto,J°<=5->(Sq [] 98 (B98.drop 2) (dv W BW (PN (.d (.str w))) (PN (.r (J°+3))) v) (S0 x F c (J++[.lst b]))).res=(PU && (atI b 0).isSome~>decide (c° < Ld)~>.ok (.nx (dv W BW (PN (.d (.str w))) (PN (.r (J°+3))) v)) (S0 x F (c++[.tup [.str w,(atI b 0).getD .non]]) (J++[.lst b])))
 |[],_=>IO
 |[_],_=>IO
 |[_,_],_=>IO
 |[_,_,_],_=>IO
 |[_,_,_,_],_=>IO
 |[_,_,_,_,_],_=>IO
 |_ :: _ :: _ :: _ :: _ :: _ :: _,h=>absurd h (by simp)
~KC(W BW F i g)(x)(w)(v):∀ J:Sto,J°<=4->(Sq [] 98 (B98.drop 1) (dv W BW (PN (.d (.str w))) (PN (.r (J°+3))) v) (S0 x F i (J++[.lst g]))).res=bif decide (al g<=60)then bif bu g []then bif ak (mdW x W)then bif ak (dvW x W)then bif PU && rgW W then((nmC (J°+4) (λa=>dv W BW (PN (.d (.str w))) (PN a) (PN (.d (ae (mdW x W))))) (λe S=>.ok (.nx e) S) (ai (J°+4) [] (.nm 0) (El 30 [] 98 Ah) (rngL 0 1 (W°:Int).toNat) [PR,PN (.r 1),PN (.d (ae (mdW x W))),PN (.d (.tup W))] (.lst [ae (dvW x W)] :: .lst F :: .lst i :: (J++[.lst g,.lst []])))).bind λf S1=>match f with
   |.nx c=>Sq [] 98 (B98.drop 2) c S1
   |f=>.ok f S1).res else .bad else .bad else .bad else(Sq [] 98 (B98.drop 2) (dv W BW (PN (.d (.str w))) (PN (.r (J°+3))) v) (S0 x F i (J++[.lst g]))).res else .bad
 |[],_=>IO
 |[_],_=>IO
 |[_,_],_=>IO
 |[_,_,_],_=>IO
 |[_,_,_,_],_=>IO
 |_ :: _ :: _ :: _ :: _ :: _,h=>absurd h (by simp)
~KD(W F bk a)(x k:Int)(w:Str):∀ J:Sto,J°<=4->(El 30 [] 98 Ag [PN (.d (.int k)),PN (.r 1),PN (.d (.str w)),PN (.d (.tup W))] (S0 x F bk (J++[.lst a]))).res=(PU && (atI F k).isSome~>decide (((atI F k).getD .non).dep<=60)~>bif eqD ((atI F k).getD .non) (.str w)then ak (ixA (.d (.tup W)) (.d (.int k)) [])~>.ok (PN (ae (ixA (.d (.tup W)) (.d (.int k)) []))) (S0 x F bk (J++[.lst a])) else .ok PR (S0 x F bk (J++[.lst a])))
 |[],_=>IO
 |[_],_=>IO
 |[_,_],_=>IO
 |[_,_,_],_=>IO
 |[_,_,_,_],_=>IO
 |_ :: _ :: _ :: _ :: _ :: _,h=>absurd h (by simp)
~KG(W F bk c:PQ Dt)(x k o:Int):∀ J:Sto,J°<=5->(El 30 [] 98 Ah [PN (.d (.int k)),PN (.r 1),PN (.d (.int o)),PN (.d (.tup W))] (S0 x F bk (J++[.lst c]))).res=(PU && (atI F k).isSome~>PU && (atI F o).isSome~>decide (((atI F k).getD .non).dep<=60)~>bif eqD ((atI F k).getD .non) ((atI F o).getD .non)then ak (ixA (.d (.tup W)) (.d (.int k)) [])~>.ok (PN (ae (ixA (.d (.tup W)) (.d (.int k)) []))) (S0 x F bk (J++[.lst c])) else .ok PR (S0 x F bk (J++[.lst c])))
 |[],_=>IO
 |[_],_=>IO
 |[_,_],_=>IO
 |[_,_,_],_=>IO
 |[_,_,_,_],_=>IO
 |[_,_,_,_,_],_=>IO
 |_ :: _ :: _ :: _ :: _ :: _ :: _,h=>absurd h (by simp)
~cx{gd:PQ (Nat×PQ Dt)}{f:En->Mo (PY Dt)}{cs:En}{T:Sto}(hg:∀ acc,gB (T++[.lst acc]) gd=PU){g:Dt->PY Dt}:∀ (xs acc:PQ Dt) (u:PY Av),(∀ x∈xs,∀ acc,(f (PN (.d x) :: cs) (T++[.lst acc])).res=.ok (g x) (T++[.lst acc]))->acc°+xs°<=1000->(ai T° gd (.nm 0) f xs (u :: cs) (T++[.lst acc])).res=.ok () (T++[.lst (acc++xs.filterMap g)])
 |[],acc,u,_,_=>by
  rw[List.filterMap_nil,aAA];show(gOk _ _ _).res=_;PL gOk;rw[hg]
  rfl
 |x :: xs,acc,u,h,hl=>by
  rw[aAv]at hl;@hx:=h x aAe acc;@ih:=λacc' (hl:acc'°+xs°<=1000)=>cx hg (g:=g) xs acc' (PN (.d x)) (λy hy=>h y (aAk _ hy)) hl;have e0:ai T° gd (.nm 0) f (x :: xs) (u :: cs) (T++[.lst acc])=gOk (T++[.lst acc]) ((f (PN (.d x) :: cs) (T++[.lst acc])).bind λy S1=>match S1[T°]? with
   |some (.lst acc)=>match y with
    |some y=>if acc° < Ld then ai T° gd (.nm 0) f xs (PN (.d x) :: cs) ((S1.take (T°+1)).set T° (.lst (acc++[y])))else .bad
    |none=>ai T° gd (.nm 0) f xs (PN (.d x) :: cs) (S1.take (T°+1))
   |_=>.bad) gd:=rfl
  @e1:(T++[Ob.lst acc])[T°]?=PN (.lst acc):=by rw[aAt (aAo _),aA9];rfl
  @e2:(T++[Ob.lst acc]).take (T°+1)=T++[.lst acc]:=List.take_of_length_le (by rw[aAi];~aAo _);unfold gOk at e0;rw[e0,hg,L1,Rs.bindRes,hx,Rs.bind_ok,e1,e2,aAP]
  #g x with
  |none=>~ih acc or
  |some y =>
   @e3:(T++[Ob.lst acc]).set T° (.lst (acc++[y]))=T++[.lst (acc++[y])]:=by rw[List.set_append_right _ _ (aAo _),aA9];rfl
   show(if acc° < Ld then _ else _:Rs Unit).res=_;rw[Lj (show acc° < Ld by show _ < 16777216;on),e3,ih (acc++[y]) (by rw[aAi];show _+1+_<=_;on),aAO]
   rfl
~eX{l:PQ a}(h:i < l°):atI l (i)=PN l[i]:=by
 PL atI ixN;rw[Lj or,Lj or];~aAh h
~Ai{es}:atI (y :: es) 0=PN y:=eX (l:=y :: es) (Nat.succ_pos _)
~wN{l:PQ α}(h:0 < l°):∃ i,∃ a:i < l°,x % (l°)=(i:Int)/\atI l (x % (l°))=PN l[i]:=by
 @b:0<=x % (l°):=aBT _ or;@d:x % (l°) < l°:=aBI _ or;&i,a:=Int.eq_ofNat_of_zero_le b;~⟨i,or,a,by rw[a];~eX _⟩
~kn(h:x∈rngL 0 1 n):∃ k,k < n/\x=.int (k):=by
 &k,a,rfl:=aAc.mp h;~⟨k,aBK.mp a,by simp_all⟩
~Er(h:k < n):Dt.int (k)∈rngL 0 1 n:=by
 ~aAc.mpr ⟨k,aBK.mpr h,by simp_all⟩
~qc:(rngL 0 1 n)°=n:=by PL rngL;rw[aAa,aBr]
§iA(F W:PQ Str)(w:Str):Dt->PY Dt
 |.int k=>bif eqD ((atI (sS F) k).getD .non) (.str w)then PN ((atI (sS W) k).getD .non)else PR
 |_=>PR
~eH:iA F W w (.int k)=bif eqD ((atI (sS F) k).getD .non) (.str w)then PN ((atI (sS W) k).getD .non)else none:=rfl
~qd(h:atI W k=PN y):ixA (.d (.tup W)) (.d (.int k)) []=dd y:=by
 show aF _ []=_;rw[h]
 rfl
~mB(h:n=W°)(d:y∈(rngL 0 1 n).filterMap (iA F W w)):∃ z∈W,y=.str z:=by
 &x,f,e:=aAC.mp d;&k,g,rfl:=kn f;@c:k < (sS W)°:=by rw[aAa];on
 rw[eH,eX c]at e
 #q:eqD _ _ with
 |false=>rw[q]at e;#e
 |true=>rw[q]at e;#e;~⟨W[k],aA3 _,by simp⟩
~Es{F W:PQ Str}{bs:PQ (Str×Str)}{BW:PQ Dt}(hl:F°=W°)(l8:W°<=8)(l1:0 < W°)(b8:bs°<=8)(w:Str)(x:Int)(u v:PY Av)(J:Sto)(hJ:J°<=4):∃ z∈W,∃ y u' v' J',(Lp tx [] 98 3 (dv (sS W) BW (PN (.d (.str w))) u v) (S0 x (sS F) (bs.map pS) J)).res=.ok (.nx (dv (sS W) BW (PN (.d (.str w))) u' v')) (S0 y (sS F) ((bs++[(w,z)]).map pS) J')/\J'°<=J°+2:=by
 @hW:((sS W)°:Int).toNat=W°:=by rw[aAa];on
 @rg:rgW (sS W)=true:=dq.mpr (by rw[aAa];on);@hb:decide ((bs.map pS)° < Ld)=true:=Lh (by rw[aAa];show _ < 16777216;on);@fk:∀ k,k < W°->∃ a b,atI (sS F) (k:Int)=PN (.str a)/\atI (sS W) (k:Int)=PN (.str b):=λk hk=>by
  !⟨F[k],W[k],?_,?_⟩
  ·rw[eX (by rw[aAa];on)];simp
  ·rw[eX (by rw[aAa];on)];simp
 @hd:∀ (g:Dt->PY Dt),(∀ y∈(rngL 0 1 W°).filterMap g,∃ z∈W,y=.str z)->al ((rngL 0 1 W°).filterMap g)<=60:=λg hg=>bT λy hy=>by &z,_,rfl:=hg y hy;~aAM _
 @c1:=cx (gd:=[]) (λ_=>rfl) (f:=El 30 [] 98 Ag) (cs:=[PN (.r 1),PN (.d (.str w)),PN (.d (.tup (sS W)))]) (T:=S0 x (sS F) (bs.map pS) J) (g:=iA F W w) (rngL 0 1 W°) [] PR (λy hy acc=>by
  &k,hk,rfl:=kn hy;&a,b,ea,eb:=fk k hk;@e:=KD (sS W) (sS F) (bs.map pS) acc x k w J hJ;rw[ea,qd eb]at e;rw[eH,ea,eb];!e.trans ?_;show(bif eqD (.str a) (.str w)then _ else _)=Rs.ok (bif eqD (.str a) (.str w)then PN (Dt.str b)else PR) _
  cases eqD (Dt.str a) (.str w) <;> rfl) (by rw[qc];show 0+_<=_;on)
 @c1':(ai (J°+3) [] (.nm 0) (El 30 [] 98 Ag) (rngL 0 1 W°) [PR,PN (.r 1),PN (.d (.str w)),PN (.d (.tup (sS W)))] (S0 x (sS F) (bs.map pS) (J++[.lst []]))).res=_:=c1;@m1:=λy=>mB (F:=F) (W:=W) (w:=w) (n:=W°) rfl (y:=y);@a:=a98 (sS W) BW (sS F) (bs.map pS) x w u v J hJ;rw[rg,hW,cO,c1']at a;@a2:(Lp tx [] 98 3 (dv (sS W) BW (PN (.d (.str w))) u v) (S0 x (sS F) (bs.map pS) J)).res=(Sq [] 98 (B98.drop 1) (dv (sS W) BW (PN (.d (.str w))) (PN (.r (J°+3))) v) (S0 x (sS F) (bs.map pS) (J++[.lst ((rngL 0 1 W°).filterMap (iA F W w))]))).res:=a;rw[a2,KC _ _ _ _ _ _ _ _ _ hJ,Lh (hd _ m1)]
 #q:(rngL 0 1 W°).filterMap (iA F W w)with
 |cons e es =>
  &z,hz,rfl:=m1 e (by rw[q];~aAe);!⟨z,hz,x,PN (.r (J°+3)),v,J++[.lst (.str z :: es)],?_,by rw[aAi];show _+1<=_;on⟩;@z1:bu (.str z :: es) []=false:=rfl;rw[z1];PK[L1,Mr];rw[HJ _ _ _ _ _ _ _ _ _ or,hb,aAH,Ai]
  rfl
 |nil =>
  @hm:mdW x (sS W)=dd (.int (x % (W°:Int))):=by PL mdW;rw[aAa];~bK or
  @hv:dvW x (sS W)=dd (.int (x / (W°:Int))):=by PL dvW;rw[aAa];~dY or or
  &i,hi,ei,_:=wN (l:=W) (x:=x) l1;&m,b0,ea0,eb0:=fk i hi;@c2:=cx (gd:=[]) (λ_=>rfl) (f:=El 30 [] 98 Ah) (cs:=[PN (.r 1),PN (.d (.int (x % (W°:Int)))),PN (.d (.tup (sS W)))]) (T:=S0 (x / (W°:Int)) (sS F) (bs.map pS) (J++[.lst []])) (g:=iA F W m) (rngL 0 1 W°) [] PR (λy hy acc=>by
   &k,hk,rfl:=kn hy;&a,b,ea,eb:=fk k hk;@e:=KG (sS W) (sS F) (bs.map pS) acc (x / (W°:Int)) k (x % (W°:Int)) (J++[.lst []]) (by rw[aAi];show _+1<=_;on);rw[ea,ei,ea0,qd eb]at e;rw[eH,ea,eb,ei];!e.trans ?_;show(bif eqD (.str a) (.str m)then _ else _)=Rs.ok (bif eqD (.str a) (.str m)then PN (Dt.str b)else PR) _
   cases eqD (Dt.str a) (.str m) <;> rfl) (by rw[qc];show 0+_<=_;on)
  @c2':(ai (J°+4) [] (.nm 0) (El 30 [] 98 Ah) (rngL 0 1 W°) [PR,PN (.r 1),PN (.d (.int (x % (W°:Int)))),PN (.d (.tup (sS W)))] (.lst [.int (x / (W°:Int))] :: .lst (sS F) :: .lst (bs.map pS) :: (J++[.lst [],.lst []]))).res=.ok () (S0 (x / (W°:Int)) (sS F) (bs.map pS) (J++[.lst []]++[.lst ((rngL 0 1 W°).filterMap (iA F W m))])):=by
   @el:(S0 (x / (W°:Int)) (sS F) (bs.map pS) (J++[.lst []]))°=J°+4:=by simp[S0]
   rw[el]at c2;@e2:J++[Ob.lst [],.lst []]=J++[.lst []]++[.lst []]:=by rw[aAO];rfl
   rw[e2];~c2
  @m2:=λy=>mB (F:=F) (W:=W) (w:=m) (n:=W°) rfl (y:=y);@ne:(rngL 0 1 W°).filterMap (iA F W m)≠[]:=λh=>by
   @:Dt.str b0∈(rngL 0 1 W°).filterMap (iA F W m):=aAC.mpr ⟨_,Er hi,by
    rw[eH,ea0,eb0];show(bif m == m then _ else _)=_;rw[Lz]
    rfl⟩
   rw[h]at this
   #this
  #q2:(rngL 0 1 W°).filterMap (iA F W m)with
  |nil=>~absurd q2 ne
  |cons e es =>
   &z,hz,rfl:=m2 e (by rw[q2];~aAe);@k:=HJ (sS W) BW (sS F) (bs.map pS) (.str z :: es) (x / (W°:Int)) w (PN (.d (.int (x % (W°:Int))))) (J++[.lst []]) (by rw[aAi];show _+1<=_;on);@el:(J++[Ob.lst []])°+3=J°+4:=by rw[aAi];rfl
   rw[el,hb,Ai]at k;rw[q2]at c2';!⟨z,hz,x / (W°:Int),PN (.r (J°+4)),PN (.d (.int (x % (W°:Int)))),J++[.lst []]++[.lst (.str z :: es)],?_,by rw[aAi,aAi];~aAo _⟩;@z1:bu [] []=true:=rfl;rw[hm,hv,rg,hW,z1,show ak (dd (.int (x % (W°:Int))))=PU from rfl,show ak (dd (.int (x / (W°:Int))))=PU from rfl,show ae (dd (.int (x % (W°:Int))))=.int (x % (W°:Int))from rfl,show ae (dd (.int (x / (W°:Int))))=.int (x / (W°:Int))from rfl];PK[L1,Mr,aBx];rw[Rs.bindRes,cO,c2'];!Eq.trans ?_ (k.trans ?_)
   ·rfl
   ·rw[aAH]
    rfl
~wO(i:F°=W°)(j:W°<=8)(l:0 < W°):∀ (ws) (bs:PQ _) (x) (z u v) (J),J°+2*ws°<=6->bs°+ws°<=8->∃ es y C c d b,(aL [] (.nm 3) (Lp tx [] 98 3) (sS ws) (dv (sS W) BW z u v) (S0 x (sS F) (bs.map pS) J)).res=.ok (.nx (dv (sS W) BW C c d)) (S0 y (sS F) ((bs++es).map pS) b)/\es.map (·.1)=ws/\∀ p∈es,p.2∈W
 |[],bs,x,z,u,v,J,_,_=>⟨[],x,z,u,v,J,by rw[aAA];rfl,rfl,λ_ h=>nomatch h⟩
 |w :: ws,bs,x,z,u,v,J,G,n=>by
  rw[aAv]at G n;&e,B,y,c,d,b,k,H:=Es i j l (show bs°<=8 by on) w x u v J or;&es,o,D,u2,r,A,g,t,m:=wO i j l ws (bs++[(w,e)]) y _ c d b or (by rw[aAi];show _+1+_<=_;on);!⟨(w,e) :: es,o,D,u2,r,A,?_,by rw[aAr,t],λp a=>?_⟩
  ·show(aL [] _ _ (.str w :: sS ws) _ _).res=_;rw[mz (env1:=dv _ BW _ u v) rfl,k,Rs.bind_ok];rw[aAO]at g;~g
  ·rcases aAl.mp a with rfl | a
   ·~B
   ·~m p a
~qe{BW:PQ Str}(k:0 < BW.length)(w:BW.length<=8):∀ (l a:PQ Dt) (x:Int) (u:PY Av),a°+l°<=1000->∃ (F:PQ Str) (y:Int),(ai 1 [] (.nm 0) (El 30 [] 98 Af) l [u,PN (.d (.tup (sS BW))),PN (.r 0)] [rw1 x,.lst a]).res=.ok () [rw1 y,.lst (a++sS F)]/\F°=l°/\∀ f∈F,f∈BW
 |[],a,x,u,_=>⟨[],x,by show _=Rs.ok () [rw1 x,.lst (a++[])];rw[aAA];rfl,rfl,λ_ h=>nomatch h⟩
 |d :: l,a,x,u,t=>by
  rw[aAv]at t;@s:aj .mod (.d (.int x)) (.d (.int ((sS BW)°:Int))) []=dd (.int (x % (BW.length:Int))):=by rw[aAa];~bK or
  @o:aj .fdiv (.d (.int x)) (.d (.int ((sS BW)°:Int))) []=dd (.int (x / (BW.length:Int))):=by rw[aAa];~dY or or
  &i,c,_,m:=wN (l:=sS BW) (x:=x) (by rw[aAa];~k);rw[aAa]at m;@n:=qd m;rw[aB7]at n;&F,y,e,v,p:=qe k w l (a++[.str (BW[i]'(by rw[aAa]at c;~c))]) (x / (BW.length:Int)) (PN (.d d)) (by rw[aAi];show _+1+_<=_;on);!⟨BW[i]'(by rw[aAa]at c;~c) :: F,y,?_,by rw[aAv,aAv,v],λf j=>?_⟩
  ·rw[KB [],s,o];show(ak (ixA _ (.d (.int _)) [])~>(if a° < Ld then ai 1 [] (.nm 0) _ l _ [.lst _,.lst (a++[ae (ixA _ (.d (.int (x % (BW.length:Int)))) [])])]else .bad).res)=_;rw[n,Lj (show a° < Ld by show _ < 16777216;on)];rw[aAO]at e;~e
  ·rcases aAl.mp j with rfl | j
   ·~aA3 _
   ·~p f j
§BWs:PQ (PQ Str):=[["x"],["x","b"],["x","b","yy"]]
~HK(x):∃ BW∈BWs,L2.io XS PR (PN (1+x % 3))=sS BW:=by
 @:x % 3=0\/x % 3=1\/x % 3=2:=or
 rcases this with h | h | h <;> rw[h]
 ·PM _,.head _,rfl
 ·PM _,.tail _ (.head _),rfl
 ·PM _,.tail _ (.tail _ (.head _)),rfl
~Bm(h:BW∈BWs):BW.Nodup/\0 < BW.length/\BW.length<=3/\c.H 13 23 (ent [.d (.tup (sS BW))] [] (bb PU)):=by
 PK[BWs,aAl,aAu,LN]at h;rcases h with rfl | rfl | rfl
 ·~⟨by decide +kernel,by decide,by decide,g0 (IO)⟩
 ·~⟨by decide +kernel,by decide,by decide,g0 (IO)⟩
 ·~⟨by decide +kernel,by decide,by decide,g0 (IO)⟩
~KH{W:PQ Str}(A:W.Nodup)(n:0 < W°)(l:W°<=8)(a:c.H 13 23 (ent [.d (.tup (sS W))] [] (bb PU)))(x:Int):∃ (F:PQ Str) (B:PQ (Str×Str)) (y:Int),c.H 13 98 (ent [.r 0,.d (.tup (sS W))] [rw1 x] (.ok (.d (aT (sS F) (B.map pS))) [rw1 y]))/\B°<=8/\B.map (·.1)∈BWs/\(LT c 39 (aT (sS F) (B.map pS)) (ch (sS W)) (ch (sS (B.map (·.1)))) (aT (sS (B.map (·.2))) ((W.zip F).map pS))\/c.H 39 53 (ent [.d (aT (sS F) (B.map pS)),.d (ch (sS W))] [] (bb PV))):=by
 &BW,j,u:=HK x;&s,v,H,h:=Bm (c:=c) j;&F,y,e,fl,p:=qe v or (sS W) [] (x / 3) PR (by rw[aAa];show 0+_<=_;on);rw[aAa]at fl;&i,o,I,J,D,G,k,f,w:=wO (BW:=sS BW) fl l n BW [] y PR PR PR [] (by show 0+_<=_;on) (by show 0+_<=_;on);@m:i°<=8:=by @:=Mg List.length f;rw[aAa]at this;on
 !⟨F,i,o,g0 ((e98 (sS W) x).trans ?_),m,by rw[f];~j,wM fl A (by rw[f];~s) l m (by rw[f];~h) a (by rw[f];~p) w⟩;@z:(aL [] (.nm 3) (Lp tx [] 98 3) (sS BW) _ (S0 y (sS F) [] [])).res=_:=k;@C:=e;rw[u,aC,aE,b98,cO,C];!Eq.trans (b:=tidy 1 (aU (Bk [] 98 2 _ [rw1 y,.lst (sS F)]).res).res) rfl ?_;rw[c98,Rs.bindRes,z,Rs.bind_ok];rw[<- aE,<- aC];~d98 _ _ _ _ _ _ _ _ _
§kfs:PQ Int:=[2,3,10,7]
¶HL(a b w:Int)(m k l:PY Av):En:=[PN (.r 0),PN (.d (.int a)),PN (.d (.int b)),PN (.d (.int w)),m,k,l]
§N99(k:Nat)(a b w f y:Int):Rs Av:=(tidy 1 (aU (Bk [] 99 k (HL a b w PR (PN (.d (.int f))) PR) [rw1 y]))).res
§mx9(a b:Int):Dt:=ae (blt2 .max (.d (ae (sl a))) (.d (ae (sl b))) [])
~e99(a b x):E [] 99 [.r 0,.d (.int a),.d (.int b)] [rw1 x]=bif x % 4 == 0 then ak (aV .str (.d (.int a)) [])~>ak (sl a)~>ak (aV .str (.d (.int b)) [])~>ak (sl b)~>ak (blt2 .max (.d (ae (sl a))) (.d (ae (sl b))) [])~>ak (aj .add (.d (mx9 a b)) (.d (.int (x / 4 % 3))) [])~>.ok (.d (.tup [.str "figures",ae (aj .add (.d (mx9 a b)) (.d (.int (x / 4 % 3))) [])])) [rw1 (x / 4 / 3)]
 else PU && (atI (kfs.map Dt.int) (x / 4 % 4)).isSome~>(tidy 1 (aU (Bk [] 99 3 (HL a b (x % 4) PR (PN (.d ((atI (kfs.map Dt.int) (x / 4 % 4)).getD .non))) PR) [rw1 (x / 4 / 4)]))).res:=IO
§mu9(a b f:Int):Rs Av:=aj .mul (.d (ae (blt2 .max (.d (ae (aV .abs (.d (.int a)) []))) (.d (ae (aV .abs (.d (.int b)) []))) []))) (.d (.int f)) []
¶le9(a b f:Int):Rs Av:=av .le (.d (ae (mu9 a b f))) (.d (.int (10 ^ 30))) []
~KI(a b w f y):N99 3 a b w f y=bif w == 1 then ak (mu9 a b f)~>ak (le9 a b f)~>isB (ae (le9 a b f))~>bif bv (ae (le9 a b f))then .ok (.d (db f)) [rw1 y]else N99 4 a b w f y else N99 4 a b w f y:=IO
¶md9(a f:Int):Rs Av:=aj .mod (.d (.int a)) (.d (.int f)) []
~KJ(a b w f y):N99 4 a b w f y=bif w == 2 then ak (md9 a f)~>decide ((ae (md9 a f)).dep<=60)~>bif eqD (ae (md9 a f)) (.int 0)then ak (md9 b f)~>decide ((ae (md9 b f)).dep<=60)~>bif eqD (ae (md9 b f)) (.int 0)then .ok (.d (bS f)) [rw1 y]else N99 5 a b w f y else N99 5 a b w f y else N99 5 a b w f y:=IO
~KK(a b w f y):∃ i j z,N99 5 a b w f y=.ok (.d (bM i j)) [rw1 z]:=by
 @e:N99 5 a b w f y=bif decide (10 ^ 29 < iv (ae (aV .abs (.d (.int a)) [])))then .ok (.d (bM (y / 13 % 9 - 4) (y / 13 % 9 - 4+y / 13 / 9 % 40))) [rw1 (y / 13 / 9 / 40)]else .ok (.d (bM (a+y % 13 - 6) (a+y % 13 - 6+y / 13 % 40))) [rw1 (y / 13 / 40)]:=IO
 rw[e]
 #decide (10 ^ 29 < iv _)
 ·PM _,_,_,rfl
 ·PM _,_,_,rfl
inductive NT:Dt->Prop
 |fig (f:Int):NT (bX f)
 |sc (f:Int) (h2:2<=f) (h3:f<=1000):NT (db f)
 |sh (f:Int) (h2:2<=f) (h3:f<=1000):NT (bS f)
 |bd (i j:Int):NT (bM i j)
§RP(P:Dt->Prop)(r:Rs Av):Prop:=∃ v y,r=.ok (.d v) [rw1 y]/\P v
~bP(h:RP P x)(k:RP P y):RP P (bif b then x else y):=by
 #b
 ·~k
 ·~h
~ow(e:b=PU)(h:RP P x):RP P (bif b then x else y):=by rw[e];~h
~d99{a b:Int}(D:-10 ^ 30<=a)(F:a<=b)(G:b<=10 ^ 30)(x:Int):∃ t y,c.H 13 99 (ent [.r 0,.d (.int a),.d (.int b)] [rw1 x] (.ok (.d t) [rw1 y]))/\NT t:=by
 suffices h:RP NT (E [] 99 [.r 0,.d (.int a),.d (.int b)] [rw1 x])by
  &t,y,e,n:=h;PM t,y,g0 e,n
 rw[e99];!bP ?_ ?_
 ·&i,u,B:=kh (a:=a) or or;&j,A,s:=kh (a:=b) or or;PL mx9;rw[u,B,A,s];PM _,_,rfl,.fig _
 ·&f,w,v:=ce (l:=kfs) (y:=x / 4) (by decide);@k:atI (kfs.map Dt.int) (x / 4 % 4)=PN (.int f):=v;@g:2<=f/\f<=1000:=by PK[kfs,aAl,aAu,LN]at w;on
  rw[k];show RP NT (N99 3 a b (x % 4) f (x / 4 / 4));@o:∀ a:Int,md9 a f=dd (.int (a % f)):=λa=>bK or;@n5:RP NT (N99 5 a b (x % 4) f (x / 4 / 4)):=by
   &i,j,z,e:=KK a b (x % 4) f (x / 4 / 4);PM _,_,e,.bd i j
  @p:RP NT (N99 4 a b (x % 4) f (x / 4 / 4)):=by
   rw[KJ,o a,o b];~bP (ow rfl (ow rfl (bP (ow rfl (ow rfl (bP ⟨_,_,rfl,.sh f g.1 g.2⟩ n5))) n5))) n5
  @m:∃ i:Int,mu9 a b f=dd (.int i):=by
   PL mu9;show ∃ i:Int,aj .mul (.d (.int _)) (.d (.int f)) []=_;PK[aj,cj,p7 g.1 g.2,Nd];PM _,rfl
  &i,C:=m;rw[KI];PL le9;rw[C];~bP (ow rfl (ow rfl (ow rfl (bP ⟨_,_,rfl,.sc f g.1 g.2⟩ p)))) p
structure TR(c:Ct)(N:Nat)(t k:Dt):Prop where
 tp:∃ tl,t=.tup tl
 d:t.dep<=k.dep+2
 h:(∃ kl tl,LT c N t k (.tup kl) (.tup tl)/\Ty c N (.tup kl)/\(Dt.tup kl).dep<=k.dep+1)\/c.H N 53 (ent [.d t,.d k] [] (bb PV))
~TR.up(h:TR c N t k)(l:N<=M):TR c M t k:=⟨h.tp,h.d,by
 rcases h.h with⟨f,e,a,b,d⟩ | q
 ·~.inl ⟨f,e,a.up l,b.up l,d⟩
 ·~.inr (Q27.up q l)⟩
~Et(m:-10 ^ 30<=a)(l:a<=b)(o:b<=10 ^ 30)(h:NT t):TR c 26 t (nm a b):=by
 #h with
 |fig f =>
  &i,d:=mf (a:=a) (b:=b) or or or or;!⟨⟨_,rfl⟩,by PK[Dt.dep,al];on,?_⟩
  by_cases q:i<=f
  ·~.inl ⟨_,_,ww d m l o q,(n6 f).up or,by PK[Dt.dep,al];on⟩
  ·~.inr (Eb d q)
 |sc f g e=>~⟨⟨_,rfl⟩,by PK[Dt.dep,al];on,.inl ⟨_,_,(mq g e).up or,(ty_num _ _).up or,by PK[Dt.dep,al];on⟩⟩
 |sh f g e =>
  !⟨⟨_,rfl⟩,by PK[Dt.dep,al];on,?_⟩
  by_cases q:a % f=0/\b % f=0
  ·~.inl ⟨_,_,(rK g e q.1 q.2).up or,(ty_num _ _).up or,by PK[Dt.dep,al];on⟩
  ·!.inr (Q27.up (g0 ((jr a b f).trans ?_)) or);rw[Lh g,Lh e,bK or,bK or];show(bif a % f == 0 then bb (b % f == 0)else bb PV)=_
   by_cases k:a % f=0
   ·@n:=λz=>q ⟨k,z⟩;rw[show(a % f == 0)=PU by simpa using k,show(b % f == 0)=PV by simpa using n]
    rfl
   ·rw[show(a % f == 0)=PV by simpa using k]
    rfl
 |bd i j=>~⟨⟨_,rfl⟩,by PK[Dt.dep,al];on,.inl ⟨_,_,(rG a b i j).up or,(ty_num _ _).up or,by PK[Dt.dep,al];on⟩⟩
¶ox(x:Int):Rs Av:=.ok (.d (eF (1+x / 5 % 8))) [rw1 (x / 5 / 8)]
~HM(a b x y)(t):E [(99,ent [.r 0,.d (.int a),.d (.int b)] [rw1 (x / 5)] (.ok (.d t) [rw1 y]))] 100 [.r 0,.d (nm a b)] [rw1 x]=bif x % 5 == 0 then ox x else q [.r 0,.d (.int a),.d (.int b)] [rw1 (x / 5)] (.ok (.d t) [rw1 y]):=IO
~HN(l)(x y)(t):E [(98,ent [.r 0,.d (.tup l)] [rw1 (x / 5)] (.ok (.d t) [rw1 y]))] 100 [.r 0,.d (ch l)] [rw1 x]=bif x % 5 == 0 then ox x else q [.r 0,.d (.tup l)] [rw1 (x / 5)] (.ok (.d t) [rw1 y]):=IO
§nums:PQ Int:=[9,5,7]
§cuts:PQ Int:=[0,1,2,4,60]
¶oy(x:Int):Rs Av:=PU && (atI (cuts.map Dt.int) (x / 5 / 2 % 5)).isSome~>.ok (.d (.tup [.str "cut",(atI (cuts.map Dt.int) (x / 5 / 2 % 5)).getD .non])) [rw1 (x / 5 / 2 / 5)]
~HP(m x):E [] 100 [.r 0,.d (tx' m)] [rw1 x]=bif x % 5 == 0 then ox x else bif x / 5 % 2 == 0 then bif decide (0 < m)then PU && (atI (nums.map Dt.int) (x / 5 / 2 % 3)).isSome~>.ok (.d (.tup [.str "number",.int 0,(atI (nums.map Dt.int) (x / 5 / 2 % 3)).getD .non])) [rw1 (x / 5 / 2 / 3)] else oy x else oy x:=IO
~HQ(l)(x):E [] 100 [.r 0,.d (rc l)] [rw1 x]=bif x % 5 == 0 then ox x else ox x:=IO
¶ko(x:Int):Rs Av:=.ok (.d (bA (x / 5 / 3 % 5))) [rw1 (x / 5 / 3 / 5)]
~HR(a k)(m x):E [] 100 [.r 0,.d (rw' a k m)] [rw1 x]=bif x % 5 == 0 then ox x else ko x:=IO
~HU(k t)(m x y):E [(100,ent [.r 0,.d k] [rw1 (x / 5 / 3)] (.ok (.d t) [rw1 y]))] 100 [.r 0,.d (ls k m)] [rw1 x]=bif x % 5 == 0 then ox x else bif x / 5 % 3 == 0 then bif decide (0 < m)then .ok (.d rB) [rw1 (x / 5 / 3)]else bif x / 5 % 3 == 1 then q [.r 0,.d k] [rw1 (x / 5 / 3)] (.ok (.d (bh t)) [rw1 y])else ko x else bif x / 5 % 3 == 1 then q [.r 0,.d k] [rw1 (x / 5 / 3)] (.ok (.d (bh t)) [rw1 y])else ko x:=IO
~wP(h:Sh c N k):∃ kl,k=.tup kl/\∀ f:Int,E [] 53 [.d (eF f),.d (.tup kl)] []=bb (decide (1<=f)):=by
 #h with
 |lf h =>
  #h with
  |num a b _ _ _=>PM _,rfl,zW a b
  |txt m _ _=>PM _,rfl,zX m
  |cho l _=>PM _,rfl,zY l
 |ls h g i e=>PM _,rfl,zZ _ _
 |rcd h j=>PM _,rfl,z6 _
 |row g i e n w j=>PM _,rfl,z7 _ _ _
¶tl(N:Nat)(k:Dt):Nat:=N+13*k.dep
~kq(h:Sh c N k)(a:Ty c N k)(x):TR c (N+13) (eF (1+x / 5 % 8)) k:=by
 &b,rfl,e:=wP h;~⟨⟨_,rfl⟩,by PK[Dt.dep,al];on,.inl ⟨_,_,(wq or (e _)).up or,ke a _,by PK[Dt.dep,al];on⟩⟩
~Aj(h:l∈CH):∃ W:PQ Str,l=sS W/\W.Nodup/\0 < W°/\W°<=8:=by
 PK[CH,aAl,aAu,LN]at h;rcases h with rfl | rfl | rfl
 ·~⟨["b","a","no","yes"],rfl,by decide +kernel,by decide,by decide⟩
 ·~⟨["a","no","yes"],rfl,by decide +kernel,by decide,by decide⟩
 ·~⟨["no","yes"],rfl,by decide +kernel,by decide,by decide⟩
~oz(l):al (sS l)=0:=Nat.le_zero.mp (bT λx a=>by &z,_,rfl:=aAc.mp a;~aAo _)
~Eu(l:PQ _):al (l.map pS)<=1:=bT λx a=>by &z,_,rfl:=aAc.mp a;PK[ Dt.dep,al];on
~KL{k:Dt}(h:Sh c N k)(h26:26<=N)(o:Ty c N k):∀ x,∃ t y,c.H (13+13*k.dep) 100 (ent [.r 0,.d k] [rw1 x] (.ok (.d t) [rw1 y]))/\TR c (tl N k) t k:=by
 induction h with
 |lf h =>
  intro x;@f:=kq (.lf h) o x
  #h with
  |num a b C s h3 =>
   &t,y,ht,n:=d99 (c:=c) C s h3 (x / 5);@e:=HM a b x y t;rw[ah]at e
   #q:x % 5 == 0 with
   |true=>rw[q]at e;PM _,_,up (go (ac (a:=(99,_)) ht af) e) (by PK[Dt.dep];on),f.up (by PK[tl,Dt.dep,al];on)
   |false=>rw[q]at e;PM _,_,up (go (ac (a:=(99,_)) ht af) e) (by PK[Dt.dep];on),(Et C s h3 n).up (by PK[tl,Dt.dep,al];on)
  |txt m C s =>
   @e:=HP m x;@cu:∃ d:Int,atI (cuts.map Dt.int) (x / 5 / 2 % 5)=PN (.int d):=by
    &d,_,ed:=ce (l:=cuts) (y:=x / 5 / 2) (by decide);PM d,ed
   &d,ed:=cu;@trc:TR c (tl N (tx' m)) (og d) (tx' m):=⟨⟨_,rfl⟩,by PK[Dt.dep,al];on,.inl ⟨_,_,(Ea m d).up (by PK[tl,Dt.dep,al];on),(n6 d).up (by PK[tl,Dt.dep,al];on),by PK[Dt.dep,al];on⟩⟩;unfold oy at e;rw[ed]at e
   #q:x % 5 == 0 with
   |true=>rw[q]at e;PM _,_,up (g0 e) (by PK[Dt.dep];on),f.up (by PK[tl,Dt.dep,al];on)
   |false =>
    #v:x / 5 % 2 == 0 with
    |false=>rw[q,v]at e;PM _,_,up (g0 e) (by PK[Dt.dep];on),trc
    |true =>
     #D:decide (0 < m)with
     |false=>rw[q,v,D]at e;PM _,_,up (g0 e) (by PK[Dt.dep];on),trc
     |true =>
      &z,hz,ez:=ce (l:=nums) (y:=x / 5 / 2) (by decide);@ez':atI (nums.map Dt.int) (x / 5 / 2 % 3)=PN (.int z):=ez;@z9:0<=z/\z<=9:=by PK[nums,aAl,aAu,LN]at hz;on
      rw[q,v,D,ez']at e;!⟨cM 0 z,_,up (g0 e) (by PK[Dt.dep];on),⟨_,rfl⟩,by PK[Dt.dep,al];on,?_⟩;&i,h55:=mf (c:=c) (a:=0) (b:=z) or or or or
      by_cases w:i<=m
      ·~.inl ⟨_,_,(ww h55 or or or w).symm.up (by PK[tl,Dt.dep,al];on),(ty_num _ _).up (by PK[tl,Dt.dep,al];on),by PK[Dt.dep,al];on⟩
      ·~.inr (up (Ec h55 or or or w) (by PK[tl,Dt.dep,al];on))
  |cho l hl =>
   &W,rfl,wn,w1,w8:=Aj hl;&F,B,y,h98,b8,bw,hh:=KH (c:=c) wn w1 w8 (h23 hl) (x / 5);@e:=HN (sS W) x y (aT (sS F) (B.map pS));rw[ah]at e;@d1:=oz F;@d2:=Eu B;@d3:=oz W;@d4:=oz (B.map (·.1))
   #q:x % 5 == 0 with
   |true=>rw[q]at e;PM _,_,up (go (ac (a:=(98,_)) h98 af) e) (by PK[Dt.dep];on),f.up (by PK[tl,Dt.dep,al];on)
   |false =>
    rw[q]at e;!⟨_,_,up (go (ac (a:=(98,_)) h98 af) e) (by PK[Dt.dep];on),⟨_,rfl⟩,by PK[Dt.dep,al];on,?_⟩;rcases hh with hh | hh
    ·&_,_,_,b23:=Bm (c:=c) bw;~.inl ⟨_,_,hh.up (by PK[tl,Dt.dep,al];on),(vF b23).up (by PK[tl,Dt.dep,al];on),by PK[Dt.dep,al];on⟩
    ·~.inr (up hh (by PK[tl,Dt.dep,al];on))
 |ls G u C s ih =>
  rename_i g m
  intro x;@f:=kq (.ls G u C s) o x;&t,y,ht,tr:=ih u (x / 5 / 3);@ed:(ls (.tup g) m).dep=(Dt.tup g).dep+1:=by PK[Dt.dep,al];on
  @e:=HU (.tup g) t m x y;PK[ah]at e;@gg:∀ {r:Rs Av},E [(100,ent [.r 0,.d (.tup g)] [rw1 (x / 5 / 3)] (.ok (.d t) [rw1 y]))] 100 [.r 0,.d (ls (.tup g) m)] [rw1 x]=r->c.H (13+13*(ls (.tup g) m).dep) 100 (ent [.r 0,.d (ls (.tup g) m)] [rw1 x] r):=λe=>up (go (ac (a:=(100,_)) ht af) e) or;@fst:TR c (tl N (ls (.tup g) m)) (bA (x / 5 / 3 % 5)) (ls (.tup g) m):=⟨⟨_,rfl⟩,by PK[Dt.dep,al];on,.inl ⟨_,_,(rH _ _ _).up (by PK[tl,Dt.dep,al];on),(ke u _).up (by PK[tl,Dt.dep,al];on),by PK[Dt.dep,al];on⟩⟩;@itm:TR c (tl N (ls (.tup g) m)) (bh t) (ls (.tup g) m):=by
   &H,rfl:=tr.tp;!⟨⟨_,rfl⟩,?_,?_⟩
   ·@:=tr.d;rw[ed];@e2:(bh (.tup H)).dep=(Dt.tup H).dep+1:=by PK[Dt.dep,al];on
    on
   ·rcases tr.h with⟨kl2,tl2,a,b,d⟩ | q
    ·~.inl ⟨_,_,(wt a m).up (by PK[tl,Dt.dep,al];on),(ke b m).up (by PK[tl,Dt.dep,al];on),by PK[Dt.dep,al]at d ⊢;on⟩
    ·~.inr (up (g1 q (ia _ _ _ _) ah) (by PK[tl,Dt.dep,al];on))
  @rest:∀ {r:Rs Av},r=(bif x / 5 % 3 == 1 then Rs.ok (.d (bh t)) [rw1 y]else ko x)->∃ t y,r=.ok (.d t) [rw1 y]/\TR c (tl N (ls (.tup g) m)) t (ls (.tup g) m):=fun{r} p=>by
   #q:x / 5 % 3 == 1 with
   |true=>rw[q]at p;PM _,_,p,itm
   |false=>rw[q]at p;PM _,_,p,fst
  #q:x % 5 == 0 with
  |true=>rw[q]at e;PM _,_,gg e,f.up (by PK[tl,Dt.dep,al];on)
  |false =>
   #v:x / 5 % 3 == 0 with
   |false =>
    rw[q,v]at e;&t',y',p,A:=rest rfl;PM t',y',gg (e.trans p),A
   |true =>
    #D:decide (0 < m)with
    |false =>
     rw[q,v,D]at e;&t',y',p,A:=rest rfl;PM t',y',gg (e.trans p),A
    |true =>
     rw[q,v,D]at e;&kl',e',eo:=wP G
     #e'
     ~⟨_,_,gg e,⟨_,rfl⟩,by PK[Dt.dep,al];on,.inl ⟨_,_,(wq (by @:=My D;on) (eo m)).symm.up (by PK[tl,Dt.dep,al];on),u.up (by PK[tl,Dt.dep,al];on),or⟩⟩
 |rcd hb G ih =>
  rename_i ms
  intro x;@f:=kq (.rcd hb G) o x;@e:=HQ (ms.map pr) x;rw[aBi]at e;PM _,_,up (g0 e) (by PK[Dt.dep];on),f.up (by PK[tl,Dt.dep,al];on)
 |row u C s hk w G =>
  rename_i ms m
  intro x;@f:=kq (.row u C s hk w G) o x;@e:=HR (.str "id") (rf ms) m x
  #q:x % 5 == 0 with
  |true=>rw[q]at e;PM _,_,up (g0 e) (by PK[Dt.dep];on),f.up (by PK[tl,Dt.dep,al];on)
  |false =>
   rw[q]at e;~⟨_,_,up (g0 e) (by PK[Dt.dep];on),⟨_,rfl⟩,by PK[Dt.dep,al];on,.inl ⟨_,_,(rJ _ _ _ _).up (by PK[tl,Dt.dep,al];on),(vH u or hk _).up (by PK[tl,Dt.dep,al];on),by PK[Dt.dep,al];on⟩⟩
¶UA:PQ Str:=["ua","ub","uc","ud","ue","uf","ug","uh","ui"]
§HV:PY Expr:=stA 101 2 >>= mu
~KM(l ns):E [] 101 [.d (rc l),.r 0] [.lst ns]=bif l.all (λx=>bif bZ 2 x then PU else PV)then bif decide (l°<=Ld)then bif decide (ns°+(sS UA)°<=Ld)then(tidy 1 (aU ((((bQ (ai 4 [(3,ns++sS UA)] (.nm 0) (El 29 [] 101 HV) (ns++sS UA) [PR,PN (.r 1)] [.lst ns,.lst (l.map (ag 0)),.lst (sS UA),.lst (ns++sS UA),.lst []])).bind λ_ e=>Rs.ok (Av.r 4) e).bind λa S1=>Rs.ok (Fl.rt a) S1).bind λf S1=>match f with
 |.nx b=>.ok (.nx b) S1
 |f=>.ok f S1))).res else .bad else .bad else .bad:=IO
~KN(ns tk b c a)(n):(El 29 [] 101 HV [PN (.d (.str n)),PN (.r 1)] [.lst ns,.lst tk,.lst b,.lst c,.lst a]).res=(PU && tk.all aH~>bif !inD (.str n) tk then .ok (PN (.str n)) [.lst ns,.lst tk,.lst b,.lst c,.lst a]else .ok PR [.lst ns,.lst tk,.lst b,.lst c,.lst a]):=IO
~oA{f:b->Mo e}{h:d->Mo δ}:∀ r:Rs b,((((bQ r).bind f).bind g).bind h).res=((((bQ r.res).bind f).bind g).bind h).res
 |.ok _ _ | .ex _ _ | .bad=>rfl
 |.br PU x y=>oA x
 |.br PV x y=>oA y
¶HW(fs:Fs)(ns:PQ Str):Rs Av:=.ok (.r 4) [.lst (sS ns),.lst (sS (fs.map (·.1))),.lst (sS UA),.lst (sS (ns++UA)),.lst (sS (ns++UA))]
~Ew(h:∀ w∈W,w≠f):inD (.str f) (sS W)=false:=by
 rw[aA6];intro q;&y,b,e:=aBt.mp q;&w,a,rfl:=aAc.mp b;~h w a (beq_iff_eq.mp e)
~oB(W):(sS W).all aH=true:=aAf.mpr λx b=>by &p,_,rfl:=aAc.mp b;rfl
~Ex(u:fs°<=20)(i:ns°<=20)(h:∀ n∈ns++UA,∀ p∈fs,p.1≠n):c.H 13 101 (ent [.d (rf fs),.r 0] [.lst (sS ns)] (HW fs ns)):=g0 ((KM _ _).trans (by
 @t:(fs.map pr).map (ag 0)=sS (fs.map (·.1)):=by show _=(fs.map _).map _;rw[aAz,aAz];rfl
 @s:sS ns++sS UA=sS _:=(aAH).symm;@k:=cx (gd:=[(3,sS (ns++UA))]) (T:=[.lst (sS ns),.lst (sS _),.lst (sS UA),.lst _]) (λf=>by show(dsE _ _ && PU)=PU;rw[b4];rfl) _ [] PR (λx e f=>by
  &n,i,rfl:=aAc.mp e;!(KN _ _ _ _ _ n).trans ?_;rw[oB,Ew λw o=>by &p,l,rfl:=aAc.mp o;~h n i p l]
  rfl) (by rw[aAa,aAi];show 0+(_+9)<=_;on)
 rw[List.filterMap_some]at k;@j:(ai 4 _ _ _ _ _ [.lst _,.lst _,.lst _,.lst _,.lst []]).res=_:=k;rw[t,s,aAf.mpr λx e=>by &y,_,rfl:=aAc.mp e;rfl,Lh (show(fs.map pr)°<=Ld by rw[aAa];show _<=16777216;on),Lh (show(sS ns)°+(sS UA)°<=Ld by rw[aAa];show _+9<=16777216;on)];rw[aC,aE,oA,j]
 rfl))
¶NP:PQ Str:=["new","p","q","z"]
¶NZ:PQ Str:=["new","z"]
¶NA:PQ Str:=["aa","m","zz"]
¶HX(tk:PQ Dt)(ns:PQ Str):Rs Av:=.ok (.r 4) [.lst (sS ns),.lst tk,.lst (sS UA),.lst (sS (ns++UA)),.lst (sS (ns++UA))]
¶t102(l tk:PQ Dt)(k:Dt)(x y z:Int)(v t:Dt):PQ (Nat×Sp1):=[(101,ent [.d (rc l),.r 0] [.lst (sS NP)] (HX tk NP)),(96,ent [.r 0,.d k] [rw1 (x / 6)] (.ok (.d v) [rw1 y])),(100,ent [.r 0,.d k] [rw1 (x / 6)] (.ok (.d t) [rw1 z]))]
¶wQ(l:PQ Dt)(ns:PQ Str)(r:Rs Av):Rs Av:=q [.d (rc l),.r 0] [.lst (sS ns)] r
¶pT(a:Str)(t:Dt):Dt:=.tup [.str "turn",.str a,t]
§mC(l:PQ Dt)(k:Dt)(a:Str)(x y z:Int)(v t:Dt)(r:Rs Av->Rs Av):Rs Av:=wQ l NP (bif x % 6 == 0 then q [.r 0,.d k] [rw1 (x / 6)] (.ok (.d (ba a v)) [rw1 y])else bif x % 6 == 1 then .ok (.d (bc a "new")) [rw1 (x / 6)]else r (q [.r 0,.d k] [rw1 (x / 6)] (.ok (.d (pT a t)) [rw1 z])))
§facs:PQ Int:=[2,3,10]
¶SEP:Str:= "-| "
¶sp(x:Int):Rs Av:=ixA (.d (.str SEP)) (.d (.int (x % 3))) []
~HY(l tk)(a)(i j x y z)(v t):E (t102 l tk (nm i j) x y z v t) 102 [.r 0,.d (rc l),.d (.str a),.d (nm i j)] [rw1 x]=mC l (nm i j) a x y z v t λr=>bif decide (x % 6 < 4)then PU && (atI (facs.map Dt.int) (x / 6 % 3)).isSome~>.ok (.d (.tup [.str "part",.str a,(atI (facs.map Dt.int) (x / 6 % 3)).getD .non,.str "p",.str "q"])) [rw1 (x / 6 / 3)] else r:=IO
~HZ(l tk)(a)(m x y z)(v t):E (t102 l tk (tx' m) x y z v t) 102 [.r 0,.d (rc l),.d (.str a),.d (tx' m)] [rw1 x]=mC l (tx' m) a x y z v t λr=>bif decide (x % 6 < 4)then ak (sp (x / 6))~>.ok (.d (.tup [.str "split",.str a,ae (sp (x / 6)),.str "p",.str "q"])) [rw1 (x / 6 / 3)] else r:=IO
~H0(l tk w)(a)(x y z)(v t):E (t102 l tk (ch w) x y z v t) 102 [.r 0,.d (rc l),.d (.str a),.d (ch w)] [rw1 x]=mC l (ch w) a x y z v t λr=>r:=IO
~H8(l tk)(k)(m)(a)(x y z)(v t):E (t102 l tk (ls k m) x y z v t) 102 [.r 0,.d (rc l),.d (.str a),.d (ls k m)] [rw1 x]=mC l (ls k m) a x y z v t λr=>r:=IO
~H9(l tk)(k b)(m)(a)(x y z)(v t):E (t102 l tk (rw' b k m) x y z v t) 102 [.r 0,.d (rc l),.d (.str a),.d (rw' b k m)] [rw1 x]=mC l (rw' b k m) a x y z v t λr=>r:=IO
~Ia(l tk ms)(a)(x y z u)(v t p):E (t102 l tk (rc ms) x y z v t++[(103,ent [.r 0,.d (rc l),.d (.str a),.d (rc ms)] [rw1 (x / 6)] (.ok (.d p) [rw1 u]))]) 102 [.r 0,.d (rc l),.d (.str a),.d (rc ms)] [rw1 x]=mC l (rc ms) a x y z v t λr=>bif decide (x % 6 < 4)then q [.r 0,.d (rc l),.d (.str a),.d (rc ms)] [rw1 (x / 6)] (.ok (.d p) [rw1 u])else r:=IO
¶js(l ms:PQ Dt)(b:Str)(i o f s:PY Av):En:=[PN (.r 0),PN (.d (rc l)),PN (.d (.str b)),PN (.d (rc ms)),i,o,f,s]
¶dw(l tk:PQ Dt):PQ (Nat×Sp1):=[(101,ent [.d (rc l),.r 0] [.lst (sS NZ)] (HX tk NZ))]
§oth(b:Str)(x:Dt):PY Dt:=bif !eqD (ag 0 x) (.str b)then PN (ag 0 x)else PR
§qf:PY Expr:=stA 103 2 >>= mu
§qg:PY Expr:=stA 103 4 >>= mu
~KO(l ms tk)(b)(x):E (dw l tk) 103 [.r 0,.d (rc l),.d (.str b),.d (rc ms)] [rw1 x]=(ms.all (λx=>bif bZ 2 x then PU else PV)~>decide (ms°<=Ld)~>l.all (λx=>bif bZ 2 x then bif decide ((ag 0 x).dep<=60)then bif !eqD (ag 0 x) (.str b)then PU else PU else PV else PV)~>decide (l°<=Ld)~>(tidy 1 (aU (Bk (dw l tk) 103 2 (js l ms b (PN (.r 1)) (PN (.r 2)) PR PR) [rw1 x,.lst (ms.map (ag 0)),.lst (l.filterMap (oth b))]))).res):=IO
~KP(l ms tk I O)(b)(x):(Bk (dw l tk) 103 2 (js l ms b (PN (.r 1)) (PN (.r 2)) PR PR) [rw1 x,.lst I,.lst O]).res=(nmC 3 (λa=>js l ms b (PN (.r 1)) (PN (.r 2)) (PN a) PR) (Bk (dw l tk) 103 3) (ai 3 [(1,I)] (.nm 0) (El 30 (dw l tk) 103 qf) I [PR,PN (.d (.str b)),PN (.r 2)] [rw1 x,.lst I,.lst O,.lst []])).res:=IO
¶mD(k:Nat)(l ms tk:PQ Dt)(b:Str)(s:PY Av)(S:Sto):Rs Av:=(tidy 1 (aU (Bk (dw l tk) 103 k (js l ms b (PN (.r 1)) (PN (.r 2)) (PN (.r 3)) s) S))).res
¶mdL(x:Int)(L:PQ Dt):Rs Av:=aj .mod (.d (.int x)) (.d (.int (L°:Int))) []
¶dvL(x:Int)(L:PQ Dt):Rs Av:=aj .fdiv (.d (.int x)) (.d (.int (L°:Int))) []
¶pkL(x:Int)(L:PQ Dt)(r:Dt->Sto->Rs Av):Rs Av:=ak (mdL x L)~>ak (dvL x L)~>isI (ae (mdL x L)) && (atI L (iv (ae (mdL x L)))).isSome~>r ((atI L (iv (ae (mdL x L)))).getD .non) [.lst [ae (dvL x L)]]
~KQ(l ms tk I O L)(b)(x):mD 3 l ms tk b PR [rw1 x,.lst I,.lst O,.lst L]=bif x % 2 == 0 then decide (al L<=60)~>bif !bu L []then pkL (x / 2) L (λy S=>.ok (.d (.tup [.str "lift",.str b,y])) S)else mD 4 l ms tk b PR [rw1 (x / 2),.lst I,.lst O,.lst L] else mD 4 l ms tk b PR [rw1 (x / 2),.lst I,.lst O,.lst L]:=IO
~KR(l ms tk I O L)(b)(x):(Bk (dw l tk) 103 4 (js l ms b (PN (.r 1)) (PN (.r 2)) (PN (.r 3)) PR) [rw1 x,.lst I,.lst O,.lst L]).res=(nmC 4 (λa=>js l ms b (PN (.r 1)) (PN (.r 2)) (PN (.r 3)) (PN a)) (Bk (dw l tk) 103 5) (ai 4 [(2,O)] (.nm 0) (El 30 (dw l tk) 103 qg) O [PR,PN (.r 1)] [rw1 x,.lst I,.lst O,.lst L,.lst []])).res:=IO
~KS(l ms tk I O L K)(b)(x):mD 5 l ms tk b (PN (.r 4)) [rw1 x,.lst I,.lst O,.lst L,.lst K]=(decide (al K<=60)~>bif !bu K []then pkL x K (λy S=>.ok (.d (.tup [.str "sink",y,.str b])) S)else wQ l NZ (.ok (.d (bc b "new")) [rw1 x])):=IO
~Ie(l tk I O a)(x)(b n):(El 30 (dw l tk) 103 qf [PN (.d (.str n)),PN (.d (.str b)),PN (.r 2)] [rw1 x,.lst I,.lst O,.lst a]).res=(decide (O°+1<=Ld)~>PU && (O++[Dt.str b]).all aH~>bif !inD (.str n) (O++[.str b])then .ok (PN (.str n)) [rw1 x,.lst I,.lst O,.lst a]else .ok PR [rw1 x,.lst I,.lst O,.lst a]):=IO
~Ig(l tk I O L a)(x)(n):(El 30 (dw l tk) 103 qg [PN (.d (.str n)),PN (.r 1)] [rw1 x,.lst I,.lst O,.lst L,.lst a]).res=(PU && I.all aH~>bif !inD (.str n) I then .ok (PN (.str n)) [rw1 x,.lst I,.lst O,.lst L,.lst a]else .ok PR [rw1 x,.lst I,.lst O,.lst L,.lst a]):=IO
~GP.up{p K}(h:GP c N p K)(l:N<=M):GP c M p K:=by
 #h with
 |x h=>~.x (Q27.up h l)
 |y h=>~.y (Q27.up h l)
 |ok w k o r i f g a b d e j n m=>~.ok w k o r i f g (Q27.up a l) (Q27.up b l) (Q27.up d l) (Q27.up e l) j n m
~KF.up(h:KF c N fs)(l:N<=M):KF c M fs:=⟨h.w,h.l,Q27.up h.ok l,h.nm,λp f=>by &g,a,b,d,e:=h.kd p f;~⟨g,a,b,Q27.up d l,e.up l⟩⟩
~wR:nmC n e B (.ok () S)=B (e (.r n)) S:=rfl
§PP(c:Ct)(fs:Fs)(p:Dt):Prop:=GP c 455 p (rf fs)/\p.dep<=60
~DF.kf(h:DF c fs):KF c 273 fs:=h.k.up or
~DF.no(h:DF c fs)(b:n∉L7):lk fs n=.non:=jf λp a e=>b (e ▸ h.i p a)
~DF.nor(h:DF c fs)(b:n∉L7):lk (rem fs a) n=.non:=by
 rw[rlk,h.no b]
 split <;> rfl
~DF.at(h:DF c fs)(a:p∈fs):∃ kl,p.2=.tup kl/\lk fs p.1=.tup kl/\p.2.dep<=8:=by
 &kl,e,_:=h.k.kd p a;PM kl,e,e ▸ bO h.k.w.s a,h.d p a
~qh(h:DF c fs)(b:p∈fs):PP c fs (bc p.1 "new"):=by
 &d,_,e,_:=h.at b;~⟨(D1 h.kf or e (nms _ (by simp[NMS])) (h.nor (by decide +kernel))).up or,by PK[Dt.dep,al];on⟩
~wS(b:L≠[])(j:L°<=1000)(x)(r):∃ e∈L,∃ y,pkL x L r=r e [rw1 y]:=by
 @f:=List.length_pos_iff.mpr b;&i,g,h,d:=wN f;!⟨_,aA3 g,x / (L°),?_⟩;PL pkL mdL dvL;rw[bK or,dY or or];show(PU && (atI L (x % (L°))).isSome~>r ((atI L (x % (L°))).getD _) _)=_;rw[d]
 rfl
§gN(V:PQ Str):Dt->PY Dt
 |.str n=>bif !inD (.str n) (sS V)then PN (.str n)else PR
 |_=>PR
~ig{V W}(h:y∈(sS W).filterMap (gN V)):∃ n∈W,y=.str n/\n∉V:=by
 &x,b,e:=aAC.mp h;&n,c,rfl:=aAc.mp b;@e:(bif !inD _ _ then PN _ else PR)=PN y:=e
 #q:inD _ _ with
 |true=>rw[q]at e;#e
 |false=>rw[q]at e;#e;~⟨n,c,rfl,λd=>by rw[Ep d]at q;#q⟩
~fm_len{f:Dt->PY Dt}:∀ {l:PQ Dt},(l.filterMap f)°<=l°:=aB5 _ _
~wT{V W}:al ((sS W).filterMap (gN V))<=60:=bT λy b=>by &n,_,rfl,_:=ig b;~aAM _
~wU{V}:gN V (.str n)=bif !inD (.str n) (sS V)then PN (.str n)else none:=rfl
~wV(b):∀ fs:Fs,(fs.map pr).filterMap (oth b)=sS ((fs.map (·.1)).filter λn=>!(n == b))
 |[]=>rfl
 |p :: fs=>by
  @k:oth b (pr p)=bif !(p.1 == b)then PN _ else none:=rfl;rw[aAr,aAP,k,wV b fs,aAr,aBS]
  cases p.1 == b <;> rfl
~Ih{fs ms:Fs}{b:Str}(D:DF c fs)(hb:(b,rf ms)∈fs)(B:BX c 169 ms)(x:Int):∃ p y,c.H 26 103 (ent [.r 0,.d (rf fs),.d (.str b),.d (rf ms)] [rw1 x] (.ok (.d p) [rw1 y]))/\PP c fs p:=by
 @B':BX c 273 ms:=B.up or;@lkb:lk fs b=rf ms:=bO D.k.w.s hb;@l8:=D.k.l;@m8:=B.l
 let I:PQ Str:=ms.map (·.1)
 let O:PQ Str:=(fs.map (·.1)).filter λn=>!(n == b)
 @oO:∀ n,n∈O↔n∈fs.map (·.1)/\n≠b:=λn=>by
  show n∈(fs.map (·.1)).filter _↔_;rw[aBn];simp
 @ol:O°<=8:=aAq (aCh _ _) (by rw[aAa];~l8);@il:I°<=8:=by show(ms.map _)°<=8;rw[aAa];~m8
 @key:RP (PP c fs) (E (dw (fs.map pr) (sS (fs.map (·.1)))) 103 [.r 0,.d (rf fs),.d (.str b),.d (rf ms)] [rw1 x]):=by
  @eI:(ms.map pr).map (ag 0)=sS I:=by show _=(ms.map (·.1)).map Dt.str;rw[aAz,aAz];rfl
  rw[KO,eI,wV b fs];@a1:((ms.map pr).all λx=>bif bZ 2 x then PU else PV)=true:=aAf.mpr λx hx=>by &y,_,rfl:=aAc.mp hx;rfl
  @a2:((fs.map pr).all λx=>bif bZ 2 x then bif decide ((ag 0 x).dep<=60)then bif !eqD (ag 0 x) (.str b)then PU else PU else PV else PV)=true:=aAf.mpr λx hx=>by
   &y,_,rfl:=aAc.mp hx;show(bif !eqD (.str y.1) (.str b)then PU else PU)=PU;rw[aBi]
  rw[a1,a2,Lh (show(ms.map pr)°<=Ld by rw[aAa];show _<=16777216;on),Lh (show(fs.map pr)°<=Ld by rw[aAa];show _<=16777216;on)];PK[L1];@k1:=λx:Int=>cx (gd:=[(1,sS I)]) (f:=El 30 (dw (fs.map pr) (sS (fs.map (·.1)))) 103 qf) (cs:=[PN (.d (.str b)),PN (.r 2)]) (T:=[rw1 x,.lst (sS I),.lst (sS O)]) (λo=>by show(dsE _ _ && PU)=PU;rw[b4];rfl) (g:=gN (O++[b])) (sS I) [] PR (λy l o=>by
   &n,m,rfl:=aAc.mp l;!(Ie _ _ _ _ _ _ _ _).trans ?_;@eo:sS O++[Dt.str b]=sS (O++[b]):=(aAH (f:=Dt.str) (l₁:=O) (l₂:=[b])).symm;rw[eo,oB,Lh (show(sS O)°+1<=Ld by rw[aAa];show _<=16777216;on),wU]
   cases !inD (.str n) (sS (O++[b])) <;> rfl) (by rw[aAa];show 0+_<=_;on)
  @k1':(ai 3 [(1,sS I)] (.nm 0) (El 30 (dw (fs.map pr) (sS (fs.map (·.1)))) 103 qf) (sS I) [PR,PN (.d (.str b)),PN (.r 2)] [rw1 x,.lst (sS I),.lst (sS O),.lst []]).res=_:=k1 x;rw[aC,aE,KP,cO,k1',wR,<- aE,<- aC];change ( RP (PP c fs) (mD 3 (fs.map pr) (ms.map pr) (sS (fs.map (·.1))) b PR [rw1 x,.lst (sS I),.lst (sS O),.lst ((sS I).filterMap (gN (O++[b])))]));@pp4:∀ x:Int,RP (PP c fs) (mD 4 (fs.map pr) (ms.map pr) (sS (fs.map (·.1))) b PR [rw1 x,.lst (sS I),.lst (sS O),.lst ((sS I).filterMap (gN (O++[b])))]):=λx=>by
   @k2:=cx (gd:=[(2,sS O)]) (f:=El 30 (dw (fs.map pr) (sS (fs.map (·.1)))) 103 qg) (cs:=[PN (.r 1)]) (T:=[rw1 x,.lst (sS I),.lst (sS O),.lst ((sS I).filterMap (gN (O++[b])))]) (λo=>by show(dsE _ _ && PU)=PU;rw[b4];rfl) (g:=gN I) (sS O) [] PR (λy l o=>by
    &n,m,rfl:=aAc.mp l;!(Ig _ _ _ _ _ _ _ _).trans ?_;rw[oB,wU]
    cases !inD (.str n) (sS I) <;> rfl) (by rw[aAa];show 0+_<=_;on)
   @k2':(ai 4 [(2,sS O)] (.nm 0) (El 30 (dw (fs.map pr) (sS (fs.map (·.1)))) 103 qg) (sS O) [PR,PN (.r 1)] [rw1 x,.lst (sS I),.lst (sS O),.lst ((sS I).filterMap (gN (O++[b]))),.lst []]).res=_:=k2;PL mD;rw[aC,aE,KR,cO,k2',wR,<- aE,<- aC];change ( RP (PP c fs) (mD 5 (fs.map pr) (ms.map pr) (sS (fs.map (·.1))) b (PN (.r 4)) [rw1 x,.lst (sS I),.lst (sS O),.lst ((sS I).filterMap (gN (O++[b]))),.lst ((sS O).filterMap (gN I))]));rw[KS,Lh wT,L1]
   #q:(sS O).filterMap (gN I)with
   |nil =>
    show RP _ (wQ _ _ _);PL wQ;rw[ah];PM _,_,rfl,qh D hb
   |cons e es =>
    &n0,_,rfl,_:=ig (y:=e) (q ▸ aAe);rw[show(!bu (.str n0 :: es) [])=PU from rfl,L1];&y,l,z,ez:=wS (L:=.str n0 :: es) nofun (by rw[<- q];~aAq fm_len (by rw[aAa];on)) x (λy S=>.ok (.d (.tup [.str "sink",y,.str b])) S);rw[ez];&n,m,rfl,hi:=ig (q ▸ l);&hf,hnb:=(oO n).mp m;&p,hp,rfl:=aAc.mp hf;&kl,_,ek,_:=D.at hp;!⟨_,_,rfl,(D3 D.kf B' or ek (by rw[rlk,Ln hnb,lkb]) (jf λp' hp' e=>hi (e ▸ aAc.mpr ⟨p',hp',rfl⟩))).up or,by PK[Dt.dep,al];on⟩
  rw[KQ,Lh wT,L1];!bP ?_ (pp4 _)
  #q:(sS I).filterMap (gN (O++[b]))with
  |nil=>rw[q]at pp4;~pp4 _
  |cons e es =>
   &n0,_,rfl,_:=ig (y:=e) (q ▸ aAe);rw[show(!bu (.str n0 :: es) [])=PU from rfl,L1];&y,l,z,ez:=wS (L:=.str n0 :: es) nofun (by rw[<- q];~aAq fm_len (by rw[aAa];on)) (x / 2) (λy S=>.ok (.d (.tup [.str "lift",.str b,y])) S);rw[ez];&n,m,rfl,hi:=ig (q ▸ l);rw[aAG,aAy,not_or]at hi;&p,hp,rfl:=aAc.mp m;&kl,ek,_:=B.kd p hp;@hlk:lk ms p.1=.tup kl:=ek ▸ bO B.w.s hp;!⟨_,_,rfl,(D4 D.kf B' or lkb hlk (Ne.symm hi.2) (jf λp' hp' e=>hi.1 ((oO _).mpr ⟨e ▸ aAc.mpr ⟨p',hp',rfl⟩,hi.2⟩))).up or,by PK[Dt.dep,al];on⟩
 &p,y,e,h:=key;~⟨p,y,go (ac (a:=(101,_)) (Ex (fs:=fs) (ns:=NZ) or (by decide) λn m p hp e=>by
  @h1:=D.i p hp;rw[e]at h1;@:∀ n∈NZ++UA,n∉L7:=by decide +kernel
  ~this n m h1) af) e,h⟩
~oC(x):∃ s,sp x=dd (.str s)/\s∈[("-" : Str),"|"," "]:=by
 @:x % 3=0\/x % 3=1\/x % 3=2:=or
 PL sp;rcases this with h | h | h <;> rw[h]
 ·~⟨_,IO,.head _⟩
 ·~⟨_,IO,.tail _ (.head _)⟩
 ·~⟨_,IO,.tail _ (.tail _ (.head _))⟩
~jt(b:P (ba a v))(c:P (bc a "new"))(e:RP P (r (.ok (.d (pT a t)) [rw1 z]))):RP P (mC l k a x y z v t r):=by
 PL mC wQ;PK[ah];~bP ⟨_,_,rfl,b⟩ (bP ⟨_,_,rfl,c⟩ e)
~Ak(D:DF c fs)(j:p∈fs)(h:TR c 273 t p.2):PP c fs (pT p.1 t):=by
 &o,e,i,g:=D.at j;&tl,rfl:=h.tp;@m:=h.d;@n:(pT p.1 (.tup tl)).dep<=(Dt.tup tl).dep+1:=by PK[Dt.dep,al];on
 !⟨?_,or⟩;rcases h.h with⟨l,k,a,b,d⟩ | q
 ·rw[e]at a d;~(Ed D.kf or i a b (by rw[e]at g;on)).up or
 ·rw[e]at q;~.y (up (pQ D.k.w i (by rw[e]at g;on) (J4 q)) or)
~Al(D:DF c fs)(b:p∈fs)(h:Vk c v p.2):PP c fs (ba p.1 v):=by
 &l,e,f,g:=D.at b;&d,a:=h.t;@k:=h.d;@j:(ba p.1 v).dep<=v.dep+1:=by PK[Dt.dep,al];on
 !⟨?_,or⟩;rw[e]at a;~(DZ (D.k.up (show 169<=312 by on)) or f (up a (by rw[e]at g;on))).up or
~Ii{fs:Fs}(D:DF c fs){p:Str×Dt}(u:p∈fs)(x:Int):∃ q y,c.H 221 102 (ent [.r 0,.d (rf fs),.d (.str p.1),.d p.2] [rw1 x] (.ok (.d q) [rw1 y]))/\PP c fs q:=by
 @S:=D.s p u;&kl,G,U,d8:=D.at u;&_,_,_,_,O:=D.k.kd p u;@l8:=D.k.l;&v,y,hv,X:=Em S (x / 6);&t,z,Y,tr:=KL S or O (x / 6);@h0:c.H 208 101 _:=up (Ex (fs:=fs) (ns:=NP) or (by decide) λn hn p u e=>by
  @A:=D.i p u;rw[e]at A;@:∀ n∈NP++UA,n∉L7:=by decide +kernel
  ~this n hn A) or
 @R:c.H 208 96 _:=up hv or;@N:c.H 208 100 (ent [.r 0,.d p.2] [rw1 (x / 6)] (.ok (.d t) [rw1 z])):=up Y or;@tb:∀ q∈t102 (fs.map pr) (sS (fs.map (·.1))) p.2 x y z v t,c.H 208 q.1 q.2:=ac (a:=(101,_)) h0 (ac (a:=(96,_)) R (ac (a:=(100,_)) N af));@pd:=Al D u X;@F:=qh D u;@C:=Ak D u (tr.up (show tl 169 p.2<=273 by PK[tl];on));@o:∀ {tb:PQ (Nat×Sp1)},(∀ q∈tb,c.H 208 q.1 q.2)->RP (PP c fs) (E tb 102 [.r 0,.d (rf fs),.d (.str p.1),.d p.2] [rw1 x])->∃ q y,c.H 221 102 _/\PP c fs q:=λT ⟨q,y,e,h⟩=>⟨q,y,go T e,h⟩;@I:∀ n:Str,n∈NP->n∉L7:=by decide +kernel
 generalize J:p.2=k at *
 #S with
 |lf h =>
  #h with
  |num i j A Q h3 =>
   !o tb ?_;rw[HY];&f,hf,ef:=ce (l:=facs) (y:=x / 6) (by decide);@M:atI (facs.map Dt.int) (x / 6 % 3)=PN (.int f):=ef;@W:2<=f/\f<=1000:=by PK[facs,aAl,aAu,LN]at hf;on
   !jt pd F ?_;rw[M]
   #G
   ~bP ⟨bF p.1 f "p" "q",_,rfl,(D2 D.kf or U W.1 W.2 (nms _ (by simp[NMS])) (nms _ (by simp[NMS])) (by decide +kernel) (D.nor (I _ (by simp))) (D.nor (I _ (by simp)))).up or,by PK[Dt.dep,al];on⟩ ⟨_,_,rfl,C⟩
  |txt m A Q =>
   !o tb ?_;rw[HZ];&s,Z,P:=oC (x / 6);!jt pd F ?_;rw[Z]
   #G
   ~bP ⟨aS p.1 s "p" "q",_,rfl,(zV D.kf or U P (nms _ (by simp[NMS])) (nms _ (by simp[NMS])) (by decide +kernel) (D.nor (I _ (by simp))) (D.nor (I _ (by simp)))).up or,by PK[Dt.dep,al];on⟩ ⟨_,_,rfl,C⟩
  |cho l h=>!o tb ?_;rw[H0];~jt pd F ⟨_,_,rfl,C⟩
 |ls h O A Q=>!o tb ?_;rw[H8];~jt pd F ⟨_,_,rfl,C⟩
 |@rcd ms B P =>
  &pb,yb,hb,L:=Ih D (b:=p.1) (ms:=ms) (by rw[<- J];~u) B (x / 6);!o (tb:=t102 (fs.map pr) (sS (fs.map (·.1))) (rf ms) x y z v t++[(103,ent [.r 0,.d (rf fs),.d (.str p.1),.d (rf ms)] [rw1 (x / 6)] (.ok (.d pb) [rw1 yb]))]) (λq H=>?_) ?_
  ·rcases aAG.mp H with H | H
   ·~tb q H
   ·rw[aAy.mp H];~up hb or
  ·rw[Ia];!jt pd F (bP ?_ ⟨_,_,rfl,C⟩);rw[ah];PM _,_,rfl,L
 |row O A Q hk w P=>!o tb ?_;rw[H9];~jt pd F ⟨_,_,rfl,C⟩
§wW:PQ Av->Sto->Rs Av
 |[.d (.tup [_,.tup l]),.r 0],[.lst ns]=>.ok (.r 4) [.lst ns,.lst (l.map (ag 0)),.lst (sS UA),.lst (ns++sS UA),.lst (ns++sS UA)]
 |_,_=>.bad
§Ij(pv:Int->Str->Dt->Dt)(px:Int->Str->Dt->Int):PQ Av->Sto->Rs Av
 |[.r 0,_,.d (.str n),.d k],.lst [.int x] :: S=>.ok (.d (pv x n k)) (.lst [.int (px x n k)] :: S)
 |_,_=>.bad
structure Fv where
 kv:Int->Dt
 kx:Int->Int
 vv:Int->Dt->Dt
 vx:Int->Dt->Int
 pv:Int->Str->Dt->Dt
 px:Int->Str->Dt->Int
¶rR(c:Ct)(N:Nat)(F:Fv):PQ (Nat×Sp1):=[(88,sem c N 88 (FR F.kv F.kx)),(96,sem c N 96 (FV F.vv F.vx)),(101,sem c N 101 wW),(102,sem c N 102 (Ij F.pv F.px))]
¶ix0(x:Dt):Rs Av:=ixA (.d x) (.d (.int 0)) []
¶ix1(x:Dt):Rs Av:=ixA (.d x) (.d (.int 1)) []
§rT(x:Dt):PY Dt:=bif !eqD (ae (ix0 x)) (.str "")then PN x else PR
§Ey(x:Dt):PY Dt:=bif eqD (ae (ix0 (ae (ix1 x)))) (.str "text")then PN x else PR
¶qi(l:PQ Dt)(o n:PY Av):En:=[PN (.r 0),PN (.d (rc l)),PN (.d (.str "")),PN (.r 1),PN (.r 2),o,n]
¶kr(k:Nat)(c:Ct)(N:Nat)(F:Fv)(l SO TX:PQ Dt)(x:Int):Rs Av:=(tidy 1 (aU (Bk (rR c N F) 104 k (qi l PR PR) [rw1 x,.lst SO,.lst TX]))).res
~KU(F)(l)(x):E (rR c N F) 104 [.r 0,.d (rc l),.d (.str "")] [rw1 x]=(l.all (λx=>bif ak (ix0 x)then bif decide ((ae (ix0 x)).dep<=60)then bif !eqD (ae (ix0 x)) (.str "")then PU else PU else PV else PV)~>decide (l°<=Ld)~>(l.filterMap rT).all (λx=>bif ak (ix1 x)then bif ak (ix0 (ae (ix1 x)))then bif decide ((ae (ix0 (ae (ix1 x)))).dep<=60)then bif eqD (ae (ix0 (ae (ix1 x)))) (.str "text")then PU else PU else PV else PV else PV)~>decide ((l.filterMap rT)°<=Ld)~>kr 2 c N F l (l.filterMap rT) ((l.filterMap rT).filterMap Ey) x):=IO
¶Am(x:Int):PY Dt:=atI (sS (NA++UA)) (x % 3)
¶kt(c:Ct)(N:Nat)(F:Fv)(l:PQ Dt)(x:Int):Rs Av:=hg c N 88 (FR F.kv F.kx) [.r 0] [rw1 x]~>hg c N 101 wW [.d (rc l),.r 0] [.lst (sS NA)]~>PU && (Am (F.kx x)).isSome~>hg c N 96 (FV F.vv F.vx) [.r 0,.d (F.kv x)] [rw1 (F.kx x / 3)]~>.ok (.d (.tup [.str "put",(Am (F.kx x)).getD .non,F.kv x,F.vv (F.kx x / 3) (F.kv x)])) [rw1 (F.vx (F.kx x / 3) (F.kv x))]
~KW(F)(l a TX)(x):kr 2 c N F l a TX x=(decide (al a<=60)~>bif bu a []then kt c N F l x else bif x % 5 == 0 then kt c N F l (x / 5)else kr 3 c N F l a TX (x / 5)):=IO
¶tx0(TX:PQ Dt):Dt:=(atI TX 0).getD .non
¶tx1(TX:PQ Dt):Dt:=(atI TX 1).getD .non
~KY(F)(l b TX)(x):kr 3 c N F l b TX x=bif decide (1 < (TX.length:Int))then PU && (atI TX 0).isSome~>ak (ix1 (tx0 TX))~>PU && (atI TX 1).isSome~>ak (ix1 (tx1 TX))~>decide ((ae (ix1 (tx0 TX))).dep<=60)~>bif eqD (ae (ix1 (tx0 TX))) (ae (ix1 (tx1 TX)))then bif x % 2 == 0 then PU && (atI TX 0).isSome~>ak (ix0 (tx0 TX))~>PU && (atI TX 1).isSome~>ak (ix0 (tx1 TX))~>ak (sp (x / 2))~>hg c N 101 wW [.d (rc l),.r 0] [.lst (sS NZ)]~>.ok (.d (.tup [.str "join",ae (ix0 (tx0 TX)),ae (ix0 (tx1 TX)),ae (sp (x / 2)),.str "new"])) [rw1 (x / 2 / 3)] else kr 4 c N F l b TX (x / 2)else kr 4 c N F l b TX x else kr 4 c N F l b TX x:=IO
§wX(c:Ct)(N:Nat)(F:Fv)(l SO TX:PQ Dt)(y:Dt)(S:Sto):Rs Av:=(tidy 1 (aU ((match bindA (.tp [6,5]) (.d y) (qi l PR PR)with | PN e=>Rs.ok (Fl.nx e) (S++[Ob.lst SO,Ob.lst TX]) | PR=>.bad).bind λf S1=>match f with
 |.nx env'=>Bk (rR c N F) 104 5 env' S1
 |f=>.ok f S1))).res
~KZ(F)(l a TX)(x):kr 4 c N F l a TX x=pkL x a (wX c N F l a TX):=IO
~wY(F:Fv)(l a TX)(p)(S:Sto):wX c N F l a TX (pr p) S=(tidy 1 (aU (Bk (rR c N F) 104 5 (qi l (PN (.d p.2)) (PN (.d (.str p.1)))) (S++[Ob.lst a,Ob.lst TX])))).res:=rfl
~K0(F)(l a TX)(x)(n)(k):(tidy 1 (aU (Bk (rR c N F) 104 5 (qi l (PN (.d k)) (PN (.d (.str n)))) [rw1 x,.lst a,.lst TX]))).res=(hg c N 102 (Ij F.pv F.px) [.r 0,.d (rc l),.d (.str n),.d k] [rw1 x]~>.ok (.d (F.pv x n k)) [rw1 (F.px x n k)]):=IO
~qj(h:Sh c N k):∃ w l,k=.tup (.str w :: l)/\(w= "text" ->∃ m,k=tx' m):=by
 @d:∀ w:Str,w∈[("number" : Str),"choice","list","record","rows"]->w≠ "text" :=by decide +kernel
 #h with
 |lf h =>
  #h with
  |num a b _ _ _=>PM _,_,rfl,λe=>absurd e (d _ (by simp))
  |txt m _ _=>PM _,_,rfl,λ_=>⟨m,rfl⟩
  |cho l _=>PM _,_,rfl,λe=>absurd e (d _ (by simp))
 |ls h j n g=>PM _,_,rfl,λe=>absurd e (d _ (by simp))
 |rcd h i=>PM _,_,rfl,λe=>absurd e (d _ (by simp))
 |row j n g o w i=>PM _,_,rfl,λe=>absurd e (d _ (by simp))
~ku:ix0 (.tup (y :: l))=dd y:=qd Ai
~Ez:ix1 (pr p)=dd p.2:=rfl
§isT(k:Dt):Bool:=eqD (ae (ix0 k)) (.str "text")
~qk:∀ fs:Fs,(fs.map pr).filterMap Ey=(fs.filter λp=>isT p.2).map pr
 |[]=>rfl
 |p :: fs=>by
  @k:Ey (pr p)=bif isT p.2 then PN _ else none:=rfl;rw[aAr,aAP,k,qk fs,aBS]
  cases isT _ <;> rfl
~ql:∀ {fs:Fs},(∀ p∈fs,p.1∈L7)->(fs.map pr).filterMap rT=fs.map pr
 |[],_=>rfl
 |p :: fs,h=>by
  @k:rT (pr p)=bif !(p.1 == "")then PN _ else none:=rfl;@c:(p.1 == (""))=false:=by
   @:∀ n∈L7,(n == (""))=false:=by decide +kernel
   ~this _ (h p aAe)
  rw[aAr,aAP,k,c,ql λq d=>h q (aAk _ d)]
  rfl
~An:wW [.d (rf fs),.r 0] [.lst (sS ns)]=HW fs ns:=by
 @c:(fs.map pr).map (ag 0)=sS (fs.map (·.1)):=by show _=(fs.map _).map _;rw[aAz,aAz];rfl
 @e:sS ns++sS UA=sS _:=(aAH).symm;show Rs.ok _ _=_;rw[c,e]
~Bn(D:DF c fs)(a:ns°<=20)(h:∀ n∈ns++UA,n∉L7):hg c 221 101 wW [.d (rf fs),.r 0] [.lst (sS ns)]=true:=bq (by
 rw[An];~up (Ex (by @:=D.k.l;on) a λn a p b e=>h n a (e ▸ D.i p b)) or)
~Ik(D:DF c fs):∃ F:Fv,(∀ x,c.H 221 88 (ent [.r 0] [rw1 x] (.ok (.d (F.kv x)) [rw1 (F.kx x)]))/\Lf (F.kv x))/\(∀ k x,Lf k->c.H 221 96 (ent [.r 0,.d k] [rw1 x] (.ok (.d (F.vv x k)) [rw1 (F.vx x k)]))/\Vk c (F.vv x k) k)/\∀ p∈fs,∀ x,c.H 221 102 (ent [.r 0,.d (rf fs),.d (.str p.1),.d p.2] [rw1 x] (.ok (.d (F.pv x p.1 p.2)) [rw1 (F.px x p.1 p.2)]))/\PP c fs (F.pv x p.1 p.2):=by
 &o,m,i:=sk2 (h88);@l:∀ z:Int×Dt,∃ w:Dt×Int,Lf _->c.H 221 96 (ent _ _ (.ok (.d w.1) [rw1 w.2]))/\Vk c w.1 _:=λz=>by
  by_cases q:Lf z.2
  ·&v,y,a,b:=vlf q z.1;PM(v,y),λ_=>⟨up a or,b⟩
  ·PM(.non,0),λh=>absurd h q
 @s:∀ z:Int×Str×Dt,∃ w:Dt×Int,z.2∈fs->c.H _ _ (ent _ _ (.ok (.d w.1) [rw1 w.2]))/\PP c fs w.1:=λz=>by
  by_cases q:z.2∈fs
  ·&v,y,a,b:=Ii D q z.1;PM(v,y),λ_=>⟨a,b⟩
  ·PM(.non,0),λh=>absurd h q
 &g,hg:=Classical.skolem.mp l;&j,f:=Classical.skolem.mp s;PM⟨o,m,λx k=>(g _).1,λx k=>(g _).2,λx n k=>(j (x,n,k)).1,λx n k=>(j (x,n,k)).2⟩,λx=>⟨up (i x).1 or,(i x).2⟩,λk x h=>hg (x,k) h,λp t x=>f (x,p) t
~Bp{fs:Fs}(D:DF c fs)(x:Int):∃ p y,c.H 234 104 (ent [.r 0,.d (rf fs),.d (.str "")] [rw1 x] (.ok (.d p) [rw1 y]))/\PP c fs p:=by
 &F,f1,f2,f3:=Ik D;@l8:=D.k.l
 suffices S:RP (PP c fs) (E (rR c 221 F) 104 [.r 0,.d (rf fs),.d (.str "")] [rw1 x])by
  &p,y,e,h:=S;PM p,y,go (ac (a:=(88,_)) aJ (ac (a:=(96,_)) aJ (ac (a:=(101,_)) aJ (ac (a:=(102,_)) aJ af)))) e,h
 @a1:((fs.map pr).all λx=>bif ak (ix0 x)then bif decide ((ae (ix0 x)).dep<=60)then bif !eqD (ae (ix0 x)) (.str "")then PU else PU else PV else PV)=true:=aAf.mpr λx A=>by
  &y,_,rfl:=aAc.mp A;show(bif !eqD (.str y.1) (.str "")then PU else PU)=PU;rw[aBi]
 @a2:((fs.map pr).all λx=>bif ak (ix1 x)then bif ak (ix0 (ae (ix1 x)))then bif decide ((ae (ix0 (ae (ix1 x)))).dep<=60)then bif eqD (ae (ix0 (ae (ix1 x)))) (.str "text")then PU else PU else PV else PV else PV)=true:=aAf.mpr λx A=>by
  &p,z,rfl:=aAc.mp A;&w,l,e,_:=qj (D.s p z);show(bif ak (ix0 p.2)then bif decide ((ae (ix0 p.2)).dep<=60)then bif eqD (ae (ix0 p.2)) (.str "text")then PU else PU else PV else PV)=PU;rw[e,ku];show(bif eqD (.str w) (.str "text")then PU else PU)=PU;rw[aBi]
 @lz:(fs.map pr)°<=Ld:=by rw[aAa];show _<=16777216;on
 rw[KU,a1,ql D.i,a2,Lh lz,qk];PK[L1];@v:∀ x,RP (PP c fs) (kt c 221 F (fs.map pr) x):=λx=>by
  &G,X:=f1 x;&Q,vk:=f2 (F.kv x) (F.kx x / 3) X;&Z,ty,J,Y,dk:=X.fo (c:=c);@hu:∃ n,Am (F.kx x)=PN (.str n)/\n∈NA:=by
   @:F.kx x % 3=0\/F.kx x % 3=1\/F.kx x % 3=2:=or
   PL Am;rcases this with h | h | h <;> rw[h]
   ·~⟨"aa",IO,by simp⟩
   ·~⟨"m",IO,by simp⟩
   ·~⟨"zz",IO,by simp⟩
  &n,eu,hn:=hu;&d,I:=vk.t;@vd:=vk.d;PL kt;rw[bq (show c.H 221 88 (ent _ _ (.ok (.d (F.kv x)) [rw1 (F.kx x)]))from G),Bn D (ns:=NA) (by decide) (by decide +kernel),eu,bq (show c.H 221 96 (ent _ _ (.ok (.d (F.vv (F.kx x / 3) (F.kv x))) [rw1 (F.vx (F.kx x / 3) (F.kv x))]))from Q)];!⟨cc n (F.kv x) (F.vv (F.kx x / 3) (F.kv x)),_,rfl,?_,?_⟩
  ·rw[Y]at I Z ty ⊢;@W:∀ n∈NA,n∈NMS/\n∉L7:=by decide +kernel
   ~(Hu D.kf or (up (vI Z or or) or) (ty.up or) or (up I or) (nms _ (W n hn).1) (D.no (W n hn).2)).up or
  ·rw[Y]at vd ⊢;@e2:(cc n (.tup J) (F.vv (F.kx x / 3) (.tup J))).dep<=(Dt.tup J).dep+(F.vv (F.kx x / 3) (.tup J)).dep+1:=by PK[Dt.dep,al];on
   on
 @t:∀ (q:fs≠[]) TX x,RP (PP c fs) (kr 4 c 221 F (fs.map pr) (fs.map pr) TX x):=λq TX x=>by
  rw[KZ];&e,he,y,ee:=wS (L:=fs.map pr) (by simpa using q) (by rw[aAa];on) x (wX c 221 F (fs.map pr) (fs.map pr) TX);rw[ee];&p,z,rfl:=aAc.mp he;rw[wY];@g:=K0 (c:=c) (N:=221) F (fs.map pr) (fs.map pr) TX y p.1 p.2;&B,O:=f3 p z y;rw[bq (show c.H 221 102 (ent _ _ (.ok (.d (F.pv y p.1 p.2)) [rw1 (F.px y p.1 p.2)]))from B)]at g;PM _,_,g,O
 @hd:al (fs.map pr)<=60:=bT λx A=>by
  &p,z,rfl:=aAc.mp A;@:=D.d p z;@e:(pr p).dep=1+p.2.dep:=by PL pr;PK[Dt.dep,al];on
  on
 rw[KW,Lh hd,L1]
 by_cases q:fs=[]
 ·subst q;~v x
 @ez:bu (fs.map pr) []=false:=by
  #fs with
  |nil=>~absurd rfl q
  |cons p fs=>rfl
 rw[ez,Mr];!bP (v _) ?_;rw[KY]
 #U:fs.filter λp=>isT p.2 with
 |nil =>
  rw[show decide (1 < ((([]:Fs).map pr)°:Int))=PV from rfl,Mr];~t q _ _
 |cons j r =>
  #r with
  |nil =>
   rw[show decide (1 < ((([j]:Fs).map pr)°:Int))=PV from rfl,Mr];~t q _ _
  |cons o r =>
   @M:j∈fs/\isT j.2=true:=aBn.mp (U ▸ aAe);@R:o∈fs/\isT o.2=true:=aBn.mp (U ▸ aAk _ aAe);@C:∀ p∈fs,isT p.2=PU->∃ m,p.2=tx' m:=λp z h=>by
    &w,l,e,hw:=qj (D.s p z);unfold isT at h;rw[e,ku]at h;@h:(w == "text")=true:=h;~hw (beq_iff_eq.mp h)
   &T,e0:=C j M.1 M.2;&i1,e1:=C o R.1 R.2;@s2:Srt (j :: o :: r):=U ▸ (D.k.w.s.filter _);@ne:j.1≠o.1:=dW ((aA4.mp s2).1 o aAe);@t0:atI ((j :: o :: r).map pr) 0=PN (pr j):=Ai;@t1:atI ((j :: o :: r).map pr) 1=PN (pr o):=eX (l:=(j :: o :: r).map pr) (i:=1) (by simp);&s,es,hs:=oC (x / 5 / 2);PL tx0 tx1;rw[t0,t1];!bP ?_ (t q _ _);PK[Option.isSome_some,aB2,aBx,L1,Ez,show ∀ p:Str×Dt,ix0 (pr p)=dd (.str p.1)from λ_=>rfl,show ∀ d:Dt,ak (dd d)=PU from λ_=>rfl,show ∀ d:Dt,ae (dd d)=d from λ_=>rfl];rw[Lh (show j.2.dep<=60 by @:=D.d j M.1;on),L1,es,Bn D (ns:=NZ) (by decide) (by decide +kernel)]
   #H:eqD j.2 o.2 with
   |false=>rw[Mr];~t q _ _
   |true =>
    rw[L1];!bP ?_ (t q _ _);rw[e0,e1]at H;@H:((T == i1) && PU)=true:=H;rw[aBx,LO]at H;subst H;@k0:lk fs j.1=tx' T:=e0 ▸ bO D.k.w.s M.1;@k1:lk fs o.1=tx' T:=e1 ▸ bO D.k.w.s R.1;~⟨bp j.1 o.1 s "new",_,rfl,(n9 D.kf or k0 k1 ne hs (nms _ (by simp[NMS])) (by rw[rlk,D.nor (by decide +kernel)];split <;> rfl)).up or,by PK[Dt.dep,al];on⟩
§EA(pv:Int->Dt->Dt)(px:Int->Dt->Int):PQ Av->Sto->Rs Av
 |[.r 0,.d k,_],.lst [.int x] :: S=>.ok (.d (pv x k)) (.lst [.int (px x k)] :: S)
 |_,_=>.bad
¶EB(c:Ct)(N:Nat)(x y z:Int)(K L:Dt)(pv:Int->Dt->Dt)(px:Int->Dt->Int):PQ (Nat×Sp1):=[(92,ent [.r 0] [rw1 x] (.ok (.d K) [rw1 y])),(107,ent [.r 0] [rw1 (y / 3)] (.ok (.d L) [rw1 z])),(104,sem c N 104 (EA pv px))]
structure G108 where
 N:Nat
 x:Int
 y:Int
 z:Int
 K:Dt
 L:Dt
 pv:Int->Dt->Dt
 px:Int->Dt->Int
¶G108.t(g:G108)(c:Ct):PQ (Nat×Sp1):=EB c g.N g.x g.y g.z g.K g.L g.pv g.px
§Ao(c:Ct)(g:G108)(K P:Dt)(x:Int):Rs Av:=(tidy 1 (aU (Bk (g.t c) 108 3 [PN (.r 0),PN (.d K),PN (.d P),PR] [rw1 x]))).res
~K1(pv)(px)(x y z)(K L):E (EB c N x y z K L pv px) 108 [.r 0] [rw1 x]=q [.r 0] [rw1 x] (bif y % 3 == 0 then q [.r 0] [rw1 (y / 3)] (hg c N 104 (EA pv px) [.r 0,.d L,.d (.str "")] [rw1 z]~>Ao c ⟨N,x,y,z,K,L,pv,px⟩ L (pv z L) (px z L))else hg c N 104 (EA pv px) [.r 0,.d K,.d (.str "")] [rw1 (y / 3)]~>Ao c ⟨N,x,y,z,K,L,pv,px⟩ K (pv (y / 3) K) (px (y / 3) K)):=IO
§lens3:PQ Int:=[1,3,60]
¶ats:PQ Dt:=[.str "a",.str "t"]
¶Ap(x:Int):PY Dt:=atI (lens3.map Dt.int) (x / 12 % 3)
¶oD(x:Int):PY Dt:=atI ats (x / 12 / 3 % 2)
¶tt(m:Dt):Dt:=.tup [.str "text",m]
¶Il(m:Dt):Dt:=rc [.tup [.str "a",tt m],.tup [.str "t",tt m]]
~K2(g)(K P)(x):Ao c g K P x=bif x % 12 == 0 then PU && (Ap x).isSome~>PU && (oD x).isSome~>ak (sp (x / 12 / 3 / 2))~>decide (((oD x).getD .non).dep<=60)~>bif eqD ((oD x).getD .non) (.str "t")then .ok (.d (.tup [Il ((Ap x).getD .non),.tup [.str "join",.str "t",.str "a",ae (sp (x / 12 / 3 / 2)),.str "a"]])) [rw1 (x / 12 / 3 / 2 / 3)]else .ok (.d (.tup [Il ((Ap x).getD .non),.tup [.str "join",(oD x).getD .non,.str "t",ae (sp (x / 12 / 3 / 2)),.str "new"]])) [rw1 (x / 12 / 3 / 2 / 3)] else .ok (.d (.tup [K,P])) [rw1 (x / 12)]:=IO
§DR(c:Ct)(v:Dt):Prop:=∃ (fs:Fs) (p:Dt),v=.tup [rf fs,p]/\DF c fs/\PP c fs p
~df2(e:0<=m)(d:m<=60):DF c [(("a"),tx' m),(("t"),tx' m)]:=by
 @s:Srt [(("a"),tx' m),(("t"),tx' m)]:=b5 (l:=["a","t"]) (List.Sublist.refl _) (by PL slt;decide +kernel);~p8 (gs:=[]) s (by decide) (aAo 2) (λp a=>by
  PK[aCc,aAl,aAu,LN]at a;rcases a with rfl | rfl <;> simp) (λp a=>nomatch a) (λp a=>by
  PK[aAl,aAu,LN]at a;rcases a with rfl | rfl <;> ~.txt m e d)
~Bq(D:DF c fs)(h:PP c fs p)(x):RP (DR c) (Ao c g (rf fs) p x):=by
 rw[K2];&m,t,u:=ce (l:=lens3) (by decide);@f:Ap x=PN _:=u;@a:0<=m/\m<=60:=by PK[lens3,aAl,aAu,LN]at t;on
 @d:=df2 (c:=c) a.1 a.2;&s,o,i:=oC _;@j:lk [(("a"),tx' m),(("t"),tx' m)] "a" = tx' m:=rfl;@n:lk [(("a"),tx' m),(("t"),tx' m)] "t" = tx' m:=rfl;@k:("a" : Str)≠ "t" :=by decide +kernel
 rw[f,o];@r:oD x=PN (.str "a")\/oD x=PN (.str "t"):=by
  @:x / 12 / 3 % 2=0\/x / 12 / 3 % 2=1:=or
  PL oD;rcases this with h | h <;> rw[h]
  ·~.inl rfl
  ·~.inr rfl
 !bP ?_ ⟨_,_,rfl,fs,p,rfl,D,h⟩;rcases r with e | e <;> rw[e]
 ·~⟨_,_,rfl,_,_,rfl,d,(n9 d.kf or j n k i (nms _ (by simp[NMS])) (rfl)).up or,by PK[Dt.dep,al];on⟩
 ·~⟨_,_,rfl,_,_,rfl,d,(n9 d.kf or n j (Ne.symm k) i (nms _ (by simp[NMS])) (rfl)).up or,by PK[Dt.dep,al];on⟩
~Im(x):∃ v y,c.H 247 108 (ent [.r 0] [rw1 x] (.ok (.d v) [rw1 y]))/\DR c v:=by
 &k,y,i,D:=d92 x;&s,z,a,m:=Kc _;&p,n,C,t:=Bp D (y / 3);&l,o,B,j:=Bp m z
 let pv:Int->Dt->Dt:=λu _=>if y % 3=0 then l else p
 let g:Int->Dt->Int:=λu _=>if y % 3=0 then o else n
 suffices f:RP _ (E (EB c _ x y z _ _ pv g) _ _ _)by
  &v,w,e,h:=f;PM v,w,go (ac (up i or) (ac (up a or) (ac aJ af))) e,h
 rw[K1];PK[ah]
 by_cases q:y % 3=0
 ·@b:pv z (rf s)=l:=Lj q;@A:g z (rf s)=o:=Lj q;rw[show(y % 3 == 0)=PU by simpa using q,L1,bq (show c.H _ _ (ent _ _ (.ok _ _))from by simp_all),L1,b];~Bq m j _
 ·@b:pv (y / 3) (rf k)=p:=Ln q;@A:g (y / 3) (rf k)=n:=Ln q;rw[show(y % 3 == 0)=PV by simpa using q,Mr,bq (show c.H _ _ (ent _ _ (.ok _ _))from by simp_all),L1,b];~Bq D t _
~kA(h:j.natAbs < 2 ^ 63):aj .mul (.d (.int i)) (.d (.int j)) []=dd (.int (i*j)):=by
 @c:Builtin.Int.intBits j<=Mv:=by
  PL Builtin.Int.intBits
  split
  ·~aAM _
  ·@:j.natAbs.log2 < 63:=by
    by_cases z:j.natAbs=0
    ·rw[z];decide
    ·~(aCd z).mpr h
   show _<=64;on
 @a:fm i j=true:=by
  PL fm;rw[show decide (Builtin.Int.intBits j > Mv)=PV from Lv or,aBA,aBX]
  rfl
 show(match (if fm i j=PU then PN _ else PR)with | PN x=>Rs.ok (Av.d x) [] | PR=>.bad)=_;rw[Lj a]
§A1(v j:Int):Rs Av:=aj .mul (.d (.int (v % 1000000007+7919*j+1))) (.d (.int 48271)) []
§A2(v j:Int):Rs Av:=aj .mod (.d (ae (A1 v j))) (.d (.int 2147483647)) []
§A3(v j:Int):Rs Av:=aj .mul (.d (ae (A2 v j))) (.d (ae (A2 v j))) []
§A4(v j:Int):Rs Av:=aj .mod (.d (ae (A3 v j))) (.d (.int 2147483629)) []
§A5(v j:Int):Rs Av:=aj .mul (.d (ae (A4 v j))) (.d (.int 69621)) []
§A6(v j:Int):Rs Av:=aj .mod (.d (ae (A5 v j))) (.d (.int 2147483647)) []
~e85(v j):E [] 85 [.d (.int v),.d (.int j)] []=(ak (A1 v j)~>ak (A2 v j)~>ak (A3 v j)~>ak (A4 v j)~>ak (A5 v j)~>ak (A6 v j)~>dd (ae (A6 v j))):=IO
~d85(v j):∃ i:Int,c.H 13 85 (ent [.d (.int v),.d (.int j)] [] (dd (.int i))):=by
 @e:∃ i:Int,A1 v j=dd _:=⟨_,kA (by decide)⟩;&l,e:=e;@h:A2 v j=dd (.int (l % 2147483647)):=by PL A2;rw[e];~bK (by decide)
 @a:∃ i:Int,A3 v j=dd (.int i):=by
  PL A3;rw[h];~⟨_,kA (by
   on)⟩
 &n,a:=a;@b:∃ i:Int,A4 v j=dd (.int i):=by PL A4;rw[a];PM _,bK (by decide)
 &o,b:=b;@f:∃ i:Int,A5 v j=dd (.int i):=by PL A5;rw[b];PM _,kA (by decide)
 &m,f:=f;@g:∃ i:Int,A6 v j=dd (.int i):=by PL A6;rw[f];PM _,bK (by decide)
 &k,g:=g;PM k,g0 ((e85 v j).trans (by rw[e,h,a,b,f,g];rfl))
§F85(g:Int->Int->Int):PQ Av->Sto->Rs Av
 |[.d (.int v),.d (.int j)],S=>.ok (.d (.int (g v j))) S
 |_,_=>.bad
¶t86(c:Ct)(N:Nat)(g:Int->Int->Int):PQ (Nat×Sp1):=[(85,sem c N 85 (F85 g))]
¶rV(C:Int)(j f:PY Av):En:=[PN (.r 0),PN (.d (.int 0)),PN (.d (.int C)),j,f]
¶wZ(v:Int):Int:=0*10 ^ 60+v % 10 ^ 60
~e86(g)(v):E (t86 c N g) 86 [.r 0,.d (.int 0)] [.lst [.int v]]=bif decide (10 ^ 18<=wZ v)then .ok (.r 1) [.lst [.int v],.lst [.int (wZ v)]]else(tidy 1 (aU ((aL [] (.nm 3) (Lp tx (t86 c N g) 86 4) (rngL 0 1 9) (rV (wZ v) (PN (.d (.int 0))) (PN (.d (.int 0)))) [.lst [.int v]]).bind λf S1=>match f with
 |.nx a=>Bk (t86 c N g) 86 5 a S1
 |f=>.ok f S1))).res:=IO
¶Aq(u:Int):Rs Av:=aj .mul (.d (.int u)) (.d (.int 2147483647)) []
~f86(g)(v C u i)(j)(l):(aL [] (.nm 3) (Lp tx (t86 c N g) 86 4) (.int i :: l) (rV C j (PN (.d (.int u)))) [.lst [.int v]]).res=(ak (Aq u)~>hg c N 85 (F85 g) [.d (.int (C+1009*0+1)),.d (.int i)] []~>ak (aj .add (.d (ae (Aq u))) (.d (.int (g (C+1009*0+1) i))) [])~>(aL [] (.nm 3) (Lp tx (t86 c N g) 86 4) l (rV C (PN (.d (.int i))) (PN (.d (ae (aj .add (.d (ae (Aq u))) (.d (.int (g (C+1009*0+1) i))) []))))) [.lst [.int v]]).res):=IO
~g86(g)(v C u)(j):(tidy 1 (aU (Bk (t86 c N g) 86 5 (rV C j (PN (.d (.int u)))) [.lst [.int v]]))).res=.ok (.r 1) [.lst [.int v],.lst [.int (u / 8)]]:=IO
~w4(h:∀ v j,c.H N 85 (ent [.d (.int v),.d (.int j)] [] (dd (.int (g v j))))):∀ (l:PQ Int) (u) (j),∃ b a,(aL [] (.nm 3) (Lp tx (t86 c N g) 86 4) (l.map .int) (rV C j (PN (.d (.int u)))) [.lst [.int v]]).res=.ok (.nx (rV C a (PN (.d (.int b))))) [.lst [.int v]]
 |[],u,j=>⟨u,j,rfl⟩
 |i :: l,u,j=>by
  &b,a,e:=w4 h l _ _;!⟨b,a,?_⟩;rw[aAr,f86,show Aq u=dd _ from kA (by decide),bq (h _ _)];~e
~d86(v):∃ y:Int,c.H 26 86 (ent [.r 0,.d (.int 0)] [.lst [.int v]] (.ok (.r 1) [.lst [.int v],rw1 y])):=by
 @:∀ z:Int×Int,∃ i:Int,c.H 13 85 _:=λz=>d85 z.1 z.2;&g,hg:=Classical.skolem.mp this;@e:=e86 (c:=c) (N:=13) (λa b=>g (a,b)) v;@l:∀ p∈t86 c 13 (λa b=>g (a,b)),c.H 13 p.1 p.2:=ac aJ af
 #q:decide (10 ^ 18<=wZ v)with
 |true=>rw[q]at e;PM _,go l e
 |false =>
  &u,j,k:=w4 (λa b=>hg (a,b)) [0,1,2,3,4,5,6,7,8] 0 _;@m:(aL [] _ _ (rngL 0 1 9) _ _).res=_:=k;rw[q,Mr,aC,aE,Rs.bindRes,m,Rs.bind_ok]at e;@h:=g86 (c:=c) (N:=13) (λa b=>g (a,b)) v (wZ v) u j;rw[aC,aE]at h;PM _,go l (e.trans h)
~K3(h:(w,w')∈wds):c.H 13 110 (ent [.d (.str w)] [] (dd (.str w'))):=by
 PK[wds,aAl,aAu,LN]at h;rcases h with⟨rfl,rfl⟩ | ⟨rfl,rfl⟩ | ⟨rfl,rfl⟩ | ⟨rfl,rfl⟩ | ⟨rfl,rfl⟩ | ⟨rfl,rfl⟩ | ⟨rfl,rfl⟩ | ⟨rfl,rfl⟩ | ⟨rfl,rfl⟩ <;> ~g0 (IO)
§F86(sx:PQ Dt->Int):PQ Av->Sto->Rs Av
 |_,[.lst l]=>.ok (.r 1) [.lst l,rw1 (sx l)]
 |_,_=>.bad
§Io(dk dp:Int->Dt)(dx:Int->Int):PQ Av->Sto->Rs Av
 |_,[.lst [.int x]]=>.ok (.d (.tup [dk x,dp x])) [.lst [.int (dx x)]]
 |_,_=>.bad
§F2(f:Dt->Dt->Dt):PQ Av->Sto->Rs Av
 |[.d a,.d b],S=>.ok (.d (f a b)) S
 |_,_=>.bad
§F1(f:Dt->Dt):PQ Av->Sto->Rs Av
 |[.d a],S=>.ok (.d (f a)) S
 |_,_=>.bad
structure LF where
 sx:PQ Dt->Int
 dk:Int->Dt
 dp:Int->Dt
 dx:Int->Int
 be:Dt->Dt->Dt
 ab:Dt->Dt->Dt
 re:Dt->Dt->Dt
 wo:Dt->Dt
¶rW(c:Ct)(N:Nat)(F:LF):PQ (Nat×Sp1):=[(86,sem c N 86 (F86 F.sx)),(108,sem c N 108 (Io F.dk F.dp F.dx)),(109,sem c N 109 (F2 F.be)),(77,sem c N 77 (F2 F.ab)),(65,sem c N 65 (F2 F.re)),(110,sem c N 110 (F1 F.wo))]
¶cu(ns:PQ Dt)(k:Int):PQ Dt:=L2.io (.int 0 :: ns) (PN k) (PN (k+1))
¶ju(ns:PQ Dt)(k r d p b a:PY Av):En:=[PN (.l ns),k,r,d,p,b,a]
§EC(c:Ct)(N:Nat)(F:LF)(K P:Dt)(S:Sto)(e:PY Av->En)(a:PY Av):Rs Fl:=
 bif hg c N 109 (F2 F.be) [.d P,.d K] []then bif !ca (F.be P K)then bif hg c N 77 (F2 F.ab) [.d P,.d K] []then bif ak (ix0 (F.ab P K))then bif ak (ix0 P)then bif hg c N 110 (F1 F.wo) [.d (ae (ix0 P))] []then bif decide ((ae (ix0 (F.ab P K))).dep<=60)then bif !eqD (ae (ix0 (F.ab P K))) (F.wo (ae (ix0 P)))then .ok (.rt (.d (.bl PV))) S else
  bif hg c N 65 (F2 F.re) [.d (F.ab P K),.d (F.be P K)] []then bif decide ((F.re (F.ab P K) (F.be P K)).dep<=60)then bif !eqD (F.re (F.ab P K) (F.be P K)) K then .ok (.rt (.d (.bl PV))) S else
  (hg c N 77 (F2 F.ab) [.d (F.ab P K),.d (F.be P K)] []~>decide ((F.ab (F.ab P K) (F.be P K)).dep<=60)~>bif !eqD (F.ab (F.ab P K) (F.be P K)) P then .ok (.rt (.d (.bl PV))) S else .ok (.nx (e (PN (.d (F.ab P K))))) S) else .bad else .bad else .bad else .bad else .bad else .bad else .bad else .ok (.nx (e a)) S else .bad
§ED(c:Ct)(N:Nat)(F:LF)(ns:PQ Dt)(k:Int)(J:Sto)(a:PY Av):Rs Fl:=
 (decide (1+ns°<=Ld)~>hg c N 86 (F86 F.sx) [.r 0,.d (.int 0)] [.lst (cu ns k)]~>hg c N 108 (Io F.dk F.dp F.dx) [.r 0] [rw1 (F.sx (cu ns k))]~>EC c N F (F.dk (F.sx (cu ns k))) (F.dp (F.sx (cu ns k))) (J++[.lst [.int 0],.lst (.int 0 :: ns),.lst (cu ns k),rw1 (F.dx (F.sx (cu ns k)))]) (ju ns (PN (.d (.int k))) (PN (.r (J°+3))) (PN (.d (F.dk (F.sx (cu ns k))))) (PN (.d (F.dp (F.sx (cu ns k))))) (PN (.d (F.be (F.dp (F.sx (cu ns k))) (F.dk (F.sx (cu ns k))))))) a)
¶JJ(o:Nat->Ob)(n:Nat):Sto:=(List.range n).map o
~K4(F)(ns)(k)(r d p b a)(o):∀ i,i < 24->(Lp tx (rW c N F) 111 0 (ju ns (PN (.d (.int k))) r d p b a) (JJ o (4*i))).res=ED c N F ns k (JJ o (4*i)) a
 |0,_=>IO
 |1,_=>IO
 |2,_=>IO
 |3,_=>IO
 |4,_=>IO
 |5,_=>IO
 |6,_=>IO
 |7,_=>IO
 |8,_=>IO
 |9,_=>IO
 |10,_=>IO
 |11,_=>IO
 |12,_=>IO
 |13,_=>IO
 |14,_=>IO
 |15,_=>IO
 |16,_=>IO
 |17,_=>IO
 |18,_=>IO
 |19,_=>IO
 |20,_=>IO
 |21,_=>IO
 |22,_=>IO
 |23,_=>IO
 |n+24,h=>absurd h or
~K5(F)(ns):E (rW c N F) 111 [.l ns] []=bif PU && inR (iv (ae (blt2 .min (.d (.int 24)) (.d (.int (1+(ns°)))) [])))then(tidy 0 (aU ((aL [] (.nm 1) (Lp tx (rW c N F) 111 0) (rngL 0 1 (iv (ae (blt2 .min (.d (.int 24)) (.d (.int (1+(ns°)))) []))).toNat) (ju ns PR PR PR PR PR PR) []).bind λf S1=>match f with
 |.nx a=>Bk (rW c N F) 111 1 a S1
 |f=>.ok f S1))).res else .bad:=IO
~K6(F)(e)(S):(tidy 0 (aU (Bk (rW c N F) 111 1 e S))).res=bb true:=IO
~Ar{i:Nat}(h):L2.io l (PN (i)) (PN ((i)+1))=[l[i]]:=by
 @e:((i:Int)+1)=((i+1:Nat)):=or
 PL L2.io;rw[e,HT.sIx_nat,HT.sIx_nat,Nat.min_eq_left or,Nat.min_eq_left or,Nat.add_sub_cancel_left,aBc h]
 rfl
~Ip(J):J=JJ (λk=>(J[k]?).getD (.lst [])) J°:=List.ext_getElem (by simp) λi c b=>by simp_all
structure QQ(c:Ct)(p K:Dt)(k':PQ Dt):Prop where
 b:c.H 468 109 (ent [.d p,.d K] [] (dd (.tup k')))
 a:c.H 468 77 (ent [.d p,.d K] [] (dd (abD p K)))
 ea:abD (abD p K) (.tup k')=p
 er:reD (abD p K) (.tup k')=K
 r:c.H 468 65 (ent [.d (abD p K),.d (.tup k')] [] (dd K))
 d:c.H 468 77 (ent [.d (abD p K),.d (.tup k')] [] (dd p))
 w:∃ w w' l l',p=.tup (.str w :: l)/\abD p K=.tup (.str w' :: l')/\(w,w')∈wds
~Iq{p K}(h:GP c 455 p K):c.H 468 109 (ent [.d p,.d K] [] (dd .non))\/∃ g,QQ c p K g:=by
 #h with
 |x h=>~.inl (g1 h (Hn _ _) ah)
 |y h=>~.inl (g1 h (Hq _ _) ah)
 |ok w r l o g j k f e b a i n m =>
  !.inr ⟨g,g1 f (J3 _ _ _) ah,?_,?_,?_,?_,?_,w,r,l,o,j,i,k⟩ <;> rw[i]
  ·~up e or
  ·~n
  ·~m
  ·~up b or
  ·~up a or
open Classical in
§beD(c:Ct)(p K:Dt):Dt:=if h:∃ k',QQ c p K k' then .tup (Classical.choose h)else .non
§woD:Dt->Dt
 |.str w=>.str ((wds.lookup w).getD "")
 |_=>.non
~Br(h:(w,w')∈wds):woD (.str w)=.str w':=by
 @:∀ p∈wds,(wds.lookup p.1).getD "" = p.2:=by decide +kernel
 show Dt.str _=_;rw[this _ h]
~Ir:∃ F:LF,F.ab=abD/\F.re=reD/\F.wo=woD/\F.be=beD c/\(∀ v,c.H 468 86 (ent [.r 0,.d (.int 0)] [.lst [.int v]] (.ok (.r 1) [.lst [.int v],rw1 (F.sx [.int v])])))/\∀ x,c.H 468 108 (ent [.r 0] [rw1 x] (.ok (.d (.tup [F.dk x,F.dp x])) [rw1 (F.dx x)]))/\∃ fs,F.dk x=rf fs/\DF c fs/\PP c fs (F.dp x):=by
 &s,m:=Classical.skolem.mp (λv=>d86 v);&b,i,f:=sk2 (Im);!⟨⟨λl=>match l with | [.int v]=>s v | _=>0,λx=>ag 0 (b x),λx=>ag 1 (b x),i,_,abD,reD,woD⟩,rfl,rfl,rfl,rfl,λv=>up (m v) or,λx=>?_⟩;&h,fs,p,e,D,g:=f x;@j:ag 0 (b x)=rf fs:=by rw[e];rfl
 @k:ag 1 (b x)=p:=by rw[e];rfl
 show c.H _ _ (ent _ _ (.ok (.d (.tup [ag 0 _,ag 1 _])) _))/\∃ fs,ag 0 _=rf fs/\DF c fs/\PP c fs (ag 1 _);rw[j,k];rw[e]at h;PM up h or,fs,rfl,D,g
~w5(D:DF c fs):(rf fs).dep<=60:=aAq (rf_dep λp a=>D.d p a) or
~As(y:F.ab=abD)(I:F.re=reD)(C:F.wo=woD)(v:F.be=beD c)(D:DF c fs)(o:PP c fs p)(S)(e)(a):∃ a',EC c 468 F (rf fs) p S e a=.ok (.nx (e a')) S:=by
 PL EC;rw[y,I,C,v]
 by_cases h:∃ k,QQ c p (rf fs) k
 ·@Q:=Classical.choose_spec h;@b:beD c p (rf fs)=.tup (Classical.choose h):=by PL beD;rw[dif_pos h]
  generalize Classical.choose h=k at Q b;&w,r,l,M,t,u,m:=Q.w;@s:ix0 (abD p (rf fs))=dd (.str r):=by rw[u];~ku
  @z:ix0 p=dd (.str w):=by rw[t];~ku
  !⟨PN (.d (abD p (rf fs))),?_⟩;@B:∀ d:Dt,ae (dd d)=d:=λ_=>rfl;@L:∀ d:Dt,ak (dd d)=true:=λ_=>rfl;@f:hg c _ _ (F2 _) _ []=true:=bq (show c.H _ _ (ent _ _ (dd (beD c p _)))from by rw[b];~Q.b);@n:hg c _ 77 (F2 abD) _ []=true:=bq (Q.a);@g:hg c 468 _ (F1 woD) [.d _] []=true:=bq (show c.H _ _ (ent _ _ (dd _))from by rw[Br m];~up (K3 m) or);@j:hg c _ 65 (F2 reD) _ []=true:=bq (show c.H _ 65 (ent _ _ (dd (reD _ _)))from by rw[Q.er];~Q.r);@i:hg c _ 77 (F2 abD) _ []=true:=bq (show c.H _ 77 (ent _ _ (dd (abD _ _)))from by rw[Q.ea];~Q.d);@x:=Lh (w5 D);@J:=Lh o.2;@G:decide ((Dt.str r).dep<=60)=true:=rfl;@H:ca (.tup k)=false:=rfl;rw[s,z,b];PK[B,L,Q.ea,Q.er,Br m,f,n,g,j,i,x,J,G,H,gj,Bool.not_true,Bool.not_false,L1,Mr]
 ·@b:beD c p (rf fs)=.non:=by PL beD;rw[dif_neg h]
  rcases Iq o.1 with q | q
  ·!⟨a,?_⟩;rw[b,bq (show c.H _ _ (ent _ _ (dd _))from by rw[b];~q)]
   rfl
  ·~absurd q h
~At(t:F.ab=abD)(h:F.re=reD)(y:F.wo=woD)(w:F.be=beD c)(n:∀ v,c.H 468 86 (ent [.r 0,.d (.int 0)] [.lst [.int v]] (.ok (.r 1) [.lst [.int v],rw1 (F.sx [.int v])])))(s:∀ x,c.H 468 108 (ent [.r 0] [rw1 x] (.ok (.d (.tup [F.dk x,F.dp x])) [rw1 (F.dx x)]))/\∃ fs,F.dk x=rf fs/\DF c fs/\PP c fs (F.dp x)){ns:PQ Int}(A:ns°<=63)(B:i < ns°+1)(J)(a):∃ k r d p b a' o,ED c 468 F (ns.map .int) (i) J a=.ok (.nx (ju (ns.map .int) k r d p b a')) (J++o)/\o°=4:=by
 @z:∃ v,cu (ns.map .int) (i)=[.int v]:=by
  PL cu;rw[Ar (by simp_all)];@:(Dt.int 0 :: ns.map _)=(0 :: ns).map _:=rfl;PK[this,aB7];PM _,rfl
 &v,u:=z;&f,fs,l,D,j:=s _;&a',e:=As t h y w D j _ _ a;!⟨PN (.d (.int (i))),PN (.r (J°+3)),PN (.d (F.dk (F.sx [.int v]))),PN (.d (F.dp (F.sx [.int v]))),PN (.d (F.be (F.dp (F.sx [.int v])) (F.dk (F.sx [.int v])))),a',[.lst [.int 0],.lst (.int 0 :: ns.map .int),.lst [.int v],rw1 (F.dx (F.sx [.int v]))],?_,rfl⟩;PL ED;rw[u,Lh (show 1+(ns.map _)°<=Ld by rw[aAa];show _<=16777216;on),bq (n v),bq (f)];rw[<- l]at e;~e
~Iu(n):rngL 0 1 n=(List.range' 0 n).map λk:Nat=>.int (k):=by
 PL rngL;rw[List.range_eq_range'];~aBu λk _=>by simp_all
~qm(u:F.ab=abD)(j:F.re=reD)(w:F.wo=woD)(n:F.be=beD c)(t:∀ v,c.H 468 86 (ent [.r 0,.d (.int 0)] [.lst [.int v]] (.ok (.r 1) [.lst [.int v],rw1 (F.sx [.int v])])))(s:∀ x,c.H 468 108 (ent [.r 0] [rw1 x] (.ok (.d (.tup [F.dk x,F.dp x])) [rw1 (F.dx x)]))/\∃ fs,F.dk x=rf fs/\DF c fs/\PP c fs (F.dp x)){ns:PQ Int}(l:ns°<=63):∀ (m i) (J) (k r d p b a),J°=4*i->i+m<=24->i+m<=ns°+1->∃ e h,(aL [] (.nm 1) (Lp tx (rW c 468 F) 111 0) ((List.range' i m).map λk:Nat=>.int (k)) (ju (ns.map .int) k r d p b a) J).res=.ok (.nx e) h
 |0,i,J,k,r,d,p,b,a,_,_,_=>⟨_,J,rfl⟩
 |m+1,i,J,k,r,d,p,b,a,B,P,Q=>by
  rw[List.range'_succ,aAr];&M,I,y,O,L,A,o,e,lo:=At u j w n t s l (i:=i) or J a;&D,h,C:=qm u j w n t s l m (i+1) (J++o) M I y O L A (by rw[aAi];on) or or;!⟨D,h,?_⟩;@H:J=JJ (λk=>(J[k]?).getD (.lst [])) (4*i):=by rw[<- B];~Ip J
  @f:=K4 (c:=c) (N:=468) F (ns.map .int) (i) r d p b a (λk=>(J[k]?).getD (.lst [])) i or;rw[<- H]at f;rw[mz (env1:=ju _ _ r d p b a) rfl,f,e,Rs.bind_ok];~C
~Iv(ns:PQ Int)(o:ns°<=63):c.H 481 111 (ent [.l (ns.map .int)] [] (bb PU)):=by
 &F,r,h,t,j,k,n:=Ir;@f:∃ m:Nat,ae (blt2 .min (.d (.int 24)) (.d (.int (1+((ns.map Dt.int)°)))) [])=.int (m)/\m<=24/\m<=ns°+1:=by
  rw[aAa];!⟨if(1+(ns°:Int)) < 24 then ns°+1 else 24,?_,?_,?_⟩
  ·show Dt.int _=_
   split <;> (congr 1 <;> on)
  ·split <;> on
  ·split <;> on
 &m,f,v,w:=f;&e,i,p:=qm r h t j k n o m 0 [] PR PR PR PR PR PR rfl or or;!go (ac aJ (ac aJ (ac aJ (ac aJ (ac aJ (ac aJ af)))))) ((K5 F _).trans ?_);rw[f];@u:inR (iv (.int _))=true:=dq.mpr (by show -(2 ^ 62)<=(m:Int)/\(m:Int) < 2 ^ 62;on);@s:(iv (.int _)).toNat=m:=aBy m;rw[u,s,Iu,aC,aE,Rs.bindRes,p,Rs.bind_ok];@g:=K6 (c:=c) (N:=468) F e i;~g
end
end Q27
namespace Q27
open PySem L2 PyProof.Rows
¶depth:Nat:=222
~value(c:Ct)(ns:PQ Int)(h:ns°<=63):Ho c.P c.w c.K c.mg c.base tx 222 111 (ent [.l (ns.map Dt.int)] [] (.ok (.d (.bl PU)) [])):=Iv ns h
end Q27
namespace O27
open PySem L2 PyProof.Rows
¶pwX:=PySem.Challenge.pw_oldhands_k27_pieces_about
open Q27 (top)
§hT(t:Nat):Li:=.str "/claim/cut.py" t
§hE(P:Me)(x:Str)(t:Nat)(v:Li):Oy:={ hash:=PyData.keyHash P x,key:=.str x t,val:=v }
§hF(x y m:Str)(st:LP)(t c:Nat):Obj:={ cls:=.type "function",data:=.func (W.fnOf x y (bL st) (aM st) (ar st) .none .none .none (.str m t) PR (.ref c) .none) }
§hU(x y:Str)(st:LP):Obj:={ cls:=.none,data:=.func { name:=x,qualname:=y,params:=bL st,body:=.stmts (aM st),scope:=ar st,globals:=Oa,closure:=[],defaults:=.none,kwdefaults:=.none } }
§hC(x y:Str)(t u v:Nat)(r:PQ Li):Obj:={ cls:=.type "code",data:=.fields (Array.mk (.str x t :: .str y u :: hT v :: r)) }
§hS(r:PQ Li):Obj:={ cls:=.type "tuple",data:=.seq (Array.mk r) }
§hN:Obj:={ cls:=.none,data:=.fields (Array.mk []) }
§K7:Obj:={ cls:=.type "builtin_function_or_method",data:=.fields (Array.mk [.builtin "type.__prepare__",.type "type"]) }
§fI(s:LP):Str:=match s with
 |.FunctionDef x _ _ _ _ _ _ _ _ _=>x
 |_=> ""
§Au(s:LP):Int:=match s with
 |.FunctionDef _ _ _ _ _ _ _ _ _ p=>p.line
 |_=>0
§w6(s:LP):PQ Str:=(ar s).names.filterMap λp=>match p.2 with
 |.local=>PN p.1
 |_=>PR
§Iw:PQ Str->Nat->PQ Li
 |[],_=>[]
 |x :: r,t=>.str x t :: Iw r (Nat.add t 1)
§hqC(s:LP)(a u t:Nat)(x y z:Li):Obj:=hC (fI s) (fI s) t (Nat.add t 1) (Nat.add t 2) [.int (Au s) 0,.int (bL s).args.length 0,.int 0 0,.int 0 0,.int 3 0,.ref a,.bool PU,.int 181 0,.ref (Nat.add a 1),.none,x,y,z,.int u 0,.int (Au s) 0,hT (Nat.add u 1)]
§hqO(m:Str)(mt:Nat):Nat->Nat->Nat->Nat->Nat->Nat->PQ Obj
 |0,_,_,_,_,_=>[]
 |n+1,f,j,i,a,t=>match Nat.testBit f j with
  |true=>hS [] :: hN :: hS (Iw (w6 (top i)) (Nat.add t 3)) :: hS [] :: hU (fI (top i)) (fI (top i)) (top i) :: hqC (top i) a (Nat.add t (Nat.add 3 (w6 (top i))°)) t (.ref (Nat.add a 2)) (.ref (Nat.add a 3)) (.ref (Nat.add a 4)) :: hF (fI (top i)) (fI (top i)) m (top i) mt (Nat.add a 5) :: hqO m mt n f (Nat.add j 1) (Nat.add i 1) (Nat.add a 7) (Nat.add t (Nat.add 6 (w6 (top i))°))
  |false=>hS [] :: hN :: hU (fI (top i)) (fI (top i)) (top i) :: hqC (top i) a (Nat.add t 3) t .none .none (.ref (Nat.add a 2)) :: hF (fI (top i)) (fI (top i)) m (top i) mt (Nat.add a 3) :: hqO m mt n f (Nat.add j 1) (Nat.add i 1) (Nat.add a 5) (Nat.add t 6)
§hqG(P:Me):Nat->Nat->Nat->Nat->Nat->Nat->PQ Oy
 |0,_,_,_,_,_=>[]
 |n+1,f,j,i,a,t=>match Nat.testBit f j with
  |true=>hE P (fI (top i)) (Nat.add t (Nat.add 5 (w6 (top i))°)) (.ref (Nat.add a 6)) :: hqG P n f (Nat.add j 1) (Nat.add i 1) (Nat.add a 7) (Nat.add t (Nat.add 6 (w6 (top i))°))
  |false=>hE P (fI (top i)) (Nat.add t 5) (.ref (Nat.add a 4)) :: hqG P n f (Nat.add j 1) (Nat.add i 1) (Nat.add a 5) (Nat.add t 6)
§hqV:Nat->Nat->Nat->Nat->Nat->PQ Li
 |0,_,_,_,_=>[]
 |n+1,f,j,i,a=>match Nat.testBit f j with
  |true=>.int (Au (top i)) 0 :: .int 0 0 :: .ref (Nat.add a 5) :: hqV n f (Nat.add j 1) (Nat.add i 1) (Nat.add a 7)
  |false=>.int (Au (top i)) 0 :: .int 0 0 :: .ref (Nat.add a 3) :: hqV n f (Nat.add j 1) (Nat.add i 1) (Nat.add a 5)
§hqX(P:Me)(x:Str)(l a t b mt:Nat):PQ Obj:=[hS [.ref b],K7,{ cls:=.type "dict",data:=.dict (Array.mk [hE P "__module__" (Nat.add t 7) (.str "oldhands.errors" mt),hE P "__qualname__" (Nat.add t 9) (.str x (Nat.add t 8)),hE P "__firstlineno__" (Nat.add t 11) (.int (Int.ofNat l) (Nat.add t 10)),hE P "__static_attributes__" (Nat.add t 12) (.ref (Nat.add a 7))]) 4 },hS [],hN,hC x x (Nat.add t 2) (Nat.add t 3) (Nat.add t 4) [.int (Int.ofNat l) 0,.int 0 0,.int 0 0,.int 0 0,.int 0 0,.ref (Nat.add a 3),.bool PV,.int 181 0,.ref (Nat.add a 4),.none,.none,.none,.none,.int (Int.ofNat (Nat.add t 5)) 0,.int (Int.ofNat l) 0,hT (Nat.add t 6)],{ cls:=.type "frame",slots:=Array.mk [PN (.ref (Nat.add a 5)),PN (.ref 3),PN (.ref (Nat.add a 2)),PR,PN (.str "oldhands.errors" mt),PR,PN (.ref 0)] },hS [],{ cls:=.type "dict",data:=.dict (Array.mk [hE P "__module__" (Nat.add t 7) (.str "oldhands.errors" mt),hE P "__firstlineno__" (Nat.add t 11) (.int (Int.ofNat l) (Nat.add t 10)),hE P "__static_attributes__" (Nat.add t 12) (.ref (Nat.add a 7)),hE P "__doc__" (Nat.add t 13) .none]) 2 },{ cls:=.type "type",data:=.cls { name:=x,bases:=[.ref b],mro:=[.ref (Nat.add a 9),.ref b,.type "ValueError",.type "Exception",.type "BaseException",.type "object"],ns:=Nat.add a 8,qualname:=x },slots:=Array.mk [PN (.ref a),PR,PN (.str x t),PN (.str x (Nat.add t 8)),PN (.builtin "ValueError.__new__"),PN (.bool PU)] },{ cls:=.type "super",data:=.fields (Array.mk [.ref (Nat.add a 9),.ref (Nat.add a 9),.ref (Nat.add a 9)]) },{ cls:=.type "builtin_function_or_method",data:=.fields (Array.mk [.builtin "object.__init_subclass__",.ref (Nat.add a 9)]) }]
§gE:Me->PQ Oy:=λP=>[hE P "__doc__" 166 (.none),hE P "__package__" 167 (.none),hE P "__loader__" 168 (.builtin "__main__.__loader__#opaque"),hE P "__spec__" 169 (.none),hE P "__annotations__" 170 (.ref 6),hE P "__builtins__" 171 (.ref 4),hE P "__file__" 173 (.str ("/claim/cut.py") 172),hE P "__cached__" 174 (.none),hE P "HandError" 206 (.ref 24),hE P "BadKind" 222 (.ref 37),hE P "BadTurn" 238 (.ref 49),hE P "BadPiece" 254 (.ref 61),hE P "LETTERS" 258 (.str ("abcdefghijklmnopqrstuvwxyz") 257),hE P "LONGEST_NAME" 260 (.int 8 259),hE P "EACH" 262 (.str ("each") 261),hE P "MOST_SIGNS" 264 (.int 60 263),hE P "MOST_WORDS" 266 (.int 8 265),hE P "MOST_FIELDS" 268 (.int 8 267),hE P "MOST_ITEMS" 270 (.int 8 269),hE P "MOST_KINDS" 272 (.int 40 271),hE P "DEEPEST" 274 (.int 5 273),hE P "PART_COUNTS" 293 (.ref 64)]++(hqG P 15 7806 0 16 65 294++([hE P "PERCENT" 409 (.int 37 408)]++(hqG P 12 1355 0 33 160 410++([hE P "LEAST_FACTOR" 503 (.int 2 502),hE P "GREATEST_FACTOR" 505 (.int 1000 504),hE P "TURN_COUNTS" 539 (.ref 232),hE P "TURN_SORTS" 571 (.ref 233)]++(hqG P 11 831 0 50 244 572++([hE P "PIECE_FORMS" 706 (.ref 315)]++(hqG P 21 2060247 0 63 326 707++(hqG P 27 133354495 0 85 465 888))))))))
§gD(P:Me)(x:Str)(t m k:Nat):Obj:={ cls:=.type "dict",data:=.dict (Array.mk (hE P "__name__" 165 (.str x t) :: (gE P).take m)) k }
§tE:PQ Li:=[.int 2 0,.int 0 0,.ref 20,.int 4 0,.int 0 0,.ref 33,.int 6 0,.int 0 0,.ref 45,.int 8 0,.int 0 0,.ref 57]++(hqV 15 7806 0 16 65++(hqV 12 1355 0 33 160++(hqV 11 831 0 50 244++(hqV 21 2060247 0 63 326++(hqV 27 133354495 0 85 465)))))
§tD(m:Nat):Obj:={ cls:=.none,data:=.fields (Array.mk (tE.take m)) }
§hqL(P:Me):PQ Obj:=[W.boot_o_0 P,W.boot_o_1 P,W.boot_o_2 P,{ cls:=.type "dict",data:=.dict (Array.mk (hE P "__name__" 165 (.str ("law_oldhands_k27_pieces_about") 886) :: gE P)) 115 },W.boot_o_4 P,W.boot_o_5 P,W.boot_o_6 P,W.boot_o_7 P,W.boot_o_8 P,W.boot_o_9 P,W.boot_o_10 P]++([hS [],{ cls:=.none,data:=.fields (Array.mk tE) },hC "<module>" "<module>" 182 183 184 [.int 1 0,.int 0 0,.int 0 0,.int 0 0,.int 0 0,.ref 11,.bool PV,.int 181 0,.ref 12,.none,.none,.none,.none,.int 185 0,.int 1 0,hT 186],{ cls:=.type "frame",slots:=#[PN (.ref 13),PN (.ref 3),PN (.ref 3),PR,PN (.str ("__main__") 164),PR,PN (.ref 0)] },hS [.type "ValueError"],{ cls:=.type "builtin_function_or_method",data:=.fields #[.builtin "type.__prepare__",.type "type"] },{ cls:=.type "dict",data:=.dict #[hE P "__module__" 196 (.str ("oldhands.errors") 187),hE P "__qualname__" 198 (.str ("HandError") 197),hE P "__firstlineno__" 200 (.int 2 199),hE P "__static_attributes__" 201 (.ref 22)] 4 },hS [],hN,hC "HandError" "HandError" 191 192 193 [.int 2 0,.int 0 0,.int 0 0,.int 0 0,.int 0 0,.ref 18,.bool PV,.int 181 0,.ref 19,.none,.none,.none,.none,.int 194 0,.int 2 0,hT 195],{ cls:=.type "frame",slots:=#[PN (.ref 20),PN (.ref 3),PN (.ref 17),PR,PN (.str ("oldhands.errors") 187),PR,PN (.ref 0)] },hS [],{ cls:=.type "dict",data:=.dict #[hE P "__module__" 196 (.str ("oldhands.errors") 187),hE P "__firstlineno__" 200 (.int 2 199),hE P "__static_attributes__" 201 (.ref 22),hE P "__weakref__" 203 (.ref 25),hE P "__doc__" 204 (.none)] 3 },{ cls:=.type "type",data:=.cls { name:= "HandError",bases:=[.type "ValueError"],mro:=[.ref 24,.type "ValueError",.type "Exception",.type "BaseException",.type "object"],ns:=23,qualname:= "HandError",subclasses:=[.ref 37,.ref 49,.ref 61] },slots:=#[PN (.ref 15),PR,PN (.str ("HandError") 189),PN (.str ("HandError") 197),PN (.builtin "ValueError.__new__"),PN (.bool PU)] },{ cls:=.type "getset_descriptor",data:=.fields #[.str ("__weakref__") 202,.ref 24,.builtin "ExceptionGroup.__weakref__",.none] },{ cls:=.type "super",data:=.fields #[.ref 24,.ref 24,.ref 24] },{ cls:=.type "builtin_function_or_method",data:=.fields #[.builtin "object.__init_subclass__",.ref 24] }]++(hqX P "BadKind" 4 28 207 24 187++(hqX P "BadTurn" 6 40 223 24 187++(hqX P "BadPiece" 8 52 239 24 187++([{ cls:=.type "dict",data:=.dict #[hE P "number" 275 (.int 3 276),hE P "text" 277 (.int 2 278),hE P "choice" 279 (.int 2 280),hE P "list" 281 (.int 3 282),hE P "record" 283 (.int 2 284),hE P "rows" 285 (.int 4 286)] 6 }]++(hqO "oldhands.kinds" 255 15 7806 0 16 65 294++(hqO "oldhands.values" 406 12 1355 0 33 160 410++([{ cls:=.type "dict",data:=.dict #[hE P "bounds" 506 (.int 3 507),hE P "scale" 508 (.int 2 509),hE P "shrink" 510 (.int 2 511),hE P "figures" 512 (.int 2 513),hE P "number" 514 (.int 3 515),hE P "words" 516 (.int 3 517),hE P "cut" 518 (.int 2 519),hE P "first" 520 (.int 2 521),hE P "one" 522 (.int 2 523),hE P "out" 524 (.int 1 525),hE P "items" 526 (.int 2 527)] 11 },{ cls:=.type "dict",data:=.dict #[hE P "bounds" 540 (.ref 234),hE P "scale" 542 (.ref 235),hE P "shrink" 544 (.ref 236),hE P "figures" 546 (.ref 237),hE P "number" 548 (.ref 238),hE P "words" 550 (.ref 239),hE P "cut" 552 (.ref 240),hE P "first" 554 (.ref 241),hE P "out" 557 (.ref 242),hE P "items" 559 (.ref 243)] 10 },hS [.str ("number") 541],hS [.str ("number") 543],hS [.str ("number") 545],hS [.str ("number") 547],hS [.str ("text") 549],hS [.str ("choice") 551],hS [.str ("text") 553],hS [.str ("list") 555,.str ("rows") 556],hS [.str ("list") 558],hS [.str ("list") 560]]++(hqO "oldhands.turns" 500 11 831 0 50 244 572++([{ cls:=.type "dict",data:=.dict #[hE P "put" 655 (.ref 316),hE P "drop" 659 (.ref 317),hE P "name" 662 (.ref 318),hE P "sink" 665 (.ref 319),hE P "lift" 668 (.ref 320),hE P "turn" 671 (.ref 321),hE P "split" 674 (.ref 322),hE P "join" 679 (.ref 323),hE P "part" 684 (.ref 324),hE P "whole" 689 (.ref 325)] 10 },hS [.str ("text") 656,.str ("tuple") 657,.str ("any") 658],hS [.str ("text") 660,.str ("any") 661],hS [.str ("text") 663,.str ("text") 664],hS [.str ("text") 666,.str ("text") 667],hS [.str ("text") 669,.str ("text") 670],hS [.str ("text") 672,.str ("tuple") 673],hS [.str ("text") 675,.str ("text") 676,.str ("text") 677,.str ("text") 678],hS [.str ("text") 680,.str ("text") 681,.str ("text") 682,.str ("text") 683],hS [.str ("text") 685,.str ("number") 686,.str ("text") 687,.str ("text") 688],hS [.str ("text") 690,.str ("text") 691,.str ("number") 692,.str ("text") 693,.str ("number") 694,.str ("number") 695]]++(hqO "oldhands.pieces" 653 21 2060247 0 63 326 707++(hqO "law_oldhands_k27_pieces_about" 886 27 133354495 0 85 465 888))))))))))))
§hqE:Bool->PQ Obj->PQ Obj
 |_,[]=>[]
 |true,x :: r=>x :: hqE PV r
 |false,_ :: r=>hqE PU r
§hqT:Nat->PQ Obj->W.BT
 |0,_=>.nil
 |_+1,[]=>.nil
 |k+1,x :: r=>.node x (hqT k (hqE PU r)) (hqT k (hqE PV r))
§hqA(P:Me)(i:Nat):Obj:=(hqL P).getD i hN
¶hA1:PY Li:=PN (.ref 6)
¶hB1:PQ Frame:=[W.topFrame ⟨0,0,0,0⟩]
§bB:Env:={ scope:=pwX.main.scope,locals:=mainNs,globals:=mainNs,cells:=[],code:=.ref 13,frame:=PN 14 }
¶hCo:Code:=.body (W.behindTheImports pwX) bB
§hp0(P:Me):LE:=⟨Array.mk (hqA P 0 :: hqA P 1 :: hqA P 2 :: (gD P "__main__" 164 8 9) :: hqA P 4 :: hqA P 5 :: hqA P 6 :: hqA P 7 :: hqA P 8 :: hqA P 9 :: hqA P 10 :: hqA P 11 :: (tD 0) :: hqA P 13 :: hqA P 14 :: []),{}⟩
§tB(P:Me):W.BT:=((hqT 11 ((hqL P).take 15)).set 3 (λ_=>gD P "__main__" 164 8 9)).set 12 (λ_=>tD 0)
§sB(w:Lu)(os:Mz):W.SharedT:=⟨tB w.params,15,{},Array.mk [],{},187,os⟩
§t0(P:Me):W.BT:=(((hqT 11 ((hqL P).take 28)).set 3 (λ_=>gD P "oldhands.errors" 187 9 10)).set 12 (λ_=>tD 3)).set 24 (λ_=>{ cls:=.type "type",data:=.cls { name:= "HandError",bases:=[.type "ValueError"],mro:=[.ref 24,.type "ValueError",.type "Exception",.type "BaseException",.type "object"],ns:=23,qualname:= "HandError" },slots:=#[PN (.ref 15),PR,PN (.str ("HandError") 189),PN (.str ("HandError") 197),PN (.builtin "ValueError.__new__"),PN (.bool PU)] })
§s0(w:Lu)(os:Mz):W.SharedT:=⟨t0 w.params,28,{},Array.mk [],{},207,os⟩
§st0:PQ LP:=((W.behindTheImports pwX).drop 0).take 2
§t1(P:Me):W.BT:=(((hqT 11 ((hqL P).take 40)).set 3 (λ_=>gD P "oldhands.errors" 187 10 11)).set 12 (λ_=>tD 6)).set 24 (λ_=>{ cls:=.type "type",data:=.cls { name:= "HandError",bases:=[.type "ValueError"],mro:=[.ref 24,.type "ValueError",.type "Exception",.type "BaseException",.type "object"],ns:=23,qualname:= "HandError",subclasses:=[.ref 37] },slots:=#[PN (.ref 15),PR,PN (.str ("HandError") 189),PN (.str ("HandError") 197),PN (.builtin "ValueError.__new__"),PN (.bool PU)] })
§s1(w:Lu)(os:Mz):W.SharedT:=⟨t1 w.params,40,{},Array.mk [],{},223,os⟩
§st1:PQ LP:=((W.behindTheImports pwX).drop 2).take 1
§t2(P:Me):W.BT:=(((hqT 11 ((hqL P).take 52)).set 3 (λ_=>gD P "oldhands.errors" 187 11 12)).set 12 (λ_=>tD 9)).set 24 (λ_=>{ cls:=.type "type",data:=.cls { name:= "HandError",bases:=[.type "ValueError"],mro:=[.ref 24,.type "ValueError",.type "Exception",.type "BaseException",.type "object"],ns:=23,qualname:= "HandError",subclasses:=[.ref 37,.ref 49] },slots:=#[PN (.ref 15),PR,PN (.str ("HandError") 189),PN (.str ("HandError") 197),PN (.builtin "ValueError.__new__"),PN (.bool PU)] })
§s2(w:Lu)(os:Mz):W.SharedT:=⟨t2 w.params,52,{},Array.mk [],{},239,os⟩
§st2:PQ LP:=((W.behindTheImports pwX).drop 3).take 1
§t3(P:Me):W.BT:=((hqT 11 ((hqL P).take 64)).set 3 (λ_=>gD P "oldhands.kinds" 255 21 22)).set 12 (λ_=>tD 12)
§s3(w:Lu)(os:Mz):W.SharedT:=⟨t3 w.params,64,{},Array.mk [],{},275,os⟩
§st3:PQ LP:=((W.behindTheImports pwX).drop 4).take 11
§t4(P:Me):W.BT:=((hqT 11 ((hqL P).take 129)).set 3 (λ_=>gD P "oldhands.kinds" 255 32 33)).set 12 (λ_=>tD 42)
§s4(w:Lu)(os:Mz):W.SharedT:=⟨t4 w.params,129,{},Array.mk [],{},367,os⟩
§st4:PQ LP:=((W.behindTheImports pwX).drop 15).take 11
§t5(P:Me):W.BT:=((hqT 11 ((hqL P).take 208)).set 3 (λ_=>gD P "oldhands.values" 406 46 47)).set 12 (λ_=>tD 81)
§s5(w:Lu)(os:Mz):W.SharedT:=⟨t5 w.params,208,{},Array.mk [],{},466,os⟩
§st5:PQ LP:=((W.behindTheImports pwX).drop 26).take 15
§t6(P:Me):W.BT:=((hqT 11 ((hqL P).take 233)).set 3 (λ_=>gD P "oldhands.turns" 500 53 54)).set 12 (λ_=>tD 93)
§s6(w:Lu)(os:Mz):W.SharedT:=⟨t6 w.params,233,{},Array.mk [],{},540,os⟩
§st6:PQ LP:=((W.behindTheImports pwX).drop 41).take 8
§t7(P:Me):W.BT:=((hqT 11 ((hqL P).take 291)).set 3 (λ_=>gD P "oldhands.turns" 500 61 62)).set 12 (λ_=>tD 114)
§s7(w:Lu)(os:Mz):W.SharedT:=⟨t7 w.params,291,{},Array.mk [],{},624,os⟩
§st7:PQ LP:=((W.behindTheImports pwX).drop 49).take 8
§t8(P:Me):W.BT:=((hqT 11 ((hqL P).take 340)).set 3 (λ_=>gD P "oldhands.pieces" 653 68 69)).set 12 (λ_=>tD 132)
§s8(w:Lu)(os:Mz):W.SharedT:=⟨t8 w.params,340,{},Array.mk [],{},723,os⟩
§st8:PQ LP:=((W.behindTheImports pwX).drop 57).take 8
§t9(P:Me):W.BT:=((hqT 11 ((hqL P).take 425)).set 3 (λ_=>gD P "oldhands.pieces" 653 81 82)).set 12 (λ_=>tD 171)
§s9(w:Lu)(os:Mz):W.SharedT:=⟨t9 w.params,425,{},Array.mk [],{},828,os⟩
§st9:PQ LP:=((W.behindTheImports pwX).drop 65).take 13
§t10(P:Me):W.BT:=((hqT 11 ((hqL P).take 507)).set 3 (λ_=>gD P "law_oldhands_k27_pieces_about" 886 93 94)).set 12 (λ_=>tD 207)
§s10(w:Lu)(os:Mz):W.SharedT:=⟨t10 w.params,507,{},Array.mk [],{},948,os⟩
§Ix:PQ LP:=((W.behindTheImports pwX).drop 78).take 13
§t11(P:Me):W.BT:=((hqT 11 ((hqL P).take 588)).set 3 (λ_=>gD P "law_oldhands_k27_pieces_about" 886 106 107)).set 12 (λ_=>tD 246)
§s11(w:Lu)(os:Mz):W.SharedT:=⟨t11 w.params,588,{},Array.mk [],{},1056,os⟩
§Iy:PQ LP:=((W.behindTheImports pwX).drop 91).take 13
§t12(P:Me):W.BT:=hqT 11 ((hqL P).take 642)
§s12(w:Lu)(os:Mz):W.SharedT:=⟨t12 w.params,642,{},Array.mk [],{},1136,os⟩
§Iz:PQ LP:=((W.behindTheImports pwX).drop 104).take 8
§hp1(P:Me):LE:=⟨Array.mk (hqL P),{}⟩
~K8:∀ w:Lu,(λos=>W.topGo LB pwX w 11 hA1 12 ⟨W.boot_heap w.params,Array.mk [],W.boot_drawn,W.boot_toks,os⟩ (W.topStub pwX))=λos=>PN (⟨hp0 w.params,Array.mk [],{},187,os⟩,⟨denote LB hCo,hCo,⟨0,0,0,0⟩,hB1⟩):=λw=>IO
~EE:∀ w:Lu,(λos=>W.segRun LB pwX w 11 hA1 1 1 ⟨hp0 w.params,Array.mk [],{},187,os⟩ (W.blockOf (W.behindTheImports pwX) bB hCo ⟨0,0,0,0⟩ hB1))=λos=>PN (.next,(sB w os).abs,hCo,⟨0,0,0,0⟩):=λw=>IO
~r0:∀ w:Lu,(λos=>W.segRunT LB pwX w 11 hA1 1 196 (sB w os) (W.piecesOf st0 bB hCo ⟨0,0,0,0⟩ hB1))=λos=>PN (.next,s0 w os,hCo,⟨2,0,3,8⟩):=λw=>IO
~r1:∀ w:Lu,(λos=>W.segRunT LB pwX w 11 hA1 1 214 (s0 w os) (W.piecesOf st1 bB hCo ⟨2,0,3,8⟩ hB1))=λos=>PN (.next,s1 w os,hCo,⟨4,0,5,8⟩):=λw=>IO
~r2:∀ w:Lu,(λos=>W.segRunT LB pwX w 11 hA1 1 214 (s1 w os) (W.piecesOf st2 bB hCo ⟨4,0,5,8⟩ hB1))=λos=>PN (.next,s2 w os,hCo,⟨6,0,7,8⟩):=λw=>IO
~r3:∀ w:Lu,(λos=>W.segRunT LB pwX w 11 hA1 1 304 (s2 w os) (W.piecesOf st3 bB hCo ⟨6,0,7,8⟩ hB1))=λos=>PN (.next,s3 w os,hCo,⟨19,0,19,7⟩):=λw=>IO
~r4f:∀ w:Lu,(λos=>W.segRunT LB pwX (w.withFollow "special-get-raises" PV) 11 hA1 1 388 (s3 (w.withFollow "special-get-raises" PV) os) (W.piecesOf st4 bB hCo ⟨19,0,19,7⟩ hB1))=λos=>PN (.next,s4 (w.withFollow "special-get-raises" PV) os,hCo,⟨69,0,72,58⟩):=λw=>IO
~r4t:∀ w:Lu,(λos=>W.segRunT LB pwX (w.withFollow "special-get-raises" PU) 11 hA1 1 388 (s3 (w.withFollow "special-get-raises" PU) os) (W.piecesOf st4 bB hCo ⟨19,0,19,7⟩ hB1))=λos=>PN (.next,s4 (w.withFollow "special-get-raises" PU) os,hCo,⟨69,0,72,58⟩):=λw=>IO
~r4:∀ w:Lu,(λos=>W.segRunT LB pwX w 11 hA1 1 388 (s3 w os) (W.piecesOf st4 bB hCo ⟨19,0,19,7⟩ hB1))=λos=>PN (.next,s4 w os,hCo,⟨69,0,72,58⟩):=W.byRow2 "special-get-raises" (P:=λw=>(λos=>W.segRunT LB pwX w 11 hA1 1 388 (s3 w os) (W.piecesOf st4 bB hCo ⟨19,0,19,7⟩ hB1))=λos=>PN (.next,s4 w os,hCo,⟨69,0,72,58⟩)) r4f r4t
~r5:∀ w:Lu,(λos=>W.segRunT LB pwX w 11 hA1 1 388 (s4 w os) (W.piecesOf st5 bB hCo ⟨69,0,72,58⟩ hB1))=λos=>PN (.next,s5 w os,hCo,⟨133,0,135,73⟩):=λw=>IO
~r6f:∀ w:Lu,(λos=>W.segRunT LB pwX (w.withFollow "special-get-raises" PV) 11 hA1 1 321 (s5 (w.withFollow "special-get-raises" PV) os) (W.piecesOf st6 bB hCo ⟨133,0,135,73⟩ hB1))=λos=>PN (.next,s6 (w.withFollow "special-get-raises" PV) os,hCo,⟨153,0,153,11⟩):=λw=>IO
~r6t:∀ w:Lu,(λos=>W.segRunT LB pwX (w.withFollow "special-get-raises" PU) 11 hA1 1 321 (s5 (w.withFollow "special-get-raises" PU) os) (W.piecesOf st6 bB hCo ⟨133,0,135,73⟩ hB1))=λos=>PN (.next,s6 (w.withFollow "special-get-raises" PU) os,hCo,⟨153,0,153,11⟩):=λw=>IO
~r6:∀ w:Lu,(λos=>W.segRunT LB pwX w 11 hA1 1 321 (s5 w os) (W.piecesOf st6 bB hCo ⟨133,0,135,73⟩ hB1))=λos=>PN (.next,s6 w os,hCo,⟨153,0,153,11⟩):=W.byRow2 "special-get-raises" (P:=λw=>(λos=>W.segRunT LB pwX w 11 hA1 1 321 (s5 w os) (W.piecesOf st6 bB hCo ⟨133,0,135,73⟩ hB1))=λos=>PN (.next,s6 w os,hCo,⟨153,0,153,11⟩)) r6f r6t
~r7f:∀ w:Lu,(λos=>W.segRunT LB pwX (w.withFollow "special-get-raises" PV) 11 hA1 1 386 (s6 (w.withFollow "special-get-raises" PV) os) (W.piecesOf st7 bB hCo ⟨153,0,153,11⟩ hB1))=λos=>PN (.next,s7 (w.withFollow "special-get-raises" PV) os,hCo,⟨193,0,207,68⟩):=λw=>IO
~r7t:∀ w:Lu,(λos=>W.segRunT LB pwX (w.withFollow "special-get-raises" PU) 11 hA1 1 386 (s6 (w.withFollow "special-get-raises" PU) os) (W.piecesOf st7 bB hCo ⟨153,0,153,11⟩ hB1))=λos=>PN (.next,s7 (w.withFollow "special-get-raises" PU) os,hCo,⟨193,0,207,68⟩):=λw=>IO
~r7:∀ w:Lu,(λos=>W.segRunT LB pwX w 11 hA1 1 386 (s6 w os) (W.piecesOf st7 bB hCo ⟨153,0,153,11⟩ hB1))=λos=>PN (.next,s7 w os,hCo,⟨193,0,207,68⟩):=W.byRow2 "special-get-raises" (P:=λw=>(λos=>W.segRunT LB pwX w 11 hA1 1 386 (s6 w os) (W.piecesOf st7 bB hCo ⟨153,0,153,11⟩ hB1))=λos=>PN (.next,s7 w os,hCo,⟨193,0,207,68⟩)) r7f r7t
~r8f:∀ w:Lu,(λos=>W.segRunT LB pwX (w.withFollow "special-get-raises" PV) 11 hA1 1 384 (s7 (w.withFollow "special-get-raises" PV) os) (W.piecesOf st8 bB hCo ⟨193,0,207,68⟩ hB1))=λos=>PN (.next,s8 (w.withFollow "special-get-raises" PV) os,hCo,⟨264,0,276,24⟩):=λw=>IO
~r8t:∀ w:Lu,(λos=>W.segRunT LB pwX (w.withFollow "special-get-raises" PU) 11 hA1 1 384 (s7 (w.withFollow "special-get-raises" PU) os) (W.piecesOf st8 bB hCo ⟨193,0,207,68⟩ hB1))=λos=>PN (.next,s8 (w.withFollow "special-get-raises" PU) os,hCo,⟨264,0,276,24⟩):=λw=>IO
~r8:∀ w:Lu,(λos=>W.segRunT LB pwX w 11 hA1 1 384 (s7 w os) (W.piecesOf st8 bB hCo ⟨193,0,207,68⟩ hB1))=λos=>PN (.next,s8 w os,hCo,⟨264,0,276,24⟩):=W.byRow2 "special-get-raises" (P:=λw=>(λos=>W.segRunT LB pwX w 11 hA1 1 384 (s7 w os) (W.piecesOf st8 bB hCo ⟨193,0,207,68⟩ hB1))=λos=>PN (.next,s8 w os,hCo,⟨264,0,276,24⟩)) r8f r8t
~r9:∀ w:Lu,(λos=>W.segRunT LB pwX w 11 hA1 1 386 (s8 w os) (W.piecesOf st9 bB hCo ⟨264,0,276,24⟩ hB1))=λos=>PN (.next,s9 w os,hCo,⟨364,0,386,59⟩):=λw=>IO
~r10:∀ w:Lu,(λos=>W.segRunT LB pwX w 11 hA1 1 390 (s9 w os) (W.piecesOf Ix bB hCo ⟨364,0,386,59⟩ hB1))=λos=>PN (.next,s10 w os,hCo,⟨446,0,450,70⟩):=λw=>IO
~r11:∀ w:Lu,(λos=>W.segRunT LB pwX w 11 hA1 1 385 (s10 w os) (W.piecesOf Iy bB hCo ⟨446,0,450,70⟩ hB1))=λos=>PN (.next,s11 w os,hCo,⟨557,0,566,58⟩):=λw=>IO
~r12:∀ w:Lu,(λos=>W.segRunT LB pwX w 11 hA1 1 255 (s11 w os) (W.piecesOf Iz bB hCo ⟨557,0,566,58⟩ hB1))=λos=>PN (.next,s12 w os,hCo,⟨622,0,633,15⟩):=λw=>IO
~K9:∀ w:Lu,(λos=>W.topRun LB pwX w 11 hA1 2 (s12 w os).abs ⟨W.doneF .next,hCo,⟨622,0,633,15⟩,hB1⟩)=λos=>PN (⟨hp1 w.params,Array.mk [],{},1136,os⟩:Lk):=λw=>IO
~La:W.behindTheImports pwX=st0++(st1++(st2++(st3++(st4++(st5++(st6++(st7++(st8++(st9++(Ix++(Iy++(Iz++[])))))))))))):=IO
~Lb(w:Lu)(os:Mz):W.topRun LB pwX w 11 hA1 (12+(1+(196+(214+(214+(304+(388+(388+(321+(386+(384+(386+(390+(385+(255+(2)))))))))))))))) ⟨W.boot_heap w.params,Array.mk [],W.boot_drawn,W.boot_toks,os⟩ (W.topStub pwX)=PN ⟨hp1 w.params,Array.mk [],{},1136,os⟩:=by
 !W.go_top (Mb (K8 w) os) (W.piece_block (Mb (EE w) os) ?_);rw[La];~(W.piece_app (W.segRun_of (Mb (r0 w) os)) (W.piece_app (W.segRun_of (Mb (r1 w) os)) (W.piece_app (W.segRun_of (Mb (r2 w) os)) (W.piece_app (W.segRun_of (Mb (r3 w) os)) (W.piece_app (W.segRun_of (Mb (r4 w) os)) (W.piece_app (W.segRun_of (Mb (r5 w) os)) (W.piece_app (W.segRun_of (Mb (r6 w) os)) (W.piece_app (W.segRun_of (Mb (r7 w) os)) (W.piece_app (W.segRun_of (Mb (r8 w) os)) (W.piece_app (W.segRun_of (Mb (r9 w) os)) (W.piece_app (W.segRun_of (Mb (r10 w) os)) (W.piece_app (W.segRun_of (Mb (r11 w) os)) (W.piece_app (W.segRun_of (Mb (r12 w) os)) (show W.topRun LB pwX w 11 hA1 2 _ (W.restOf [] bB hCo ⟨622,0,633,15⟩ hB1)=_ from Mb (K9 w) os))))))))))))))
§hK:Me->W.Frag:=λP =>
 (nat_lit 3,hqA P 3) :: (nat_lit 4,hqA P 4) :: (nat_lit 6,hqA P 6) :: (nat_lit 15,hqA P 15) :: (nat_lit 22,hqA P 22) :: (nat_lit 23,hqA P 23) :: (nat_lit 24,hqA P 24) :: (nat_lit 25,hqA P 25) :: (nat_lit 28,hqA P 28) :: (nat_lit 35,hqA P 35) :: (nat_lit 36,hqA P 36) :: (nat_lit 37,hqA P 37) :: (nat_lit 40,hqA P 40) :: (nat_lit 47,hqA P 47) :: (nat_lit 48,hqA P 48) :: (nat_lit 49,hqA P 49) :: (nat_lit 52,hqA P 52) :: (nat_lit 59,hqA P 59) :: (nat_lit 60,hqA P 60) :: (nat_lit 61,hqA P 61) :: (nat_lit 64,hqA P 64) :: (nat_lit 68,hqA P 68) :: (nat_lit 69,hqA P 69) :: (nat_lit 75,hqA P 75) :: (nat_lit 76,hqA P 76) :: (nat_lit 82,hqA P 82) :: (nat_lit 83,hqA P 83) :: (nat_lit 89,hqA P 89) :: (nat_lit 90,hqA P 90) :: (nat_lit 96,hqA P 96) :: (nat_lit 97,hqA P 97) :: (nat_lit 103,hqA P 103) :: (nat_lit 104,hqA P 104) :: (nat_lit 110,hqA P 110) :: (nat_lit 111,hqA P 111) :: (nat_lit 115,hqA P 115) :: (nat_lit 116,hqA P 116) :: (nat_lit 120,hqA P 120) :: (nat_lit 121,hqA P 121) :: (nat_lit 127,hqA P 127) :: (nat_lit 128,hqA P 128) :: (nat_lit 134,hqA P 134) :: (nat_lit 135,hqA P 135) :: (nat_lit 141,hqA P 141) :: (nat_lit 142,hqA P 142) :: (nat_lit 148,hqA P 148) :: (nat_lit 149,hqA P 149) :: (nat_lit 153,hqA P 153) :: (nat_lit 154,hqA P 154) :: (nat_lit 158,hqA P 158) :: (nat_lit 159,hqA P 159) :: (nat_lit 165,hqA P 165) :: (nat_lit 166,hqA P 166) :: (nat_lit 172,hqA P 172) :: (nat_lit 173,hqA P 173) :: (nat_lit 177,hqA P 177) :: (nat_lit 178,hqA P 178) :: (nat_lit 184,hqA P 184) :: (nat_lit 185,hqA P 185) :: (nat_lit 189,hqA P 189) :: (nat_lit 190,hqA P 190) :: (nat_lit 194,hqA P 194) :: (nat_lit 195,hqA P 195) :: (nat_lit 201,hqA P 201) :: (nat_lit 202,hqA P 202) :: (nat_lit 206,hqA P 206) :: (nat_lit 207,hqA P 207) :: (nat_lit 213,hqA P 213) :: (nat_lit 214,hqA P 214) :: (nat_lit 218,hqA P 218) :: (nat_lit 219,hqA P 219) :: (nat_lit 225,hqA P 225) :: (nat_lit 226,hqA P 226) :: (nat_lit 230,hqA P 230) :: (nat_lit 231,hqA P 231) :: (nat_lit 232,hqA P 232) :: (nat_lit 233,hqA P 233) :: (nat_lit 234,hqA P 234) :: (nat_lit 235,hqA P 235) :: (nat_lit 236,hqA P 236) :: (nat_lit 237,hqA P 237) :: (nat_lit 238,hqA P 238) :: (nat_lit 239,hqA P 239) :: (nat_lit 240,hqA P 240) :: (nat_lit 241,hqA P 241) :: (nat_lit 242,hqA P 242) :: (nat_lit 243,hqA P 243) :: (nat_lit 249,hqA P 249) :: (nat_lit 250,hqA P 250) :: (nat_lit 256,hqA P 256) :: (nat_lit 257,hqA P 257) :: (nat_lit 263,hqA P 263) :: (nat_lit 264,hqA P 264) :: (nat_lit 270,hqA P 270) :: (nat_lit 271,hqA P 271) :: (nat_lit 277,hqA P 277) :: (nat_lit 278,hqA P 278) :: (nat_lit 284,hqA P 284) :: (nat_lit 285,hqA P 285) :: (nat_lit 289,hqA P 289) :: (nat_lit 290,hqA P 290) :: (nat_lit 294,hqA P 294) :: (nat_lit 295,hqA P 295) :: (nat_lit 301,hqA P 301) :: (nat_lit 302,hqA P 302) :: (nat_lit 308,hqA P 308) :: (nat_lit 309,hqA P 309) :: (nat_lit 313,hqA P 313) :: (nat_lit 314,hqA P 314) :: (nat_lit 315,hqA P 315) :: (nat_lit 316,hqA P 316) :: (nat_lit 317,hqA P 317) :: (nat_lit 318,hqA P 318) :: (nat_lit 319,hqA P 319) :: (nat_lit 320,hqA P 320) :: (nat_lit 321,hqA P 321) :: (nat_lit 322,hqA P 322) :: (nat_lit 323,hqA P 323) :: (nat_lit 324,hqA P 324) :: (nat_lit 325,hqA P 325) :: (nat_lit 331,hqA P 331) :: (nat_lit 332,hqA P 332) :: (nat_lit 338,hqA P 338) :: (nat_lit 339,hqA P 339) :: (nat_lit 345,hqA P 345) :: (nat_lit 346,hqA P 346) :: (nat_lit 350,hqA P 350) :: (nat_lit 351,hqA P 351) :: (nat_lit 357,hqA P 357) :: (nat_lit 358,hqA P 358) :: (nat_lit 362,hqA P 362) :: (nat_lit 363,hqA P 363) :: (nat_lit 369,hqA P 369) :: (nat_lit 370,hqA P 370) :: (nat_lit 376,hqA P 376) :: (nat_lit 377,hqA P 377) :: (nat_lit 383,hqA P 383) :: (nat_lit 384,hqA P 384) :: (nat_lit 390,hqA P 390) :: (nat_lit 391,hqA P 391) :: (nat_lit 397,hqA P 397) :: (nat_lit 398,hqA P 398) :: (nat_lit 404,hqA P 404) :: (nat_lit 405,hqA P 405) :: (nat_lit 409,hqA P 409) :: (nat_lit 410,hqA P 410) :: (nat_lit 416,hqA P 416) :: (nat_lit 417,hqA P 417) :: (nat_lit 423,hqA P 423) :: (nat_lit 424,hqA P 424) :: (nat_lit 428,hqA P 428) :: (nat_lit 429,hqA P 429) :: (nat_lit 435,hqA P 435) :: (nat_lit 436,hqA P 436) :: (nat_lit 442,hqA P 442) :: (nat_lit 443,hqA P 443) :: (nat_lit 449,hqA P 449) :: (nat_lit 450,hqA P 450) :: (nat_lit 456,hqA P 456) :: (nat_lit 457,hqA P 457) :: (nat_lit 463,hqA P 463) :: (nat_lit 464,hqA P 464) :: (nat_lit 470,hqA P 470) :: (nat_lit 471,hqA P 471) :: (nat_lit 477,hqA P 477) :: (nat_lit 478,hqA P 478) :: (nat_lit 484,hqA P 484) :: (nat_lit 485,hqA P 485) :: (nat_lit 491,hqA P 491) :: (nat_lit 492,hqA P 492) :: (nat_lit 498,hqA P 498) :: (nat_lit 499,hqA P 499) :: (nat_lit 505,hqA P 505) :: (nat_lit 506,hqA P 506) :: (nat_lit 512,hqA P 512) :: (nat_lit 513,hqA P 513) :: (nat_lit 519,hqA P 519) :: (nat_lit 520,hqA P 520) :: (nat_lit 526,hqA P 526) :: (nat_lit 527,hqA P 527) :: (nat_lit 533,hqA P 533) :: (nat_lit 534,hqA P 534) :: (nat_lit 538,hqA P 538) :: (nat_lit 539,hqA P 539) :: (nat_lit 543,hqA P 543) :: (nat_lit 544,hqA P 544) :: (nat_lit 550,hqA P 550) :: (nat_lit 551,hqA P 551) :: (nat_lit 555,hqA P 555) :: (nat_lit 556,hqA P 556) :: (nat_lit 562,hqA P 562) :: (nat_lit 563,hqA P 563) :: (nat_lit 569,hqA P 569) :: (nat_lit 570,hqA P 570) :: (nat_lit 574,hqA P 574) :: (nat_lit 575,hqA P 575) :: (nat_lit 581,hqA P 581) :: (nat_lit 582,hqA P 582) :: (nat_lit 586,hqA P 586) :: (nat_lit 587,hqA P 587) :: (nat_lit 591,hqA P 591) :: (nat_lit 592,hqA P 592) :: (nat_lit 598,hqA P 598) :: (nat_lit 599,hqA P 599) :: (nat_lit 605,hqA P 605) :: (nat_lit 606,hqA P 606) :: (nat_lit 612,hqA P 612) :: (nat_lit 613,hqA P 613) :: (nat_lit 619,hqA P 619) :: (nat_lit 620,hqA P 620) :: (nat_lit 626,hqA P 626) :: (nat_lit 627,hqA P 627) :: (nat_lit 633,hqA P 633) :: (nat_lit 634,hqA P 634) :: (nat_lit 640,hqA P 640) :: (nat_lit 641,hqA P 641) :: []
§hA:PQ Ll:=[3,4,6,15,22,23,24,25,28,35,36,37,40,47,48,49,52,59,60,61,64,68,69,75,76,82,83,89,90,96,97,103,104,110,111,115,116,120,121,127,128,134,135,141,142,148,149,153,154,158,159,165,166,172,173,177,178,184,185,189,190,194,195,201,202,206,207,213,214,218,219,225,226,230,231,232,233,234,235,236,237,238,239,240,241,242,243,249,250,256,257,263,264,270,271,277,278,284,285,289,290,294,295,301,302,308,309,313,314,315,316,317,318,319,320,321,322,323,324,325,331,332,338,339,345,346,350,351,357,358,362,363,369,370,376,377,383,384,390,391,397,398,404,405,409,410,416,417,423,424,428,429,435,436,442,443,449,450,456,457,463,464,470,471,477,478,484,485,491,492,498,499,505,506,512,513,519,520,526,527,533,534,538,539,543,544,550,551,555,556,562,563,569,570,574,575,581,582,586,587,591,592,598,599,605,606,612,613,619,620,626,627,633,634,640,641]
~hKA:∀ P,hA=(hK P).map (·.1):=λ_=>IO
¶hH:W.Hook:=W.kHook hK hA hKA
¶hQ:Lw:=W.view pwX [111]
§hW:PQ Str:= "HandError" :: "BadKind" :: "BadTurn" :: "BadPiece" :: "LETTERS" :: "LONGEST_NAME" :: "EACH" :: "MOST_SIGNS" :: "MOST_WORDS" :: "MOST_FIELDS" :: "MOST_ITEMS" :: "MOST_KINDS" :: "DEEPEST" :: "PART_COUNTS" :: "is_name" :: "is_whole" :: "is_whole_within" :: "made_kind" :: "is_formed" :: "has_parts" :: "are_bounds" :: "are_words" :: "are_fields" :: "is_field" :: "are_rows" :: "field_kind" :: "item_kind" :: "kinds_within" :: "kind_many" :: "PERCENT" :: "is_sign" :: "is_of" :: "is_text_of" :: "holds_tuple" :: "holds_items" :: "is_record_of" :: "is_pair_of" :: "are_keyed" :: "field_of" :: "record_of" :: "with_fields" :: "without_fields" :: "LEAST_FACTOR" :: "GREATEST_FACTOR" :: "TURN_COUNTS" :: "TURN_SORTS" :: "figures_of" :: "is_factor" :: "kind_behind" :: "is_turn_of" :: "has_turn_parts" :: "most_figures" :: "are_led_words" :: "words_behind" :: "led_kind" :: "turn_about" :: "led_about" :: "PIECE_FORMS" :: "taken_paths" :: "made_paths" :: "record_behind" :: "has_piece_form" :: "is_part" :: "can_take" :: "kind_down" :: "takes_kinds" :: "is_kind" :: "is_separator" :: "part_kinds" :: "made_kinds" :: "can_make" :: "is_free" :: "piece_about" :: "old_values" :: "value_down" :: "with_new" :: "without_taken" :: "without_down" :: "with_down" :: "_law_mixed" :: "_law_stream" :: "_law_digit" :: "_law_leaf" :: "_law_record" :: "_law_rows" :: "_law_kind" :: "_law_shape" :: "_law_text" :: "_law_number" :: "_law_pairs" :: "_law_value" :: "_law_figures" :: "_law_words" :: "_law_number_turn" :: "_law_turn" :: "_law_free" :: "_law_piece_of" :: "_law_boxed" :: "_law_piece" :: "_law_paths" :: "_law_change" :: "_law_box_shape" :: "_law_drawn" :: "_law_behind" :: "_law_word_about" :: []
¶hX(s:Lk):Bool:=W.recOk (W.RowW.records (W.OpenRow.toRowW PySem.Challenge.rw_oldhands_k27_pieces_about.row)) s
~IA:∀ w:Lu,((W.boot_heap w.params).isNs LC && (Array.mk []:Array NN).size == 0,(W.boot_heap w.params).objs.size,(W.boot_heap w.params).nsMap LC "__annotations__")=(PU,11,hA1):=λw=>IO
~rL1:∀ w:Lu,(λos=>(W.staticsOk (OM pwX.main.body) (W.boot_heap w.params) (hp1 w.params) && W.namesBound pwX (hp1 w.params) && W.gensDone ⟨hp1 w.params,Array.mk [],{},1136,os⟩ && W.laidKept (W.boot_heap w.params) (hp1 w.params)))=λ_=>true:=λw=>IO
~rL2:∀ w:Lu,(λos=>W.openSeen hQ hW (OM pwX.main.body) hX PU ⟨hp1 w.params,Array.mk [],{},1136,os⟩)=λ_=>W.openGood hQ hW:=λw=>IO
~rL3:∀ w:Lu,(λos=>hH.obs ⟨hp1 w.params,Array.mk [],{},1136,os⟩)=λ_=>hH.val w:=λw=>IO
~hl:W.LeftO pwX hQ hW hX hH.obs hH.val 5226:=
 W.LeftO.of_pieces (H₀:=W.boot_heap) (H₁:=hp1) (gs₀:=Array.mk []) (gs₁:=Array.mk []) (d₀:=W.boot_drawn) (d₁:={}) (k₀:=W.boot_toks) (k₁:=1136) (m₀:=11) (ann:=hA1) (M:=12+(1+(196+(214+(214+(304+(388+(388+(321+(386+(384+(386+(390+(385+(255+(2))))))))))))))))
  (W.boot_open (IO) (by rfl) (λs=>by rfl)) IA Lb (by rfl) (λw=>funext λos=>W.looks_pair (Mb (rL1 w) os) (W.looks_pair (Mb (rL2 w) os) (Mb (rL3 w) os)))
~said:PySem.Challenge.rw_oldhands_k27_pieces_about.wellSaid=true:=by
 PL W.OpenLaw.wellSaid W.OpenRow.wellSaid W.OpenRow.partSaid W.looksOpen
 repeat' (with_reducible !W.look_both ?_ ?_)
 all_goals decide +kernel
end O27
namespace Q27
open PySem L2 PyProof.Rows
~law_binds{K:W.Frag}{f:Ll}{fd:MS}(F:Fun K "law" "law" (top 111) f fd):∀ (s:Lk) (u:Li),Nt s fd ⟨[u],[]⟩ [("script",u)]:=by
 &oc,od,kV,doc,pm,an,cdv,ct,osl,rfl,lk,hcd:=F.ex;~λs u=>.of_eq rfl
end Q27
open PySem PySem.W PyProof.Rows
set_option maxRecDepth 100000 in
set_option maxHeartbeats 0 in
theorem PySem.Challenge.cw_oldhands_k27_pieces_about_holds : PySem.Challenge.rw_oldhands_k27_pieces_about.Holds := by
 w_on
 !W.holds_law O27.said λsaid=>?_;!W.holds_open (q:=O27.hQ) (loose:=O27.hW) (Xt:=O27.hX) (XP:=λ_ _=>True) (Yf:=O27.hH.obs) (Ya:=O27.hH.val) (YP:=W.InK O27.hK) (N:=5226) O27.hl O27.hH.of O27.hH.keeps (λ_ _=>trivial) (λ_ _ _ _ _=>trivial) (by rfl) (by rfl) (by rfl) (λs e=>W.recFacts_of e) (by rfl) said (by decide +kernel) ⟨rfl,rfl,rfl,rfl,rfl,by decide +kernel⟩ ?hw ?hc
 case hw=>w_witness2
 k_fill
 !L2.Fc (l:=PySem.Challenge.rw_oldhands_k27_pieces_about) (K:=O27.hK) (n:=63) (k:=Q27.depth) (x:= "script") (CX:=L2.CX0) (sp:=L2.vo) rfl (by decide) rfl ⟨rfl,by decide,by decide⟩ (λw h Y=>Y) ?F (λ_ _ a ns hl hO hS=>L2.EG hl hO hS) (λ_ _ _ _ z=>z)
 case F =>
  intro w mg fa h KX G hmg;@T:L2.TxOk Q27.tx (L2.KOf KX) mg:=by
   dsimp only[L2.KOf];refine' ⟨(L2.ac (L2.gnM KX G ?_ ?_ ?_ ?_ ?_) (L2.ac (L2.gnM KX G ?_ ?_ ?_ ?_ ?_) (L2.ac (L2.gnM KX G ?_ ?_ ?_ ?_ ?_) (L2.ac (L2.gnM KX G ?_ ?_ ?_ ?_ ?_) (L2.ac (L2.gnM KX G ?_ ?_ ?_ ?_ ?_) (L2.ac (L2.gnM KX G ?_ ?_ ?_ ?_ ?_) (L2.ac (L2.gnM KX G ?_ ?_ ?_ ?_ ?_) (L2.ac (L2.gnM KX G ?_ ?_ ?_ ?_ ?_) (L2.ac (L2.gnM KX G ?_ ?_ ?_ ?_ ?_) (L2.ac (L2.gnM KX G ?_ ?_ ?_ ?_ ?_) (L2.ac (L2.gnM KX G ?_ ?_ ?_ ?_ ?_) (L2.ac (L2.gnM KX G ?_ ?_ ?_ ?_ ?_) (L2.ac (L2.gnM KX G ?_ ?_ ?_ ?_ ?_) (L2.ac (L2.gnM KX G ?_ ?_ ?_ ?_ ?_) (L2.ac (L2.gnM KX G ?_ ?_ ?_ ?_ ?_) (L2.ac (L2.gnM KX G ?_ ?_ ?_ ?_ ?_) (L2.ac (L2.gnM KX G ?_ ?_ ?_ ?_ ?_) (L2.ac (L2.gnM KX G ?_ ?_ ?_ ?_ ?_) (L2.ac (L2.gnM KX G ?_ ?_ ?_ ?_ ?_) (L2.ac (L2.gnM KX G ?_ ?_ ?_ ?_ ?_) (L2.ac (L2.gnM KX G ?_ ?_ ?_ ?_ ?_) (L2.ac (L2.gnM KX G ?_ ?_ ?_ ?_ ?_) (L2.ac (L2.gnM KX G ?_ ?_ ?_ ?_ ?_) (L2.ac (L2.gnM KX G ?_ ?_ ?_ ?_ ?_) (L2.ac (L2.gnM KX G ?_ ?_ ?_ ?_ ?_) (L2.ac (L2.gnM KX G ?_ ?_ ?_ ?_ ?_) (L2.ac (L2.gnM KX G ?_ ?_ ?_ ?_ ?_) (L2.ac (L2.gnM KX G ?_ ?_ ?_ ?_ ?_) (L2.ac (L2.gnM KX G ?_ ?_ ?_ ?_ ?_) (L2.ac (L2.gnM KX G ?_ ?_ ?_ ?_ ?_) (L2.ac (L2.gnM KX G ?_ ?_ ?_ ?_ ?_) (L2.ac (L2.gnM KX G ?_ ?_ ?_ ?_ ?_) (L2.ac (L2.gnM KX G ?_ ?_ ?_ ?_ ?_) (L2.ac (L2.gnM KX G ?_ ?_ ?_ ?_ ?_) (L2.ac (L2.gnM KX G ?_ ?_ ?_ ?_ ?_) (L2.ac (L2.gnM KX G ?_ ?_ ?_ ?_ ?_) (L2.ac (L2.gnM KX G ?_ ?_ ?_ ?_ ?_) (L2.ac (L2.gnM KX G ?_ ?_ ?_ ?_ ?_) (L2.ac (L2.gnM KX G ?_ ?_ ?_ ?_ ?_) (L2.ac (L2.gnM KX G ?_ ?_ ?_ ?_ ?_) (L2.ac (L2.gnM KX G ?_ ?_ ?_ ?_ ?_) (L2.ac (L2.gnM KX G ?_ ?_ ?_ ?_ ?_) (L2.ac (L2.gnM KX G ?_ ?_ ?_ ?_ ?_) (L2.ac (L2.gnM KX G ?_ ?_ ?_ ?_ ?_) (L2.ac (L2.gnM KX G ?_ ?_ ?_ ?_ ?_) (L2.ac (L2.gnM KX G ?_ ?_ ?_ ?_ ?_) (L2.ac (L2.gnM KX G ?_ ?_ ?_ ?_ ?_) (L2.ac (L2.gnM KX G ?_ ?_ ?_ ?_ ?_) (L2.ac (L2.gnM KX G ?_ ?_ ?_ ?_ ?_) (L2.ac (L2.gnM KX G ?_ ?_ ?_ ?_ ?_) (L2.ac (L2.gnM KX G ?_ ?_ ?_ ?_ ?_) (L2.ac (L2.gnM KX G ?_ ?_ ?_ ?_ ?_) (L2.ac (L2.gnM KX G ?_ ?_ ?_ ?_ ?_) (L2.ac (L2.gnM KX G ?_ ?_ ?_ ?_ ?_) (L2.ac (L2.gnM KX G ?_ ?_ ?_ ?_ ?_) (L2.ac (L2.gnM KX G ?_ ?_ ?_ ?_ ?_) (L2.ac (L2.gnM KX G ?_ ?_ ?_ ?_ ?_) (L2.ac (L2.gnM KX G ?_ ?_ ?_ ?_ ?_) (L2.ac (L2.gnM KX G ?_ ?_ ?_ ?_ ?_) (L2.ac (L2.gnM KX G ?_ ?_ ?_ ?_ ?_) (L2.ac (L2.gnM KX G ?_ ?_ ?_ ?_ ?_) (L2.ac (L2.gnM KX G ?_ ?_ ?_ ?_ ?_) (L2.ac (L2.gnM KX G ?_ ?_ ?_ ?_ ?_) (L2.ac (L2.gnM KX G ?_ ?_ ?_ ?_ ?_) (L2.ac (L2.gnM KX G ?_ ?_ ?_ ?_ ?_) (L2.ac (L2.gnM KX G ?_ ?_ ?_ ?_ ?_) (L2.ac (L2.gnM KX G ?_ ?_ ?_ ?_ ?_) (L2.ac (L2.gnM KX G ?_ ?_ ?_ ?_ ?_) (L2.ac (L2.gnM KX G ?_ ?_ ?_ ?_ ?_) (L2.ac (L2.gnM KX G ?_ ?_ ?_ ?_ ?_) (L2.ac (L2.gnM KX G ?_ ?_ ?_ ?_ ?_) (L2.ac (L2.gnM KX G ?_ ?_ ?_ ?_ ?_) (L2.ac (L2.gnM KX G ?_ ?_ ?_ ?_ ?_) (L2.ac (L2.gnM KX G ?_ ?_ ?_ ?_ ?_) (L2.ac (L2.gnM KX G ?_ ?_ ?_ ?_ ?_) (L2.ac (L2.gnM KX G ?_ ?_ ?_ ?_ ?_) (L2.ac (L2.gnM KX G ?_ ?_ ?_ ?_ ?_) (L2.ac (L2.gnM KX G ?_ ?_ ?_ ?_ ?_) (L2.ac (L2.gnM KX G ?_ ?_ ?_ ?_ ?_) (L2.ac (L2.gnM KX G ?_ ?_ ?_ ?_ ?_) (L2.ac (L2.gnM KX G ?_ ?_ ?_ ?_ ?_) (L2.ac (L2.gnM KX G ?_ ?_ ?_ ?_ ?_) (L2.ac (L2.gnM KX G ?_ ?_ ?_ ?_ ?_) (L2.ac (L2.gnM KX G ?_ ?_ ?_ ?_ ?_) (L2.ac (L2.gnM KX G ?_ ?_ ?_ ?_ ?_) (L2.ac (L2.gnM KX G ?_ ?_ ?_ ?_ ?_) L2.af)))))))))))))))))))))))))))))))))))))))))))))))))))))))))))))))))))))))))))))))))))))),
    (L2.ac (L2.IE (L2.csM KX G ?_)) (L2.ac (L2.ID (L2.ciM KX G ?_)) (L2.ac (L2.IE (L2.csM KX G ?_)) (L2.ac (L2.ID (L2.ciM KX G ?_)) (L2.ac (L2.ID (L2.ciM KX G ?_)) (L2.ac (L2.ID (L2.ciM KX G ?_)) (L2.ac (L2.ID (L2.ciM KX G ?_)) (L2.ac (L2.ID (L2.ciM KX G ?_)) (L2.ac (L2.ID (L2.ciM KX G ?_)) (L2.ac (L2.ID (L2.ciM KX G ?_)) (L2.ac (L2.ID (L2.ciM KX G ?_)) (L2.ac (L2.ID (L2.ciM KX G ?_)) L2.af)))))))))))),
    (L2.ac (L2.cdM KX G ?_ ?_) (L2.ac (L2.cdM KX G ?_ ?_) L2.af)),
    (L2.ac (L2.Lc (A:=233) (D:=[("bounds",234),("scale",235),("shrink",236),("figures",237),("number",238),("words",239),("cut",240),("first",241),("out",242),("items",243)]) (S:=[(234,["number"]),(235,["number"]),(236,["number"]),(237,["number"]),(238,["text"]),(239,["choice"]),(240,["text"]),(241,["list","rows"]),(242,["list"]),(243,["list"])]) ⟨W.mg_of KX G ?_,L2.EF ?_,L2.Fw ?_⟩ (by decide +kernel)) (L2.ac (L2.Lc (A:=315) (D:=[("put",316),("drop",317),("name",318),("sink",319),("lift",320),("turn",321),("split",322),("join",323),("part",324),("whole",325)]) (S:=[(316,["text","tuple","any"]),(317,["text","any"]),(318,["text","text"]),(319,["text","text"]),(320,["text","text"]),(321,["text","tuple"]),(322,["text","text","text","text"]),(323,["text","text","text","text"]),(324,["text","number","text","text"]),(325,["text","text","number","text","number","number"])]) ⟨W.mg_of KX G ?_,L2.EF ?_,L2.Fw ?_⟩ (by decide +kernel)) L2.af)),
    (L2.ac (W.mg_none_of KX G ?_) (L2.ac (W.mg_none_of KX G ?_) (L2.ac (W.mg_none_of KX G ?_) (L2.ac (W.mg_none_of KX G ?_) (L2.ac (W.mg_none_of KX G ?_) (L2.ac (W.mg_none_of KX G ?_) (L2.ac (W.mg_none_of KX G ?_) (L2.ac (W.mg_none_of KX G ?_) (L2.ac (W.mg_none_of KX G ?_) (L2.ac (W.mg_none_of KX G ?_) (L2.ac (W.mg_none_of KX G ?_) (L2.ac (W.mg_none_of KX G ?_) (L2.ac (W.mg_none_of KX G ?_) (L2.ac (W.mg_none_of KX G ?_) (L2.ac (W.mg_none_of KX G ?_) (L2.ac (W.mg_none_of KX G ?_) (L2.ac (W.mg_none_of KX G ?_) L2.af))))))))))))))))),
    (L2.ac ⟨_,L2.exM KX G ?_ ?_ ?_ ?_ ?_ ?_ ?_ ?_ ?_⟩ (L2.ac ⟨_,L2.exM KX G ?_ ?_ ?_ ?_ ?_ ?_ ?_ ?_ ?_⟩ (L2.ac ⟨_,L2.exM KX G ?_ ?_ ?_ ?_ ?_ ?_ ?_ ?_ ?_⟩ (L2.ac ⟨_,L2.exM KX G ?_ ?_ ?_ ?_ ?_ ?_ ?_ ?_ ?_⟩ L2.af)))),
    (L2.ac (L2.sbM KX G ?_ ?_ ?_) (L2.ac (L2.sbM KX G ?_ ?_ ?_) (L2.ac (L2.sbM KX G ?_ ?_ ?_) (L2.ac (L2.sbM KX G ?_ ?_ ?_) (L2.ac (L2.sbM KX G ?_ ?_ ?_) (L2.ac (L2.sbM KX G ?_ ?_ ?_) (L2.ac (L2.sbM KX G ?_ ?_ ?_) L2.af)))))))⟩
   any_goals (first | k_is | kernel_rfl | ~λ_ _ _ _ _ _ _ e=>L2.yH e λ_=>rfl | ~λ_ _ _ _ _ _ _ e=>L2.yJ e λ_ _=>rfl | ~λ_ _ _ _ _ _ _ e=>L2.yK e λ_ _ _=>rfl | ~λ_ _ _ _ _ _ _ e=>L2.yL e λ_ _ _ _=>rfl)
  &fL,dL,L:=T.df ("law",111) (L2.cv rfl);@e:=hmg.symm.trans L.m
  #e
  PM dL,Q27.law_binds L.F,λbase _ _=>L2.JX rfl (λns hl=>Q27.value ⟨_,_,_,_,_,T⟩ ns hl) L
end
