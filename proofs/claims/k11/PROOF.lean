import PyProof.Rows.All
import Wide.All
import OpenK.AllK
import Wide.FinOn
import PySem.SetTable
import PyProof.TupleKey
import PyProof.SetKind
import PyProof.IsRules
import PyProof.SetRoads
import PyProof.Rows.SetFrom
import PyProof.CollectWalk
import PyProof.DictWalks
import Lean
import PyProof.EqAt
import PyProof.EqKinds
import PyProof.TupleCall
import KE.KSortTup
import PyProof.Rows.StrLen
import PyProof.Rows.StrStep
import KE.KTryMore
import PyProof.NeKinds
import PyProof.NeData
import PyProof.AttrMissHeap
import PyProof.DictRoadsH
import PyProof.Rows.TupTab
import KE.KDictOf
import Wide.Seal
import KE.KItemsList
import KE.KDictSum
import PyProof.Rows.SortWalk
import PyProof.Draws
import PyProof.EnumMake
import KE.KRevIter
import PyProof.SumWalk
import PyProof.AutoIntG2
import KE.KDictList
import KE.KPairComp
import PySem.Challenge.RW_quiltyard_k11_whole_of_pictures
local macro_rules|`(tactic|ext)=>`(tactic|simp_all)
local macro_rules|`(tactic|symm)=>`(tactic|assumption)
open PySem renaming Addr→M1,sizeLine→PK,Shared→SI,mainGlobals→VV,Program→zAA,wpAny→zAB,model→zAC,World→zAD,FuncData→zAE,starEach→zAG,Around→zAI,IsTupleKey→zAJ,tupleKeyHash→zAL,Stmt→zAM,intKind→zAN,compareOp→zAO,eval→zAP,sysModules→zAR,cLine→zAT,Expr→zAU,cellsFrom→zAV,backTo→zAW,atKey→zAY,keywordEach→zAZ,NameKind→zBA,behindInMarks→zBB,attributeBase→zBC,wpAny_typeNameOf_keyiter→zBD,wpAny_callSpecial?_slot→zBE,codeAny→zBF,wpAny_Call_Name_kw→zBG,binaryOp→zBI,wpAny_pyIter_list→zBK,foldedSetIterable→zBL,wpAny_loadPart_at→zBN,wpAny_fieldsOf→zBO,wpAny_forIn_list→zBP,rawInt→zBQ,plainId_quiet→zBR,wpAny_passesOwn→zBS,importedModules→zBU,tupleKind_room_in1→zBW,swapsWith→zBX,carriedByValue→zBY,ofAClassStatement→zBZ,wpAny_typeOf→zCA,pyNext→zCB,codeAny_mono→zCC,wpAny_setField→zCD,bootBuiltins→zCE,backToKw→zCF,atKey_none_of_get→zCG,wpAny_dictEntries→zCH,wpAny_notOrdered_dict→zCI,wpAny_isOneOf_keyiter→zCJ,wpAny_isInstance→zCK,assignEach→zCL,getMethod→zCM,call_meets→zCN,holding→zCP,wpAny_attempt→zCQ,storedH→zCR,codeAny_call_builtin→zCS,sliceBounds→zCT,wpAny_specialOf→zCU,wpAny_execs_nil→zCV,letOwnedTupleGo→zCW,pushCells_keeps→zCX,call_meetsIn→zDA,pushCells→zDB,treeTable→zDC,wpAny_seqItems→zDD,Scope→zDE,typeLookup→zDF,Thread→zDH,wpAny_binaryOp_repeat_ref→zDI,wpAny_pyIter_slot→zDJ,standAt→zDK,BindsTo→zDL,wpAny_Call_method→zDM,wpAny_newList→zDO,checkBuiltinCall→zDQ,wpAny_askSetting→zDR,callWith→zDS,bindArgs→zDT,builtinsNs→zDV,getItem→zDX,wpAny_dictEpoch→zDZ,hashByValue→zDq,wpAny_of_eq→zDr,firstArgMember→zDs,IsPart→zDt,subscripted→zDu,dictSetDefault→zDw,storedH_new→zDx,pickOrder→zDz,tupleKind→zEA,Keyword→zEB,callerA→zEC,Result→zED,pyIter→zEE,PlainAttrs→zEG,valueAt→zEI,isTrue→zEJ,Model→zEK
open PyProof.Rows renaming pendingOf→zAF,arrOf→zAH,Keyed→zAK,SortSt→zAQ,seqObj→zAS,gallopOf→zAX,failedOf→zBJ,IntsAre→zBM,setArr→zCO,AllBare→zCY,wpS_get→zCZ,map_getD→zDG,boot_sorted→zDN,wpS_lift→zDU,envOfC→zDW,getElem?_bubble→zDY,args_list_sort→zDv,boot_all→zDy,Subscript_→zEF,SortKind→zEH
open PySem.W renaming rowsOf→zBH,SharedT→zBT,Frag→zBV,findIn→zDP
abbrev zzA:=PySem.W.Frag
abbrev zzB:=List (List Int)
abbrev zzC:=List (PySem.Addr × PySem.Obj)
abbrev zzD:=List (PySem.Addr × List Int)
abbrev zzE:=PySem.Value->PySem.Shared->Prop
open List (range replicate length nodup_nil foldl)
open PySem.Obj (mapSeq)
open PySem.PyData (eqv eqvAll depthAll)
open PySem.Value (builtin)
open PySem.F (plainAttrs_str)
open Option (map_some isSome_map)
open Nat (lt_or_ge lt_trans add_zero zero_add mod_lt)
open PySem.Heap (size_push)
open PySem.Txt (join)
theorem yA:type_of% @PySem.wpAny_bind:=@PySem.wpAny_bind
theorem yB.{u,v}:type_of% @List.length_map.{u,v}:=@List.length_map
theorem y1.{u,v}:type_of% @Prod.mk.inj.{u,v}:=@Prod.mk.inj
theorem y2.{u}:type_of% @List.getElem?_eq_getElem.{u}:=@List.getElem?_eq_getElem
theorem y3:type_of% @PySem.wpAny_pure:=@PySem.wpAny_pure
theorem y4:type_of% @PySem.Heap.get?_push_of_some:=@PySem.Heap.get?_push_of_some
theorem y6.{u}:type_of% @List.getD_eq_getElem?_getD.{u}:=@List.getD_eq_getElem?_getD
theorem y8:type_of% @Nat.le_refl:=@Nat.le_refl
theorem q0.{u,v}:type_of% @List.mem_map.{u,v}:=@List.mem_map
theorem xI.{u}:type_of% @List.getElem?_eq_some_iff.{u}:=@List.getElem?_eq_some_iff
theorem xL.{u}:type_of% @if_neg.{u}:=@if_neg
theorem vT.{u,v}:type_of% @List.getElem?_map.{u,v}:=@List.getElem?_map
theorem v3.{u,v}:type_of% @List.map_append.{u,v}:=@List.map_append
theorem v4:type_of% @PySem.Heap.lt_size:=@PySem.Heap.lt_size
theorem v6:type_of% @PyProof.Rows.wpS_bind:=@PyProof.Rows.wpS_bind
theorem u1.{u}:type_of% @if_pos.{u}:=@if_pos
theorem u3.{u,v}:type_of% @Option.map_eq_some_iff.{u,v}:=@Option.map_eq_some_iff
theorem u4.{u}:type_of% @List.mem_of_getElem?.{u}:=@List.mem_of_getElem?
theorem u8:type_of% @PyProof.Rows.wpS_pure:=@PyProof.Rows.wpS_pure
theorem kA:type_of% @PySem.sizeLine_eq:=@PySem.sizeLine_eq
theorem wE:type_of% @PySem.Heap.get?_push_size:=@PySem.Heap.get?_push_size
theorem wP:type_of% @PySem.W.mg_of:=@PySem.W.mg_of
theorem wS.{u}:type_of% @List.mem_cons.{u}:=@List.mem_cons
theorem wT:type_of% @Nat.lt_of_lt_of_le:=@Nat.lt_of_lt_of_le
theorem w8.{u}:type_of% @List.mem_append.{u}:=@List.mem_append
theorem zAa:type_of% @decide_eq_true:=@decide_eq_true
theorem zAb.{u}:type_of% @List.mem_cons_self.{u}:=@List.mem_cons_self
theorem zAc.{u}:type_of% @List.mem_singleton.{u}:=@List.mem_singleton
theorem zAd:type_of% @Nat.zero_le:=@Nat.zero_le
theorem zAe:type_of% @Nat.ne_of_lt:=@Nat.ne_of_lt
theorem zAf.{u,v,w}:type_of% @List.map_map.{u,v,w}:=@List.map_map
theorem zAg.{u,v}:type_of% @List.mem_map_of_mem.{u,v}:=@List.mem_map_of_mem
theorem zAh.{u}:type_of% @Array.getElem?_toList.{u}:=@Array.getElem?_toList
theorem zAi.{u}:type_of% @List.all_eq_true.{u}:=@List.all_eq_true
theorem zAj.{u}:type_of% @List.take_length.{u}:=@List.take_length
theorem zAk:type_of% @List.mem_range:=@List.mem_range
theorem zAl.{u,v}:type_of% @List.pairwise_map.{u,v}:=@List.pairwise_map
theorem zAm.{u}:type_of% @List.length_append.{u}:=@List.length_append
theorem zAn:type_of% @Bool.false_ne_true:=@Bool.false_ne_true
theorem zAo.{u}:type_of% @List.getElem?_append_left.{u}:=@List.getElem?_append_left
theorem zAp:type_of% @decide_eq_false:=@decide_eq_false
theorem zAq.{u}:type_of% @Array.length_toList.{u}:=@Array.length_toList
theorem zAr:type_of% @of_decide_eq_true:=@of_decide_eq_true
theorem zAs:type_of% @PySem.W.mg_none_of:=@PySem.W.mg_none_of
theorem zAt.{u}:type_of% @Array.toList_append.{u}:=@Array.toList_append
theorem zAu:type_of% @Nat.le_trans:=@Nat.le_trans
theorem zAv.{u}:type_of% @List.append_assoc.{u}:=@List.append_assoc
theorem zAw:type_of% @Bool.and_eq_true:=@Bool.and_eq_true
theorem zAx:type_of% @Bool.false_eq_true:=@Bool.false_eq_true
theorem zAy.{u}:type_of% @List.getElem?_append_right.{u}:=@List.getElem?_append_right
theorem zAz.{u}:type_of% @List.take_succ.{u}:=@List.take_succ
theorem zA0:type_of% @PySem.F.plainAttrs_list:=@PySem.F.plainAttrs_list
theorem zA1.{u}:type_of% @Array.getElem?_eq_getElem.{u}:=@Array.getElem?_eq_getElem
theorem zA2.{u,v}:type_of% @List.map_cons.{u,v}:=@List.map_cons
theorem zA3:type_of% @PySem.PassesOwn.never:=@PySem.PassesOwn.never
theorem zA4.{u}:type_of% @Option.some.inj.{u}:=@Option.some.inj
theorem zA5:type_of% @PySem.F.slot_list_append:=@PySem.F.slot_list_append
theorem zA6:type_of% @PySem.F.type_list_append:=@PySem.F.type_list_append
theorem zA7.{u,v}:type_of% @congrArg.{u,v}:=@congrArg
theorem zA8.{u}:type_of% @List.mem_append_right.{u}:=@List.mem_append_right
theorem zA9:type_of% @Int.toNat_natCast:=@Int.toNat_natCast
theorem zBa.{u}:type_of% @List.pairwise_append.{u}:=@List.pairwise_append
theorem zBb.{u}:type_of% @List.mem_iff_getElem.{u}:=@List.mem_iff_getElem
theorem zBc:type_of% @PySem.Heap.get?_update_other:=@PySem.Heap.get?_update_other
theorem zBd.{u}:type_of% @List.mem_cons_of_mem.{u}:=@List.mem_cons_of_mem
theorem zBe.{u}:type_of% @List.mem_append_left.{u}:=@List.mem_append_left
theorem zBf.{u}:type_of% @List.mem_filter.{u}:=@List.mem_filter
theorem zBg:type_of% @Int.eq_ofNat_of_zero_le:=@Int.eq_ofNat_of_zero_le
theorem zBh:type_of% @PySem.wpAny_setState_of:=@PySem.wpAny_setState_of
theorem zBi:type_of% @Nat.succ_mul:=@Nat.succ_mul
theorem zBj:type_of% @Nat.add_sub_cancel:=@Nat.add_sub_cancel
theorem zBk:type_of% @List.range_succ:=@List.range_succ
theorem zBl:type_of% @PyProof.Rows.wpS_forRange:=@PyProof.Rows.wpS_forRange
theorem zBm.{u}:type_of% @List.mem_nil_iff.{u}:=@List.mem_nil_iff
theorem zBn:type_of% @decide_eq_true_eq:=@decide_eq_true_eq
theorem zBo:type_of% @PySem.W.kia_one:=@PySem.W.kia_one
theorem zBp:type_of% @Bool.and_eq_true_iff:=@Bool.and_eq_true_iff
theorem zBq:type_of% @PySem.wpAny_call_entry:=@PySem.wpAny_call_entry
theorem zBr:type_of% @Nat.max_eq_right:=@Nat.max_eq_right
theorem zBs.{u}:type_of% @List.pairwise_iff_getElem.{u}:=@List.pairwise_iff_getElem
theorem zBt:type_of% @List.length_range:=@List.length_range
theorem zBu:type_of% @PySem.wpAny_truthy_bool:=@PySem.wpAny_truthy_bool
theorem zBv.{u}:type_of% @List.nodup_append.{u}:=@List.nodup_append
theorem zBw:type_of% @PySem.wpAny_holding:=@PySem.wpAny_holding
theorem zBx.{u}:type_of% @List.mem_iff_getElem?.{u}:=@List.mem_iff_getElem?
theorem zBy.{u}:type_of% @List.take_append_drop.{u}:=@List.take_append_drop
theorem zBz.{u}:type_of% @Option.isSome_iff_exists.{u}:=@Option.isSome_iff_exists
theorem zB0:type_of% @PyProof.Rows.callWith_type1:=@PyProof.Rows.callWith_type1
theorem zB1:type_of% @PySem.wpAny_mono:=@PySem.wpAny_mono
theorem zB2.{u}:type_of% @List.getElem_mem.{u}:=@List.getElem_mem
theorem zB3:type_of% @PySem.boot_len:=@PySem.boot_len
theorem zB4:type_of% @Nat.mul_le_mul_right:=@Nat.mul_le_mul_right
theorem zB5:type_of% @Nat.lt_irrefl:=@Nat.lt_irrefl
theorem zB6.{u}:type_of% @List.take_of_length_le.{u}:=@List.take_of_length_le
theorem zB7.{u}:type_of% @List.size_toArray.{u}:=@List.size_toArray
theorem zB8:type_of% @PySem.Heap.SameBut.update:=@PySem.Heap.SameBut.update
theorem zB9:type_of% @or_false:=@or_false
theorem zCa.{u}:type_of% @List.extract_eq_take_drop.{u}:=@List.extract_eq_take_drop
theorem zCb.{u}:type_of% @List.find?_cons.{u}:=@List.find?_cons
theorem zCc:type_of% @PySem.Heap.get?_update_self:=@PySem.Heap.get?_update_self
theorem zCd:type_of% @Nat.le_of_lt:=@Nat.le_of_lt
theorem zCe.{u}:type_of% @List.length_take.{u}:=@List.length_take
theorem zCf.{u}:type_of% @if_false.{u}:=@if_false
theorem zCg.{u,v,w}:type_of% @getElem?_pos.{u,v,w}:=@getElem?_pos
theorem zCh:type_of% @Nat.succ_le_succ:=@Nat.succ_le_succ
theorem zCi:type_of% @PySem.Around.under_plainId:=@PySem.Around.under_plainId
theorem zCj:type_of% @Nat.add_sub_cancel_left:=@Nat.add_sub_cancel_left
theorem zCk:type_of% @PySem.wpAny_newObj_type:=@PySem.wpAny_newObj_type
theorem zCl:type_of% @PySem.codeAny_builtin:=@PySem.codeAny_builtin
theorem zCm.{u}:type_of% @Array.getD_eq_getD_getElem?.{u}:=@Array.getD_eq_getD_getElem?
theorem zCn.{u}:type_of% @Array.getElem?_eq_none.{u}:=@Array.getElem?_eq_none
theorem zCo.{u}:type_of% @Array.perm_iff_toList_perm.{u}:=@Array.perm_iff_toList_perm
theorem zCp.{u}:type_of% @List.length_cons.{u}:=@List.length_cons
theorem zCq.{u}:type_of% @List.ext_getElem.{u}:=@List.ext_getElem
theorem zCr.{u}:type_of% @List.pairwise_cons.{u}:=@List.pairwise_cons
theorem zCs:type_of% @PySem.Calls.spliced_cons:=@PySem.Calls.spliced_cons
theorem zCt:type_of% @Nat.lt_of_le_of_lt:=@Nat.lt_of_le_of_lt
theorem zCu.{u}:type_of% @List.drop_eq_getElem_cons.{u}:=@List.drop_eq_getElem_cons
theorem zCv.{u}:type_of% @beq_iff_eq.{u}:=@beq_iff_eq
theorem zCw.{u}:type_of% @List.append_nil.{u}:=@List.append_nil
theorem zCx.{u}:type_of% @Array.toList_extract.{u}:=@Array.toList_extract
theorem zCy.{u}:type_of% @Array.toList_push.{u}:=@Array.toList_push
theorem zCz:type_of% @Nat.add_assoc:=@Nat.add_assoc
theorem zC0:type_of% @PySem.wpAny_typeNameOfWhole_keyiter:=@PySem.wpAny_typeNameOfWhole_keyiter
theorem zC1:type_of% @PySem.F.plainAttrs_dict:=@PySem.F.plainAttrs_dict
theorem zC2.{u}:type_of% @List.reverse_append.{u}:=@List.reverse_append
theorem zC3.{u,v}:type_of% @List.map_congr_left.{u,v}:=@List.map_congr_left
theorem zC4.{u}:type_of% @List.not_mem_nil.{u}:=@List.not_mem_nil
theorem zC5:type_of% @PyProof.Rows.wpS_mono:=@PyProof.Rows.wpS_mono
theorem zC6.{u,v}:type_of% @List.mem_flatMap.{u,v}:=@List.mem_flatMap
theorem zC7:type_of% @PySem.F.slot_dict_keyiterator_next:=@PySem.F.slot_dict_keyiterator_next
theorem zC8:type_of% @PySem.wpAny_rule:=@PySem.wpAny_rule
theorem zC9:type_of% @Nat.le_succ:=@Nat.le_succ
theorem zDa:type_of% @PySem.W.cellsFrom_some:=@PySem.W.cellsFrom_some
theorem zDb:type_of% @PySem.Calls.callWith_builtin:=@PySem.Calls.callWith_builtin
theorem zDc.{u,v}:type_of% @List.all_map.{u,v}:=@List.all_map
theorem zDd:type_of% @PySem.F.slot_dict_get:=@PySem.F.slot_dict_get
theorem zDe:type_of% @PyProof.Rows.boot_isinstance:=@PyProof.Rows.boot_isinstance
theorem zDf.{u}:type_of% @Array.mem_toList_iff.{u}:=@Array.mem_toList_iff
theorem zDg:type_of% @PySem.Calls.evalArgs_plain:=@PySem.Calls.evalArgs_plain
theorem zDh.{u}:type_of% @Array.toList_reverse.{u}:=@Array.toList_reverse
theorem zDi.{u}:type_of% @List.length_drop.{u}:=@List.length_drop
theorem zDj:type_of% @Int.le_of_lt:=@Int.le_of_lt
theorem zDk:type_of% @Nat.sub_self:=@Nat.sub_self
theorem zDl.{u,v}:type_of% @List.lookup_cons.{u,v}:=@List.lookup_cons
theorem zDm:type_of% @PySem.mem_of_lookup:=@PySem.mem_of_lookup
theorem zDn.{u}:type_of% @List.length_pos_iff.{u}:=@List.length_pos_iff
theorem zDo.{u}:type_of% @List.nodup_cons.{u}:=@List.nodup_cons
theorem zDp:type_of% @PyProof.Rows.wpS_modify:=@PyProof.Rows.wpS_modify
set_option Elab.async false
set_option linter.all false
set_option autoImplicit true
set_option maxRecDepth 100000
set_option compiler.extract_closed false
set_option maxHeartbeats 4000000
theorem hold {G:Prop}(k:∀P:Prop,(G->P)->P):G:=k G id
namespace TB
open PySem PySem.SetTable
noncomputable def yo (xs:Array Nat):Prop:=∀a b,a < b->b < xs.size->xs.getD a 0 < xs.getD b 0
theorem Qd {xs:Array Nat}(h:k < xs.size)(d e:Nat):xs.getD k d=xs.getD k e:=by ext
noncomputable def Parts (xs:Array Nat)(j b:Nat):Prop:=b<=xs.size/\(∀k,k < b->xs.getD k 0 < j)/\(∀k,b<=k->k < xs.size->j<=xs.getD k 0)
theorem go_eq (xs:Array Nat)(j a lo b:Nat):below.go xs j (a+1) lo b=if lo < b then (if xs.getD ((lo+b) / 2) j < j then below.go xs j a ((lo+b) / 2+1) b else below.go xs j a lo ((lo+b) / 2)) else lo:=rfl
theorem AN:∀(a lo b:Nat),lo<=b->b<=xs.size->b - lo<=a->yo xs->(∀k,k < lo->xs.getD k 0 < j)->(∀k,b<=k->k < xs.size->j<=xs.getD k 0)->Parts xs j (below.go xs j a lo b)
 | 0,lo,b,p,n,o,_,d,g=>⟨show lo<=_ by lia,d,λk h=>g k (by have:lo<=k:=h; lia)⟩| a+1,lo,b,p,n,o,f,d,g=>by
  rw[go_eq];by_cases c:lo < b
  ·rw[u1 c];have i:(lo+b) / 2 < xs.size:=by lia
   rw[Qd i j 0];by_cases l:xs.getD ((lo+b) / 2) 0 < j
   ·rw[u1 l];refine AN a _ _ (by lia) n (by grind) f (λk h=>?_) g;by_cases e:k=(lo+b) / 2;·rw[e]; exact l
    ·have:=f k ((lo+b) / 2) (by lia) i;lia
   ·rw[xL l];refine AN a _ _ (by lia) (zCd i) (by lia) f d λk h m=>?_;by_cases e:k=(lo+b) / 2;·rw[e]; ext
    ·have:=f ((lo+b) / 2) k (by lia) m;lia
  ·rw[xL c];exact⟨by grind,d,λk h=>g k (by lia)⟩
theorem oH (a:yo xs)(j:Nat):Parts xs j (below xs j):= AN _ _ _ (zAd _) (y8 _) (by simp) a (by simp) (by lia)
theorem o6 (a:yo xs)(h:xs[k]?=some j):below xs j=k:=by
 obtain⟨g,f,c⟩:=oH a j;have b:k < xs.size:=by grind
 have e:xs.getD k 0=j:=by ext
 rcases Nat.lt_trichotomy (below xs j) k with q | q | q
 ·have i:=c _ (y8 _) (by lia);have d:=a _ k q b;lia
 ·symm
 grind
structure Plain (t:SetTable):Prop where
 rise:yo t.place
 GP:t.dummies=#[]
theorem GQ (j:Nat):has #[] j=false:=by rfl
theorem vd (h:Plain t)(e:t.place[k]?=some j):t.slot j=.live k:=by unfold slot;rw[o6 h.rise e];ext
theorem Jb (h:Plain t)(e:j∉t.place.toList):t.slot j=.empty:=by
 unfold slot;have q:¬ t.place[below t.place j]?=some j:=λz=>e (by have:=Array.mem_of_getElem? z;exact zDf.mpr this);have a:(t.place[below t.place j]? == some j)=false:=by simpa using q
 dsimp only;rw[a,h.GP,GQ];rfl
noncomputable def rR (m:Nat)(p:Probe):Probe:= if p.more > 0 then { p with j:=p.j+1,more:=p.more - 1 } else{ p with j:=(leap m p.i p.perturb).1,more:=runEnd m (leap m p.i p.perturb).1 - (leap m p.i p.perturb).1,i:=(leap m p.i p.perturb).1,perturb:=(leap m p.i p.perturb).2 }
noncomputable def OE (m i perturb:Nat):Probe:={ j:=i,more:=runEnd m i - i,i:=i,perturb:=perturb,dummy:=none }
noncomputable def pr (m:Nat)(h:Int):Nat->Probe| 0=>OE m (bits h % (m+1)) (bits h)| n+1=>rR m (pr m h n)
theorem yp (m:Nat)(h:Int):∀n,(pr m h n).dummy=none
 | 0=>rfl| n+1=>by
  show (rR m _).dummy=none;unfold rR;split;·exact yp m h n
  ·exact yp m h n
noncomputable def lp (m:Nat)(h:Int):Nat->Nat × Nat| 0=>(bits h % (m+1),bits h)| l+1=>leap m (lp m h l).1 (lp m h l).2
theorem zk (m i p:Nat):∀k,k<=runEnd m i - i->∀(f:Nat->Probe),(∀n,f (n+1)=rR m (f n))->∀n,f n=OE m i p->f (n+k)={ j:=i+k,more:=runEnd m i - i - k,i:=i,perturb:=p,dummy:=none }| 0,_,f,a,n,e=>by rw[add_zero,e]; rfl| k+1,b,f,a,n,e=>by have c:=zk m i p k (zCd b) f a n e;rw[show n+(k+1)=(n+k)+1 by rfl,a,c];unfold rR;rw[u1 (by show runEnd m i - i - k > 0; lia)];show ({ j:=i+k+1,more:=runEnd m i - i - k - 1,i:=i,perturb:=p,dummy:=none }:Probe)=_;congr 1
theorem RL (m i:Nat):runEnd m i - i<=9:=by unfold runEnd;split <;> simp
theorem GR (m:Nat)(h:Int):∀l,∃n,n<=10 * l/\pr m h n=OE m (lp m h l).1 (lp m h l).2| 0=>⟨0,y8 _,rfl⟩| l+1=>by obtain⟨n,a,e⟩:=GR m h l;have b:=RL m (lp m h l).1;have r:=zk m _ _ _ (y8 _) _ (λ_=>rfl) n e;refine⟨n+(runEnd m (lp m h l).1 - (lp m h l).1)+1,by lia,?_⟩;show rR m _=_;rw[r];unfold rR;rw[xL (by simp)];rfl
theorem Qe (h:Int):bits h < 2 ^ 64:=by unfold bits;lia
theorem zm (m:Nat)(h:Int):∀l,(lp m h l).2=bits h / 32 ^ l| 0=>by simp [lp]| l+1=>by show (lp m h l).2 / 32=_;rw[zm m h l,Nat.div_div_eq_div_mul,Nat.pow_succ]
theorem Qf (m:Nat)(h:Int)(a:13<=l):(lp m h l).2=0:=by rw[zm];refine Nat.div_eq_of_lt (wT (Qe h) ?_);have:(32:Nat) ^ 13<=32 ^ l:=Nat.pow_le_pow_right (by decide) a;exact zAu (by decide) this
theorem Vy (m:Nat)(h:Int):∀l,(lp m h l).1 < m+1| 0=>mod_lt _ (by simp)| l+1=>mod_lt _ (by simp)
noncomputable def f0 (m i:Nat):Nat:=(i * 5+1) % (m+1)
noncomputable def it (m:Nat):Nat->Nat->Nat| 0,i=>i| k+1,i=>it m k (f0 m i)
theorem ve (m:Nat):∀(a b i:Nat),it m (a+b) i=it m b (it m a i)| 0,b,i=>by rw[zero_add]; rfl| a+1,b,i=>by rw[show a+1+b=(a+b)+1 by lia];exact ve m a b _
theorem OF (m:Nat)(h:Int)(a:13<=l):∀k,(lp m h (l+k)).1=it m k (lp m h l).1
 | 0=>rfl| k+1=>by
  have:it m (k+1) (lp m h l).1=f0 m (it m k (lp m h l).1):=by rw[ve m k 1]; rfl
  rw[this,<-OF m h a k];show (leap m (lp m h (l+k)).1 (lp m h (l+k)).2).1=_;unfold leap f0;rw[Qf m h (by lia)]
noncomputable def J9 (m:Nat):Nat->Nat->List Nat| 0,_=>[]| k+1,i=>i::J9 m k (f0 m i)
theorem J_ (m:Nat):∀(k i a x:Nat),(J9 m k i)[a]?=some x->a < k/\it m a i=x| 0,i,a,x,h=>by simp [J9] at h| k+1,i,0,x,h=>by unfold J9 at h;simp at h;exact⟨by simp,h⟩| k+1,i,a+1,x,h=>by obtain⟨c,b⟩:=J_ m k _ a x h;exact⟨by ext,b⟩
noncomputable def gc (m:Nat):Prop:=((range (m+1)).all λi=>(J9 m (m+1) 0).contains i)=true/\it m (m+1) 0=0
theorem Ka:gc 7:=by constructor <;> decide +kernel
theorem Qg:gc 31:=by constructor <;> decide +kernel
theorem MA:gc 127:=by constructor <;> decide +kernel
theorem MB:gc 511:=by constructor <;> decide +kernel
theorem gc.pos (w:gc m)(c:i < m+1):∃a,a < m+1/\it m a 0=i:=by have:=zAi.mp w.1 i (by ext);obtain⟨a,b⟩:=zBx.mp (List.contains_iff_mem.mp this);exact⟨a,J_ m _ _ a i b⟩
theorem gc.go (w:gc m)(f:i < m+1)(e:j < m+1):∃k,k<=m/\it m k i=j:=by
 obtain⟨a,h,d⟩:=w.pos f;obtain⟨b,g,l⟩:=w.pos e;by_cases c:a<=b
 ·refine⟨b - a,by grind,?_⟩;rw[<-d,<-ve,show a+(b - a)=b by ext];symm
 ·refine⟨b+(m+1) - a,by lia,?_⟩;rw[<-d,<-ve,show a+(b+(m+1) - a)=(m+1)+b by lia,ve,w.2];symm
theorem gc.leap (w:gc m)(h:Int)(a:j < m+1):∃l,l<=m+13/\(lp m h l).1=j:=by obtain⟨k,b,e⟩:=w.go (Vy m h 13) a;exact⟨13+k,by lia,by rw[OF m h (y8 13),e]⟩
theorem gc.cover (w:gc m)(h:Int)(a:j < m+1):∃n,n < 10 * turns m/\(pr m h n).j=j:=by obtain⟨l,c,e⟩:=w.leap h a;obtain⟨n,d,b⟩:=GR m h l;refine⟨n,by unfold turns; lia,?_⟩;rw[b];symm
theorem iA {α:Type}[DecidableEq α]:∀{l1 l2:List α},l1.Nodup->(∀x∈l1,x∈l2)->l1.length<=l2.length| [],_,_,_=>zAd _| x::b,l2,a,h=>by rw[zDo] at a;have:=iA (l2:=l2.erase x) a.2 (by grind);grind
noncomputable def Reach (m:Nat)(a:Nat->Prop)(h:Int)(j:Nat):Prop:=∃n,(pr m h n).j=j/\∀k,k < n->a (pr m h k).j
theorem Reach.mono (r:Reach m o h j)(s:∀k,o k->a k):Reach m a h j:=by obtain⟨n,e,q⟩:=r;exact⟨n,e,λk b=>s _ (q k b)⟩
structure mO (t:SetTable)(hs:List Int):Prop where
 plain:Plain t
 whole:gc t.mask
 size:t.place.toList.length=hs.length
 low:∀j∈t.place.toList,j<=t.mask
 room:hs.length<=t.mask
 reach:∀x∈t.place.toList.zip hs,Reach t.mask (·∈t.place.toList) x.2 x.1
theorem yq:yo xs↔xs.toList.Pairwise (· < ·):=by
 rw[zBs];constructor
 ·intro h i j l k d;have:=h i j d ‹_›;have f:i < xs.size:=by symm
  have g:j < xs.size:=by symm
  ext
 ·intro h a b c e;have:=h a b (by grind) ‹_› c;simpa [e,show a < xs.size by lia] using this
theorem least {p:Nat->Prop}[DecidablePred p]:∀n,p n->∃k,k<=n/\p k/\∀i,i < k->¬ p i:=by intro n;induction n using Nat.strongRecOn with| _ n d=>
  intro h;by_cases c:∃i,i < n/\p i
  ·obtain⟨i,b,a⟩:=c;obtain⟨k,e,r⟩:=d i b a;exact⟨k,by lia,r⟩
  ·exact⟨n,y8 _,h,λi b a=>c ⟨i,b,a⟩⟩
theorem mO.hole (H:mO t a):∃j,j < t.mask+1/\j∉t.place.toList:=by
 by_cases c:∀j,j < t.mask+1->j∈t.place.toList
 ·have:=iA List.nodup_range λx b=>c x (zAk.mp b);rw[zBt,H.size] at this;have:=H.room;lia
 ext
theorem mO.first (H:mO t m)(h:Int):∃N,N < 10 * turns t.mask/\(pr t.mask h N).j∉t.place.toList/\∀k,k < N->(pr t.mask h k).j∈t.place.toList:=by obtain⟨j,f,d⟩:=H.hole;obtain⟨n,c,e⟩:=H.whole.cover h f;obtain⟨k,o,g,b⟩:=least (p:=λn=>(pr t.mask h n).j∉t.place.toList) n (by rw[e]; exact d);exact⟨k,by lia,g,λi l=>Classical.not_not.mp (b i l)⟩
theorem Dl (m:Nat)(h:Int)(n:Nat):(pr m h n).j<=m/\(pr m h n).j+(pr m h n).more<=m:=by induction n with| zero=> show bits h % (m+1)<=m/\bits h % (m+1)+(runEnd m _ - bits h % (m+1))<=m;have:=mod_lt (bits h) (show 0 < m+1 by simp);unfold runEnd;grind| succ n a=>
  show (rR m _).j<=m/\(rR m _).j+(rR m _).more<=m;unfold rR;split;·grind
  ·have:(leap m (pr m h n).i (pr m h n).perturb).1 < m+1:=mod_lt _ (by simp);unfold runEnd;grind
theorem nj (t:SetTable)(a:Nat->Int)(h:Int)(b:Nat)(p:Probe):probe.go t a h (b+1) p=(match t.slot p.j with| .empty=>some (.empty p.j p.dummy)| .dummy=>probe.go t a h b (t.advance { p with dummy:=some p.j })| .live i=>if a i == h then some (.candidate p.j i (t.advance p)) else probe.go t a h b (t.advance p)):=rfl
theorem Dm:∀(n b a:Nat),n < b->(∀k,k < n->∃i,t.slot (pr t.mask h (a+k)).j=.live i/\(c i == h)=false)->t.slot (pr t.mask h (a+n)).j=.empty-> probe.go t c h b (pr t.mask h a)=some (.empty (pr t.mask h (a+n)).j none)| 0,b+1,a,_,_,e=>by rw[add_zero] at e ⊢;rw[nj,e,yp];simp| n+1,b+1,a,m,f,e=>by obtain⟨i,d,g⟩:=f 0 (by simp);rw[add_zero] at d;rw[nj,d];dsimp only;rw[g];have:=Dm n b _ (by ext) (λk l=>by have:=f (k+1) (by ext);rwa [show a+(k+1)=a+1+k by lia] at this) (by grind);rw[show a+(n+1)=a+1+n by lia];symm
theorem GS:∀(n c a:Nat),n < c->(∀k,k < n->∃i,t.slot (pr t.mask h (a+k)).j=.live i/\(b i == h)=false)->t.slot (pr t.mask h (a+n)).j=.live i->(b i == h)=true-> probe.go t b h c (pr t.mask h a)=some (.candidate (pr t.mask h (a+n)).j i (pr t.mask h (a+n+1)))| 0,c+1,a,_,_,e,d=>by rw[add_zero] at e ⊢;rw[nj,e];dsimp only;rw[d];rfl| n+1,c+1,a,m,f,e,d=>by obtain⟨p,g,l⟩:=f 0 (by simp);rw[add_zero] at g;rw[nj,g];dsimp only;rw[l];have:=GS n c _ (by ext) (λk o=>by have:=f (k+1) (by ext);rwa [show a+(k+1)=a+1+k by lia] at this) (by grind) d;rw[show a+(n+1)=a+1+n by lia];symm
theorem uG (xs:Array α)(p:Nat)(x:α)(h:p<=xs.size):(insertAt xs p x).toList=xs.toList.take p++x::xs.toList.drop p:=by unfold insertAt;simp;rw[zB6 (by simp)]
theorem Qh {α β:Type}(l1:List α)(l2:List β)(p:Nat)(x:α)(y:β)(h:l1.length=l2.length):(l1.take p++x::l1.drop p).zip (l2.take p++y::l2.drop p)=(l1.zip l2).take p++(x,y)::(l1.zip l2).drop p:=by
 rw[List.zip_append (by ext)];congr 1;·simp [List.zip,List.take_zipWith]
 ·simp [List.zip,List.drop_zipWith]
theorem xg {α:Type}{l:List α}{x y:α}:y∈l.take p++x::l.drop p↔y=x\/y∈l:=by
 constructor;·grind
 ·rintro (h | h);·ext
  ·rw[<-zBy p l] at h;grind
theorem mO.put (H:mO t f)(E:j∉t.place.toList)(C:j<=t.mask)(A:Reach t.mask (·∈t.place.toList) h j)(s:f.length+1<=t.mask) :(t.put j).2<=f.length/\(t.put j).1.mask=t.mask/\(t.put j).1.place.size=f.length+1/\(t.put j).1.dummies=#[]/\mO (t.put j).1 (f.take (t.put j).2++h::f.drop (t.put j).2):=by
 obtain⟨u,B,D⟩:=oH H.plain.rise j;have z:=by simpa using H.size
 have w:(t.put j).2=below t.place j:=rfl;have q:(t.put j).1.dummies=#[]:=by show (if has t.dummies j=true then _ else t.dummies)=#[];rw[H.plain.GP,GQ,xL (by decide)]
 have d:(t.put j).1.place.toList=t.place.toList.take _++j::t.place.toList.drop (below t.place j):=uG _ _ _ u;have g:=by
  have:(t.put j).1.place.toList.length=f.length+1:=by grind
  symm
 rw[w];refine⟨by ext,rfl,g,q,⟨⟨?_,q⟩,H.whole,?_,?_,?_,?_⟩⟩
 ·rw[yq,d,zBa];have y:=yq.mp H.plain.rise;have p:∀a∈t.place.toList.take (below t.place j),a < j:=λa c=>by
   obtain⟨i,o,e⟩:=zBb.mp c;rw[zCe] at o;have l:i < t.place.size:=by lia
   have:=B i (by ext);ext
  have r:∀a∈t.place.toList.drop (below t.place j),j < a:=λa c=>by
   obtain⟨i,o,e⟩:=zBb.mp c;have l:below t.place j+i < t.place.size:=by grind
   have:=D (below t.place j+i) (by simp) l;ext;grind
  refine⟨(by grind),zCr.mpr ⟨r,y.sublist (List.drop_sublist _ _)⟩,λa c b n=>?_⟩;rcases wS.mp n with rfl | n;·exact p a c
  ·have:=p a c;have:=r b n;lia
 ·rw[d];simp only [zAm,zCp,zCe,zDi];rw[H.size]
 ·intro a c;rw[d,xg] at c;rcases c with rfl | c;·exact C
  ·exact H.low a c
 ·simp;show _<=t.mask;ext
 ·intro x m;rw[d,Qh _ _ _ _ _ H.size,xg] at m;have mono:∀k,k∈t.place.toList->k∈(t.put j).1.place.toList:=λk v=>by rw[d,xg]; exact .inr v
  rcases m with rfl | m;·exact A.mono mono
  ·exact (H.reach x m).mono mono
noncomputable def o7 (owner:Array (Option Nat))(x:Nat):Prop:=∃q,owner[x]?=some (some q)
theorem free_eq (m:Nat)(owner:Array (Option Nat))(a i p:Nat):layClean.free m owner (a+1) i p=(match (range (runEnd m i+1 - i)).find? λk=>(owner.getD (i+k) (some 0)).isNone with| some k=>some (i+k)| none=>layClean.free m owner a (leap m i p).1 (leap m i p).2):=rfl
theorem Kc (a:x < owner.size)(h:(owner.getD x (some 0)).isNone=false):o7 owner x:=by cases e:owner[x] with| none=>ext| some q=>exact⟨q,by ext⟩
theorem Qi (h:(owner.getD x (some 0)).isNone=true):x < owner.size/\¬ o7 owner x:=by
 by_cases a:x < owner.size
 ·refine⟨a,λ⟨q,e⟩=>?_⟩;ext
 ext
theorem BH (w:gc m)(A:owner.size=m+1)(h:Int)(b:∃j,j < m+1/\¬ o7 owner j) : ∀(a l n:Nat),l+a=turns m->pr m h n=OE m (lp m h l).1 (lp m h l).2->(∀k,k < n->o7 owner (pr m h k).j)->(∀g,g < l->o7 owner (lp m h g).1)-> ∃j,layClean.free m owner a (lp m h l).1 (lp m h l).2=some j/\j < owner.size/\¬ o7 owner j/\Reach m (o7 owner) h j
 | 0,l,n,D,_,_,f=>by obtain⟨j,L,y⟩:=b;obtain⟨g,x,e⟩:=w.leap h L;unfold turns at D;grind| a+1,l,n,D,e,y,f=>by
  rw[free_eq];have p:∀k,k < runEnd m (lp m h l).1+1 - (lp m h l).1->(pr m h (n+k)).j=(lp m h l).1+k:=λk o=>by rw[zk m _ _ k (by lia) (pr m h) (λ_=>rfl) n e]
  have s:∀k,k < runEnd m (lp m h l).1+1 - (lp m h l).1->(lp m h l).1+k < m+1:=λk o=>by have:=(Dl m h (n+k)).1;grind
  cases c:(range _).find? _ with| some k=>
   obtain⟨F,G,O,J,H⟩:=List.find?_eq_some_iff_append.mp c;have o:k < runEnd m (lp m h l).1+1 - (lp m h l).1:=zAk.mp (by ext);have z:∀i,i < k->i∈G:=λi u=>by
    have r:i∈range (runEnd m (lp m h l).1+1 - (lp m h l).1):=zAk.mpr (by lia);have C:(range (runEnd m (lp m h l).1+1 - (lp m h l).1)).Pairwise (· < ·):=List.pairwise_lt_range;rw[J] at r C;rcases w8.mp r with q | q;·exact q
    ·rcases wS.mp q with q | q;·ext
     ·have:=(zCr.mp (zBa.mp C).2.1).1 i q;lia
   have E:=Qi F;refine⟨(lp m h l).1+k,rfl,E.1,E.2,n+k,p k o,λi u=>?_⟩;by_cases N:i < n;·exact y i N
   ·have t:=p (i - n) (by grind);rw[show n+(i - n)=i by ext] at t;rw[t];have:=H (i - n) (z _ (by grind));exact Kc (by rw[A]; exact s _ (by grind)) (by simpa using this)| none=>
   have v:=List.find?_eq_none.mp c;have M:=zk m _ _ _ (y8 _) (pr m h) (λ_=>rfl) n e;have B:(lp m h l).1<=runEnd m (lp m h l).1:=by unfold runEnd; split <;> simp
   have d:=λk o=>by have:=v k (zAk.mpr o);exact Kc (by rw[A]; exact s k o) (Bool.eq_false_iff.mpr this)
   refine BH w A h b a (l+1) (n+(runEnd m (lp m h l).1 - (lp m h l).1)+1) (by lia) ?_ (λk o=>?_) λg x=>?_
   ·show rR m _=_;rw[M];unfold rR;rw[xL (by show ¬ runEnd m (lp m h l).1 - (lp m h l).1 - (runEnd m (lp m h l).1 - (lp m h l).1) > 0; simp)];rfl
   ·by_cases K:k < n;·exact y k K
    ·have t:=p (k - n) (by grind);rw[show n+(k - n)=k by ext] at t;rw[t];exact d _ (by grind)
   ·by_cases I:g < l;·exact f g I
    ·have:g=l:=by lia
     subst this;have:=d 0 (by grind);simpa using this
structure mP (m:Nat)(hs:List Int)(k:Nat)(owner:Array (Option Nat)):Prop where
 size:owner.size=m+1
 each:∀(q:Nat) (h:Int),q < k->hs[q]?=some h->∃j:Nat,owner[j]?=some (some q)/\Reach m (o7 owner) h j
 low:∀(j q:Nat),owner[j]?=some (some q)->q < k
 inj:∀(j j' q:Nat),owner[j]?=some (some q)->owner[j']?=some (some q)->j=j'
theorem mP.start (m:Nat)(c:List Int):mP m c 0 (Array.replicate (m+1) none):=by
 have a:∀(j q:Nat),(Array.replicate (m+1) (none:Option Nat))[j]?=some (some q)->False:=λj q e=>by rw[Array.getElem?_replicate] at e;split at e <;> simp at e
 exact⟨by simp,λq h b=>absurd b (by ext),λj q e=>(a j q e).elim,λj d q e=>(a j q e).elim⟩
theorem mP.hole (O:mP m o k owner)(u:k<=m):∃j,j < m+1/\¬ o7 owner j:=by
 by_cases c:∀j,j < m+1->o7 owner j;·
  have f:∀j,j < m+1->∃q,owner[j]?=some (some q):=c;let g:Nat->Nat:=λj=>((owner[j]?).join).getD 0;have i:∀j,j < m+1->owner[j]?=some (some (g j)):=λj h=>by obtain⟨q,e⟩:=f j h;show _=some (some (((owner[j]?).join).getD 0));rw[e]; rfl
  have s:((range (m+1)).map g).Nodup:=by rw[List.Nodup,zAl];refine (List.nodup_range (n:=m+1)).imp_of_mem λ{a b} t l p e=>p ?_;exact O.inj a b (g a) (i a (zAk.mp t)) (e ▸ i b (zAk.mp l))
  have:=iA (l2:=range k) s λx r=>by obtain⟨j,h,rfl⟩:=q0.mp r;exact zAk.mpr (O.low j _ (i j (zAk.mp h)))
  rw[yB,zBt,zBt] at this;lia
 ·have ⟨j,h⟩:=Classical.not_forall.mp c;exact⟨j,Classical.not_imp.mp h⟩
theorem mP.next (O:mP m l k owner)(u:l[k]?=some h)(s:j < owner.size)(p:¬ o7 owner j)(v:Reach m (o7 owner) h j) : mP m l (k+1) (owner.setIfInBounds j (some k)):=by
 have a:∀x,(owner.setIfInBounds j (some k))[x]?=if j=x then (if x < owner.size then some (some k) else none) else owner[x]?:=λx=>by
  rw[Array.getElem?_setIfInBounds];by_cases c:j=x;·subst c; simp [s]
  ·simp [c]
 have d:∀x,o7 owner x->o7 (owner.setIfInBounds j (some k)) x:=λx ⟨q,e⟩=>by have n:¬ j=x:=λz=>p (z ▸ ⟨q,e⟩);exact⟨q,by rw[a,xL n]; exact e⟩
 refine⟨by simp [O.size],λq t w g=>?_,λx q e=>?_,λx y q f b=>?_⟩
 ·by_cases c:q=k
  ·subst c;rw[u] at g;cases g;exact⟨j,by rw[a,u1 rfl,u1 s],v.mono d⟩
  ·obtain⟨x,e,r⟩:=O.each q t (by lia) g;have n:¬ j=x:=λz=>p (z ▸ ⟨q,e⟩);exact⟨x,by rw[a,xL n]; exact e,r.mono d⟩
 ·rw[a] at e;by_cases c:j=x
  ·rw[u1 c] at e;split at e;·cases e; simp
   ·cases e
  ·rw[xL c] at e;have:=O.low x q e;lia
 ·rw[a] at f b;by_cases o:j=x
  ·rw[u1 o] at f;split at f
   ·cases f;by_cases i:j=y;·ext
    ·rw[xL i] at b;have:=O.low y _ b;ext
   ·cases f
  ·rw[xL o] at f;by_cases i:j=y
   ·rw[u1 i] at b;split at b
    ·cases b;have:=O.low x _ f;ext
    ·cases b
   ·rw[xL i] at b;exact O.inj x y q f b
noncomputable def xh (m:Nat)(b:Option (Array (Option Nat) × Nat))(h:Int):Option (Array (Option Nat) × Nat):=do let (a,k) <-b;let j <-layClean.free m a (turns m) (bits h % (m+1)) (bits h);pure (a.setIfInBounds j (some k),k+1)
theorem Dp (w:gc m)(b:List Int)(f:b.length<=m):∀(rest:List Int) (k:Nat) (owner:Array (Option Nat)),k<=b.length->mP m b k owner->b.drop k=rest-> ∃a,rest.foldl (xh m) (some (owner,k))=some (a,b.length)/\mP m b b.length a
 | [],k,owner,d,O,e=>by
  have c:b.length<=k:=by ext
  grind| h::rest,k,owner,d,O,e=>by
  have c:k < b.length:=by grind
  have n:b[k]?=some h:=by have:=List.getElem?_drop (xs:=b) (i:=k) (j:=0);ext
  obtain⟨j,t,r,g,p⟩:=BH w O.size h (O.hole (by lia)) (turns m) 0 0 (by simp) rfl (λk c=>absurd c (by ext)) λl o=>absurd o (by ext);have q:xh m (some (owner,k)) h=some (owner.setIfInBounds j (some k),k+1):=by unfold xh;have s:layClean.free m owner _ (bits h % (m+1)) (bits h)=some j:=t;ext
  rw[List.foldl_cons,q];exact Dp w b f rest _ _ ‹_› (O.next n r g p) (by have:=zA7 (List.drop 1) e;rw[List.drop_drop] at this;symm)
theorem CJ (w:gc m)(a:List Int)(b:a.length<=m):∃owner,layClean m a.toArray=some owner/\mP m a a.length owner:=by obtain⟨owner,e,O⟩:=Dp w a b a 0 _ (zAd _) (mP.start m a) rfl;refine⟨owner,?_,O⟩;unfold layClean;rw[<-Array.foldl_toList];show ((a.foldl (xh m) _).map _)=_;ext
noncomputable def i9 (m:Nat)(owner:Array (Option Nat)):List (Nat × Nat):=(range (m+1)).filterMap λj=>(owner.getD j none).map (j,·)
theorem i_ (d:owner.size=m+1):x∈i9 m owner↔owner[x.1]?=some (some x.2):=by
 unfold i9;rw[List.mem_filterMap];constructor
 ·rintro⟨j,b,e⟩;have a:j < owner.size:=by ext
  cases c:owner[j] with| none=>ext| some q=> ext;grind
 ·intro e;have b:x.1 < owner.size:=by grind
  refine⟨x.1,(by ext),?_⟩;ext
theorem BI (m:Nat)(owner:Array (Option Nat)):((i9 m owner).map (·.1)).Pairwise (· < ·):=by rw[zAl];refine List.Pairwise.filterMap _ ?_ (List.pairwise_lt_range);ext
theorem rT (O:mP m f k owner):((i9 m owner).map (·.2)).Nodup:=by rw[List.Nodup,zAl];have:=BI m owner;rw[zAl] at this;refine this.imp_of_mem λ{a b} g d i e=>?_;have c:=(i_ O.size).mp g;have h:=(i_ O.size).mp d;rw[e] at c;have:=O.inj _ _ _ c h;ext
theorem Dq (O:mP m b b.length owner):(i9 m owner).length=b.length:=by
 have d:=iA (rT O) λx a=>by obtain⟨y,c,rfl⟩:=q0.mp a;exact zAk.mpr (O.low _ _ ((i_ O.size).mp c))
 have f:=iA (l2:=(i9 m owner).map (·.2)) List.nodup_range λx a=>by have a:=zAk.mp a;obtain⟨j,e,_⟩:=O.each x b[x] a (by simp);exact q0.mpr ⟨(j,x),(i_ O.size).mpr e,rfl⟩
 grind
theorem Ke (w:gc m)(finger moves:Nat)(led plain:Bool)(c:List Int)(k:c.length<=m) : ∃t b,laid m finger moves led plain c.toArray=some (t,b)/\t.mask=m/\t.led=led/\t.plain=plain/\t.dummies=#[]/\b.toList.length=c.length/\b.toList.Nodup/\(∀q∈b.toList,q < c.length)/\ mO t (b.toList.map λq=>c.getD q 0):=by
 obtain⟨a,e,O⟩:=CJ w c k;refine⟨{ mask:=m,place:=((i9 m a).map (·.1)).toArray,dummies:=#[],finger,led,moves,plain },((i9 m a).map _).toArray,?_,rfl,rfl,rfl,rfl,?_,rT O,?_,?_⟩
 ·unfold laid;rw[e];rfl
 ·rw[yB,Dq O]
 ·intro q g;obtain⟨y,d,rfl⟩:=q0.mp (show q∈(i9 m a).map _ from g);exact O.low _ _ ((i_ O.size).mp d)
 ·have h:∀x,o7 a x->x∈(i9 m a).map (·.1):=λx ⟨q,e⟩=>q0.mpr ⟨(x,q),(i_ O.size).mpr e,rfl⟩;refine⟨⟨yq.mpr (BI m a),rfl⟩,w,?_,?_,?_,?_⟩;·simp
  ·intro j p;obtain⟨y,d,rfl⟩:=q0.mp (show j∈(i9 m a).map _ from p);have:=(i_ O.size).mp d;have s:y.1 < a.size:=by
    rcases lt_or_ge _ a.size with q | q;·exact q
    ·rw[zCn q] at this; cases this
   show y.1<=m;have:=O.size;lia
  ·rw[yB,yB,Dq O];exact k
  ·intro x l;have f:=l;rw[zAf,List.zip_map'] at f;obtain⟨y,d,rfl⟩:=q0.mp f;have i:=(i_ O.size).mp d;have g:=O.low _ _ i;have o:c[y.2]?=some (c.getD y.2 0):=by ext
   obtain⟨j,n,r⟩:=O.each _ _ g o;have:=O.inj _ _ _ i n;rw[this];exact r.mono h
section
variable {prog:zAA}{w:zAD}{K:Type}[DecidableEq K]{knd:KeyKind prog w K}{A:zAI}{E:zzE}{s:SI}
theorem Dr (n:Nat)(h:zBY v=true):zBZ n v=pure false:=by cases v with| ref a=>simp [zBY] at h| _=>unfold zBZ; rfl
theorem uH {ks:List K}{a:M1}{Q:Bool->SI->Prop}(f:zAJ knd s.heap ks a)(h:Q false s):zAB (zAC prog w) A (zBZ 8 (.ref a)) Q E s:=by
 have g:=f.typeIs;obtain⟨o,c,n,i,_,l,k⟩:=f;unfold zBZ;refine yA (zCA g ?_);refine yA (y3 ?_);refine yA (zDD i l ?_);refine yA ?_;rw[<-Array.forIn_toList];refine zBP _ (λb r d=>r.1=none/\d=s/\∀v∈b,zBY v=true) _ ?_ ?_ _ _ ⟨rfl,rfl,k.byValue⟩
 ·rintro v b r d ⟨e,rfl,j⟩;rw[Dr _ (by ext)];exact y3 (by ext)
 ·rintro⟨p,m⟩ d ⟨e,rfl,_⟩;cases e;exact y3 h
theorem RM {ks:List K}{x:M1}{ys:List Value}{Q:Bool->SI->Prop}(m:zAJ knd s.heap ks x)(o:∀v∈ys,∃a d,v=.ref a/\zAJ knd s.heap d a)(h:Q false s) : zAB (zAC prog w) A (searchCouldBeSeen (.ref x) ys) Q E s:=by
 refine yA ?_;refine zBP _ (λb r f=>r.1=none/\f=s/\∀v∈b,∃a d,v=.ref a/\zAJ knd s.heap d a) _ ?_ ?_ _ _ (by ext)
 ·rintro v b r f ⟨l,rfl,i⟩;obtain⟨a,d,rfl,k⟩:=i v zAb;have g:(λr e=>match r with | ForInStep.yield j=>(λb r e=>r.1=none/\e=f/\∀v∈b,∃a d,v=.ref a/\zAJ knd f.heap d a) b j e | .done j=>zAB (zAC prog w) A (match j.1 with | none=>pure false | some a=>pure a) Q E e) (ForInStep.yield (none,())) f:=⟨rfl,rfl,(by ext)⟩;by_cases c:(x == a||(zBY (.ref x)&&zBY (.ref a)))=true
  ·rw[u1 c];exact y3 g
  ·rw[xL c];refine yA (wpAny_eqIsQuiet_tuple m ?_);refine yA (wpAny_eqIsQuiet_tuple k ?_);refine yA (uH m ?_);refine yA (uH k ?_);exact y3 g
 ·rintro⟨n,p⟩ f ⟨l,rfl,_⟩;cases l;exact y3 h
noncomputable def ent (knd:KeyKind prog w K)(p:M1 × List K):Int × Value:=(zAL knd p.2,.ref p.1)
noncomputable def hsh (knd:KeyKind prog w K)(p:M1 × List K):Int:=zAL knd p.2
theorem Ds (knd:KeyKind prog w K)(ps:List (M1 × List K))(i:Nat):(ps.map (ent knd)).toArray[i]?=(ps[i]?).map (ent knd):=by simp
theorem Qj (t:SetTable):t.sameMemory t.moves t.mask=some true:=by unfold SetTable.sameMemory;simp
theorem Kf {t:SetTable}(h:j∈t.place.toList):∃i:Nat,t.place[i]?=some j:=by obtain⟨i,a⟩:=zBx.mp h;exact⟨i,by simpa using a⟩
theorem MC (d:c=true->∀a:Bool->SI->Prop,a false s->zAB (zAC prog w) A X a E s)(e:zAB (zAC prog w) A R Q E s) : zAB (zAC prog w) A (if c=true then (do let b <-X; if b=true then U else R) else R) Q E s:=by
 by_cases h:c=true
 ·rw[u1 h];refine yA (d h _ ?_);symm
 ·rw[xL h];symm
theorem search {S x:M1}{o:Obj}{ep:Nat}{t:SetTable}{ps:List (M1 × List K)}{ks:List K}{h:Int}{N:Nat}{Q:SetFound->SI->Prop}(hu:A.units < zAT)(ho:s.heap.get? S=some o) (hd:o.data=.set (ps.map (ent knd)).toArray ep t) (H:mO t (ps.map (hsh knd))) (Z:t.gaveWay=false) (X:h=zAL knd ks)(I:∀p∈ps,zAJ knd s.heap p.2 p.1) (hx:zAJ knd s.heap ks x)(hN:N < 10 * SetTable.turns t.mask) (free:(pr t.mask h N).j∉t.place.toList) (U:∀k,k < N->(pr t.mask h k).j∈t.place.toList)(yes:(∃p∈ps,p.2=ks)->Q (.there none) s) (no:(∀p∈ps,p.2≠ks)->Q (.free (pr t.mask h N).j false) s) : ∀(d n b:Nat) (a:Option SetTable.Probe),N - n=d->n<=N->d < b->a.getD (t.probeStart h)=pr t.mask h n->(∀(i:Nat) (p:M1 × List K),ps[i]?=some p->p.2=ks->∀k,k < n->t.place[i]?≠some (pr t.mask h k).j)->zAB (zAC prog w) A (setSearchFrom S (.ref x) h true b a) Q E s:=by
 have F:t.fits (ps.map (ent knd)).toArray.size=true:=by have Y:=H.size;have h2:=H.room;simp only [SetTable.fits,SetTable.fill,H.plain.GP,zAw,zCv,zBn];ext
 have hAt:∀(i:Nat) (p:M1 × List K),ps[i]?=some p->(((ps.map (ent knd)).toArray[i]?).map (·.1)).getD 0=zAL knd p.2:=λi p e=>by rw[Ds,e]; rfl
 have T:∀(i j:Nat),t.place[i]?=some j->∃p,ps[i]?=some p:=λi j e=>by
  have G:i < t.place.size:=by grind
  have Y:=H.size;simp only [zAq,yB] at Y;ext
 intro d;induction d using Nat.strongRecOn with| _ d ih=>
  intro n b a hdn hnN hf W V;obtain⟨f,rfl⟩:∃f,b=f+1:=⟨b - 1,by lia⟩;unfold setSearchFrom;refine yA (zBh ho hd F ?_);dsimp only;simp only [Z,zAx,zCf];have M:(pr t.mask h (n+(N - n))).j∉t.place.toList\/∃(i:Nat) (p:M1 × List K),t.place[i]?=some (pr t.mask h (n+(N - n))).j/\ps[i]?=some p/\zAL knd p.2=h:=.inl (by grind);haveI:DecidablePred λe:Nat=>(pr t.mask h (n+e)).j∉t.place.toList\/∃(i:Nat) (p:M1 × List K),t.place[i]?=some (pr t.mask h (n+e)).j/\ps[i]?=some p/\zAL knd p.2=h:=λ_=>Classical.propDecidable _;obtain⟨e,he,stop,l⟩:=least (p:=λe:Nat=>(pr t.mask h (n+e)).j∉t.place.toList\/∃(i:Nat) (p:M1 × List K),t.place[i]?=some (pr t.mask h (n+e)).j/\ps[i]?=some p/\zAL knd p.2=h) (N - n) M;have J:∀k,k < e->∃i,t.slot (pr t.mask h (n+k)).j=.live i/\((((ps.map (ent knd)).toArray[i]?).map (·.1)).getD 0 == h)=false:=λk hk=>by obtain⟨i,G⟩:=Kf (U (n+k) (by grind));obtain⟨p,r⟩:=T i _ G;refine⟨i,vd H.plain G,?_⟩;grind
  by_cases c:(pr t.mask h (n+e)).j∈t.place.toList;·
   obtain⟨i,p,G,r,hph⟩:∃(i:Nat) (p:M1 × List K),t.place[i]?=some (pr t.mask h (n+e)).j/\ps[i]?=some p/\zAL knd p.2=h:=by grind
   have hlt:n+e < N:=by
    rcases lt_or_ge (n+e) N with q | q;·symm
    ·have:n+e=N:=by grind
     grind
   have L:∀g:Nat->Int,(∀i,g i=(((ps.map (ent knd)).toArray[i]?).map (·.1)).getD 0)->t.probe g h (a.getD (t.probeStart h))=some (.candidate (pr t.mask h (n+e)).j i (pr t.mask h (n+e+1))):=λg hg=>by obtain rfl:g=λi=>(((ps.map (ent knd)).toArray[i]?).map (·.1)).getD 0:=funext hg;rw[W];exact GS e _ n (by lia) J (vd H.plain G) (by grind)
   rw[L];rotate_left;·intro i; rfl
   dsimp only;have D:p∈ps:=u4 r;refine MC (λ_ Q' q'=>RM hx (λv hv=>?_) q') ?_
   ·obtain⟨y,hy,rfl⟩:=q0.mp hv;have vf:y∈(ps.map (ent knd)):=by have:=zDf.mp hy;have:=(Array.mem_filter.mp this).1;simpa using this
    obtain⟨R,m,rfl⟩:=q0.mp vf;exact⟨R.1,R.2,rfl,I R m⟩
   rw[Ds,r];dsimp only [map_some,ent];refine yA (zBw (wpAny_eqBool_tuple hu (I p D) hx ?_));refine yA (zBh ho hd F ?_);dsimp only;by_cases u:p.2=ks
   ·rw[zAa u];simp only [Bool.and_self,if_true];exact y3 (yes ⟨p,D,u⟩)
   ·rw[zAp u];simp only [Bool.and_false,zAx,zCf];rw[Qj];dsimp only;rw[u1 rfl,vd H.plain G];dsimp only;rw[Ds,r];dsimp only [map_some,ent];refine yA (wpAny_isSame_ref_self (yA (y3 ?_)));rw[u1 rfl];dsimp only;refine ih (N - (n+e+1)) (by grind) (n+e+1) f _ rfl ‹_› (by grind) rfl λi' R m P k hk=>?_;by_cases c1:k < n;·exact V i' R m P k c1
    ·by_cases c2:k < n+e
     ·intro z;have:=l (k - n) (by grind);rw[show n+(k - n)=k by grind] at this;exact this (.inr ⟨i',R,z,m,by rw[P,X]⟩)
     ·have:k=n+e:=by lia
      subst this;intro z;have e1:=o6 H.plain.rise z;have e2:=o6 H.plain.rise G;have:i'=i:=by lia
      subst this;rw[r] at m;cases m;exact u P
  ·
   have L:∀g:Nat->Int,(∀i,g i=(((ps.map (ent knd)).toArray[i]?).map (·.1)).getD 0)->t.probe g h (a.getD (t.probeStart h))=some (.empty (pr t.mask h (n+e)).j none):=λg hg=>by obtain rfl:g=λi=>(((ps.map (ent knd)).toArray[i]?).map (·.1)).getD 0:=funext hg;rw[W];exact Dm e _ n (by grind) J (Jb H.plain c)
   rw[L];rotate_left;·intro i; rfl
   dsimp only;have hNe:n+e=N:=by
    rcases lt_or_ge (n+e) N with q | q;·exact absurd (U _ q) c
    ·lia
   rw[hNe];refine y3 (no λp D u=>?_);obtain⟨i,r⟩:=zBx.mp D;have hz:∃j,t.place[i]?=some j/\(j,hsh knd p)∈t.place.toList.zip (ps.map (hsh knd)):=by have Y:=H.size;simp only [zAq,yB] at Y;have G:i < ps.length:=(xI.mp r).1;refine⟨t.place[i]'(by lia),zA1 _,zBx.mpr ⟨i,?_⟩⟩;rw[List.getElem?_zip_eq_some];refine⟨by simp [show i < t.place.size by lia],?_⟩;rw[vT,r];rfl
   obtain⟨j,hj,Yr⟩:=hz;obtain⟨B,e0,b0⟩:=H.reach _ Yr;have C:(pr t.mask h B).j=j:=by
    have:hsh knd p=h:=by unfold hsh; rw[u,X]
    rw[this] at e0;exact e0
   have Ys:∀k,k < B->(pr t.mask h k).j∈t.place.toList:=λk hk=>by
    have:hsh knd p=h:=by unfold hsh; rw[u,X]
    rw[this] at b0;exact b0 k hk
   have jm:j∈t.place.toList:=by have:=Array.mem_of_getElem? hj;exact zDf.mpr this
   have hn0:B < N:=by
    rcases Nat.lt_trichotomy B N with q | q | q;·exact q
    ·rw[q] at C; rw[C] at free; exact absurd jm free
    ·exact absurd (Ys N q) free
   by_cases c1:B < n;·exact V i p r u B c1 (by rw[C]; exact hj)
   ·have:=l (B - n) (by lia);rw[show n+(B - n)=B by lia] at this;exact this (.inr ⟨i,p,by rw[C]; exact hj,r,by rw[u,X]⟩)
noncomputable def gx (m n:Nat):Prop:=(m=7/\n < 5)\/(m=31/\n < 19)\/(m=127/\n < 77)\/(m=511/\n < 307)
theorem gx.whole (h:gx m n):gc m:=by
 rcases h with ⟨rfl,_⟩ | ⟨rfl,_⟩ | ⟨rfl,_⟩ | ⟨rfl,_⟩;·exact Ka
 ·exact Qg
 ·exact MA
 ·exact MB
theorem gx.odd {t:SetTable}(h:gx t.mask n):t.gaveWay=false:=by unfold SetTable.gaveWay;rcases h with ⟨e,_⟩ | ⟨e,_⟩ | ⟨e,_⟩ | ⟨e,_⟩ <;> rw[e] <;> rfl
noncomputable def gf (knd:KeyKind prog w K)(h:Heap)(S:M1)(ps:List (M1 × List K)):Prop:=∃o a t,h.get? S=some o/\o.ExactSet/\o.data=.set (ps.map (ent knd)).toArray a t/\mO t (ps.map (hsh knd))/\(t.plain=true/\t.led=!w.params.followText "set-order")/\gx t.mask ps.length/\(ps.map (·.2)).Nodup
noncomputable def xj (knd:KeyKind prog w K):Prop:=∀(n:Nat) (k:K) (v:Value),knd.is k v=true->zDq n v=pure true
theorem Gk (b:xj knd)(c:ItemsAre knd ks vs):∀v∈vs,∀n,zDq n v=pure true:=by induction c with| nil=>simp| cons d _ e=>
  intro v a n;rcases wS.mp a with rfl | a;·exact b n _ _ d
  ext
theorem CK (i:xj knd){ks:List K}{a:M1}{Q:Bool->SI->Prop}(f:zAJ knd s.heap ks a)(h:Q true s):zAB (zAC prog w) A (zDq 8 (.ref a)) Q E s:=by
 have j:=f.typeIs;obtain⟨o,c,n,l,_,m,k⟩:=f;refine yA (zCU j F.slot_tuple_hash.lookup ?_);refine yA (zDD l m ?_);refine yA ?_;rw[<-Array.forIn_toList];refine zBP _ (λb r d=>r.1=none/\d=s/\∀v∈b,∀n,zDq n v=pure true) _ ?_ ?_ _ _ ⟨rfl,rfl,Gk i k⟩
 ·rintro v b r d ⟨g,rfl,e⟩;rw[e v zAb];exact y3 (by ext)
 ·rintro⟨q,p⟩ d ⟨g,rfl,_⟩;cases g;exact y3 h
noncomputable def picked (ps:List (M1 × List K))(a:List Nat):List (M1 × List K):=a.filterMap (ps[·]?)
theorem tR {β:Type}(f:M1 × List K->β)(ps:List (M1 × List K))(d:β):∀(a:List Nat),(∀q∈a,q < ps.length)->(picked ps a).map f=a.map λq=>(ps.map f).getD q d| [],_=>rfl| q::r,h=>by have b:=tR f ps d r (by ext);unfold picked at b ⊢;ext
theorem Jc (ps:List (M1 × List K))(a:Array Nat):(a.filterMap λq=>(ps.map (ent knd)).toArray[q]?)=((picked ps a.toList).map (ent knd)).toArray:=by apply Array.toList_inj.mp;rw[Array.toList_filterMap];unfold picked;grind
theorem Jd (g:a.Nodup)(i:a.length=ps.length)(h:∀q∈a,q < ps.length){p:M1 × List K}:p∈picked ps a↔p∈ps:=by
 unfold picked;rw[List.mem_filterMap];constructor
 ·rintro⟨q,_,e⟩;exact u4 e
 ·intro d;obtain⟨q,e⟩:=zBx.mp d;have f:q < ps.length:=(xI.mp e).1;refine⟨q,?_,e⟩;by_cases c:q∈a;·exact c
  ·have:=iA (l2:=(range ps.length).erase q) g λx b=>(List.mem_erase_of_ne (λ(z:x=q)=>c (z ▸ b))).mpr (zAk.mpr (h x b));rw[List.length_erase_of_mem (zAk.mpr f),zBt] at this;lia
theorem Du {ps:List (M1 × List K)}(h:c.Nodup)(g:∀q∈c,q < ps.length)(k:(ps.map (·.2)).Nodup):((picked ps c).map (·.2)).Nodup:=by
 rw[List.Nodup,zAl];refine List.Pairwise.filterMap _ ?_ h;intro a b d x n y i e;have j:=n;have g:=i;apply d;have f:(ps.map (·.2))[a]?=some x.2:=by rw[vT,j]; rfl
 have l:(ps.map (·.2))[b]?=some x.2:=by rw[vT,g,e]; rfl
 have m:=(xI.mp f).1;exact (List.getElem?_inj m k).mp (f.trans l.symm)
theorem GU {h:Heap}(b:h.get? S=some o)(c:o.data=.set es ep t)(a:Array (Int × Value))(t':SetTable) :(h.update S (Obj.putSet a t')).get? S=some { o with data:=.set a (ep+1) t' }:=by have e:=putSet_of a t' c;rw[zCc _ b (by rw[e]; rfl),e]
theorem Vz {S:M1}{o:Obj}{ep b m:Nat}{t:SetTable}{ps:List (M1 × List K)}{Q:Unit->SI->Prop}(l:s.heap.get? S=some o)(k:o.ExactSet)(j:o.data=.set (ps.map (ent knd)).toArray ep t)(H:mO t (ps.map (hsh knd)))(I:t.plain=true/\t.led=!w.params.followText "set-order")(B:(ps.map (·.2)).Nodup) (y:SetTable.sizeAbove b=m+1) (x:gx m ps.length) (F:ps.length<=m)(h:∀h' d,Heap.SameBut S s.heap h'->gf knd h' S d->(∀p,p∈d↔p∈ps)->d.length=ps.length->Q () { s with heap:=h' }):zAB (zAC prog w) A (setRelay S b) Q E s:=by
 have i:t.fits (ps.map (ent knd)).toArray.size=true:=by have P:=H.size;have N:=H.room;simp only [SetTable.fits,SetTable.fill,H.plain.GP,zAw,zCv,zBn];ext
 have n:m<=511:=by rcases x with ⟨rfl,_⟩ | ⟨rfl,_⟩ | ⟨rfl,_⟩ | ⟨rfl,_⟩ <;> decide
 unfold setRelay;refine yA (zBh l j i ?_);dsimp only;rw[xL (by rw[y,kA]; lia)];obtain⟨u,a,e,G,O,M,L,z,v,g,J⟩:=Ke x.whole t.finger (t.movedTo m) t.led t.plain (ps.map (hsh knd)) (by ext);rw[yB] at z g;have C:t.relaid ((ps.map (ent knd)).toArray.map (·.1)) b=some (u,a):=by
  unfold SetTable.relaid;rw[y];have:(ps.map (ent knd)).toArray.map (·.1)=(ps.map (hsh knd)).toArray:=by apply Array.toList_inj.mp;simp [hsh,ent]
  grind
 rw[C];have r:=Jc (knd:=knd) ps a;have c:(picked ps a.toList).length=ps.length:=by have:=zA7 length (tR (λp=>p) ps (default:M1 × List K) a.toList g);ext
 have f:∀p,p∈picked ps a.toList↔p∈ps:=λp=>Jd v z g;have D:mO u ((picked ps a.toList).map (hsh knd)):=by rw[tR (hsh knd) ps 0 a.toList g];symm
 refine yA ?_;show zAB (zAC prog w) A (if ((a.filterMap λq=>(ps.map (ent knd)).toArray[q]?).size != (ps.map (ent knd)).toArray.size)=true then _ else pure (_,_)) _ E s;rw[r,xL (by ext)];refine y3 ?_;dsimp only;refine wpAny_storeSet_of l j ?_ (by rw[kA]; grind);refine h _ (picked ps a.toList) (zB8 _ _ _) ?_ f c;exact⟨_,ep+1,u,GU l j _ _,k,rfl,D,by ext,by rw[G,c]; symm,Du v g B⟩
theorem gx.next {t:SetTable}(h:gx t.mask n)(f:n < 306)(g:t.place.size=n+1)(b:t.dummies=#[]):(t.tooFull=false->gx t.mask (n+1))/\(t.tooFull=true->∃m,SetTable.sizeAbove (SetTable.grown (n+1))=m+1/\gx m (n+1)/\n+1<=m):=by
 have a:t.fill=n+1:=by unfold SetTable.fill; ext
 unfold SetTable.tooFull;unfold gx at h ⊢;rcases h with ⟨e,h⟩ | ⟨e,h⟩ | ⟨e,h⟩ | ⟨e,h⟩
 ·constructor;·grind
  ·intro c;have d:(n+1) * 5 >= 7 * 3:=by ext
   have:n=4:=by lia
   subst this;exact⟨31,by decide,(by simp),by simp⟩
 ·constructor;·grind
  ·intro c;have d:(n+1) * 5 >= 31 * 3:=by ext
   have:n=18:=by lia
   subst this;exact⟨127,by decide,(by simp),by simp⟩
 ·constructor;·grind
  ·intro c;have d:(n+1) * 5 >= 127 * 3:=by ext
   have:n=76:=by lia
   subst this;exact⟨511,by decide,(by simp),by simp⟩
 grind
theorem gx.room (h:gx m n):n+1<=m:=by rcases h with ⟨rfl,_⟩ | ⟨rfl,_⟩ | ⟨rfl,_⟩ | ⟨rfl,_⟩ <;> lia
theorem Dv {α β:Type}(f:α->β)(l:List α)(p:Nat)(x:α)(h:p<=l.length):SetTable.insertAt (l.map f).toArray p (f x)=((l.take p++x::l.drop p).map f).toArray:=by apply Array.toList_inj.mp;rw[uG _ _ _ (by ext)];simp
theorem add {S x:M1}{ps:List (M1 × List K)}{ks:List K}{Q:Bool->SI->Prop}(hb:xj knd)(hu:A.units < zAT)(Z:gf knd s.heap S ps)(y:∀p∈ps,zAJ knd s.heap p.2 p.1)(X:zAJ knd s.heap ks x)(hn:ps.length < 306)(h:∀b h' a,Heap.SameBut S s.heap h'->gf knd h' S a->(∀p,p∈a->p∈ps\/p=(x,ks))->(∀p∈ps,p∈a)->(∃p∈a,p.2=ks)->a.length<=ps.length+1->Q b { s with heap:=h' }) : zAB (zAC prog w) A (setAddHashed S (.ref x) (zAL knd ks)) Q E s:=by
 obtain⟨o,ep,t,B,I,D,H,k,J,hk⟩:=id Z;have r:t.fits (ps.map (ent knd)).toArray.size=true:=by have h1:=H.size;have h2:=H.room;simp only [SetTable.fits,SetTable.fill,H.plain.GP,zAw,zCv,zBn];ext
 unfold setAddHashed;refine zBw ?_;unfold setAddHashedIn;refine yA (zBh B D r ?_);dsimp only;have T:byScan (.ref x) (ps.map (ent knd)).toArray=false:=rfl;rw[T];simp only [zAx,zCf];obtain⟨N,hN,u,G⟩:=H.first (zAL knd ks);have htb:SetTable.turns t.mask<=526:=by unfold SetTable.turns;rcases J with ⟨e,_⟩ | ⟨e,_⟩ | ⟨e,_⟩ | ⟨e,_⟩ <;> ext
 unfold setSearch;refine yA (search (ks:=ks) (x:=x) hu B D H J.odd rfl y X hN u G (λU=>?_) (λno=>?_) N 0 100000 none (by simp) (zAd _) (by lia) rfl (by ext))
 ·dsimp only;refine y3 ?_;have:=h false s.heap ps ⟨rfl,λ_ _=>rfl⟩ Z (by ext) (by simp) U (by simp);symm
 ·dsimp only;refine yA (zBh B D r ?_);dsimp only;have hj:=(Dl t.mask (zAL knd ks) N).1;obtain⟨b1,b2,b3,b4,H2⟩:=H.put u hj ⟨N,rfl,G⟩ (by rw[yB]; exact J.room);rw[yB] at b1 b3;have v:(t.put (pr t.mask (zAL knd ks) N).j).1.plain=true/\(t.put (pr t.mask (zAL knd ks) N).j).1.led=!w.params.followText "set-order":=k;rw[v.1];simp only [if_true];refine yA (CK hb X ?_);simp only [if_true];have O:SetTable.insertAt (ps.map (ent knd)).toArray (t.put (pr t.mask (zAL knd ks) N).j).2 (zAL knd ks,Value.ref x)=((ps.take (t.put (pr t.mask (zAL knd ks) N).j).2++(x,ks)::ps.drop (t.put (pr t.mask (zAL knd ks) N).j).2).map (ent knd)).toArray:= Dv (ent knd) ps _ (x,ks) b1;rw[O];generalize hp2:(t.put (pr t.mask (zAL knd ks) N).j).2=q at *;have H3:mO (t.put (pr t.mask (zAL knd ks) N).j).1 ((ps.take q++(x,ks)::ps.drop q).map (hsh knd)):=by
   have e:(ps.take q++(x,ks)::ps.drop q).map (hsh knd)=(ps.map (hsh knd)).take q++zAL knd ks::(ps.map (hsh knd)).drop q:=by rw[v3,zA2,List.map_take,List.map_drop];rfl
   rw[e];symm
  generalize n:ps.take q++(x,ks)::ps.drop q=a at *;have f:a.length=ps.length+1:=by grind
  have i:∀p,p∈a↔p=(x,ks)\/p∈ps:=λp=>by rw[<-n]; exact xg
  have F:(a.map (·.2)).Nodup:=by
   rw[<-n,v3,zA2,List.map_take,List.map_drop];have VT:ks∉ps.map (·.2):=λz=>by grind
   have sp:((ps.map (·.2)).take q++(ps.map (·.2)).drop q).Nodup:=by ext
   grind
  generalize ack:(t.put (pr t.mask (zAL knd ks) N).j).1=C at *;have P:(a.map (ent knd)).toArray.size<=PK:=by rw[kA]; simp [f]; lia
  refine yA (wpAny_storeSet_of B D ?_ P);have g:gx C.mask ps.length:=by rw[b2]; exact J
  obtain⟨n1,n2⟩:=g.next hn b3 b4;have l:=GU B D (a.map (ent knd)).toArray C;have d:(∀p,p∈a->p∈ps\/p=(x,ks))/\(∀p∈ps,p∈a)/\(∃p∈a,p.2=ks):=⟨λp k=>((i p).mp k).symm,λp k=>(i p).mpr (.inr k),(x,ks),(i _).mpr (.inl rfl),rfl⟩;have V:(ps.map (ent knd)).toArray.size+1=ps.length+1:=by simp
  cases c:C.tooFull with| false=> simp only [Bool.not_false,Bool.and_false,zAx,zCf];refine y3 ?_;refine h true _ a (zB8 _ _ _) ?_ d.1 d.2.1 d.2.2 (by ext);exact⟨_,ep+1,C,l,I,rfl,H3,v,by rw[f]; exact n1 c,F⟩| true=> simp only [Bool.not_false,Bool.and_self,if_true];obtain⟨m,w1,w2,w3⟩:=n2 c;rw[V];refine yA (Vz (s:={ s with heap:=s.heap.update S (Obj.putSet (a.map (ent knd)).toArray C) }) l I rfl H3 v F w1 (by rw[f]; exact w2) (by rw[f]; exact w3) λh' R sb L g hl2=>?_);refine y3 ?_;obtain⟨Y,M,W⟩:=d.2.2;refine h true h' R ((zB8 _ _ _).trans sb) L (λp k=>d.1 p ((g p).mp k)) (λp k=>(g p).mpr (d.2.1 p k)) ⟨Y,(g Y).mpr M,W⟩ (by ext)
end
open PySem.Spec
section
variable {prog:zAA}{w:zAD}{K:Type}[DecidableEq K]{knd:KeyKind prog w K}{A:zAI}{E:zzE}{s:SI}
theorem lC (x:zAJ knd h ks a)(k:∀o,h.get? a=some o->h'.get? a=some o):zAJ knd h' ks a:=by obtain⟨o,b,n,c,r⟩:=x;exact⟨o,b,n,k o c,r⟩
theorem gf.ne (x:gf knd h S ps)(y:zAJ knd h ks a):a≠S:=by rintro rfl;obtain⟨o,_,_,e,d,_⟩:=x;obtain⟨f,_,_,b,c,_⟩:=y;rw[e] at b;cases b;rw[d.1] at c;exact absurd c (by decide)
theorem gf.at_ (x:gf knd h S ps)(k:∀o,h.get? S=some o->h'.get? S=some o):gf knd h' S ps:=by obtain⟨o,b,t,a,r⟩:=x;exact⟨o,b,t,k o a,r⟩
noncomputable def GV (xs:List (M1 × List K))(M:Nat):Prop:=∀l:List (List K),l.Nodup->(∀k∈l,∃p∈xs,p.2=k)->l.length<=M
theorem GV.ps {xs ps:List (M1 × List K)}(f:GV xs M)(b:(ps.map (·.2)).Nodup)(sub:∀p∈ps,p∈xs):ps.length<=M:=by
 have:=f _ b λk c=>by obtain⟨p,a,rfl⟩:=q0.mp c;exact⟨p,sub p a,rfl⟩
 rwa [yB] at this
variable {I:M1}{fp wr:List M1}{n:Nat}{P:Nat->Value->Prop}{St:Nat->Heap->Prop}{R:zED->SI->Prop}
theorem Qk (W:Walks prog w A.in1 I fp wr n P St)(S:M1)(D:S∉fp){xs:List (M1 × List K)}(hn:xs.length=n)(y:∀(i:Nat) (v:Value),P i v->∃p,xs[i]?=some p/\v=.ref p.1)(hw:∀p∈xs,p.1∉wr)(m:xj knd) (hu:A.in1.units < zAT) (T:GV xs 300) : ∀(k i:Nat) (s:SI) (ps:List (M1 × List K)),n - i=k->i<=n->St i s.heap->gf knd s.heap S ps->(∀p∈xs,zAJ knd s.heap p.2 p.1)->(∀p∈ps,p∈xs)->(∀p∈xs.take i,∃q∈ps,q.2=p.2)->(∀h' G u,(∀b o,b≠S->b∉wr->s.heap.get? b=some o->h'.get? b=some o)->gf knd h' S u->(∀p∈u,p∈xs)->(∀p∈xs,∃q∈u,q.2=p.2)->R (.ok (.ret .none)) { s with heap:=h',toks:=G })-> zBF (zAC prog w) A (.builtin "set.update.loop" ⟨[.ref S,.ref I],[]⟩) R s:=by
 have H:S∉wr:=λh=>D (W.sub _ h);intro k;induction k with| zero=>
  intro i s ps hk hi t L l g j M;obtain rfl:i=n:=by lia
  refine zCl PyProof.Rows.F.entry_set_update_loop ?_;rw[zCi PyProof.Rows.F.plain_set_update_loop _];show zAB _ A.in1 (zCB (.ref I) >>= _) _ _ s;refine yA (W.done s _ _ t λh' G x=>?_);show zAB _ A.in1 (ret Value.none) _ _ _;refine y3 (M h' G ps (λb o _ m e=>x b o m e) (L.at_ λo e=>x S o H e) g ?_);rw[<-hn,zAj] at j;exact j| succ k ih=>
  intro i s ps hk hi t L l g j M;have B:i < n:=by lia
  refine zCl PyProof.Rows.F.entry_set_update_loop ?_;rw[zCi PyProof.Rows.F.plain_set_update_loop _];show zAB _ A.in1 (zCB (.ref I) >>= _) _ _ s;refine yA (W.item i s _ _ B t λv h' G hP F x=>?_);obtain⟨p,hp,rfl⟩:=y i v hP;have r:p∈xs:=u4 hp;have C:gf knd h' S ps:=L.at_ λo e=>x S o H e;have c:∀q∈xs,zAJ knd h' q.2 q.1:=λq d=>lC (l q d) λo e=>x _ o (hw q d) e;show zAB _ A.in1 (zCP [Value.ref p.1] (setAdd S (.ref p.1)) >>= _) _ _ _;refine yA (zBw ?_);unfold setAdd;refine zBw ?_;refine yA (wpAny_pyHash_tuple hu (c p r) ?_);have Z:ps.length<=300:=T.ps (let ⟨_,_,_,_,_,_,_,_,_,nd⟩:=L; nd) g;refine add (s:={ s with heap:=h',toks:=G+(p.2.length+1) }) m hu C (λq d=>c q (g q d)) (c p r) (by lia) λb h2 N sb Q m1 m2 m3 hl=>?_;have f:∀b o,b≠S->h'.get? b=some o->h2.get? b=some o:=λb o m e=>(sb.2 b m).trans e;refine y3 ⟨zBR PyProof.Rows.F.plain_set_update_loop _,ih (i+1) _ N (by grind) B (W.frame _ _ _ F λb m o e=>?_) Q (λq d=>lC (c q d) λo e=>f _ o (C.ne (c q d)) e) (λq d=>?_) (λq d=>?_) λh3 Y O kp X s3 a3=>?_⟩;·exact f b o (λ(h:b=S)=>D (h ▸ m)) e
  ·rcases m1 q d with z | z;·exact g q z
   ·rw[z]; exact r
  ·have V:xs.take (i+1)=xs.take i++[p]:=by rw[zAz,hp]; rfl
   rw[V] at d;rcases w8.mp d with z | z
   ·obtain⟨q',U,e⟩:=j q z;exact⟨q',m2 q' U,e⟩
   ·rw[zAc.mp z]; exact m3
  ·exact M h3 Y O (λb o h1 J e=>kp b o h1 J (f b o h1 (x b o J e))) X s3 a3
end
section
variable {prog:zAA}{w:zAD}{K:Type}[DecidableEq K]{knd:KeyKind prog w K}{A:zAI}{E:zzE}{s:SI}
theorem Ql {led:Bool}(f:led=!w.params.followText "set-order")(e:h.get? S=some { cls:=.type "set",dict:=none,data:=.set #[] 0 (.fresh 0 0 led) }):gf knd h S []:=by
 refine⟨_,0,.fresh 0 0 led,e,⟨rfl,rfl,rfl⟩,rfl,⟨⟨?_,rfl⟩,Ka,rfl,?_,?_,?_⟩,⟨rfl,f⟩,.inl ⟨rfl,by show 0 < 5; decide⟩,nodup_nil⟩
 ·intro a b _ c;exact absurd c (by show ¬ b < 0; simp)
 ·intro j d; cases d
 ·exact zAd _
 ·intro x g; cases g
theorem Qm (a:Value){Q:zzE}(h:Q (.ref s.heap.objs.size) { s with heap:=s.heap.push { cls:=.type "set",dict:=none,data:=.set #[] 0 (.fresh 0 0 (!w.params.followText "set-order")) } }) : zBF (zAC prog w) A (.call (.builtin "set.__new__") ⟨[.type "set",a],[]⟩) (wants Q E) s:=by refine codeAny_of_tree ?_;show zAB _ A.in1 (zDQ "set.__new__" ⟨[.type "set",a],[]⟩ >>= λ_=>again (.builtin "set.__new__" ⟨[.type "set",a],[]⟩)) _ _ s;refine yA (zDr (F.newCall_set_1 a) (y3 ⟨zBR F.plain_set_new _,zCl F.entry_set_new ?_⟩));rw[zCi F.plain_set_new _];unfold Builtin.«set.__new__» Builtin.Frozenset.newClass;have b:=sub_set_self;obtain⟨c,g,d,e,os⟩:=s;dsimp only;wp_walk;refine zDR (y3 ?_);dsimp only;simp only [newObj];exact yA (wpAny_alloc (y3 (y3 h)))
set_option maxHeartbeats 3200000 in theorem MD {l:M1}{xs:List (M1 × List K)}{Q:zzE}(hh:A.handled=none)(hl:s.heap.IsList l (xs.map λp=>Value.ref p.1).toArray)(tups:∀p∈xs,zAJ knd s.heap p.2 p.1)(hb:xj knd)(hu:A.units+8 < zAT)(few:GV xs 300)(h:∀(h':Heap) (tk:Nat) (ps:List (M1 × List K)),gf knd h' s.heap.objs.size ps->(∀p∈ps,p∈xs)->(∀p∈xs,∃q∈ps,q.2=p.2)->(∀b o,s.heap.get? b=some o->h'.get? b=some o)->Q (.ref s.heap.objs.size) { s with heap:=h',toks:=tk }) : zAB (zAC prog w) A (call (.type "set") [.ref l]) Q E s:=by
 have c1:=F.called_set.mro;obtain⟨c,tl,acm⟩:=c1;have hmade:=F.called_set.made;have hsub:=F.called_set.sub;refine wpAny_call (codeAny_of_tree ?_);show zAB _ _ (callAny (.type "set") _) _ _ _;refine y3 ⟨Code.quiet_builtin _ (by decide +kernel),zCl F.entry_type_call ?_⟩;rw[Around.under_plain (weight_type_call_type "set" [.ref l] []) rfl];have h1:=F.called_set.notType;have h2:=F.called_set.canCreate;have hct:=F.typeCall_set_1 (.ref l);repeat (any_goals (first | assumption | wp_step))
 refine zCC (Qm (.ref l) (E:=E) (Q:=λobj s₁=>∃led:Bool,led=(!w.params.followText "set-order")/\obj=.ref s.heap.objs.size/\s₁={ s with heap:=s.heap.push { cls:=.type "set",dict:=none,data:=.set #[] 0 (.fresh 0 0 led) } }) ⟨_,rfl,rfl,rfl⟩) λr s₁ hr=>?_;match r,hr with
 | .error e,hr=>exact hr| .ok (.ret obj),hr=>
  obtain⟨led,Xv,rfl,rfl⟩:=hr;generalize hso:({ cls:=.type "set",dict:=none,data:=.set #[] 0 (.fresh 0 0 led) }:Obj)=so at *;have hS:(s.heap.push so).get? s.heap.objs.size=some so:=wE _ (by rw[<-hso]; rfl);have hT:Shared.TypeIs { s with heap:=s.heap.push so } (.ref s.heap.objs.size) "set":=⟨_,hS,by rw[<-hso]⟩;have hli:=F.called_set.init.lookup;have hbi:=F.called_set.init.bind (.ref s.heap.objs.size);repeat (any_goals (first | assumption | wp_step))
  refine zCC (zCS (R:=wants (λr s₂=>r=.none/\∃h' tk,s₂={ s with heap:=h',toks:=tk }/\∃ps,gf knd h' s.heap.objs.size ps/\(∀p∈ps,p∈xs)/\(∀p∈xs,∃q∈ps,q.2=p.2)/\∀b o,s.heap.get? b=some o->h'.get? b=some o) E) F.called_set.init.plain F.entry_set_init (check_set_init_1 hT ?_)) λr₂ s₂ hr₂=>?_
  ·obtain⟨ol,VU,hcl,nl,hdl⟩:=hl;obtain⟨acn,ach,aci,Yt⟩:=ol;simp only at hcl hdl;subst hcl; subst hdl;have Xw:=y4 (h:=s.heap) so VU;have aco:=F.sub_list_set;have acp:=F.sub_list_frozenset;have hne:(Value.type "list" == Value.type "dict")=false:=by decide
   have hl1:(s.heap.push so).IsList l (xs.map λp=>Value.ref p.1).toArray:=⟨_,Xw,rfl,nl,rfl⟩;subst hso;unfold Builtin.«set.__init__» noKeywords Builtin.Frozenset.updateFrom;generalize Yu:zEE=PI;wp_walk;subst Yu;generalize hso:({ cls:=.type "set",dict:=none,data:=.set #[] 0 (.fresh 0 0 led) }:Obj)=so at *;refine zBK hl1 ?_;refine yA (wpAny_runValue ?_);have hlS:l < s.heap.objs.size:=v4 VU;have sz:(s.heap.push so).objs.size=s.heap.objs.size+1:=size_push ..;have Xx:l≠(s.heap.push so).objs.size:=by rw[sz]; exact zAe (Nat.lt_succ_of_lt hlS)
   have hSf:s.heap.objs.size∉[(s.heap.push so).objs.size,l]:=by rw[sz];simp only [wS,zC4,zB9,not_or];exact⟨zAe (Nat.lt_succ_self _),Nat.ne_of_gt hlS⟩
   have Yv:∀p∈xs,p.1 < s.heap.objs.size:=λp hp=>let ⟨_,_,_,ho,_⟩:=tups p hp; v4 ho;have VA:=y4 (h:=s.heap.push so) { cls:=.type "list_iterator",data:=.fields #[.ref l,.int 0 0] } hS;refine Qk (knd:=knd) (Walks.list (by simp [hh]) _ l Xx (xs.map λp=>Value.ref p.1).toArray) s.heap.objs.size hSf (xs:=xs) (by simp) (λi v hv=>?_) (λp hp=>?_) hb (by show A.in1.in1.in1.units < zAT; simp only [Around.in1]; lia) few _ 0 _ [] rfl (zAd _) ⟨⟨_,wE _ rfl,rfl,rfl⟩,hl1.push _⟩ (Ql (led:=led) Xv (by rw[hso]; exact VA)) (λp hp=>lC (tups p hp) λo e=>y4 _ (y4 _ e)) (λp hp=>absurd hp (by simp)) (λp hp=>absurd hp (by simp)) λh' tk ps kp hS' m1 m2=>?_
   ·simp at hv;obtain⟨a,⟨b,hp⟩,rfl⟩:=hv;exact⟨(a,b),hp,rfl⟩
   ·rw[sz];have:=Yv p hp;simp only [wS,zC4,zB9];exact zAe (Nat.lt_succ_of_lt this)
   ·show zAB _ _ _ _ _ _;refine y3 ?_;show zAB _ _ (ret Value.none) _ _ _;refine y3 ⟨rfl,h',tk,rfl,ps,hS',m1,m2,λb o e=>?_⟩;have hb:=v4 e;refine kp b o (zAe hb) (by rw[sz]; simp only [wS,zC4,zB9]; exact zAe (Nat.lt_succ_of_lt hb)) (y4 _ (y4 _ e))
  ·match r₂,hr₂ with
   | .error e,hr₂=>exact hr₂| .ok (.ret r),hr₂=>
    obtain⟨rfl,h',tk,rfl,ps,hS',m1,m2,kp⟩:=hr₂;repeat (any_goals (first | assumption | wp_step))
    exact h _ _ ps hS' m1 m2 kp
end
namespace SF
theorem slot_next:Slot "set_iterator" "__next__" "set_iterator.__next__":= .of (owner:="set_iterator") (n:="__next__") (by rfl) (by rfl) (by rfl) (by rfl) (by first | exact .inl (by rfl) | exact .inr (by decide +a)) (by rfl)
theorem entry_next:entryFor table "set_iterator.__next__"=some Builtin.«set_iterator.__next__»:=entryFor_of_fast (by kernel_rfl)
theorem args_next (a:Value):argsOk "set_iterator.__next__" ⟨[a],[]⟩:=by kernel_rfl
theorem Je:entryFor table "set.__iter__"=some Builtin.«frozenset.__iter__»:=entryFor_alias (id':="frozenset.__iter__") (by kernel_rfl) rfl (by decide +kernel) (by kernel_rfl)
end SF
theorem zo {α:Type}:∀(l:List α) (i:Nat) (h:i < l.length),(l[i]::l.eraseIdx i).Perm l| x::a,0,_=>List.Perm.refl _| x::a,i+1,h=>(List.Perm.swap _ _ _).trans ((zo a i _).cons x)
theorem vg (c:Nat->Nat):∀(a k:Nat) (b:List α) (out:Array α),b.length<=a->(pickOrder.go c a k b out).toList.Perm (out.toList++b)| 0,k,b,out,h=>by have:b=[]:=List.length_eq_zero_iff.mp (by ext);subst this;unfold pickOrder.go;simp| a+1,k,[],out,h=>by unfold pickOrder.go;simp| a+1,k,x::e,out,h=>by have d:c k % (x::e).length < (x::e).length:=mod_lt _ (by simp);unfold pickOrder.go;rw[y2 d];refine (vg c a (k+1) _ _ (by rw[List.length_eraseIdx_of_lt d]; simp at h ⊢; symm)).trans ?_;rw[zCy,zAv];exact List.Perm.append_left _ (zo _ _ d)
theorem Kg (a:Nat->Nat)(xs:Array α):(zDz a xs).toList.Perm xs.toList:=by have:=vg a xs.size 0 xs.toList #[] (by simp);symm
section
variable {prog:zAA}{w:zAD}{K:Type}[DecidableEq K]{knd:KeyKind prog w K}{A:zAI}{E:zzE}{s:SI}
noncomputable def dS (w:zAD)(S:M1)(ep:Nat)(es:Array (Int × Value)):Array (Int × Value):=if w.params.followText "set-order"=true then zDz (w.params.setOrder S ep) es else es
theorem BJ (w:zAD)(S:M1)(ep:Nat)(es:Array (Int × Value)):(dS w S ep es).toList.Perm es.toList:=by
 unfold dS;split;·exact Kg _ _
 rfl
structure zp (w:zAD)(h:Heap)(I S:M1)(t:SetTable)(n ep i:Nat):Prop where at_:∃slot:Nat,h.get? I=some { cls:=.type "set_iterator",dict:=none,data:=.fields #[zBQ slot,zBQ i,.ref S,zBQ n,zBQ ep],slots:=#[] }/\(w.params.followText "set-order"=false->SetTable.below t.place slot=i)
theorem zp.typeIs (x:zp w s.heap I S t n ep i):s.TypeIs (.ref I) "set_iterator":=by obtain⟨a,e,_⟩:=x.at_;exact⟨_,e,rfl⟩
variable {S I:M1}{o:Obj}{es:Array (Int × Value)}{ep:Nat}{t:SetTable}
theorem Dw {Q:Bool->SI->Prop}(h:Q (w.params.followText "set-order") s):zAB (zAC prog w) A setsByText Q E s:=by exact yA (zDR (y3 h))
theorem GW {a i:Nat}{Q:Option (Value × Nat)->SI->Prop}(l:s.heap.get? S=some o)(m:o.data=.set es ep t)(k:t.fits es.size=true)(n:yo t.place)(p:t.plain=true)(D:t.led=!w.params.followText "set-order")(r:w.params.followText "set-order"=false->SetTable.below t.place a=i)(f:∀v,((dS w S ep es)[i]?).map (·.2)=some v->∀b,(w.params.followText "set-order"=false->SetTable.below t.place b=i+1)->Q (some (v,b)) s) (g:(dS w S ep es)[i]?=none->Q none s):zAB (zAC prog w) A (setNext S a i ep) Q E s:=by
 have u:=by simp only [SetTable.fits,zAw,zCv] at k;omega
 unfold setNext;refine yA (zBh l m k ?_);dsimp only;refine yA (Dw ?_);cases c:w.params.followText "set-order" with
 | true=>
  have d:dS w S ep es=zDz (w.params.setOrder S ep) es:=by unfold dS; ext
  rw[d] at f g;simp only [if_true,bne_self_eq_false,zAx,zCf];unfold setWalk;refine yA (yA (zBh l m k ?_));dsimp only;refine yA (Dw ?_);rw[c,u1 rfl];refine yA (zDR (y3 ?_));refine y3 ?_;show Q (((zDz (w.params.setOrder S ep) es)[i]?).map λe=>(e.2,a)) s;cases e:(zDz (w.params.setOrder S ep) es)[i]? with| none=>exact g e| some x=>exact f x.2 (by ext) a λz=>by ext
 | false=>
  have d:dS w S ep es=es:=by unfold dS; ext
  rw[d] at f g;have h:t.led=true:=by ext
  have B:=r c;show zAB _ _ (if (!t.plain&&decide (es.size > 1))=true then _ else _) _ _ _;rw[p,xL (by simp)];show zAB _ _ ((if (!t.led&&!es.isEmpty)=true then _ else _) >>= _) _ _ _;rw[h,xL (by simp)];refine yA (y3 ?_);refine y3 ?_;rw[B];cases e:es[i]? with| none=>exact g e| some x=>
   have H:i < es.size:=by grind
   have j:i < t.place.size:=by ext
   rw[zA1 j];refine f x.2 (by ext) _ λ_=>?_;obtain⟨J,y,G⟩:=oH n (t.place[i]+1);have C:t.place.getD i 0=t.place[i]:=by ext
   rcases Nat.lt_trichotomy (SetTable.below t.place (t.place[i]+1)) (i+1) with q | q | q;·grind
   ·symm
   ·have:=y (i+1) q;have F:=n i (i+1) (by simp) (by lia);lia
end
namespace SF
theorem zq:Slot "set_iterator" "__iter__" "set_iterator.__iter__":= .of (owner:="set_iterator") (n:="__iter__") (by rfl) (by rfl) (by rfl) (by rfl) (by first | exact .inl (by rfl) | exact .inr (by decide +a)) (by rfl)
theorem Gm:entryFor table "set_iterator.__iter__"=some Builtin.«dict_keyiterator.__iter__»:=entryFor_alias (id':="dict_keyiterator.__iter__") (by kernel_rfl) rfl (by decide +kernel) (by kernel_rfl)
theorem Jf (a:Value):argsOk "set_iterator.__iter__" ⟨[a],[]⟩:=by kernel_rfl
end SF
section
variable {prog:zAA}{w:zAD}{K:Type}[DecidableEq K]{knd:KeyKind prog w K}{A:zAI}{E:zzE}{s:SI}
variable {S I:M1}{o:Obj}{es:Array (Int × Value)}{ep:Nat}{t:SetTable}
structure Calm (w:zAD)(o:Obj)(es:Array (Int × Value))(ep:Nat)(t:SetTable):Prop where
 ex:o.ExactSet
 data:o.data=.set es ep t
 fits:t.fits es.size=true
 rise:yo t.place
 plain:t.plain=true
 led:t.led=!w.params.followText "set-order"
theorem vh (w:zAD)(S:M1)(ep:Nat)(es:Array (Int × Value)):(dS w S ep es).size=es.size:=by have:=(BJ w S ep es).length_eq;symm
theorem walks (G:A.handled=none)(I S:M1)(k:S≠I)(C:Calm w o es ep t) : Walks prog w A I [I,S] [I] es.size (λi v=>((dS w S ep es)[i]?).map (·.2)=some v) (λi h=>zp w h I S t es.size ep i/\h.get? S=some o) where
 sub:=λb l=>by ext
 frame:=λi h H f L=>by obtain⟨⟨d,e,z⟩,B⟩:=f;exact⟨⟨d,(by ext),z⟩,(by grind)⟩
 item:=λi s Q E J f j=>by
  obtain⟨it,g⟩:=f;obtain⟨d,e,z⟩:=id it.at_;unfold zCB;refine yA (zCQ (zBE it.typeIs SF.slot_next (zBq SF.slot_next it.typeIs SF.entry_next ?_ (SF.args_next _))));refine yA (y3 ?_);refine yA (zBO e rfl ?_);unfold setEntries;refine yA (yA (zBh g C.data C.fits (y3 ?_)));rw[xL (by simp)];refine yA (GW g C.data C.fits C.rise C.plain C.led z (λv n a y=>?_) λx=>?_)
  ·refine yA (zCD e rfl (by simp) ?_);have u:=zCc (Obj.mapFields (·.setIfInBounds 0 (zBQ (a:Nat)))) e rfl;refine yA (zCD u rfl (by simp) ?_);have B:=zCc (Obj.mapFields (·.setIfInBounds 1 (zBQ ((i:Int)+1)))) u rfl;refine y3 ⟨_,rfl,?_⟩;refine y3 (j v _ s.toks n ⟨⟨a,B,y⟩,?_⟩ λb D l p=>?_);·exact (zBc _ _ k.symm).trans ((zBc _ _ k.symm).trans g)
   ·have:I≠b:=λz=>l (by ext);exact (zBc _ _ this).trans ((zBc _ _ this).trans p)
  ·have:(dS w S ep es)[i]?≠none:=by rw[zA1 (by rw[vh]; symm)];simp
   exact absurd x this
 done:=λs Q E f j=>by
  obtain⟨it,g⟩:=f;refine hold λF r=>?_;obtain⟨d,e,z⟩:=id it.at_;refine r ?_;unfold zCB;refine yA (zCQ (zBE it.typeIs SF.slot_next (zBq SF.slot_next it.typeIs SF.entry_next ?_ (SF.args_next _))));refine yA (y3 ?_);refine yA (zBO e rfl ?_);unfold setEntries;refine yA (yA (zBh g C.data C.fits (y3 ?_)));rw[xL (by simp)];refine yA (GW g C.data C.fits C.rise C.plain C.led z (λv n a y=>?_) λx=>?_)
  ·rw[zCn (by rw[vh]; simp)] at n;cases n
  ·refine yA (zCD e rfl (by simp) ?_);refine yA ?_;refine yA (m:=zDs _ _) (zDr (by rfl) ?_);refine zCk ?_ (by size_fits);refine yA (wpAny_handled ?_);rw[show A.in1.handled=none from G];refine yA (y3 (wpAny_throw ?_));refine yA (zCK (b:=true) ⟨_,wE _ rfl,rfl⟩ isSubtype_stop ?_);refine y3 (j _ s.toks λb D l p=>?_);have:I≠b:=λz=>l (by ext);exact y4 _ (y4 _ ((zBc _ _ this).trans p))
 self:=λi s Q E f j=>by have q:=f.1.typeIs (s:=s);refine zDJ q SF.zq (zBq SF.zq q SF.Gm ?_ (SF.Jf _));exact y3 ⟨_,rfl,"set_iterator",_,q,SF.slot_next.lookup,j⟩
end
section
variable {prog:zAA}{w:zAD}{K:Type}[DecidableEq K]{knd:KeyKind prog w K}{A:zAI}{E:zzE}{s:SI}
variable {S:M1}{o:Obj}{es:Array (Int × Value)}{ep:Nat}{t:SetTable}
theorem ME {Q:zzE}(a:s.heap.get? S=some o)(C:Calm w o es ep t)(h:∀h',h'=s.heap.push { cls:=.type "set_iterator",dict:=none,data:=.fields #[zBQ (0:Nat),zBQ (0:Nat),.ref S,zBQ es.size,zBQ ep],slots:=#[] }->Q (.ref s.heap.objs.size) { s with heap:=h' }):zAB (zAC prog w) A (zEE (.ref S)) Q E s:=by have b:s.TypeIs (.ref S) _:=⟨o,a,C.ex.1⟩;refine zDJ b F.slot_set_iter (zBq F.slot_set_iter b SF.Je ?_ (F.args_set_iter_1 _));refine yA (yA (y3 (y3 ?_)));refine yA (yA (yA (zBh a C.data C.fits (y3 (y3 ?_)))));refine yA ?_;refine yA (zBh a C.data C.fits ?_);refine yA (Dw ?_);refine y3 ?_;show zAB _ _ (if (!w.params.followText _&&(!t.plain&&decide _))=true then _ else _) _ _ _;rw[C.plain,xL (by simp)];refine yA (y3 ?_);refine yA (yA (zBh a C.data C.fits (y3 ?_)));refine yA (zCk ?_ (by size_fits));refine y3 ⟨_,rfl,"set_iterator",_,⟨_,wE _ rfl,rfl⟩,SF.slot_next.lookup,h _ rfl⟩
theorem MG {Q:Bool->SI->Prop}(b:s.heap.get? S=some o)(C:Calm w o es ep t)(h:Q false s):zAB (zAC prog w) A (Builtin.List.listLengthHint (.ref S)) Q E s:=by have a:s.TypeIs (.ref S) _:=⟨o,b,C.ex.1⟩;refine yA (zCU a F.slot_set_len.lookup ?_);refine yA (zCK a sub_set_self ?_);refine yA (zCA a ?_);exact y3 h
set_option maxHeartbeats 4000000 in theorem Gp {Q:List Value->SI->Prop}(hh:A.handled=none)(ho:s.heap.get? S=some o)(C:Calm w o es ep t)(hz:es.size<=PK)(h:∀h' tk vs,(∀b o,s.heap.get? b=some o->h'.get? b=some o)->s.heap.objs.size<=h'.objs.size->vs=(dS w S ep es).toList.map (·.2)->Q vs { s with heap:=h',toks:=tk }):zAB (zAC prog w) A (collect (.ref S)) Q E s:=by
 have l:S < s.heap.objs.size:=v4 ho;unfold collect;refine yA (wpAny_runValue (zCl F.entry_proto_collect ?_));rw[zCi F.plain_proto_collect _];refine yA (zCk ?_);refine y3 ⟨zBR F.plain_list_iadd _,zCl F.entry_list_iadd ?_⟩;rw[zCi F.plain_list_iadd _];show zAB _ A.in1 (Builtin.List.listExtendWith (.ref s.heap.objs.size) (.ref S) (.ref s.heap.objs.size)) _ _ _;generalize G:({ cls:=.type "list",data:=.seq ([]:List Value).toArray }:Obj)=f;have hL:(s.heap.push f).get? s.heap.objs.size=some f:=wE _ (by rw[<-G]; rfl);have u:(s.heap.push f).get? S=some o:=y4 _ ho;unfold Builtin.List.listExtendWith;refine yA (zCA (T:="set") ⟨o,u,C.ex.1⟩ ?_);have h1:Builtin.List.listSameRef (.ref s.heap.objs.size) (.ref S)=false:=by simp only [Builtin.List.listSameRef];grind
 have h2:(Value.type "set" == Value.type "list")=false:=by decide
 have h3:(Value.type "set" == Value.type "tuple")=false:=by symm
 simp only [h1,h2,h3,Bool.or_false,zAx,zCf];refine yA (ME u C λh' e=>?_);subst e;have sz:(s.heap.push f).objs.size=s.heap.objs.size+1:=size_push ..;generalize B:({ cls:=.type "set_iterator",dict:=none,data:=.fields _,slots:=#[] }:Obj)=r;have J:((s.heap.push f).push r).get? S=some o:=y4 _ u;have M:((s.heap.push f).push r).get? s.heap.objs.size=some f:=y4 _ hL;have Y:((s.heap.push f).push r).get? (s.heap.push f).objs.size=some r:=wE _ (by rw[<-B]; symm);refine yA (zBw (MG J C ?_));rw[u1 (by rfl)];refine yA (zC8 ?_);refine yA ?_;subst G;refine yA (wpAny_updateSeq M rfl ?_);have p:=zCc (mapSeq (·.push Value.none)) M rfl;refine wpAny_updateSeq p rfl ?_;have L:=zCc (mapSeq (·.pop)) p rfl;have y:(s.heap.push { cls:=.type "list",data:=.seq ([]:List Value).toArray }).objs.size≠s.heap.objs.size:=by simp
 have g:∀(h:Heap) b o,b≠s.heap.objs.size->h.get? b=some o->((h.update s.heap.objs.size (mapSeq (·.push Value.none))).update s.heap.objs.size (mapSeq (·.pop))).get? b=some o:=λh b o z e=>(zBc _ _ (Ne.symm z)).trans ((zBc _ _ (Ne.symm z)).trans e);have n:S≠(s.heap.push { cls:=.type "list",data:=.seq ([]:List Value).toArray }).objs.size:=by grind
 have W:=walks (prog:=prog) (A:=A.in1) ‹_› _ S n C;have X:=g _ _ _ y Y;have V:=g _ _ _ (zAe l) J;have v:∀b k,s.heap.get? b=some k->((((s.heap.push { cls:=.type "list",data:=.seq ([]:List Value).toArray }).push r).update s.heap.objs.size (mapSeq (·.push Value.none))).update s.heap.objs.size (mapSeq (·.pop))).get? b=some k:=λb k e=>g _ _ _ (zAe (v4 e)) (y4 _ (y4 _ e));have x:∃c,((((s.heap.push _).push r).update s.heap.objs.size (mapSeq (·.push Value.none))).update s.heap.objs.size (mapSeq (·.pop))).get? s.heap.objs.size=some { cls:=.type "list",dict:=none,data:=.seq #[] c,slots:=#[] }:=⟨_,L⟩;clear L p g;generalize ((((s.heap.push _).push r).update s.heap.objs.size (mapSeq (·.push Value.none))).update s.heap.objs.size (mapSeq (·.pop)))=h4 at *;generalize (s.heap.push _).objs.size=I at *;obtain⟨c5,x⟩:=x;subst B;have Z:SetTable.below t.place 0=0:=by
  obtain⟨b1,b2,b3⟩:=oH C.rise 0;rcases Nat.eq_zero_or_pos (SetTable.below t.place 0) with q | q;·exact q
  ·have:=b2 0 q;ext
 have R:(λi (s:SI)=>zp w s.heap I S t es.size ep i/\s.heap.get? S=some o) 0 { s with heap:=h4 }:=⟨⟨0,X,λ_=>Z⟩,V⟩;refine y3 ⟨zBR F.plain_extend_loop _,codeAny_extend_loopS W.toS hz s.heap.objs.size ?_ _ es.size 0 { s with heap:=h4 } #[] c5 rfl (zAd _) R x (ItemsOf.nil _) λs' m c' N H a=>?_⟩
 ·simp;exact⟨y.symm,Nat.ne_of_gt l⟩
 ·refine yA (wpAny_load H ?_);obtain⟨h',g',d',P,O⟩:=s';have eg:g'=s.gens:=N.gens;have ed:d'=s.drawn:=N.drawn;have eo:O=s.os:=N.os;subst eg; subst ed; subst eo;have D:∀b k,s.heap.get? b=some k->h'.get? b=some k:=λb k e=>by have z:=v4 e;refine N.heap b k ?_ (v b k e);simp;exact⟨zAe z,by rw[sz]; exact zAe (Nat.lt_succ_of_lt z)⟩
  refine y3 (h h' P _ D (zCd (v4 H)) (List.ext_getElem? λj=>?_));rw[zAh,vT,zAh];have U:=vh w S ep es;rcases lt_or_ge j es.size with q | q
  ·have hj:j < m.size:=by rw[a.1]; exact q
   have:=a.2 j m[j] (zA1 hj);rw[zA1 hj];exact this.symm
  ·rw[zCn (by rw[a.1]; exact q),zCn (by rw[U]; exact q)];rfl
end
end TB
namespace L2
open PySem PySem.Spec PyProof.Rows
abbrev Key:=Sum Int Str
noncomputable def qu:Key->Value->Bool| .inl k,v=>Value.isInt k v| .inr x,v=>Value.isStrOf x v
noncomputable def Xy (w:zAD):Key->Int| .inl k=>hashInt k| .inr x=>hashStr w x
theorem d9:∀{k:Key} {v:Value},qu k v=true->(∃i t,k=Sum.inl i/\v=Value.int i t)\/(∃x t,k=Sum.inr x/\v=Value.str x t)| .inl i,v,h=>by obtain⟨t,e⟩:=Value.isInt_shape (k:=i) (v:=v) h;exact .inl ⟨i,t,rfl,e⟩| .inr x,v,h=>by obtain⟨t,e⟩:=Value.isStrOf_shape (x:=x) (v:=v) h;exact .inr ⟨x,t,rfl,e⟩
theorem Kh (i:Int)(t:Tok):qu (.inl i) (.int i t)=true:=by simp [qu,Value.isInt]
theorem Kl (x:Str)(t:Tok):qu (.inr x) (.str x t)=true:=by simp [qu,Value.isStrOf]
theorem RN (a b:Int):decide ((Sum.inl a:Key)=Sum.inl b)=(a == b):=by grind
theorem RO (a b:Str):decide ((Sum.inr a:Key)=Sum.inr b)=decide (a=b):=by simp
theorem RP (a:Int)(b:Str):decide ((Sum.inl a:Key)=Sum.inr b)=false:=zAp (by simp)
theorem RQ (a:Str)(b:Int):decide ((Sum.inr a:Key)=Sum.inl b)=false:=zAp (by simp)
noncomputable def bN (prog:zAA)(w:zAD):PySem.KeyKind prog w Key where
 is:=qu;hash:=Xy w;inj:=λv a b n l=>by
  rcases d9 n with ⟨i,t,rfl,rfl⟩ | ⟨x,t,rfl,rfl⟩
  ·rcases d9 l with ⟨j,u,rfl,e⟩ | ⟨y,u,rfl,e⟩;·injection e with d _; rw[d]
   ·exact nomatch e
  ·rcases d9 l with ⟨j,u,rfl,e⟩ | ⟨y,u,rfl,e⟩;·exact nomatch e
   ·injection e with d _; rw[d]
 byValue:=λk v h=>by rcases d9 h with ⟨i,t,rfl,rfl⟩ | ⟨x,t,rfl,rfl⟩ <;> rfl
 pyHash:=λf h=>by
  rcases d9 f with ⟨i,t,rfl,rfl⟩ | ⟨x,t,rfl,rfl⟩;·exact wpAny_pyHash_int h
  ·exact wpAny_pyHash_str h
 eqBool:=λm f h=>by
  rcases d9 m with ⟨i,t,rfl,rfl⟩ | ⟨x,t,rfl,rfl⟩
  ·rcases d9 f with ⟨j,u,rfl,rfl⟩ | ⟨y,u,rfl,rfl⟩;·rw[RN] at h; exact wpAny_eqBool_int h
   ·rw[RP] at h; exact SeqAt.EqAt.int_str i t y u _ _ _ _ h
  ·rcases d9 f with ⟨j,u,rfl,rfl⟩ | ⟨y,u,rfl,rfl⟩;·rw[RQ] at h; exact SeqAt.EqAt.str_int x t j u _ _ _ _ h
   ·rw[RO] at h; exact wpAny_eqBool_str h
 «strs»:=λk x t v h=>by
  rcases d9 h with ⟨i,u,rfl,e⟩ | ⟨y,u,rfl,e⟩;·exact nomatch e
  ·injection e with d _;subst d;cases v <;> rfl
theorem xX (prog:zAA)(w:zAD)(i:Int)(t:Tok):(bN prog w).is (.inl i) (.int i t)=true:=Kh i t
theorem Gr (prog:zAA)(w:zAD)(x:Str)(t:Tok):(bN prog w).is (.inr x) (.str x t)=true:=Kl x t
inductive V where| aT | bl (b:Bool) | int (i:Int) | str (x:Str) | nE (b:Array UInt8) | BK (b:UInt64) | ref (a:M1) | ty (n:String) deriving DecidableEq
noncomputable def RelV:V->Value->Prop| .aT,u=>u=Value.none| .bl b,u=>u=Value.bool b| .int i,u=>∃t,u=Value.int i t| .str x,u=>∃t,u=Value.str x t| .nE b,u=>∃t,u=Value.bytes b t| .BK b,u=>∃t,u=Value.float b t| .ref a,u=>u=Value.ref a| .ty n,u=>u=Value.type n
abbrev Vals:List V->List Value->Prop:=Paired RelV
theorem Vals.length (r:Vals xs us):xs.length=us.length:=Paired.length r
theorem Vals.get:∀{xs:List V} {us:List Value} {i:Nat} {x:V},Vals xs us->xs[i]?=some x->∃u,us[i]?=some u/\RelV x u| _,_,_,_,.nil,e=>by ext| _,_,0,_,.cons r _,e=>by ext| _,_,i+1,x,.cons _ t,e=>by obtain⟨u,a,b⟩:=Vals.get t ‹_›;ext
theorem Vals.append:∀{xs ys:List V} {us ws:List Value},Vals xs us->Vals ys ws->Vals (xs++ys) (us++ws)| _,_,_,_,.nil,s=>s| _,_,_,_,.cons r t,s=>.cons r (Vals.append t s)
theorem Vals.take:∀{xs:List V} {us:List Value} (n:Nat),Vals xs us->Vals (xs.take n) (us.take n)| _,_,0,_=>.nil| _,_,_+1,.nil=>.nil| _,_,n+1,.cons r t=>.cons r (Vals.take n t)
theorem Vals.drop:∀{xs:List V} {us:List Value} (n:Nat),Vals xs us->Vals (xs.drop n) (us.drop n)| _,_,0,r=>r| _,_,_+1,.nil=>.nil| _,_,n+1,.cons _ t=>Vals.drop n t
noncomputable def fU:Option V->Option Value->Prop| some v,some u=>RelV v u| none,none=>True| _,_=>False
noncomputable def KV:List (κ × V)->List (κ × Value)->Prop:=Paired λ(p:κ × V) (q:κ × Value)=>p.1=q.1/\RelV p.2 q.2
noncomputable def kV:Key->V| .inl i=>.int i| .inr x=>.str x
inductive HO where| lst (xs:List V)| tup (xs:List V)| dK (kvs:List (Key × V)) | dT (kvs:List (List Key × V))| set (S:Int->Bool) (n:Nat)| ins (C dx:M1) (fs:List (Str × V))| own (x:M1)| xd (fs:List (Str × V))| met (f x:M1)| OG (lo hi:Int)| iL (o:Obj) (u:HO)| BL (ps:Array Value)| ext (φ:Heap->Prop)
abbrev Hp:=M1->Option HO
noncomputable def upd (H:Hp)(a:M1)(o:HO):Hp:=λb=>if b=a then some o else H b
theorem ao:upd H a o a=some o:=by unfold upd; simp
theorem aA (h:b≠a):upd H a o b=H b:=by unfold upd; ext
theorem aQ {H:Hp}{a b:M1}{o:HO}(h:H a=some o)(h':H b=none):a≠b:=by grind
section
variable (P:zAA)(w:zAD)
noncomputable def a_ (H:Hp)(h:Heap)(a:M1):HO->Prop| .lst e=>e.length<=PK/\∃(b:List Value) (n:Nat),Vals e b/\h.get? a=some { cls:=.type "list",data:=.seq b.toArray n }| .tup e=>e.length<=PK/\∃b:List Value,Vals e b/\IsTup h a b.toArray| .dK d=>d.length<=PK/\(a == zAR)=false/\∃l,KV d l/\h.DictOf (bN P w) a l| .dT d=>d.length<=PK/\(a == zAR)=false/\∃e:List (List Key × M1 × Value), Paired (λ(p:List Key × V) (q:List Key × M1 × Value)=>p.1=q.1/\H q.2.1=some (.tup (p.1.map kV))/\RelV p.2 q.2.2) d e/\ ∃o k z,h.get? a=some o/\o.ExactDict/\o.data=.dict k z/\k.toList=e.map (entryOfKey (zEA (bN P w)))/\(e.map (·.1)).Nodup| .set S n=>h.SetOf (zAN P w) a S n| .ins C j i=>H j=some (.own a)/\i.length<=1000/\j≠a/\h.get? a=some (PySem.W.instObj C j)/\ ∃g,h.Ns1 j g/\(∀f,fU (i.lookup f) (g f))/\PySem.Within g (i.map (·.1))| .own _=>∃o,h.get? a=some o| .xd i=>∃g,h.Ns1 a g/\∀f,fU (i.lookup f) (g f)| .OG lo s=>∃t u v,h.get? a=some { cls:=.type "range",data:=.fields #[.int lo t,.int s u,.int 1 v] }| .iL o u=>h.get? a=some o/\a_ H h a u| .BL y=>h.get? a=some { cls:=.none,data:=.fields y }| .met f x=>h.get? a=some (PySem.W.methodObj (.ref f) (.ref x))| .ext φ=>φ h/\(∃o,h.get? a=some o)/\∀r m:Heap,φ r->(∀o,r.get? a=some o->m.get? a=some o)->φ m
noncomputable def fO (H:Hp)(h:Heap):Prop:=∀a o,H a=some o->a_ P w H h a o
end
section
variable {P:zAA}{w:zAD}{H H':Hp}{h h':Heap}{a:M1}{o:HO}
theorem a_.lt (x:a_ P w H h a o):a < h.objs.size:=by cases o with| lst d=>obtain⟨_,_,_,_,e⟩:=x; exact v4 e| tup d=>obtain⟨_,_,_,p⟩:=x; exact p.lt| dK b=>obtain⟨_,_,_,_,o,_,_,e,_⟩:=x; exact v4 e| dT b=>obtain⟨_,_,_,_,o,_,_,e,_⟩:=x; exact v4 e| set S n=>obtain⟨o,_,_,_,e,_⟩:=x; exact v4 e| ins C g c=>obtain⟨_,_,_,e,_⟩:=x; exact v4 e| own y=>obtain⟨_,e⟩:=x; exact v4 e| xd c=>obtain⟨_,⟨_,_,_,e,_⟩,_⟩:=x; exact v4 e| OG lo i=>obtain⟨_,_,_,e⟩:=x; exact v4 e| iL k u=>obtain⟨e,_⟩:=x; exact v4 e| BL j=>exact v4 ‹_›| met f y=>exact v4 ‹_›| ext φ=>obtain⟨_,⟨_,e⟩,_⟩:=x; exact v4 e
theorem Paired.MH:∀{c:List α} {l₂:List β},Paired F c l₂->(∀a b,F a b->G a b)->Paired G c l₂| _,_,.nil,_=>.nil| _,_,.cons r t,f=>.cons (f _ _ r) (Paired.MH t f)
theorem a_.stay (x:a_ P w H h a o)(k:∀b u,(b=a\/H b=some (.own a))->h.get? b=some u->h'.get? b=some u)(B:∀b,H b=some (.own a)->H' b=some (.own a)) (M:∀b xs,H b=some (.tup xs)->H' b=some (.tup xs)):a_ P w H' h' a o:=by induction o with| lst xs=>obtain⟨z,l,n,r,e⟩:=x; exact⟨z,l,n,r,(by ext)⟩| tup xs=>obtain⟨z,l,r,g,e,c⟩:=x; exact⟨z,l,r,g,(by ext),c⟩| dK s=>obtain⟨z,y,I,r,g,i,j,e,c⟩:=x; exact⟨z,y,I,r,g,i,j,(by ext),c⟩| dT s=> obtain⟨z,y,xs,r,g,i,j,e,c⟩:=x;exact⟨z,y,xs,Paired.MH r (by ext),g,i,j,(by ext),c⟩| set S n=>obtain⟨g,i,j,t,e,c⟩:=x; exact⟨g,i,j,t,(by ext),c⟩| ins C K F=> obtain⟨d,z,E,e,m,⟨A,i,j,D,c⟩,r⟩:=x;exact⟨B _ d,z,E,(by ext),m,⟨A,i,j,k _ _ (.inr d) D,c⟩,r⟩| own y=>obtain⟨g,e⟩:=x; exact⟨g,(by ext)⟩| xd F=>obtain⟨m,⟨A,i,j,e,c⟩,r⟩:=x; exact⟨m,⟨A,i,j,k _ _ (.inl rfl) e,c⟩,r⟩| OG lo L=>obtain⟨t,u,v,e⟩:=x; exact⟨t,u,v,(by ext)⟩| iL g u G=>obtain⟨e,q⟩:=x; exact⟨(by ext),G q⟩| BL J=> have e:h.get? a=some _:=x;show h'.get? a=some _;ext| met f y=> have e:h.get? a=some _:=x;show h'.get? a=some _;ext| ext φ=>obtain⟨p,⟨o,e⟩,st⟩:=x; exact⟨st _ _ p (by ext),(by ext),st⟩
theorem fO.lt (x:fO P w H h)(e:H a=some o):a < h.objs.size:=(x a o e).lt
theorem fO.fresh (x:fO P w H h)(e:h.objs.size<=a):H a=none:=by cases q:H a with| none=>rfl| some u=>exact absurd (wT (x.lt q) e) (zB5 _)
theorem fO.kept (x:fO P w H h)(k:∀b u,h.get? b=some u->h'.get? b=some u):fO P w H h':=λa o e=>(x a o e).stay (λb u _ q=>k b u q) (λ_ q=>q) λ_ _ q=>q
theorem fO.laid (x:fO P w H h)(k:∀b u,h.get? b=some u->h'.get? b=some u)(g:h.objs.size<=a)(i:a_ P w (upd H a o) h' a o):fO P w (upd H a o) h':=λb u e=>by
 have f:=x.fresh g;by_cases d:b=a;·subst d; rw[ao] at e; cases e; symm
 ·rw[aA d] at e;exact (x b u e).stay (by ext) (λc q=>by rw[aA (aQ q f)]; symm) λc j q=>by rw[aA (aQ q f)]; symm
end
noncomputable def Rd (H:Hp)(a:M1)(u:HO):Prop:=H a=some u\/∃o,H a=some (.iL o u)
theorem Rd.ok (r:Rd H a u)(x:fO P w H h):a_ P w H h a u:=by
 rcases r with r | ⟨o,r⟩;·exact x a u r
 ·obtain⟨_,q⟩:=x a _ r;symm
noncomputable def eB:Option HO->Prop| some (.lst _)=>True| some (.dK _)=>True| some (.dT _)=>True| some (.set _ _)=>True| some (.ins _ _ _)=>True| some (.ext _)=>True| _=>False
section
variable {P:zAA}{w:zAD}{H:Hp}{h h':Heap}{x e:M1}{o':HO}
theorem fO.write (n:fO P w H h)(l:eB (H x))(p:e=x\/H e=some (.own x))(k:∀b u,b≠e->h.get? b=some u->h'.get? b=some u)(g:∃u,h'.get? e=some u)(m:a_ P w (upd H x o') h' x o'):fO P w (upd H x o') h':=λb u q=>by
 have d:∀c y,H c=some (.own y)->c≠x:=λc y r z=>by subst z; rw[r] at l; symm
 have a:∀c f,H c=some (.tup f)->c≠x:=λc f r z=>by subst z; rw[r] at l; symm
 by_cases i:b=x;·subst i; rw[ao] at q; cases q; symm
 ·rw[aA i] at q;by_cases o:b=e
  ·have j:H b=some (.own x):=by ext
   rw[q] at j; cases j;obtain⟨v,t⟩:=g;exact⟨v,by ext⟩
  ·refine (n b u q).stay (λc v s r=>k c v ?_ r) (λc r=>by rw[aA (d c b r)]; symm) λc f r=>by rw[aA (a c f r)]; symm
   grind
end
structure Un (fs ex:List M1)(H H':Hp)(h h':Heap):Prop where
 keep:∀b o,h.get? b=some o->H b=none->b∉fs->b∉ex->h'.get? b=some o
 slot:∀b o,h.get? b=some o->H b=none->b∈fs->b∉ex->∃sl,h'.get? b=some { o with slots:=sl }
 free:∀b o,h.get? b=some o->H b=none->b∉ex->H' b=none
 there:∀b o,h.get? b=some o->b∉ex->∃o',h'.get? b=some o'
 tups:∀b xs,H b=some (.tup xs)->H' b=some (.tup xs)
 kO:∀b o u,H b=some (.iL o u)->H' b=some (.iL o u)
 lD:∀b ps,H b=some (.BL ps)->∃more,H' b=some (.BL (ps++more))
section
variable {fs fs' ex ex':List M1}{H H1 H2:Hp}{h h1 h2 h':Heap}{a x e:M1}{o:HO}
theorem Un.any (u:Un fs ex H H1 h h1)(q:h.get? b=some c)(n:H b=none)(f:b∉ex):∃g,h1.get? b=some { c with slots:=g }:=by
 by_cases d:b∈fs;·exact u.slot b c q n d f
 ·exact⟨c.slots,u.keep b c q n d f⟩
theorem Un.kept (k:∀b u,h.get? b=some u->h'.get? b=some u):Un fs ex H H h h':=⟨λb c q _ _ _=>k b c q,λb c q _ _ _=>⟨c.slots,k b c q⟩,λ_ _ _ n _=>n,λb c q _=>⟨c,k b c q⟩,λ_ _ q=>q,λ_ _ _ q=>q,λ_ d q=>⟨#[],by rw[q]; rfl⟩⟩
theorem Un.refl:Un fs ex H H h h:=Un.kept (by simp)
theorem Un.laid (k:∀b u,h.get? b=some u->h'.get? b=some u)(d:h.objs.size<=a)(c:H a=none):Un fs ex H (upd H a o) h h' where
 keep:=λb u q _ _ _=>k b u q;slot:=λb u q _ _ _=>⟨u.slots,k b u q⟩;free:=λb u q n _=>by rw[aA (zAe (wT (v4 q) d))]; symm
 there:=λb u q _=>⟨u,k b u q⟩;tups:=λb f q=>by rw[aA (aQ q c)]; symm
 kO:=λb u f q=>by rw[aA (aQ q c)]; symm
 lD:=λb g q=>⟨#[],by rw[aA (aQ q c),q]; rfl⟩
theorem Un.write (j:eB (H x))(p:e=x\/H e=some (.own x))(k:∀b u,b≠e->h.get? b=some u->h'.get? b=some u)(f:∃u,h'.get? e=some u):Un fs ex H (upd H x o) h h':=by
 have g:∀b,H b=none->b≠x:=λb n z=>by subst z; rw[n] at j; symm
 have r:∀b,H b=none->b≠e:=λb n z=>by ext
 have d:∀b u,H b=some u->¬ eB (some u)->b≠x:=λb u q m z=>by ext
 refine⟨(by ext),λb u q n _ _=>⟨u.slots,(by ext)⟩,λb u q n _=>by rw[aA (g b n)]; symm,λb u q _=>?_, λb i q=>by rw[aA (d b _ q λz=>z)]; symm,λb u i q=>by rw[aA (d b _ q λz=>z)]; symm,λb l q=>⟨#[],by rw[aA (d b _ q λz=>z),q]; rfl⟩⟩;by_cases c:b=e;·subst c; exact f
 ·exact⟨u,k b u c q⟩
end
noncomputable def VW (h:Heap)(H:Hp):List M1:=(range h.objs.size).filter λa=>(H a).isSome
noncomputable def vj (h:Heap)(H:Hp):Heap:=PySem.W.hideAll h (VW h H)
theorem Km (h:Heap)(H:Hp):(vj h H).objs.size=h.objs.size:=PySem.W.hideAll_size _ _
theorem MI {h:Heap}{H:Hp}{b:M1}{o:Obj}(e:h.get? b=some o)(n:H b=none):(vj h H).get? b=some o:= PySem.W.hideAll_get _ e λc=>by have q:=(zBf.mp c).2;ext
theorem Qn (e:(vj h H).get? b=some o):h.get? b=some o/\H b=none:=by have c:=PySem.W.of_hideAll _ e;refine⟨c,?_⟩;cases q:H b with| none=>rfl| some x=> have d:b∈VW h H:=zBf.mpr ⟨zAk.mpr (v4 c),by ext⟩;have z:(vj h H).get? b=none:=PySem.W.hideAll_none _ d;ext
structure Mod (K:zzA)(mg:Str->Option Value)(base:Heap):Prop where
 GX:K.In base
 glob:base.Ns VV mg
 blt:∃mb,base.Ns zDV mb/\∀x:Str,x≠"__name__"->mb x=zCE x
 nolimit:base.NoLimit
structure Cx where
 prog:zAA
 w:zAD
 K:zzA
 mg:Str->Option Value
 base:Heap
 A:zAI
 N:List Str
 s₀:SI
 H₀:Hp
 env:Env
 outer:List Env
 stack:List Env
 ex:List M1
 fn:Str->Bool
 calm:Bool
 pn:zzC
 xe:zzE
def frs (l:List Env):List M1:=l.filterMap (·.frame)
abbrev Cx.fs (X:Cx):List M1:=frs X.outer
noncomputable def OH (a:zDE)(x:Str):Prop:=a.names.lookup x=some .local\/a.names.lookup x=some .cell\/a.names.lookup x=some .free
noncomputable def Loc (a:zDE)(x:Str):Prop:=a.names.lookup x=some .local\/a.names.lookup x=some .cell
noncomputable def Look (env:Env)(h:Heap)(m:Str->Option Value)(x:Str)(u:Value):Prop:=(env.kindOf x=some .local/\m x=some u)\/((env.kindOf x=some .cell\/env.kindOf x=some .free)/\∃c,env.cells.lookup x=some c/\h.IsCell c (some u))
structure Cx.Ok (X:Cx):Prop where
 mod:Mod X.K X.mg X.base
 kind:X.env.scope.kind=.function
 glob:X.env.globals=VV
 blt:X.env.builtins=zDV
 above:X.s₀.heap.objs.size<=X.env.locals
 inj:∀x y c,X.env.cells.lookup x=some c->X.env.cells.lookup y=some c->x=y
 has:∀x,(X.env.kindOf x=some .cell\/X.env.kindOf x=some .free)->∃c,X.env.cells.lookup x=some c
 BN:∀x c,X.fn x=true->X.env.cells.lookup x=some c->X.s₀.heap.objs.size<=c
 hd:X.calm=true->X.A.handled=none
 frames:X.A.frames=some X.stack
 stk:X.stack=X.outer\/(X.stack=X.env::X.outer/\X.env.frame=some X.env.locals)
 GY:∀b∈X.ex,b≠X.env.locals/\∀x c,X.env.cells.lookup x=some c->c≠b
 bs:∀b o,X.base.get? b=some o->X.s₀.heap.get? b=some o/\X.H₀ b=none
 rV:X.base.objs.size<=X.s₀.heap.objs.size
 vm:∀b o,X.base.get? b=some o->b∉X.ex
 vn:∀b∈X.ex,b∉X.fs
 kP:X.s₀.heap.FunFrames X.base X.outer
 xY:∀b∈X.fs,X.H₀ b=none
structure Inv (X:Cx)(pins:zzC)(σ:List (Option V))(H:Hp)(s:SI):Prop where
 ok:X.Ok
 os:s.os=X.s₀.os
 bare:zCY s.gens
 base:Un X.fs X.ex X.H₀ H X.s₀.heap s.heap
 loc:∃m,s.heap.Ns X.env.locals m/\∀(i:Nat) (x:Str) (v:V),X.N[i]?=some x->σ[i]?=some (some v)->OH X.env.scope x->∃u,RelV v u/\Look X.env s.heap m x u
 cell:∀x c,X.env.cells.lookup x=some c->∃v,s.heap.IsCell c v
 free:H X.env.locals=none
 gg:∀x c,X.env.cells.lookup x=some c->H c=none
 pin:∀p∈X.pn++pins,s.heap.get? p.1=some p.2/\H p.1=none/\p.1≠X.env.locals/\p.1∉X.fs/\∀v,p.2.data≠.cell v
 hok:fO X.prog X.w H s.heap
 len:σ.length=X.N.length
section
variable {X:Cx}{pins:zzC}{σ:List (Option V)}{H H':Hp}{s:SI}{h':Heap}
theorem Cx.Ok.Xz (c:X.Ok)(e:X.base.get? b=some o):b∉X.fs:=λa=>by have:=(c.kP.mem a).1;ext
theorem Inv.bs (I:Inv X pins σ H s):∀b o,X.base.get? b=some o->s.heap.get? b=some o/\H b=none:=λb o e=>⟨I.base.keep b o (I.ok.bs b o e).1 (I.ok.bs b o e).2 (I.ok.Xz e) (I.ok.vm b o e),I.base.free b o (I.ok.bs b o e).1 (I.ok.bs b o e).2 (I.ok.vm b o e)⟩
theorem Inv.bk (I:Inv X pins σ H s):∀b o,X.base.get? b=some o->s.heap.get? b=some o:=λb o e=>(I.bs b o e).1
theorem Inv.mod (I:Inv X pins σ H s):Mod X.K X.mg X.base:=I.ok.mod
theorem Inv.gR (I:Inv X pins σ H s):X.K.In s.heap:=I.ok.mod.GX.keeps I.bk
theorem Inv.fr (I:Inv X pins σ H s):∃m,Fr X.base X.env.locals s.heap m:= let ⟨m,a,_⟩:=I.loc;⟨m,a,I.bk,zAu I.ok.rV I.ok.above⟩
theorem Inv.lt (I:Inv X pins σ H s):X.env.locals < s.heap.objs.size:=let ⟨_,a,_⟩:=I.loc; a.lt
theorem Inv.sz (I:Inv X pins σ H s):X.s₀.heap.objs.size<=s.heap.objs.size:=zAu I.ok.above (zCd I.lt)
theorem Inv.XA (I:Inv X pins σ H s)(h:s.heap.objs.size<=a):a∉X.fs:=λc=>by obtain⟨_,o,b,_⟩:=I.ok.kP.mem c;exact absurd (wT (v4 b) (zAu I.sz h)) (zB5 _)
theorem Inv.Kn (I:Inv X pins σ H s):∀x c,X.env.cells.lookup x=some c->c≠X.env.locals:=λx c e z=>by obtain⟨v,o,d,g⟩:=I.cell x c e;obtain⟨m,⟨i,h,f,b,a,_⟩,_⟩:=I.loc;ext
theorem Inv.kP (I:Inv X pins σ H s):s.heap.FunFrames X.base X.outer:=by
 have c:∀l,(∀b∈frs l,b∈X.fs)->X.s₀.heap.FunFrames X.base l->s.heap.FunFrames X.base l:=by intro l;induction l with| nil=>intro _ _; trivial| cons f r m=> intro d h;obtain⟨g,⟨L,o,i,q,j,t⟩,k⟩:=h;have a:=d L (by unfold frs; ext);obtain⟨p,e⟩:=I.base.slot L o j (I.ok.xY L a) a λz=>I.ok.vn L z a;exact⟨g,(by ext),m (λb n=>d b (by unfold frs; rw[List.filterMap_cons,i]; exact zBd _ n)) k⟩
 exact c X.outer (by simp) I.ok.kP
theorem Inv.stack (I:Inv X pins σ H s):s.heap.FunFrames X.base X.stack:=by
 rcases I.ok.stk with e | ⟨e,b⟩;·rw[e]; exact I.kP
 ·rw[e];obtain⟨m,a,_⟩:=I.loc;refine .cons (by rw[I.ok.kind]; decide) b a ?_ I.kP;exact Heap.get?_none_of_le (zAu I.ok.rV I.ok.above)
theorem Inv.Dy (I:Inv X pins σ H s):∀b∈frs X.stack,b∈X.env.locals::X.fs:=λb a=>by
 rcases I.ok.stk with e | ⟨e,c⟩;·ext
 ·rw[e] at a;unfold frs at a;rw[List.filterMap_cons,c] at a;symm
theorem Inv.xo (I:Inv X pins σ H s):∀b∈frs X.stack,H b=none:=λb a=>by
 rcases wS.mp (I.Dy b a) with e | a;·rw[e]; exact I.free
 ·obtain⟨_,o,c,_⟩:=I.ok.kP.mem a;exact I.base.free b o c (I.ok.xY b a) λz=>I.ok.vn b z a
theorem Inv.step {ch:List M1}(I:Inv X pins σ H s)(h:∀b∈ch,(b∈X.ex\/X.s₀.heap.objs.size<=b)/\b≠X.env.locals/\(∀x c,X.env.cells.lookup x=some c->c≠b)/\∀p∈X.pn++pins,p.1≠b)(keep:∀b o,b≠X.env.locals->b∉X.fs->b∉ch->s.heap.get? b=some o->H b=none->h'.get? b=some o)(y:∀b o,b≠X.env.locals->b∈X.fs->b∉ch->s.heap.get? b=some o->H b=none->∃N,h'.get? b=some { o with slots:=N }) (f:∀b o,b∉ch->s.heap.get? b=some o->H b=none->H' b=none)(A:∀b o,b∉ch->s.heap.get? b=some o->∃E,h'.get? b=some E)(D:∀b xs,H b=some (.tup xs)->H' b=some (.tup xs)) (J:∀b o u,H b=some (.iL o u)->H' b=some (.iL o u)) (F:∀b ps,H b=some (.BL ps)->∃K,H' b=some (.BL (ps++K)))(ns:∀m,s.heap.Ns X.env.locals m->h'.Ns X.env.locals m) (M:fO X.prog X.w H' h') (Y:zCY g') : Inv X pins σ H' { s with heap:=h',gens:=g',drawn:=d',toks:=t' }:=by
 have G:∀b o,X.s₀.heap.get? b=some o->b≠X.env.locals:=λb o e=>zAe (wT (v4 e) I.ok.above);have t:∀b o,X.s₀.heap.get? b=some o->b∉X.ex->b∉ch:=λb o e a B=>by
  rcases (h b B).1 with z | z;·ext
  ·exact absurd (wT (v4 e) z) (zB5 _)
 have j:∀x c,X.env.cells.lookup x=some c->∀v,s.heap.IsCell c v->h'.IsCell c v:=λx c e v ⟨o,C,O⟩=>by
  have g:c∉ch:=λz=>(h c z).2.2.1 x c e rfl;by_cases R:c∈X.fs
  ·obtain⟨N,q⟩:=y c o (I.Kn x c e) R g C (I.gg x c e);exact⟨_,q,O⟩
  ·exact⟨o,keep c o (I.Kn x c e) R g C (I.gg x c e),O⟩
 refine⟨I.ok,I.os,Y,⟨λb o e n B a=>?_,λb o e n B a=>?_,λb o e n a=>?_,λb o e a=>?_,λb xs e=>D b xs (I.base.tups b xs e),λb o xs e=>J b o xs (I.base.kO b o xs e),λb ps e=>?_⟩,?_,λx c e=>?_,?_,λx c e=>?_,λp T=>?_,M,I.len⟩;·exact keep b o (G b o e) B (t b o e a) (I.base.keep b o e n B a) (I.base.free b o e n a)
 ·obtain⟨N,w⟩:=I.base.slot b o e n B a;obtain⟨P,L⟩:=y b _ (G b o e) B (t b o e a) w (I.base.free b o e n a);exact⟨P,L⟩
 ·obtain⟨E,w⟩:=I.base.there b o e a;exact f b E (t b o e a) w (I.base.free b o e n a)
 ·obtain⟨E,w⟩:=I.base.there b o e a;exact A b E (t b o e a) w
 ·obtain⟨U,w⟩:=I.base.lD b ps e;obtain⟨W,L⟩:=F b _ w;exact⟨U++W,by rw[L,Array.append_assoc]⟩
 ·obtain⟨m,Z,hl⟩:=I.loc;refine⟨m,ns m Z,λi x v w L e3=>?_⟩;obtain⟨u,r,l⟩:=hl i x v w L e3;refine⟨u,r,?_⟩;rcases l with l | ⟨k,c,e,z⟩;·exact .inl l
  ·exact .inr ⟨k,c,e,j x c e _ z⟩
 ·obtain⟨v,z⟩:=I.cell x c e;exact⟨v,j x c e v z⟩
 ·obtain⟨m,⟨o,_,_,C,_⟩,_⟩:=I.loc;exact f _ o (λz=>(h _ z).2.1 rfl) C I.free
 ·obtain⟨v,o,C,O⟩:=I.cell x c e;exact f c o (λz=>(h c z).2.2.1 x c e rfl) C (I.gg x c e)
 ·obtain⟨e,n,S,Q,d⟩:=I.pin p T;have g:p.1∉ch:=λz=>(h p.1 z).2.2.2 p T rfl;exact⟨keep p.1 p.2 S Q g e n,f p.1 p.2 g e n,S,Q,d⟩
theorem Inv.un (I:Inv X pins σ H s)(u:Un X.fs [] H H' s.heap h')(c:fO X.prog X.w H' h'):Inv X pins σ H' { s with heap:=h',toks:=t' }:=by obtain⟨m,⟨o,p,v,h,r⟩,_⟩:=id I.loc;obtain⟨l,j⟩:=u.any h I.free (by simp);exact I.step (ch:=[]) (by simp) (λb o _ g _ e n=>u.keep b o e n g ‹_›) (λb o _ g _ e n=>u.slot b o e n g ‹_›) (λb o _ e n=>u.free b o e n ‹_›) (λb o _ e=>u.there b o e ‹_›) u.tups u.kO u.lD (λt k=>by obtain⟨q,d,f,a,i⟩:=k;rw[h] at a; cases a;exact⟨_,d,f,j,i⟩) c I.bare
theorem Inv.call (I:Inv X pins σ H s)(u:Un (frs X.stack) ch H H' s.heap h')(h:fO X.prog X.w H' h')(v:zCY g')(d:∀b∈ch,(b∈X.ex\/X.s₀.heap.objs.size<=b)/\b≠X.env.locals/\(∀x c,X.env.cells.lookup x=some c->c≠b)/\∀p∈X.pn++pins,p.1≠b) : Inv X pins σ H' { s with heap:=h',gens:=g',drawn:=d',toks:=t' }:=by obtain⟨m,⟨o,w,y,k,r⟩,_⟩:=id I.loc;obtain⟨C,i⟩:=u.any k I.free λz=>(d _ z).2.1 rfl;exact I.step (ch:=ch) d (λb o i l a e n=>u.keep b o e n (λz=>(wS.mp (I.Dy b z)).elim i l) a) (λb o _ _ a e n=>u.any e n a) (λb o a e n=>u.free b o e n a) (λb o a e=>u.there b o e a) u.tups u.kO u.lD (λB t=>by obtain⟨A,j,g,f,q⟩:=t;rw[k] at f; cases f;exact⟨_,j,g,i,q⟩) h v
theorem Inv.turned (I:Inv X pins σ H s)(k:∀b o,b≠a->s.heap.get? b=some o->h'.get? b=some o)(j:H a=none)(g:a≠X.env.locals)(y:a∈X.ex\/X.s₀.heap.objs.size<=a) (t:∀x c,X.env.cells.lookup x=some c->c≠a) (l:∀p∈X.pn++pins,p.1≠a):Inv X pins σ H { s with heap:=h',toks:=t' }:=by
 have f:∀b u,H b=some u->b≠a:=λb u e z=>by rw[z,j] at e; cases e
 refine I.step (g':=s.gens) (d':=s.drawn) (ch:=[a]) (λb B=>?_) (λb o _ _ d e _=>k b o (λz=>d (by simp [z])) e) (λb o _ _ d e _=>⟨o.slots,k b o (λz=>d (by simp [z])) e⟩) (λ_ _ _ _ n=>n) (λb o d e=>⟨o,k b o (λz=>d (by simp [z])) e⟩) (λ_ _ e=>e) (λ_ _ _ e=>e) (λb C e=>⟨#[],by rw[e]; rfl⟩) (λm h=>?_) (λb u e=>?_) I.bare
 ·have e:b=a:=by simpa using B
  subst e;exact⟨y,g,t,l⟩
 ·obtain⟨o,A,w,i,r⟩:=h;exact⟨o,A,w,k _ o (Ne.symm g) i,r⟩
 ·refine (I.hok b u e).stay (λc v d q=>k c v ?_ q) (λ_ q=>q) λ_ _ q=>q;rcases d with z | z;·rw[z]; exact f b u e
  ·exact f c _ z
theorem Inv.tok (I:Inv X pins σ H s)(t:Nat):Inv X pins σ H { s with toks:=t }:=I.un Un.refl I.hok
theorem Inv.kept (I:Inv X pins σ H s)(k:∀b u,s.heap.get? b=some u->h'.get? b=some u):Inv X pins σ H { s with heap:=h',toks:=t' }:=I.un (Un.kept k) (I.hok.kept k)
theorem Inv.laid (I:Inv X pins σ H s)(k:∀b u,s.heap.get? b=some u->h'.get? b=some u)(c:s.heap.objs.size<=a)(d:a_ X.prog X.w (upd H a o) h' a o) : Inv X pins σ (upd H a o) { s with heap:=h',toks:=t' }:=I.un (Un.laid k c (I.hok.fresh c)) (I.hok.laid k c d)
theorem Inv.write (I:Inv X pins σ H s)(d:eB (H x))(f:e=x\/H e=some (.own x))(k:∀b u,b≠e->s.heap.get? b=some u->h'.get? b=some u)(a:∃u,h'.get? e=some u)(c:a_ X.prog X.w (upd H x o) h' x o):Inv X pins σ (upd H x o) { s with heap:=h',toks:=t' }:=I.un (Un.write d f k a) (I.hok.write d f k a c)
theorem Inv.weak (I:Inv X pins σ H s)(f:b.length=σ.length)(w:∀(i:Nat) v,b[i]?=some (some v)->σ[i]?=some (some v)):Inv X pins b H s:=⟨I.ok,I.os,I.bare,I.base,let ⟨m,d,a⟩:=I.loc; ⟨m,d,λi x v e g c=>a i x v e (w i v g) c⟩,I.cell,I.free,I.gg,I.pin,I.hok,f.trans I.len⟩
theorem Inv.GZ (I:Inv X pins σ H s)(h:∀p∈a,s.heap.get? p.1=some p.2/\H p.1=none/\p.1≠X.env.locals/\p.1∉X.fs/\∀v,p.2.data≠.cell v):Inv X a σ H s:=⟨I.ok,I.os,I.bare,I.base,I.loc,I.cell,I.free,I.gg,λp b=>(w8.mp b).elim (λz=>I.pin p (zBe _ z)) (h p),I.hok,I.len⟩
theorem yt {N:List Str}(c:N.Nodup){i j:Nat}(a:N[i]?=some x)(b:N[j]?=some x):i=j:=by obtain⟨g,e⟩:=xI.mp a;obtain⟨f,d⟩:=xI.mp b;exact (List.getElem_inj c).mp (e.trans d.symm)
theorem BO {M:zEK}{A:zAI}{E:zzE}{i:Nat}{x:Str}{v:V}{u:Value}{Q:Unit->SI->Prop}(I:Inv X pins σ H s)(hN:X.N.Nodup)(W:X.N[i]?=some x)(t:Loc X.env.scope x)(r:RelV v u)(h:∀s',Inv X pins (σ.set i (some v)) H s'->(∃a,Heap.SameBut a s.heap s'.heap/\(a=X.env.locals\/X.env.cells.lookup x=some a))->Q () s') (hf:X.fn x=true\/X.env.scope.names.lookup x=some .local:=by first | exact .inl rfl | exact .inr rfl | symm):zAB M A (storeName X.env x u) Q E s:=by
 obtain⟨m,hn,hl⟩:=id I.loc;have R:(X.env.scope.kind == .class||(X.env.scope.kind == .module&&X.env.locals != X.env.globals))=false:=by rw[I.ok.kind]; rfl
 have O:i < σ.length:=by rw[I.len]; grind
 have J:=I.Kn;have l:∀{a:M1} {h':Heap},(∃o,s.heap.get? a=some o/\H a=none)->Heap.SameBut a s.heap h'->fO X.prog X.w H h':=λ{a h'} ha f b ob e=>by refine (I.hok b ob e).stay (λc S w q=>(f.2 c ?_).trans q) (by simp) (by simp);grind
 rcases t with C | C
 ·refine wpAny_storeName_local C hn (λh' hn' f=>?_) R;obtain⟨oL,_,_,VX,_⟩:=id hn;refine h _ ⟨I.ok,I.os,I.bare,⟨λb o e n D t=>?_,λb o e n D t=>?_,I.base.free,λb o e t=>?_,I.base.tups,I.base.kO,I.base.lD⟩,⟨_,hn',λj y v' g B e3=>?_⟩,λy c e=>?_,I.free,I.gg,λp Z=>?_,l ⟨oL,VX,I.free⟩ f,by simpa using I.len⟩ (by grind);·exact (f.2 b (zAe (wT (v4 e) I.ok.above))).trans (I.base.keep b o e n D t)
  ·obtain⟨sl,g⟩:=I.base.slot b o e n D t;exact⟨sl,(f.2 b (zAe (wT (v4 e) I.ok.above))).trans g⟩
  ·obtain⟨o',g⟩:=I.base.there b o e t;exact⟨o',(f.2 b (zAe (wT (v4 e) I.ok.above))).trans g⟩
  ·by_cases F:j=i
   ·subst F;rw[W] at g; cases g;rw[List.getElem?_set_self O] at B;cases B;exact⟨u,r,.inl ⟨C,by simp⟩⟩
   ·rw[List.getElem?_set_ne (Ne.symm F)] at B;obtain⟨Y,r',q⟩:=hl j y v' g B e3;refine⟨Y,r',?_⟩;rcases q with ⟨k,e⟩ | ⟨k,c,e,z⟩
    ·refine .inl ⟨k,?_⟩;have:y≠x:=λe=>F (yt hN g (e ▸ W));simp [this,e]
    ·exact .inr ⟨k,c,e,z.sameBut f (J y c e)⟩
  ·obtain⟨S,z⟩:=I.cell y c e;exact⟨S,z.sameBut f (J y c e)⟩
  ·obtain⟨e,n,U,nf,d⟩:=I.pin p Z;exact⟨(f.2 p.1 U).trans e,n,U,nf,d⟩
 ·have G:X.fn x=true:=by
   rcases hf with z | z;·exact z
   ·rw[z] at C; cases C
  obtain⟨c,w⟩:=I.ok.has x (.inl C);obtain⟨S,z⟩:=I.cell x c w;refine wpAny_storeName_cell I.ok.kind C w z (λh' L f=>?_);obtain⟨oc,N,P⟩:=id z;refine h { s with heap:=h' } ⟨I.ok,I.os,I.bare,⟨λb o e n D t=>?_,λb o e n D t=>?_,I.base.free,λb o e t=>?_,I.base.tups,I.base.kO,I.base.lD⟩,⟨m,hn.sameBut f (Ne.symm (J x c w)),λj y v' g B e3=>?_⟩,λy T e=>?_,I.free,I.gg,λp Z=>?_,l ⟨oc,N,I.gg x c w⟩ f,by simpa using I.len⟩ ⟨c,f,.inr w⟩;·exact (f.2 b (zAe (wT (v4 e) (I.ok.BN x c G w)))).trans (I.base.keep b o e n D t)
  ·obtain⟨sl,g⟩:=I.base.slot b o e n D t;exact⟨sl,(f.2 b (zAe (wT (v4 e) (I.ok.BN x c G w)))).trans g⟩
  ·obtain⟨o',g⟩:=I.base.there b o e t;exact⟨o',(f.2 b (zAe (wT (v4 e) (I.ok.BN x c G w)))).trans g⟩
  ·by_cases F:j=i
   ·subst F;rw[W] at g; cases g;rw[List.getElem?_set_self O] at B;cases B;exact⟨u,r,.inr ⟨.inl C,c,w,L⟩⟩
   ·rw[List.getElem?_set_ne (Ne.symm F)] at B;obtain⟨Y,r',q⟩:=hl j y v' g B e3;refine⟨Y,r',?_⟩;rcases q with q | ⟨k,T,e,z'⟩;·exact .inl q
    ·refine .inr ⟨k,T,e,z'.sameBut f ?_⟩;rintro rfl;exact F (yt hN g (I.ok.inj _ _ _ e w ▸ W))
  ·by_cases K:T=c;·subst K; exact⟨_,L⟩
   ·obtain⟨w2,z2⟩:=I.cell y T e;exact⟨w2,z2.sameBut f K⟩
  ·obtain⟨e,n,U,nf,d⟩:=I.pin p Z;refine⟨(f.2 p.1 ?_).trans e,n,U,nf,d⟩;intro q;rw[q,N] at e;have q':oc=p.2:=zA4 e;exact d S (by rw[<-q']; exact P)
theorem tT {M:zEK}{A:zAI}{E:zzE}{i:Nat}{x:Str}{v:V}{u:Value}{Q:Unit->SI->Prop}(I:Inv X pins σ H s)(a:X.N.Nodup)(c:X.N[i]?=some x)(d:Loc X.env.scope x)(r:RelV v u)(h:∀s',Inv X pins (σ.set i (some v)) H s'->Q () s') (e:X.fn x=true\/X.env.scope.names.lookup x=some .local:=by first | exact .inl rfl | exact .inr rfl | symm):zAB M A (storeName X.env x u) Q E s:= BO I a c d r (λs' b _=>h s' b) e
theorem Inv.Jg (I:Inv X pins σ H s)(g:s'.os=s.os)(u:Un (frs X.stack) ch H H' s.heap s'.heap)(d:fO X.prog X.w H' s'.heap)(f:zCY s'.gens)(a:∀b∈ch,(b∈X.ex\/X.s₀.heap.objs.size<=b)/\b≠X.env.locals/\(∀x c,X.env.cells.lookup x=some c->c≠b)/\∀p∈X.pn++pins,p.1≠b):Inv X pins σ H' s':=by obtain⟨h',i,h,j,k⟩:=s';have e:=g;subst e;exact I.call u d f a
end
abbrev XK:=Value->Option M1->Hp->Prop
abbrev St:=List (Option V)
abbrev VK:=V->Hp->Prop
abbrev TE:=St->Hp->VK->Prop
abbrev TT:=St->Hp->(Bool->Hp->Prop)->Prop
abbrev TA:=St->Hp->(List V->Hp->Prop)->Prop
structure Ends where
 nx:St->Hp->Prop
 rt:VK
 bk:St->Hp->Prop:=λ_ _=>False
 ct:St->Hp->Prop:=λ_ _=>False
abbrev TS:=Ends->St->Hp->Prop
noncomputable def EP (X:Cx)(a:zzC)(σ:St)(Q:VK)(u:Value)(s':SI):Prop:=∃v b,Inv X a σ b s'/\RelV v u/\Q v b
noncomputable def TP (X:Cx)(a:zzC)(σ:St)(Q:Bool->Hp->Prop)(b:Bool)(s':SI):Prop:=∃c,Inv X a σ c s'/\Q b c
noncomputable def AP (X:Cx)(a:zzC)(σ:St)(Q:List V->Hp->Prop)(us:List Value)(s':SI):Prop:=∃b c,Inv X a σ c s'/\Vals b us/\Q b c
noncomputable def SP (X:Cx)(a:zzC)(D:Ends)(f:Flow)(s':SI):Prop:= match f with| .next=>∃c b,Inv X a c b s'/\D.nx c b| .brk=>∃c b,Inv X a c b s'/\D.bk c b| .cont=>∃c b,Inv X a c b s'/\D.ct c b| .ret u=>∃v c b,Inv X a c b s'/\RelV v u/\D.rt v b
noncomputable def PE (X:Cx)(e:zAU)(t:TE):Prop:= ∀(a:zzC) (s:SI) (σ:St) (H:Hp) (Q:VK),Inv X a σ H s->t σ H Q->zAB (zAC X.prog X.w) X.A (zAP e X.env) (EP X a σ Q) X.xe s
noncomputable def PT (X:Cx)(e:zAU)(t:TT):Prop:= ∀(a:zzC) (s:SI) (σ:St) (H:Hp) (Q:Bool->Hp->Prop),Inv X a σ H s->t σ H Q->zAB (zAC X.prog X.w) X.A (zEJ e X.env (zAP e X.env)) (TP X a σ Q) X.xe s
noncomputable def PW (X:Cx)(e:zAU)(t:TT):Prop:= ∀(b:Sem Value) (a:zzC) (s:SI) (σ:St) (H:Hp) (Q:Bool->Hp->Prop),Inv X a σ H s->t σ H Q->zAB (zAC X.prog X.w) X.A (zEJ e X.env b) (TP X a σ Q) X.xe s
theorem PW.pt (h:PW X e t):PT X e t:=h _
noncomputable def PA (X:Cx)(es:List zAU)(t:TA):Prop:= ∀(b:Pos) (a:zzC) (s:SI) (σ:St) (H:Hp) (Q:List V->Hp->Prop),Inv X a σ H s->t σ H Q->zAB (zAC X.prog X.w) X.A (spliced (zAW b (zAG es X.env))) (AP X a σ Q) X.xe s
noncomputable def PS (X:Cx)(st:zAM)(t:TS):Prop:= ∀(a:zzC) (s:SI) (σ:St) (H:Hp) (D:Ends),Inv X a σ H s->t D σ H->zAB (zAC X.prog X.w) X.A (exec st X.env) (SP X a D) X.xe s
noncomputable def o8 (X:Cx)(st:List zAM)(t:TS):Prop:= ∀(a:zzC) (s:SI) (σ:St) (H:Hp) (D:Ends),Inv X a σ H s->t D σ H->zAB (zAC X.prog X.w) X.A (execs st X.env) (SP X a D) X.xe s
theorem aM (h:zAB M A t Q E s)(c:∀a s,Q a s->b a s):zAB M A t b E s:=zB1 h c λ_ _ x=>x
section
variable {X:Cx}
theorem bin (m:PE X a j)(o:PE X b i){R:V->V->Hp->Prop}(I:Inv X c σ H s)(h:j σ H λx g=>i σ g λy d=>R x y d){f:Value->Value->Sem α}(w:∀v u e x y d,Inv X c σ d e->RelV x v->RelV y u->R x y d->zAB (zAC X.prog X.w) X.A (f v u) Q X.xe e) : zAB (zAC X.prog X.w) X.A (zAP a X.env) (λv p=>zAB (zAC X.prog X.w) X.A (zAP b X.env) (λu k=>zAB (zAC X.prog X.w) X.A (f v u) Q X.xe k) X.xe p) X.xe s:=by exact aM (m c s σ H _ I h) λv t ⟨x,g,r,q,A⟩=>(aM (o c t σ g _ r A) λu e ⟨y,d,l,z,n⟩=>(w v u e x y d l q z n))
noncomputable def b_ (i:Nat):TE:=fun σ H Q=>∃v,σ[i]?=some (some v)/\Q v H
noncomputable def tC (v:V):TE:=λ_ H Q=>Q v H
theorem RS (o:X.N[i]?=some x)(t:OH X.env.scope x)(g:(x == ("__debug__":Str))=false:=by decide)(j:(x == ("__classdict__":Str))=false:=by decide):PE X (.Name x k) (b_ i):=by
 intro f s σ H Q I h;obtain⟨v,e,h⟩:=h;obtain⟨m,q,p⟩:=I.loc;obtain⟨u,r,l⟩:=p i x v o e t;have d:EP X f σ Q u s:=⟨v,H,I,r,h⟩;rcases l with ⟨b,w⟩ | ⟨b,c,n,a⟩;·exact wpAny_Name (wpAny_loadName_local I.ok.kind b q w d) g
 ·rcases b with b | b;·exact wpAny_Name (wpAny_loadName_cell I.ok.kind b n a d) g
  ·exact wpAny_Name (wpAny_loadName_free I.ok.kind b n a d j) g
theorem av:PE X (.Constant (.int i) j a) (tC (.int i)):=λ_ _ _ H _ I h=>wpAny_Constant_int ⟨.int i,H,I.tok _,⟨_,rfl⟩,h⟩
theorem nu:PE X (.Constant (.bool b) j a) (tC (.bl b)):=λ_ _ _ H _ I h=>Constant_bool ⟨.bl b,H,I,rfl,h⟩
theorem Dz:PE X (.Constant .none j a) (tC .aT):=λ_ _ _ H _ I h=>Constant_none ⟨.aT,H,I,rfl,h⟩
theorem dB:PE X (.Constant (.str x) j b) (tC (.str x)):=λ_ _ _ H _ I h=>Calls.Constant_str ⟨.str x,H,I.tok _,⟨_,rfl⟩,h⟩
noncomputable def Gl (X:Cx)(x:Str):Prop:=X.env.kindOf x=some .globalImplicit
theorem oV {E:zzE}{b:zzC}{s:SI}{σ:St}{H:Hp}{x:Str}{u:Value}{c:Pos}{Q:zzE}(I:Inv X b σ H s)(e:Gl X x)(d:X.mg x=some u)(h:Q u s)(f:(x == ("__debug__":Str))=false:=by decide):zAB (zAC X.prog X.w) X.A (zAP (.Name x c) X.env) Q E s:= Calls.Name_function_global I.ok.kind e (Calls.loadGlobal_global (by rw[I.ok.glob]; exact I.mod.glob.keeps I.bk) d h) f
theorem nF {E:zzE}{b:zzC}{s:SI}{σ:St}{H:Hp}{x:Str}{u:Value}{c:Pos}{Q:zzE}(I:Inv X b σ H s)(g:Gl X x)(d:X.mg x=none)(k:zCE x=some u)(h:Q u s)(j:x≠"__name__":=by decide) (f:(x == ("__debug__":Str))=false:=by decide):zAB (zAC X.prog X.w) X.A (zAP (.Name x c) X.env) Q E s:=by obtain⟨i,e,l⟩:=I.mod.blt;exact Calls.Name_function_global I.ok.kind g (Calls.loadGlobal_builtin (by rw[I.ok.glob]; exact I.mod.glob.keeps I.bk) d (by rw[I.ok.blt]; exact e.keeps I.bk) (by ext) h) f
theorem bQ (c:Gl X x)(b:X.mg x=some u)(r:RelV v u)(d:(x == ("__debug__":Str))=false:=by decide):PE X (.Name x a) (tC v):= λ_ _ _ H _ I h=>oV I c b ⟨v,H,I,r,h⟩ d
theorem G0 (e:Gl X x)(b:X.mg x=none)(c:zCE x=some u)(r:RelV v u)(d:x≠"__name__":=by decide)(f:(x == ("__debug__":Str))=false:=by decide):PE X (.Name x a) (tC v):= λ_ _ _ H _ I h=>nF I e b c ⟨v,H,I,r,h⟩ d f
variable {a b:zAU}{ta tb:TE}{pos:Pos}
noncomputable def PC (X:Cx)(op:CmpOp)(a b:zAU)(t:TE):Prop:= ∀(c:zzC) (s:SI) (σ:St) (H:Hp) (Q:VK),Inv X c σ H s->t σ H Q-> zAB (zAC X.prog X.w) X.A (zAP a X.env) (λv e=>zAB (zAC X.prog X.w) X.A (zAP b X.env) (λu d=>zAB (zAC X.prog X.w) X.A (zAO op v u) (EP X c σ Q) X.xe d) X.xe e) X.xe s
theorem DA (b:zAU)(h:op≠.In)(e:op≠.NotIn):zBB op b=false:=by
 have c:(op == CmpOp.In)=false:=by ext
 have d:(op == CmpOp.NotIn)=false:=by ext
 cases b <;> simp [zBB,c,d]
noncomputable def RT (ta:TE):TE:=fun σ H Q=>ta σ H λx c=>Q (.bl (decide (x=.aT))) c
noncomputable def VB (ta:TE):TE:=fun σ H Q=>ta σ H λx c=>Q (.bl (!decide (x=.aT))) c
theorem RelV.DB (r:RelV x v):(v == Value.none)=decide (x=.aT):=by cases x with| aT=>cases r; rfl| bl _=>cases r; rfl| int _=>obtain⟨t,rfl⟩:=r; rfl| str _=>obtain⟨t,rfl⟩:=r; rfl| nE _=>obtain⟨t,rfl⟩:=r; rfl| BK _=>obtain⟨t,rfl⟩:=r; rfl| ref _=>cases r; rfl| ty _=>cases r; rfl
theorem DC (k:PE X a ta):PC X .Is a (.Constant .none j d) (RT ta):=by intro c s σ H Q I h;exact aM (k c s σ H _ I h) λv l ⟨x,i,f,e,g⟩=>(Constant_none (is_none_gen ⟨.bl _,i,f,by rw[e.DB]; rfl,g⟩))
theorem Qo (k:PE X a ta):PC X .IsNot a (.Constant .none j d) (VB ta):=by intro c s σ H Q I h;exact aM (k c s σ H _ I h) λv l ⟨x,i,f,e,g⟩=>(Constant_none (isnot_none_gen ⟨.bl _,i,f,by rw[e.DB]; rfl,g⟩))
noncomputable def tB (t:TE):TT:=fun σ H Q=>t σ H λx d=>∃c,x=.bl c/\Q c d
theorem Ko (h:PC X op a b t)(d:zBB op b=false:=by first | exact DA _ (by decide) (by decide) | rfl):PE X (.Compare a [op] [b] pos) t:=λc s σ H Q I e=>wpAny_Compare1 (h c s σ H Q I e) d
theorem lE (h:PC X op a b t)(f:zBB op b=false:=by first | exact DA _ (by decide) (by decide) | rfl):PT X (.Compare a [op] [b] pos) (tB t):=by intro e s σ H Q I i;refine wpAny_isTrue_Compare1 (aM (h e s σ H _ I i) λv p f=>aM f λu o n=>aM n λc r g=>?_) f;obtain⟨x,l,k,j,m⟩:=g;obtain⟨d,rfl,q⟩:=m;cases j;exact zBu ⟨l,k,q⟩
theorem o9 (h:PE X e t)(m:∀c,zEJ e X.env c=(do let v <-c; zDK e.pos; zCP [v] (truthy v)):=by intro _; rfl):PT X e (tB t):=by intro f s σ H Q I l;refine isTrue_plain (aM (h f s σ H _ I l) λv n ⟨x,g,j,i,k⟩=>?_) (m _);obtain⟨d,rfl,q⟩:=k;cases i;exact zBu ⟨g,j,q⟩
variable {tA OI:TT}{rest:List zAU}
noncomputable def RU (t u:TT):TT:=fun σ H Q=>t σ H λc d=>if c=true then u σ d Q else Q false d
noncomputable def OJ (t u:TT):TT:=fun σ H Q=>t σ H λc d=>if c=true then Q true d else u σ d Q
noncomputable def RV (t:TT):TT:=fun σ H Q=>t σ H λc d=>Q (!c) d
theorem G6 (f:PT X a tA):PW X (.BoolOp .And [a] pos) tA:=by intro g d s σ H Q I h;refine isTrue_and (aM (f d s σ H Q I h) λc i e=>?_);cases c with| true=>exact isTrue_and_nil e| false=>symm
theorem vo (f:PT X a tA):PW X (.BoolOp .Or [a] pos) tA:=by intro g d s σ H Q I h;refine isTrue_or (aM (f d s σ H Q I h) λc i e=>?_);cases c with| false=>exact isTrue_or_nil e| true=>symm
theorem Kp (j:PT X a tA)(l:PW X (.BoolOp .And (b::rest) pos) OI):PW X (.BoolOp .And (a::b::rest) pos) (RU tA OI):=by intro e d s σ H Q I h;refine isTrue_and (aM (j d s σ H _ I h) λc k ⟨g,f,i⟩=>?_);cases c with| true=>exact l e d k σ g Q f i| false=>symm
theorem qv (j:PT X a tA)(l:PW X (.BoolOp .Or (b::rest) pos) OI):PW X (.BoolOp .Or (a::b::rest) pos) (OJ tA OI):=by intro e d s σ H Q I h;refine isTrue_or (aM (j d s σ H _ I h) λc k ⟨g,f,i⟩=>?_);cases c with| true=>symm| false=>exact l e d k σ g Q f i
theorem o_ (d:PT X a tA):PT X (.UnaryOp .Not a pos) (RV tA):=by intro c s σ H Q I h;exact isTrue_not (d c s σ H _ I h)
noncomputable def OL (ta tb:TE):TE:=fun σ H Q=>ta σ H λx d=>∃c,x=.bl c/\if c=true then tb σ d Q else Q (.bl false) d
theorem DE (h:PE X a t):PE X (.BoolOp op [a] pos) t:=λc s σ H Q I d=>BoolOp_one (h c s σ H Q I d)
theorem DF (l:PE X a ta)(i:PE X (.BoolOp .And (b::rest) pos) tb):PE X (.BoolOp .And (a::b::rest) pos) (OL ta tb):=by intro d s σ H Q I h;refine BoolOp_and (aM (l d s σ H _ I h) λv j m=>?_);obtain⟨x,f,g,k,e⟩:=m;obtain⟨c,rfl,e⟩:=e;cases k;refine zBu ?_;cases c with| true=>exact i d j σ f Q g e| false=>exact⟨.bl false,f,g,rfl,e⟩
noncomputable def VY (t:TT)(ta tb:TE):TE:=fun σ H Q=>t σ H λc d=>if c=true then ta σ d Q else tb σ d Q
theorem yu (m:PT X c tA)(l:PE X a ta)(k:PE X b tb):PE X (.IfExp c a b pos) (VY tA ta tb):=by intro e s σ H Q I h;refine wpAny_IfExp (aM (m e s σ H _ I h) λd i ⟨j,g,f⟩=>?_);cases d with| true=>exact l e i σ j Q g f| false=>exact k e i σ j Q g f
end
noncomputable def az (K:zzA)(H:Hp)(a:M1)(xs:List V):Prop:= Rd H a (.lst xs)\/ ∃(o:Obj) (b:Array Value) (n:Nat),K.lookup a=some o/\o.cls=.type "list"/\o.dict=none/\o.data=.seq b n/\b.size<=PK/\Vals xs b.toList
noncomputable def aG (K:zzA)(H:Hp)(a:M1)(xs:List V):Prop:= Rd H a (.tup xs)\/ ∃(o:Obj) (b:Array Value) (n:Nat),K.lookup a=some o/\o.cls=.type "tuple"/\o.data=.seq b n/\b.size<=PK/\Vals xs b.toList
def DG:Value->Option V| .none=>some .aT| .bool b=>some (.bl b)| .int i _=>some (.int i)| .str x _=>some (.str x)| .bytes b _=>some (.nE b)| .float b _=>some (.BK b)| .ref a=>some (.ref a)| .type n=>some (.ty n)| _=>none
theorem RelV.abs (r:RelV x u):DG u=some x:=by cases x with| aT=>cases r; rfl| bl _=>cases r; rfl| int _=>obtain⟨t,rfl⟩:=r; rfl| str _=>obtain⟨t,rfl⟩:=r; rfl| nE _=>obtain⟨t,rfl⟩:=r; rfl| BK _=>obtain⟨t,rfl⟩:=r; rfl| ref _=>cases r; rfl| ty _=>cases r; rfl
theorem RelV.inj (r:RelV x u)(q:RelV y u):x=y:=zA4 (r.abs.symm.trans q.abs)
theorem Vals.inj:∀{xs ys:List V} {us:List Value},Vals xs us->Vals ys us->xs=ys| _,_,_,.nil,.nil=>rfl| _,_,_,.cons r t,.cons a b=>by rw[r.inj a,Vals.inj t b]
section
variable {X:Cx}{pins:zzC}{σ:St}{H:Hp}{s:SI}{a:M1}{xs ys:List V}
theorem az.of {K:zzA}(h:H a=some (.lst xs)):az K H a xs:=.inl (.inl h)
theorem aG.of {K:zzA}(h:H a=some (.tup xs)):aG K H a xs:=.inl (.inl h)
theorem Inv.list (I:Inv X pins σ H s)(h:az X.K H a xs):∃its:List Value,Vals xs its/\PlainL s.heap a its.toArray/\xs.length<=PK:=by
 rcases h with h | ⟨o,its,n,b,d,c,g,f,r⟩
 ·obtain⟨z,its,n,r,e⟩:=h.ok I.hok;exact⟨its,r,⟨_,n,e,rfl,rfl,rfl⟩,z⟩
 ·refine⟨its.toList,r,⟨o,n,I.gR a o b,d,c,by symm⟩,?_⟩;have e:=r.length;ext
theorem Inv.tuple (I:Inv X pins σ H s)(h:aG X.K H a xs):∃its:List Value,Vals xs its/\IsTup s.heap a its.toArray/\xs.length<=PK:=by
 rcases h with h | ⟨o,its,n,c,b,d,f,r⟩
 ·obtain⟨z,its,r,p⟩:=h.ok I.hok;exact⟨its,r,p,z⟩
 ·refine⟨its.toList,r,⟨o,I.gR a o c,b,n,by simpa using d⟩,?_⟩;have e:=r.length;simp only [zAq] at e;ext
theorem Inv.tU (I:Inv X pins σ H s)(h:az X.K H a xs)(h':az X.K H a ys):xs=ys:=by
 obtain⟨c,r,⟨o,n,e,_,_,d⟩,_⟩:=I.list h;obtain⟨b,f,⟨i,j,k,_,_,g⟩,_⟩:=I.list h';have:c=b:=by ext
 subst this;exact r.inj f
theorem Inv.Kq (I:Inv X pins σ H s)(h:aG X.K H a xs)(h':aG X.K H a ys):xs=ys:=by
 obtain⟨c,r,⟨o,e,_,n,d⟩,_⟩:=I.tuple h;obtain⟨b,f,⟨i,k,_,j,g⟩,_⟩:=I.tuple h';have:c=b:=by ext
 subst this;exact r.inj f
end
abbrev Cx.q3 (X:Cx) (E:zzE):Cx:={ X with xe:=E }
abbrev Cx.OM (X:Cx):Cx:=X.q3 λ_ _=>False
theorem Cx.Ok.q3 {X:Cx}(a:X.Ok)(E:zzE):(X.q3 E).Ok:=⟨a.mod,a.kind,a.glob,a.blt,a.above,a.inj,a.has,a.BN,a.hd,a.frames,a.stk,a.GY,a.bs,a.rV,a.vm,a.vn,a.kP,a.xY⟩
theorem Cx.Ok.nG {X:Cx}(a:(X.q3 E).Ok):X.Ok:=⟨a.mod,a.kind,a.glob,a.blt,a.above,a.inj,a.has,a.BN,a.hd,a.frames,a.stk,a.GY,a.bs,a.rV,a.vm,a.vn,a.kP,a.xY⟩
section
variable {X:Cx}{pins:zzC}{σ:St}{H:Hp}{s:SI}{E:zzE}
theorem Inv.q3 (I:Inv X pins σ H s)(E:zzE):Inv (X.q3 E) pins σ H s:=⟨I.ok.q3 E,I.os,I.bare,I.base,I.loc,I.cell,I.free,I.gg,I.pin,I.hok,I.len⟩
theorem Inv.nG (I:Inv (X.q3 E) pins σ H s):Inv X pins σ H s:=⟨I.ok.nG,I.os,I.bare,I.base,I.loc,I.cell,I.free,I.gg,I.pin,I.hok,I.len⟩
theorem SP.nG (h:SP (X.q3 E) pins D f s'):SP X pins D f s':=by cases f with| next=>obtain⟨a,b,I,q⟩:=h; exact⟨a,b,I.nG,q⟩| brk=>obtain⟨a,b,I,q⟩:=h; exact⟨a,b,I.nG,q⟩| cont=>obtain⟨a,b,I,q⟩:=h; exact⟨a,b,I.nG,q⟩| ret u=>obtain⟨v,a,b,I,r,q⟩:=h; exact⟨v,a,b,I.nG,r,q⟩
theorem o8.OM {st:List zAM}(h:o8 X.OM st t):o8 X st t:=λpins s σ H D I a=> zB1 (h pins s σ H D (I.q3 _) a) (λ_ _ q=>q.nG) λ_ _ z=>False.elim z
end
section
variable {X:Cx}{st:zAM}{rest:List zAM}{t u:TS}{e:zAU}{te:TE}{pos:Pos}
noncomputable def tV:TS:=λD σ H=>D.nx σ H
noncomputable def fj (t u:TS):TS:=λD σ H=>t { D with nx:=u D } σ H
theorem bf:o8 X [] tV:=λ_ _ σ H _ I h=>zCV ⟨σ,H,I,h⟩
theorem aj (d:PS X st t)(j:o8 X rest u):o8 X (st::rest) (fj t u):=by intro a s σ H D I h;refine wpAny_execs_cons (aM (d a s σ H _ I h) λf i q=>?_);cases f with| next=> obtain⟨g,b,c,q⟩:=q;exact j a i g b D c q| ret v=>symm| brk=>symm| cont=>symm
theorem au (b:PS X st t):o8 X [st] t:=by intro a s σ H D I h;refine wpAny_execs_cons (aM (b a s σ H D I h) λf c q=>?_);cases f with| next=>exact zCV q| ret v=>symm| brk=>symm| cont=>symm
theorem Inv.quiet (I:Inv X a σ H s):interactive X.env=false:=by simp [interactive,I.ok.kind]
noncomputable def zu (te:TE):TS:=λD σ H=>te σ H λ_ a=>D.nx σ a
theorem dR (g:PE X e te)(f:zBX e none pos.line X.env=pure false:=by rfl):PS X (.Expr e pos) (zu te):=by intro a s σ H D I h;exact wpAny_Expr_any (aM (g a s σ H _ I h) λv j ⟨x,b,d,i,c⟩=>⟨σ,b,d,c⟩) I.quiet f
noncomputable def DH (te:TE):TS:=λD σ H=>te σ H D.rt
theorem aH (g:PE X e te):PS X (.Return (some e) pos) (DH te):=by intro a s σ H D I h;exact wpAny_Return_some (aM (g a s σ H _ I h) λv i ⟨x,b,d,c,f⟩=>⟨x,σ,b,d,c,f⟩)
noncomputable def vp (c:TT)(t u:TS):TS:=λD σ H=>c σ H λb a=>if b=true then t D σ a else u D σ a
theorem bT (n:PT X c l)(o:o8 X a t)(m:o8 X b u):PS X (.If c a b pos) (vp l t u):=by intro f s σ H D I h;refine wpAny_If (aM (n f s σ H _ I h) λd k ⟨j,i,g⟩=>?_);cases d with| true=>exact o f k σ j D i g| false=>exact m f k σ j D i g
end
abbrev TG:=V->St->Hp->(St->Hp->Prop)->Prop
abbrev G7:=List V->St->Hp->(St->Hp->Prop)->Prop
noncomputable def PG (X:Cx)(a:zAU)(t:TG):Prop:= ∀(b:zzC) (s:SI) (σ:St) (H:Hp) (v:V) (u:Value) (Q:St->Hp->Prop),Inv X b σ H s->RelV v u->t v σ H Q-> zAB (zAC X.prog X.w) X.A (assign a X.env u) (λ_ e=>∃d c,Inv X b d c e/\Q d c) X.xe s
noncomputable def Kr (X:Cx)(ts:List zAU)(t:G7):Prop:= ∀(a:zzC) (s:SI) (σ:St) (H:Hp) (c:List V) (d:List Value) (Q:St->Hp->Prop),Inv X a σ H s->Vals c d->t c σ H Q-> zAB (zAC X.prog X.w) X.A (assignInOrder ((zCL ts X.env).map (·.2)) d) (λ_ f=>∃e b,Inv X a e b f/\Q e b) X.xe s
section
variable {X:Cx}{pos:Pos}
noncomputable def cz (i:Nat):TG:=λv σ H Q=>Q (σ.set i (some v)) H
theorem Qp (b:X.N.Nodup)(c:X.N[i]?=some x)(d:Loc X.env.scope x)(e:X.fn x=true\/X.env.scope.names.lookup x=some .local:=by first | exact .inl rfl | exact .inr rfl | symm):PG X (.Name x pos) (cz i):=by intro a s σ H v u Q I r h;exact wpAny_assign_Name (tT I b c d r (λg f=>⟨_,H,f,h⟩) e)
noncomputable def yv:G7:=λa σ H Q=>a=[]/\Q σ H
noncomputable def jz (t:TG)(u:G7):G7:=λa σ H Q=>∃v r,a=v::r/\t v σ H λc b=>u r c b Q
theorem gn:Kr X [] yv:=by intro a s σ H b c Q I r h;obtain⟨e,h⟩:=h;exact assignInOrder_nil (by grind)
theorem bg (i:PG X e t)(b:Kr X es u)(l:(zCL (e::es) X.env).map (·.2)=assign e X.env::(zCL es X.env).map (·.2):=by rfl):Kr X (e::es) (jz t u):=by intro a s σ H q p Q I r h;obtain⟨v,o,f,h⟩:=h;subst f;cases r with| cons r d=> rw[l];refine assignInOrder_cons (aM (i a s σ H _ _ _ I r h) λ_ c m=>?_);obtain⟨j,n,g,k⟩:=m;exact b a c j n _ _ Q g d k
noncomputable def vq (K:zzA)(n:Nat)(t:G7):TG:=λv σ H Q=>∃a c,v=.ref a/\aG K H a c/\c.length=n/\t c σ H Q
theorem RW {k:Nat}(y:X.calm=true)(h:Kr X es t)(l:(zCL es X.env).length=n:=by rfl) (f:(zCL es X.env).findIdx? (·.1)=none:=by rfl):PG X (.Tuple es k pos) (vq X.K n t):=by intro c s σ H v u Q I r d;obtain⟨a,q,j,g,i,d⟩:=d;subst j;cases r;obtain⟨w,z,m,A⟩:=I.tuple g;refine assign_Tuple_tuple (I.ok.hd y) m (by simp [l,<-i,z.length]) f λB x=>?_;have p:=I.kept (t':=s.toks) λb o e=>x b o (zAe (v4 e)) e;exact h c _ σ H q _ Q p ‹_› d
noncomputable def AO (a:TE)(g:TG):TS:=λD σ H=>a σ H λx b=>g x σ b D.nx
theorem RX (d:X.N.Nodup)(l:X.N[i]?=some x)(f:Loc X.env.scope x)(p:PE X e c)(k:zBX e (some (.Name x a)) pos.line X.env=pure false:=by rfl)(q:X.fn x=true\/X.env.scope.names.lookup x=some .local:=by first | exact .inl rfl | exact .inr rfl | symm) : PS X (.Assign [.Name x a] e pos) (AO c (cz i)):=by intro b s σ H D I h;refine wpAny_Assign_Name (aM (p b s σ H _ I h) λv t r=>?_) k;obtain⟨y,g,o,n,j⟩:=r;exact tT o d l f n (λu m=>⟨_,g,m,j⟩) q
end
structure It where
 go:Nat->Hp->Prop
 DI:Nat->Hp->V->Hp->Prop
 stop:Nat->Hp->Prop
noncomputable def lF (X:Cx)(a:zzC)(H:Hp)(b:M1):Prop:= H b=none/\b≠X.env.locals/\b∉X.fs/\(b∈X.ex\/X.s₀.heap.objs.size<=b)/\(∀x c,X.env.cells.lookup x=some c->c≠b)/\∀p∈X.pn++a,p.1≠b
theorem Inv.yw {X:Cx}{a:zzC}{σ:St}{H H':Hp}{s:SI}{b:M1}(I:Inv X a σ H s)(d:s.heap.objs.size<=b)(g:H' b=none):lF X a H' b:=by
 refine⟨g,Nat.ne_of_gt (wT I.lt d),I.XA d,.inr (zAu I.sz d),λx c e z=>?_,λp f z=>?_⟩
 ·obtain⟨v,q⟩:=I.cell x c e;exact absurd (wT q.lt (by ext)) (zB5 _)
 ·exact absurd (wT (v4 (I.pin p f).1) (by ext)) (zB5 _)
structure Turn (P:zAA)(w:zAD)(K:zzA)(tg:zAU)(J:It)(fp:List M1)(it:M1)(tn:Nat->Heap->Prop):Prop where
 mem:it∈fp
 obj:∀i h,tn i h->∀b∈fp,∃o,h.get? b=some o/\∀v,o.data≠.cell v
 keep:∀i h h',tn i h->(∀b∈fp,∀o,h.get? b=some o->h'.get? b=some o)->tn i h'
 item:∀(X:Cx),X.prog=P->X.w=w->X.K=K->X.calm=true->∀(i:Nat) (pins:zzC) (s:SI) (σ:St) (H:Hp) (E:zzE),Inv X pins σ H s->(∀b∈fp,lF X pins H b)->tn i s.heap->J.go i H-> zAB (zAC P w) X.A (zCB (.ref it)) (λr s1=>∃u,r=some u/\ zAB (zAC P w) X.A (zCW tg (.ref it) u) (λ_ s2=>∃x H',Inv X pins σ H' s2/\RelV x u/\J.DI i H x H'/\tn (i+1) s2.heap/\∀b∈fp,H' b=none) E s1) E s
 done:∀(X:Cx),X.prog=P->X.w=w->X.K=K->X.calm=true->∀(i:Nat) (pins:zzC) (s:SI) (σ:St) (H:Hp) (E:zzE),Inv X pins σ H s->(∀b∈fp,lF X pins H b)->tn i s.heap->J.stop i H-> zAB (zAC P w) X.A (zCB (.ref it)) (λr s1=>r=none/\Inv X pins σ H s1) E s
 self:∀(A:zAI) (i:Nat) (s:SI) (Q:zzE) (E:zzE),tn i s.heap->Q (.ref it) s->zAB (zAC P w) A (zEE (.ref it)) Q E s
abbrev TI:=St->Hp->(It->Hp->Prop)->Prop
noncomputable def RY (X:Cx)(a:zzC)(σ:St)(i:zAU)(R:It->Hp->Prop)(c:Value)(h:SI):Prop:= ∃(f:M1) (e:List M1) (g:Nat->Heap->Prop) (J:It) (d:Hp),c=.ref f/\Inv X a σ d h/\Turn X.prog X.w X.K i J e f g/\g 0 h.heap/\(∀b∈e,lF X a d b)/\R J d
noncomputable def PI (X:Cx)(d b:zAU)(c:TI):Prop:= ∀(a:zzC) (s:SI) (σ:St) (H:Hp) (R:It->Hp->Prop),Inv X a σ H s->c σ H R-> zAB (zAC X.prog X.w) X.A (zAP b X.env) (λv e=>zAB (zAC X.prog X.w) X.A (zEE v) (RY X a σ d R) X.xe e) X.xe s
theorem zv {M:zEK}{A:zAI}{E:zzE}{s:SI}{c:zAU}{b:M1}{u:Value}{o:Obj}{n:String}{vs:Array Value}{Q:Unit->SI->Prop}(d:s.heap.get? b=some o)(f:o.cls=.type n)(g:o.data=.fields vs)(e:["enumerate","zip","dict_itemiterator","dict_reverseitemiterator","odict_iterator","itertools.zip_longest","itertools.pairwise"].contains n=false) (a:Q () s):zAB M A (zCW c (.ref b) u) Q E s:=by unfold zCW;cases c <;> first| exact y3 a| (cases u <;> first| exact y3 a| (refine yA (wpAny_load d ?_); rw[f,g]; show zAB M A (if (["enumerate","zip","dict_itemiterator","dict_reverseitemiterator","odict_iterator","itertools.zip_longest","itertools.pairwise"].contains n&&vs[0]? == some (zBQ _))=true then _ else _) Q E s; rw[xL (by intro h; rw[e,Bool.false_and] at h; cases h)]; exact y3 a))
noncomputable def pe (K:zzA)(a:M1):It:=⟨λi H=>∃b x,az K H a b/\b[i]?=some x,λi H x d=>d=H/\∀b,az K H a b->b[i]?=some x,λi H=>∃b,az K H a b/\b.length<=i⟩
noncomputable def zw (K:zzA)(a:M1):It:=⟨λi H=>∃b x,aG K H a b/\b[i]?=some x,λi H x d=>d=H/\∀b,aG K H a b->b[i]?=some x,λi H=>∃b,aG K H a b/\b.length<=i⟩
noncomputable def uI (lo:Int)(n:Nat):It:=⟨λi _=>i < n,λi H x a=>a=H/\x=.int (lo+i),λi _=>n<=i⟩
theorem Ks {K:zzA}(a g:M1):Turn P w K S (pe K a) [g] g (λi h=>h.IsListIter g a i) where
 mem:=by simp
 obj:=λi h st b J=>by obtain⟨o,e,c,d⟩:=st;ext
 keep:=λi h N st k=>st.at (by ext);item:=by intro X C A v L i j s σ H E I F st D;subst C A v;refine hold λO z=>?_;obtain⟨V,x,l,M⟩:=D;obtain⟨t,n,p,Q⟩:=I.list l;obtain⟨u,hu,Y⟩:=n.get M;obtain⟨B,q,T,r,G,y⟩:=F g (by simp);refine z ?_;refine wpAny_pyNext_list_item st p.isList (x:=u) (by ext) λN f U=>?_;have R:=I.turned (t':=s.toks) (λb o J e=>(U.2 b J).trans e) B q r G y;obtain⟨o,e,c,d⟩:=id f;exact⟨u,rfl,zv e c d (by decide) ⟨x,H,R,Y,⟨rfl,λZ W=>by rw[I.tU W l]; symm⟩,f,(by ext)⟩⟩
 done:=by intro X C A v L i j s σ H E I F st D;subst C A v;obtain⟨V,l,M⟩:=D;obtain⟨t,n,p,Q⟩:=I.list l;obtain⟨B,q,T,r,G,y⟩:=F g (by simp);have hl:=n.length;exact wpAny_pyNext_list_end (I.ok.hd L) st p.isList (by ext) λN eb=>⟨rfl,I.turned ‹_› B q r G y⟩
 self:=λ_ _ _ _ _ st h=>wpAny_pyIter_listiter st h
theorem Jh {K:zzA}(a g:M1):Turn P w K S (zw K a) [g] g (λi h=>h.IsTupleIter g a i) where
 mem:=by simp
 obj:=λi h st b J=>by obtain⟨o,e,c,d⟩:=st;ext
 keep:=λi h N st k=>st.at (by ext);item:=by intro X C A v L i j s σ H E I F st D;subst C A v;refine hold λO z=>?_;obtain⟨V,x,l,M⟩:=D;obtain⟨t,n,p,Q⟩:=I.tuple l;obtain⟨u,hu,Y⟩:=n.get M;obtain⟨B,q,T,r,G,y⟩:=F g (by simp);refine z ?_;refine wpAny_pyNext_tuple_item st ‹_› (x:=u) (by ext) λN f U=>?_;have R:=I.turned (t':=s.toks) (λb o J e=>(U.2 b J).trans e) B q r G y;obtain⟨o,e,c,d⟩:=id f;exact⟨u,rfl,zv e c d (by decide) ⟨x,H,R,Y,⟨rfl,λZ W=>by rw[I.Kq W l]; symm⟩,f,(by ext)⟩⟩
 done:=by intro X C A v L i j s σ H E I F st D;subst C A v;obtain⟨V,l,M⟩:=D;obtain⟨t,n,p,Q⟩:=I.tuple l;obtain⟨B,q,T,r,G,y⟩:=F g (by simp);have hl:=n.length;exact wpAny_pyNext_tuple_end (I.ok.hd L) st ‹_› (by ext) λN eb=>⟨rfl,I.turned ‹_› B q r G y⟩
 self:=λ_ _ _ _ _ st h=>wpAny_pyIter_tupleiter st h
theorem Ji {K:zzA}(c:M1)(lo:Int)(n:Nat):Turn P w K B (uI lo n) [c] c (λi h=>IsRangeIter h c (lo+(i:Nat) * 1) ((n:Int) - (i:Nat)) 1) where
 mem:=by simp
 obj:=λi h st b F=>by ext
 keep:=λi h f st k=>k c (by simp) _ st;item:=by intro X y z A g i a s σ H E I q st m;subst y z A;obtain⟨l,p,C,u,r,j⟩:=q c (by simp);have W:=Walks.range (prog:=X.prog) (w:=X.w) (I.ok.hd g) c lo 1 n;refine W.item i s _ _ m st λv f G D d J=>?_;obtain⟨t,rfl⟩:=D;have L:Inv X a σ H { s with heap:=f,toks:=G }:=I.turned (λb o F e=>J b o (by ext) e) l p u r j;refine⟨_,rfl,zv d rfl rfl (by decide) ⟨.int _,H,L,⟨t,?_⟩,⟨rfl,rfl⟩,d,(by ext)⟩⟩;simp
 done:=by intro X y z A g i a s σ H E I q st m;obtain⟨l,p,C,u,r,j⟩:=q c (by simp);exact wpAny_pyNext_range_end (I.ok.hd g) st (by have:n<=i:=m; lia) λf M=>⟨rfl,I.turned ‹_› l p u r j⟩
 self:=λ_ _ _ _ _ st h=>wpAny_pyIter_rangeiter st h
section
variable {X:Cx}{tg:zAU}
noncomputable def tW (K:zzA)(d:TE):TI:=fun σ H R=>d σ H λx c=>∃a,x=.ref a/\(∃e,az K c a e)/\R (pe K a) c
noncomputable def DJ (K:zzA)(d:TE):TI:=fun σ H R=>d σ H λx c=>∃a,x=.ref a/\(∃e,aG K c a e)/\R (zw K a) c
theorem Qq (i:PE X l g):PI X tg l (tW X.K g):=by
 intro c s σ H R I h;refine aM (i c s σ H _ I h) λv f m=>?_;obtain⟨x,n,d,t,k⟩:=m;obtain⟨a,e,⟨z,j⟩,q⟩:=k;subst e;cases t;obtain⟨r,w,p,y⟩:=d.list j;refine zBK p.isList ?_;refine⟨f.heap.objs.size,[f.heap.objs.size],_,_,n,rfl,d.kept λb o e=>y4 _ e,Ks a _,⟨_,wE _ rfl,rfl,rfl⟩,λb u=>?_,q⟩;have e:b=f.heap.objs.size:=by ext
 subst e;exact d.yw (y8 _) (d.hok.fresh (y8 _))
theorem RZ (i:PE X l g):PI X tg l (DJ X.K g):=by
 intro c s σ H R I h;refine aM (i c s σ H _ I h) λv f m=>?_;obtain⟨x,n,d,t,k⟩:=m;obtain⟨a,e,⟨z,j⟩,q⟩:=k;subst e;cases t;obtain⟨r,w,p,y⟩:=d.tuple j;refine wpAny_pyIter_tuple ‹_› ?_;refine⟨f.heap.objs.size,[f.heap.objs.size],_,_,n,rfl,d.kept λb o e=>y4 _ e,Jh a _,⟨_,wE _ rfl,rfl,rfl⟩,λb u=>?_,q⟩;have e:b=f.heap.objs.size:=by ext
 subst e;exact d.yw (y8 _) (d.hok.fresh (y8 _))
theorem DK {a:zzC}{σ:St}{H:Hp}{s:SI}{R:It->Hp->Prop}{E:zzE}{lo c:Int}{t u v:Tok}{f:Nat}(I:Inv X a σ H s)(k:-(2 ^ 62)<=lo)(g:lo < 2 ^ 62)(j:-(2 ^ 62)<=c)(h:c < 2 ^ 62)(q:R (uI lo (c - lo).toNat) H):zAB (zAC X.prog X.w) X.A (zEE (.ref s.heap.objs.size)) (RY X a σ tg R) E { s with heap:=s.heap.push { cls:=.type "range",data:=.fields #[.int lo t,.int c u,.int 1 v] },toks:=f }:=by
 refine wpAny_pyIter_range (IsRange.new ..) (small_one k g j h) ?_;have d:Inv X a σ H { s with heap:=s.heap.push { cls:=.type "range",data:=.fields #[.int lo t,.int c u,.int 1 v] },toks:=f }:=I.kept λb o e=>y4 _ e;refine⟨(s.heap.push _).objs.size,[(s.heap.push _).objs.size],_,_,H,rfl, d.kept λb o e=>y4 _ e,Ji _ lo _,?_,λb m=>?_,q⟩
 ·have i:lo+((0:Nat)) * 1=lo:=by simp
  have l:(((c - lo).toNat)) - ((0:Nat))=Builtin.Range.rangeSize lo c 1:=by rw[rangeSize_one]; lia
  rw[i,l];exact wE _ rfl
 ·have e:b=(s.heap.push { cls:=.type "range",data:=.fields #[.int lo t,.int c u,.int 1 v] }).objs.size:=by ext
  subst e;exact d.yw (y8 _) (d.hok.fresh (y8 _))
noncomputable def C7 (c:TA):TI:=fun σ H R=>c σ H λa b=>∃j:Int,a=[.int j]/\-(2 ^ 62)<=j/\j < 2 ^ 62/\R (uI 0 j.toNat) b
noncomputable def Jj (c:TA):TI:=fun σ H R=>c σ H λa b=>∃i j:Int,a=[.int i,.int j]/\(-(2 ^ 62)<=i/\i < 2 ^ 62/\-(2 ^ 62)<=j/\j < 2 ^ 62)/\R (uI i (j - i).toNat) b
theorem fP (w:Gl X "range")(n:X.mg "range"=none)(m:PA X [a] g)(k:zAG [a] X.env=[(false,zAP a X.env)]:=by rfl):PI X tg (.Call (.Name "range" p) [a] [] b) (C7 g):=by intro c s σ H R I h;refine Call_ (nF I w n boot_range (zB0 (aM (m b c s σ H _ I h) λA y o=>?_) k rfl));obtain⟨z,x,u,v,f⟩:=o;obtain⟨j,e,f,i,q⟩:=f;subst e;cases v with| cons r l=> cases l;obtain⟨t,rfl⟩:=r;exact call_range_1 (DK u (by simp) (by simp) f i (by simpa using q))
theorem BP (A:Gl X "range")(n:X.mg "range"=none)(u:PA X [a,b] m)(D:zAG [a,b] X.env=[(false,zAP a X.env),(false,zAP b X.env)]:=by rfl)(l:zAG [b] X.env=[(false,zAP b X.env)]:=by rfl) : PI X tg (.Call (.Name "range" p) [a,b] [] d) (Jj m):=by intro f s σ H R I h;refine Call_ (nF I A n boot_range (zB0 (aM (u d f s σ H _ I h) λE B ⟨C,G,x,o,k⟩=>?_) (by ext) (by rw[l]; rfl)));obtain⟨i,j,e,⟨k,v,z,y⟩,q⟩:=k;subst e;cases o with| cons r g=> cases g with| cons w g=> cases g;obtain⟨t,rfl⟩:=r;obtain⟨F,rfl⟩:=w;exact call_range_2 (DK x k v z y q)
noncomputable def mQ (d:TI)(g:TG)(f:TS):TS:=λD σ H=>d σ H λJ e=>∃W:Nat->Nat->St->Hp->Prop,(∃m,W 0 m σ e)/\∀i m σ H,W i m σ H->(J.stop i H/\D.nx σ H)\/(J.go i H/\∃N:St->Hp->Prop,(∀c a,N c a->∃b,b < m/\W (i+1) b c a)/\∀x a,J.DI i H x a->g x σ a λj h=>f { D with nx:=N,ct:=N,bk:=D.nx } j h)
noncomputable def vt (fp:List M1)(h:Heap):zzC:=fp.filterMap λb=>(h.get? b).map λo=>(b,o)
theorem tX (a:b∈fp)(e:h.get? b=some o):(b,o)∈vt fp h:=List.mem_filterMap.mpr ⟨b,a,by ext⟩
theorem Ku (a:p∈vt fp h):p.1∈fp/\h.get? p.1=some p.2:=by obtain⟨b,c,e⟩:=List.mem_filterMap.mp a;cases q:h.get? b with| none=>ext| some o=> grind
theorem Inv.pinned (I:Inv X a σ H s)(d:∀b∈fp,lF X a H b)(i:∀b∈fp,∃o,s.heap.get? b=some o/\∀v,o.data≠.cell v):Inv X (a++vt fp s.heap) σ H s:= I.GZ λp c=>(w8.mp c).elim (λz=>I.pin p (zA8 _ z)) λz=>by obtain⟨f,e⟩:=Ku z;obtain⟨g,h,j,_⟩:=d _ f;grind
theorem Inv.yy (I:Inv X (a++b) σ H s):Inv X a σ H s:=I.GZ λp c=>I.pin p (by ext)
theorem cQ (L:PassesOwn (zAC X.prog X.w) X.A X.env X.xe)(hc:X.calm=true)(hi:PI X tg c wi)(hg:PG X tg g)(p:o8 X w tb)(hs:∀x,zBL c X.env x=pure x:=by intro _; rfl):PS X (.For tg c w [] Z) (mQ wi g tb):=by
 intro a s σ H D I h;refine wpAny_For (aM (hi a s σ H _ I h) λv s1 h1=>aM h1 λitv s2 h2=>?_) hs;refine hold λYw Y=>?_;obtain⟨it,M,tn,J,H2,e,I2,T,V,f2,W,⟨m0,w0⟩,B⟩:=h2;refine Y ?_;subst e;have l:∀{t:Hp},(∀b∈M,t b=none)->∀b∈M,lF X a t b:=λhn b p=>⟨hn b p,(f2 b p).2⟩;refine codeAny_forLoop_any (λn s'=>∃i E t,Inv X a E t s'/\tn i s'.heap/\(∀b∈M,t b=none)/\W i n E t) ?_ m0 ⟨0,σ,H2,I2,V,λb p=>(f2 b p).1,w0⟩;rintro n s3 ⟨i,F,O,I3,K,C,w3⟩;rcases B i n F O w3 with ⟨G,qn⟩ | ⟨go,N,hN,step⟩
 ·refine zBS L (aM (T.done X rfl rfl rfl hc i a s3 F O X.xe I3 (l C) K G) λr s4 ⟨P,I4⟩=>?_);subst P;exact zCV ⟨F,O,I4,qn⟩
 ·refine zBS L (aM (T.item X rfl rfl rfl hc i a s3 F O X.xe I3 (l C) K go) λr s4 ⟨u,P,h4⟩=>?_);subst P;refine zBS L (aM h4 λ_ s5 S=>?_);obtain⟨x,H5,I5,r5,y5,z,U⟩:=S;have R:=I5.pinned (l U) (T.obj _ _ z);refine zBS L (aM (hg _ s5 F H5 x u _ R r5 (step x H5 y5)) λ_ s6 S=>?_);obtain⟨σ6,H6,I6,q6⟩:=S;refine zBS L (aM (p _ s6 σ6 H6 _ I6 q6) λf Q y=>?_);have again:∀{j:St} {k:Hp},Inv X _ j k Q->N j k->∃m,m < n/\∃i E t,Inv X a E t Q/\tn i Q.heap/\(∀b∈M,t b=none)/\W i m E t:=λ{j k} q A=>by obtain⟨m',hm,w7⟩:=hN j k A;refine⟨m',hm,i+1,j,k,q.yy,T.keep _ _ _ z λb p o e=>(q.pin _ (zA8 _ (zA8 _ (tX p e)))).1,λb p=>?_,w7⟩;obtain⟨o,e,d⟩:=T.obj _ _ z b p;exact (q.pin _ (zA8 _ (zA8 _ (tX p e)))).2.1
  cases f with| next=>obtain⟨j,k,q,A⟩:=y; exact again q A| cont=>obtain⟨j,k,q,A⟩:=y; exact again q A| brk=>obtain⟨j,k,q,y⟩:=y; exact⟨j,k,q.yy,y⟩| ret v=>obtain⟨x7,j,k,q,r7,y⟩:=y; exact⟨x7,j,k,q.yy,r7,y⟩
end
theorem yz {K:zzA}{a:M1}{xs:List V}{g:TG}{k:TS}{D:Ends}{σ:St}{H:Hp}(b:Nat->St->Hp->Prop)(u:b 0 σ H)(n:∀i σ H,i<=xs.length->b i σ H->az K H a xs)(r:∀i x σ H,xs[i]?=some x->b i σ H->g x σ H λd j=>k { D with nx:=b (i+1),ct:=b (i+1),bk:=D.nx } d j) (s:∀σ H,b xs.length σ H->D.nx σ H) : ∃W:Nat->Nat->St->Hp->Prop,(∃m,W 0 m σ H)/\∀i m σ H,W i m σ H->((pe K a).stop i H/\D.nx σ H)\/((pe K a).go i H/\∃N:St->Hp->Prop,(∀f H',N f H'->∃l,l < m/\W (i+1) l f H')/\∀x H',(pe K a).DI i H x H'->g x σ H' λd j=>k { D with nx:=N,ct:=N,bk:=D.nx } d j):=by
 refine⟨λi m σ H=>m=xs.length - i/\i<=xs.length/\b i σ H,(by ext),?_⟩;rintro i m σ H ⟨rfl,t,p⟩;have q:=n i σ H t p;by_cases h:i < xs.length
 ·refine .inr ⟨⟨xs,xs[i],q,by simp⟩,b _,λf H' o=>⟨xs.length - (i+1),by grind,rfl,h,o⟩,λx H' y=>?_⟩;obtain⟨e,y⟩:=y;subst e;exact r i x σ _ (y xs q) p
 ·have e:i=xs.length:=by lia
  subst e;exact .inl ⟨⟨xs,q,y8 _⟩,s σ H p⟩
theorem Qs {K:zzA}{a:M1}{xs:List V}{g:TG}{k:TS}{D:Ends}{σ:St}{H:Hp}(b:Nat->St->Hp->Prop)(u:b 0 σ H)(n:∀i σ H,i<=xs.length->b i σ H->aG K H a xs)(r:∀i x σ H,xs[i]?=some x->b i σ H->g x σ H λd j=>k { D with nx:=b (i+1),ct:=b (i+1),bk:=D.nx } d j) (s:∀σ H,b xs.length σ H->D.nx σ H) : ∃W:Nat->Nat->St->Hp->Prop,(∃m,W 0 m σ H)/\∀i m σ H,W i m σ H->((zw K a).stop i H/\D.nx σ H)\/((zw K a).go i H/\∃N:St->Hp->Prop,(∀f H',N f H'->∃l,l < m/\W (i+1) l f H')/\∀x H',(zw K a).DI i H x H'->g x σ H' λd j=>k { D with nx:=N,ct:=N,bk:=D.nx } d j):=by
 refine⟨λi m σ H=>m=xs.length - i/\i<=xs.length/\b i σ H,(by ext),?_⟩;rintro i m σ H ⟨rfl,t,p⟩;have q:=n i σ H t p;by_cases h:i < xs.length
 ·refine .inr ⟨⟨xs,xs[i],q,by simp⟩,b _,λf H' o=>⟨xs.length - (i+1),by lia,rfl,h,o⟩,λx H' y=>?_⟩;obtain⟨e,y⟩:=y;subst e;exact r i x σ _ (y xs q) p
 ·have e:i=xs.length:=by lia
  subst e;exact .inl ⟨⟨xs,q,y8 _⟩,s σ H p⟩
theorem BQ {lo:Int}{n:Nat}{g:TG}{h:TS}{D:Ends}{σ:St}{H:Hp}(b:Nat->St->Hp->Prop)(r:b 0 σ H)(o:∀i σ H,i < n->b i σ H->g (.int (lo+i)) σ H λf c=>h { D with nx:=b (i+1),ct:=b (i+1),bk:=D.nx } f c) (k:∀σ H,b n σ H->D.nx σ H) : ∃W:Nat->Nat->St->Hp->Prop,(∃m,W 0 m σ H)/\∀i m σ H,W i m σ H->((uI lo n).stop i H/\D.nx σ H)\/((uI lo n).go i H/\∃N:St->Hp->Prop,(∀d H',N d H'->∃j,j < m/\W (i+1) j d H')/\∀x H',(uI lo n).DI i H x H'->g x σ H' λf c=>h { D with nx:=N,ct:=N,bk:=D.nx } f c):=by
 refine⟨λi m σ H=>m=n - i/\i<=n/\b i σ H,(by ext),?_⟩;rintro i m σ H ⟨rfl,q,p⟩;by_cases a:i < n
 ·refine .inr ⟨a,b _,λd H' l=>⟨n - (i+1),by grind,rfl,a,l⟩,λx H' y=>?_⟩;obtain⟨e,y⟩:=y;subst e y;exact o i σ _ a p
 ·have e:i=n:=by lia
  subst e;exact .inl ⟨‹_›,k σ H p⟩
abbrev R2:=V->V->Hp->VK->Prop
noncomputable def eT (X:Cx)(f:Value->Value->Sem Value)(r:R2):Prop:= ∀(a:zzC) (s:SI) (σ:St) (H:Hp) (x y:V) (v u:Value) (Q:VK),Inv X a σ H s->RelV x v->RelV y u->r x y H Q-> zAB (zAC X.prog X.w) X.A (f v u) (EP X a σ Q) X.xe s
noncomputable def R1 (X:Cx)(f:Value->Sem Value)(r:V->Hp->VK->Prop):Prop:= ∀(a:zzC) (s:SI) (σ:St) (H:Hp) (x:V) (v:Value) (Q:VK),Inv X a σ H s->RelV x v->r x H Q-> zAB (zAC X.prog X.w) X.A (f v) (EP X a σ Q) X.xe s
noncomputable def bP (X:Cx)(f:Value)(r:List V->Hp->VK->Prop):Prop:= ∀(a:zzC) (s:SI) (σ:St) (H:Hp) (b:List V) (c:List Value) (Q:VK),Inv X a σ H s->Vals b c->r b H Q-> zAB (zAC X.prog X.w) X.A (call f c) (EP X a σ Q) X.xe s
noncomputable def XC (X:Cx)(r:V->Hp->(Bool->Hp->Prop)->Prop):Prop:= ∀(a:zzC) (s:SI) (σ:St) (H:Hp) (x:V) (v:Value) (Q:Bool->Hp->Prop),Inv X a σ H s->RelV x v->r x H Q-> zAB (zAC X.prog X.w) X.A (truthy v) (TP X a σ Q) X.xe s
noncomputable def dz (r:R2)(a d:TE):TE:=fun σ H Q=>a σ H λx c=>d σ c λy b=>r x y b Q
noncomputable def ON (r:V->Hp->VK->Prop)(a:TE):TE:=fun σ H Q=>a σ H λx b=>r x b Q
noncomputable def rI (C:Int->Int->Prop)(g:Int->Int->V):R2:=λx y H Q=>∃i j,x=.int i/\y=.int j/\C i j/\Q (g i j) H
noncomputable def oq (g:Int->Int->V):R2:=λx y H Q=>∃i j,x=.int i/\y=.int j/\Q (g i j) H
noncomputable def rU (g:Int->V):V->Hp->VK->Prop:=λx H Q=>∃i,x=.int i/\Q (g i) H
section
variable {X:Cx}{a b c:zAU}{ta tb tc:TE}{pos:Pos}
theorem MJ (l:PE X a ta)(n:PE X b tb){R:V->V->Hp->Prop}(I:Inv X d σ H s)(h:ta σ H λx i=>tb σ i λy e=>R x y e) {f:Value->Value->Sem Value}(t:∀v u g x y e,Inv X d σ e g->RelV x v->RelV y u->R x y e->zAB (zAC X.prog X.w) X.A (f v u) Q X.xe g) : zAB (zAC X.prog X.w) X.A (zAP a X.env) (λv o=>zAB (zAC X.prog X.w) X.A (zAP b X.env) (λu j=>zAB (zAC X.prog X.w) X.A (f v u) Q X.xe j) X.xe o) X.xe s:=by exact aM (l d s σ H _ I h) λv z ⟨x,i,q,p,k⟩=>(aM (n d z σ i _ q k) λu g ⟨y,e,w,r,m⟩=>(t v u g x y e w p r m))
theorem aF (g:eT X (zBI op) r)(i:PE X a ta)(m:PE X b tb):PE X (.BinOp a op b pos) (dz r ta tb):=by intro d s σ H Q I h;exact wpAny_BinOp (MJ i m I h λv u f x y l k j e q=>g d f σ l x y v u Q k j e q)
theorem qw (i:R1 X (unaryOp op) r)(l:PE X a ta):PE X (.UnaryOp op a pos) (ON r ta):=by intro d s σ H Q I h;exact UnaryOp_ (aM (l d s σ H _ I h) λv e ⟨x,j,g,f,k⟩=>i d e σ j x v Q g f k)
theorem OO {f:Value->Value->Sem Value}{C:Int->Int->Prop}{g:Int->Int->Int}(rule:∀(i j:Int) (t u:Tok) (s:SI) (Q:zzE) (E:zzE),C i j->Q (.int (g i j) s.toks) { s with toks:=s.toks+1 }->zAB (zAC X.prog X.w) X.A (f (.int i t) (.int j u)) Q E s) : eT X f (rI C λi j=>.int (g i j)):=by intro d s σ H x y v u Q I l e h;obtain⟨i,j,rfl,rfl,k,q⟩:=h;obtain⟨t,rfl⟩:=l;obtain⟨m,rfl⟩:=e;exact rule i j t m s _ _ k ⟨.int _,H,I.tok _,⟨_,rfl⟩,q⟩
theorem Jk {f:Value->Value->Sem Value}{g:Int->Int->Int}(rule:∀(i j:Int) (t u:Tok) (s:SI) (Q:zzE) (E:zzE),Q (.int (g i j) s.toks) { s with toks:=s.toks+1 }->zAB (zAC X.prog X.w) X.A (f (.int i t) (.int j u)) Q E s) : eT X f (oq λi j=>.int (g i j)):=by intro d s σ H x y v u Q I k e h;obtain⟨i,j,rfl,rfl,q⟩:=h;obtain⟨t,rfl⟩:=k;obtain⟨l,rfl⟩:=e;exact rule i j t l s _ _ ⟨.int _,H,I.tok _,⟨_,rfl⟩,q⟩
theorem MK {f:Value->Value->Sem Value}{g:Int->Int->Bool}(rule:∀(i j:Int) (t u:Tok) (s:SI) (Q:zzE) (E:zzE),Q (.bool (g i j)) s->zAB (zAC X.prog X.w) X.A (f (.int i t) (.int j u)) Q E s) : eT X f (oq λi j=>.bl (g i j)):=by intro d s σ H x y v u Q I k e h;obtain⟨i,j,rfl,rfl,q⟩:=h;obtain⟨t,rfl⟩:=k;obtain⟨l,rfl⟩:=e;exact rule i j t l s _ _ ⟨.bl _,H,I,rfl,q⟩
noncomputable def XD (i j:Int):Prop:=0 < j/\j < 1073741824
noncomputable def XE (i j:Int):Prop:=0<=j/\j<=1000000/\i.natAbs < 2 ^ 64
noncomputable def ML (i j:Int):Prop:=(-(2 ^ 64) < i/\i < 2 ^ 64)\/(-(2 ^ 64) < j/\j < 2 ^ 64)
theorem ML.ok (h:ML i j):IntMulOk i j:=by
 rcases h with ⟨d,e⟩ | ⟨d,e⟩;·exact .of_left (intBits_le_64 d e)
 ·exact .of_right (intBits_le_64 d e)
theorem cS:eT X (zBI .Add) (oq λi j=>.int (i+j)):=Jk λ_ _ _ _ _ _ _ q=>add_int q
theorem dD:eT X (zBI .Sub) (oq λi j=>.int (i - j)):=Jk λ_ _ _ _ _ _ _ q=>sub_int q
theorem vv:eT X (zBI .Mult) (rI ML λi j=>.int (i * j)):=OO λ_ _ _ _ _ _ _ d q=>mul_int q d.ok
theorem G9:eT X (zBI .FloorDiv) (rI XD λi j=>.int (i / j)):=OO λi j _ _ _ _ _ e q=>by have f:=e.1;have g:=e.2;exact floordiv_int (by lia) (by rw[Int.fdiv_eq_ediv_of_nonneg i (zDj f)]; symm) (.inl (PyProof.noPylong_small (by lia)))
theorem jZ:eT X (zBI .Mod) (rI (λ_ j=>0 < j) λi j=>.int (i % j)):=OO λi j _ _ _ _ _ d q=>by exact mod_int' (by lia) (by rw[Int.fmod_eq_emod_of_nonneg i (by lia)]; symm)
theorem R3:eT X (zBI .LShift) (rI XE λi j=>.int (i * 2 ^ j.toNat)):=OO λ_ _ _ _ _ _ _ d q=>lshift_int_small d.1 d.2.1 d.2.2 q
theorem vz:eT X (zBI .BitAnd) (oq λi j=>.int (Builtin.bitAnd i j)):=Jk λ_ _ _ _ _ _ _ q=>and_int q
theorem Jl:eT X (zBI .BitOr) (oq λi j=>.int (Builtin.bitOr i j)):=Jk λ_ _ _ _ _ _ _ q=>or_int q
theorem Yx {f:Value->Sem Value}{g:Int->Int}(rule:∀(i:Int) (t:Tok) (s:SI) (Q:zzE) (E:zzE),Q (.int (g i) s.toks) { s with toks:=s.toks+1 }->zAB (zAC X.prog X.w) X.A (f (.int i t)) Q E s) : R1 X f (rU λi=>.int (g i)):=by intro d s σ H x v Q I e h;obtain⟨i,rfl,q⟩:=h;obtain⟨t,rfl⟩:=e;exact rule i t s _ _ ⟨.int _,H,I.tok _,⟨_,rfl⟩,q⟩
theorem nH:R1 X (unaryOp .USub) (rU λi=>.int (-i)):=Yx λ_ _ _ _ _ q=>neg_int q
noncomputable def Jm:V->V->Bool| .aT,.aT=>true | .aT,.int _=>true | .int _,.aT=>true | .aT,.bl _=>true | .bl _,.aT=>true | .aT,.str _=>true | .str _,.aT=>true| .int _,.int _=>true | .bl _,.bl _=>true | .str _,.str _=>true | .nE _,.nE _=>true| .int _,.str _=>true | .str _,.int _=>true | .bl _,.str _=>true | .str _,.bl _=>true| _,_=>false
noncomputable def G_:R2:=λx y H Q=>Jm x y=true/\Q (.bl (decide (x=y))) H
noncomputable def R4:R2:=λx y H Q=>Jm x y=true/\Q (.bl (!decide (x=y))) H
theorem Hv:decide (V.int i=V.int j)=(i == j):=by grind
theorem Kv:decide (V.bl i=V.bl j)=(i == j):=by grind
theorem Hw:decide (V.str i=V.str j)=(i == j):=by grind
theorem Hy:decide (V.nE i=V.nE j)=(i.toList == j.toList):=by rw[Bool.eq_iff_iff];simp
theorem bB {d:zzC}{σ:St}{H:Hp}{s:SI}{Q:VK}{k f:Bool}(I:Inv X d σ H s)(q:Q (.bl k) H)(e:k=f):EP X d σ Q (.bool f) s:=by subst e;exact⟨.bl k,H,I,rfl,q⟩
theorem d_:eT X (zAO .Eq) G_:=by intro k s σ H x y v u Q I g e h;obtain⟨l,q⟩:=h;cases x with
 | aT=> cases g;cases y with| aT=>cases e; exact PySem.EqNone.eq_none_none (bB I q ‹_›)| bl j=>cases e; exact PySem.EqNone.eq_none_bool (bB I q (by rfl))| int j=>obtain⟨f,rfl⟩:=e; exact PySem.EqNone.eq_none_int (bB I q (by rfl))| str j=>obtain⟨f,rfl⟩:=e; exact PySem.EqNone.eq_none_str (bB I q (by rfl))| _=>exact absurd ‹_› zAn
 | bl i=> cases g;cases y with| aT=>cases e; exact PySem.EqNone.eq_bool_none (bB I q (by rfl))| bl j=>cases e; exact eq_bool (bB I q Kv)| str j=>obtain⟨f,rfl⟩:=e; exact PySem.EqMixed.eq_bool_str (bB I q (by rfl))| _=>exact absurd ‹_› zAn
 | int i=> obtain⟨t,rfl⟩:=g;cases y with| aT=>cases e; exact PySem.EqNone.eq_int_none (bB I q (by rfl))| int j=>obtain⟨f,rfl⟩:=e; exact eq_int (bB I q Hv)| str j=>obtain⟨f,rfl⟩:=e; exact PySem.EqMixed.eq_int_str (bB I q (by rfl))| _=>exact absurd ‹_› zAn
 | str i=> obtain⟨t,rfl⟩:=g;cases y with| aT=>cases e; exact PySem.EqNone.eq_str_none (bB I q (by rfl))| bl j=>cases e; exact PySem.EqMixed.eq_str_bool (bB I q (by rfl))| int j=>obtain⟨f,rfl⟩:=e; exact PySem.EqMixed.eq_str_int (bB I q (by rfl))| str j=>obtain⟨f,rfl⟩:=e; exact eq_str (bB I q Hw)| _=>exact absurd ‹_› zAn
 | nE i=> obtain⟨t,rfl⟩:=g;cases y with| nE j=>obtain⟨f,rfl⟩:=e; exact PySem.W.eq_bytes (bB I q Hy)| _=>exact absurd ‹_› zAn
 | _=>cases y <;> exact absurd ‹_› zAn
theorem C8:eT X (zAO .NotEq) R4:=by intro k s σ H x y v u Q I g e h;obtain⟨l,q⟩:=h;cases x with
 | aT=> cases g;cases y with| aT=>cases e; exact PySem.EqNone.ne_none_none (bB I q (by rfl))| bl j=>cases e; exact PySem.EqNone.ne_none_bool (bB I q ‹_›)| int j=>obtain⟨f,rfl⟩:=e; exact PySem.EqNone.ne_none_int (bB I q ‹_›)| str j=>obtain⟨f,rfl⟩:=e; exact PySem.EqNone.ne_none_str (bB I q ‹_›)| _=>exact absurd ‹_› zAn
 | bl i=> cases g;cases y with| aT=>cases e; exact PySem.EqNone.ne_bool_none (bB I q ‹_›)| bl j=>cases e; exact ne_bool (bB I q (zA7 not Kv))| str j=>obtain⟨f,rfl⟩:=e; exact PySem.EqMixed.ne_bool_str (bB I q ‹_›)| _=>exact absurd ‹_› zAn
 | int i=> obtain⟨t,rfl⟩:=g;cases y with| aT=>cases e; exact PySem.EqNone.ne_int_none (bB I q ‹_›)| int j=>obtain⟨f,rfl⟩:=e; exact ne_int (bB I q (zA7 not Hv))| str j=>obtain⟨f,rfl⟩:=e; exact PySem.EqMixed.ne_int_str (bB I q ‹_›)| _=>exact absurd ‹_› zAn
 | str i=> obtain⟨t,rfl⟩:=g;cases y with| aT=>cases e; exact PySem.EqNone.ne_str_none (bB I q ‹_›)| bl j=>cases e; exact PySem.EqMixed.ne_str_bool (bB I q ‹_›)| int j=>obtain⟨f,rfl⟩:=e; exact PySem.EqMixed.ne_str_int (bB I q ‹_›)| str j=>obtain⟨f,rfl⟩:=e; exact ne_str (bB I q (zA7 not Hw))| _=>exact absurd ‹_› zAn
 | nE i=> obtain⟨t,rfl⟩:=g;cases y with| nE j=>obtain⟨f,rfl⟩:=e; exact PySem.W.ne_bytes (bB I q (zA7 not Hy))| _=>exact absurd ‹_› zAn
 | _=>cases y <;> exact absurd ‹_› zAn
theorem OP:eT X (zAO .Lt) (oq λi j=>.bl (decide (i < j))):=MK λ_ _ _ _ _ _ _ q=>lt_int q
theorem zx:eT X (zAO .LtE) (oq λi j=>.bl (decide (i<=j))):=MK λ_ _ _ _ _ _ _ q=>le_int q
theorem VC:eT X (zAO .Gt) (oq λi j=>.bl (decide (j < i))):=MK λ_ _ _ _ _ _ _ q=>gt_int q
theorem BR:eT X (zAO .In) (λx y H Q=>∃i j,x=.str i/\y=.str j/\Q (.bl (!(Builtin.Str.occurrences j i 0 j.length 1).isEmpty)) H):=by intro d s σ H x y v u Q I f e h;obtain⟨i,j,rfl,rfl,q⟩:=h;obtain⟨t,rfl⟩:=f;obtain⟨g,rfl⟩:=e;exact in_str (bB I q rfl)
theorem ja (b:zAU)(h:op≠.In:=by decide)(f:op≠.NotIn:=by decide):zBB op b=false:=by
 have d:(op == CmpOp.In)=false:=by ext
 have e:(op == CmpOp.NotIn)=false:=by ext
 cases b <;> simp [zBB,d,e]
theorem rW (g:eT X (zAO op) r)(i:PE X a ta)(m:PE X b tb)(n:zBB op b=false):PE X (.Compare a [op] [b] pos) (dz r ta tb):=by intro d s σ H Q I h;exact wpAny_Compare1 (MJ i m I h λv u f x y l k j e q=>g d f σ l x y v u Q k j e q) n
noncomputable def qx (t:TE):TT:=fun σ H Q=>t σ H λx d=>∃k,x=.bl k/\Q k d
theorem bw (j:eT X (zAO op) r)(o:PE X a ta)(t:PE X b tb)(w:zBB op b=false):PT X (.Compare a [op] [b] pos) (qx (dz r ta tb)):=by intro d s σ H Q I h;refine wpAny_isTrue_Compare1 (aM (o d s σ H _ I h) λv E ⟨x,l,q,A,m⟩=>aM (t d E σ l _ q m) λu D ⟨y,F,i,g,p⟩=> aM (j d D σ F x y v u _ i A g p) λc G ⟨z,n,B,f,k,e,C⟩=>?_) w;subst e;cases f;exact zBu ⟨n,B,C⟩
noncomputable def DL (r f:R2)(ta tb tc:TE):TE:=fun σ H Q=>ta σ H λx g=>tb σ g λy i=>r x y i λz d=>∃k,z=.bl k/\(if k=true then tc σ d λe h=>f y e h Q else Q (.bl false) d)
theorem MM (R:eT X (zAO op) r)(i:eT X (zAO g) n)(A:PE X a ta)(D:PE X b tb)(w:PE X c tc)(E:lastMarks [op,g] [b,c]=false:=by with_unfolding_all rfl):PE X (.Compare a [op,g] [b,c] pos) (DL r n ta tb tc):=by intro f s σ H Q I h;refine Compare_chain (aM (A f s σ H _ I h) λv q ⟨x,S,N,L,T⟩=>chain_link (aM (D f q σ S _ N T) λu P ⟨y,V,F,l,B⟩=> aM (R f P σ V x y v u _ F L l B) λd C ⟨z,o,j,p,k,e,m⟩=>?_)) E;subst e;cases p;refine zBu ?_;cases k with| false=>exact ite_ff ⟨.bl false,o,j,rfl,m⟩| true=>exact ite_tt (chain_last (aM (w f C σ o _ j m) λO t ⟨U,K,G,M,J⟩=>i f t σ K y U u O Q G l M J))
theorem DM (Z:eT X (zAO op) r)(i:eT X (zAO g) n)(F:PE X a ta)(K:PE X b tb)(D:PE X c tc)(M:lastMarks [op,g] [b,c]=false:=by with_unfolding_all rfl):PT X (.Compare a [op,g] [b,c] pos) (qx (DL r n ta tb tc)):=by intro f s σ H Q I h;refine isTrue_chain (aM (F f s σ H _ I h) λv B ⟨x,q,Y,V,A⟩=>test_link (aM (K f B σ q _ Y A) λu S ⟨y,H2,P,l,G⟩=> aM (Z f S σ H2 x y v u _ P V l G) λd J ⟨z,o,j,p,k,e,m⟩=>?_)) M;subst e;cases p;refine zBu ?_;cases k with| false=> obtain⟨k',e',R⟩:=m;cases e';exact ite_ff ⟨o,j,R⟩| true=> refine ite_tt (test_last (aM (D f J σ o _ j m) λN C ⟨z',U,t,W,T⟩=>aM (i f C σ U y z' u N _ t l W T) λd' s5 O=>?_));obtain⟨z2,L,E,r5,k2,w,q5⟩:=O;subst w;cases r5;exact zBu ⟨L,E,q5⟩
noncomputable def Jo (K:zzA)(x:V)(H:Hp)(k:Bool):Prop:= match x with| .aT=>k=false| .bl b=>k=b| .int i=>k=(i != 0)| .str y=>y.length<=PK/\k=((y.length:Int) != 0)| .nE y=>y.size<=PK/\k=((y.size:Int) != 0)| .ref p=>(∃e,az K H p e/\k=!e.isEmpty)\/(∃e,aG K H p e/\k=!e.isEmpty)\/∃d,H p=some (.dK d)/\k=!d.isEmpty| _=>False
theorem Jp (r:KV kvs vs):(!vs.isEmpty)=!kvs.isEmpty:=by cases r <;> rfl
theorem zy (r:Vals xs its):(!its.toArray.isEmpty)=!xs.isEmpty:=by cases r <;> rfl
theorem DN:(PK:Nat) < 2 ^ 63:=by decide
theorem R8:XC X (λx H Q=>∃k,Jo X.K x H k/\Q k H):=by intro z s σ H x v Q I j h;obtain⟨k,e,q⟩:=h;have E:=kA;cases x with| aT=> cases j;have d:=e;subst d;exact truthy_none ⟨H,I,q⟩| bl b=> cases j;have d:=e;subst d;exact zBu ⟨H,I,q⟩| int i=> obtain⟨t,rfl⟩:=j;have d:=e;subst d;exact PySem.P.truthy_int ⟨H,I,q⟩| str y=> obtain⟨t,rfl⟩:=j;obtain⟨D,d⟩:y.length<=PK/\k=((y.length:Int) != 0):=e;subst d;exact PySem.P.truthy_str (by lia) ⟨H,I.tok _,q⟩| nE y=> obtain⟨t,rfl⟩:=j;obtain⟨D,d⟩:y.size<=PK/\k=((y.size:Int) != 0):=e;subst d;exact PySem.W.truthy_bytes (by lia) ⟨H,I.tok _,q⟩| ref p=>
  cases j;have d:=e;rcases d with ⟨C,n,d⟩ | ⟨C,n,d⟩ | ⟨l,n,d⟩
  ·subst d;obtain⟨u,r,o,A⟩:=I.list n;have g:=r.length;exact wpAny_truthy_list o.isList (by grind) ⟨H,I.tok _,by rw[zy r]; symm⟩
  ·subst d;obtain⟨u,r,o,A⟩:=I.tuple n;have g:=r.length;exact truthy_tuple o (by grind) ⟨H,I.tok _,by rw[zy r]; symm⟩
  ·subst d;obtain⟨A,B,w,r,m⟩:l.length<=PK/\(p == zAR)=false/\∃w,KV l w/\s.heap.DictOf _ p w:=I.hok p _ n;have g:=Paired.length r;exact wpAny_truthy_dict B m (by lia) ⟨H,I.tok _,by rw[Jp r]; symm⟩| _=>exact (show False from e).elim
theorem MN (n:PE X a ta)(m:∀d,zEJ a X.env d=(do let v <-d; zDK a.pos; zCP [v] (truthy v))) : PT X a (fun σ H Q=>ta σ H λx H'=>∃k,Jo X.K x H' k/\Q k H'):=by intro e s σ H Q I h;exact isTrue_plain (aM (n e s σ H _ I h) λv j ⟨x,i,g,f,l⟩=>R8 e j σ i x v Q g f l) (m _)
theorem vals1 (r:Vals [x] us):∃u,us=[u]/\RelV x u:=by cases r with| cons e d=>cases d; ext
theorem vals2 (r:Vals [x,y] us):∃u d,us=[u,d]/\RelV x u/\RelV y d:=by cases r with| cons g e=> cases e with| cons h f=>cases f; exact⟨_,_,rfl,g,h⟩
theorem Ky (f:X.calm=true):bP X (.builtin "max") (λxs H Q=>∃i j,xs=[.int i,.int j]/\Q (.int (if j > i then j else i)) H):=by
 intro e s σ H xs n Q I r h;obtain⟨i,j,rfl,q⟩:=h;obtain⟨u,l,rfl,⟨t,rfl⟩,⟨m,rfl⟩⟩:=vals2 r;refine max_two_ints (I.ok.hd f) λo g k=>⟨_,H,I.kept k,?_,q⟩;by_cases d:j > i;·rw[u1 d,u1 d]; exact⟨_,rfl⟩
 ·rw[xL d,xL d]; exact⟨_,rfl⟩
theorem Kz (f:X.calm=true):bP X (.builtin "min") (λxs H Q=>∃i j,xs=[.int i,.int j]/\Q (.int (if j < i then j else i)) H):=by
 intro e s σ H xs n Q I r h;obtain⟨i,j,rfl,q⟩:=h;obtain⟨u,l,rfl,⟨t,rfl⟩,⟨m,rfl⟩⟩:=vals2 r;refine min_two_ints (I.ok.hd f) λo g k=>⟨_,H,I.kept k,?_,q⟩;by_cases d:j < i;·rw[u1 d,u1 d]; exact⟨_,rfl⟩
 ·rw[xL d,xL d]; exact⟨_,rfl⟩
noncomputable def tY (K:zzA)(x:V)(H:Hp)(n:Nat):Prop:= match x with| .str y=>y.length<=PK/\n=y.length| .nE y=>y.size<=PK/\n=y.size| .ref p=>(∃d,az K H p d/\n=d.length)\/∃d,aG K H p d/\n=d.length| _=>False
theorem MO:bP X (.builtin "len") (λxs H Q=>∃x n,xs=[x]/\tY X.K x H n/\Q (.int n) H):=by
 intro v s σ H xs B Q I r h;obtain⟨x,n,rfl,e,q⟩:=h;obtain⟨u,rfl,j⟩:=vals1 r;have A:=kA;cases x with| str y=> obtain⟨t,rfl⟩:=j;obtain⟨w,f⟩:y.length<=PK/\n=y.length:=e;subst f;exact len_str (by lia) ⟨.int _,H,I.tok _,⟨_,rfl⟩,q⟩| nE y=> obtain⟨t,rfl⟩:=j;obtain⟨w,f⟩:y.size<=PK/\n=y.size:=e;subst f;exact PySem.W.len_bytes (by lia) ⟨.int _,H,I.tok _,⟨_,rfl⟩,q⟩| ref p=>
  cases j;have f:=e;rcases f with ⟨xs,k,f⟩ | ⟨xs,k,f⟩
  ·subst f;obtain⟨g,l,o,z⟩:=I.list k;have d:=l.length;exact Calls.call_len_list o.isList (by grind) ⟨.int xs.length,H,I.tok _,⟨_,by simp only [zB7]; rw[d]⟩,q⟩
  ·subst f;obtain⟨g,l,o,z⟩:=I.tuple k;have d:=l.length;exact len_tuple o (by grind) ⟨.int xs.length,H,I.tok _,⟨_,by simp only [zB7]; rw[d]⟩,q⟩| _=>exact (show False from e).elim
end
structure yC (h:Heap)(x dx C:M1)(mA:Str->Option Value):Prop where
 obj:h.get? x=some (PySem.W.instObj C dx)
 ns:h.Ns1 dx mA
 ne:dx≠x
theorem KA {h:Heap}(n:h.Ns1 d f):∃od,h.get? d=some od/\∀name,PySem.W.lookIn name od=some (f name):=by
 obtain⟨o,j,p,i,l,k,_,g⟩:=n;refine⟨o,i,λname=>?_⟩;have e:=g name;unfold nsFind findBy at e;rw[<-Array.find?_toList] at e;unfold PySem.W.lookIn;rw[l];dsimp only;split;·ext
 ·have a:j.toList.any (·.refKey)=false:=by rw[List.any_eq_false];intro y m;obtain⟨z,t,c⟩:=k y (by ext);simp [DictEntry.refKey,c]
  grind
theorem yC.look (I:yC h x c C b):∃od,PySem.W.InstAt h x (PySem.W.instObj C c) C (some od)/\∀name,PySem.W.lookIn name od=some (b name):= let ⟨od,d,e⟩:=KA I.ns;⟨od,⟨I.obj,rfl,rfl,d⟩,e⟩
section
variable {prog:zAA}{w:zAD}{A:zAI}{E:zzE}{s:SI}{K:zzA}{x dx C f:M1}{mA:Str->Option Value}{name:Str}{v:Value}
theorem get_map {a:Bool}{Q:zzE}(X:K.In s.heap)(I:yC s.heap x dx C mA)(d:PySem.W.plainGet K C name=true)(e:PySem.W.hasDictIn K C=true)(c:PySem.W.findIn K (.ref C) name=some none) (g:mA name=some v) (b:PySem.W.handedIn v=true) (h:Q v { s with toks:=s.toks+1 }) : zAB (zAC prog w) A (getAttr (.ref x) name a) Q E s:=by obtain⟨i,J,j⟩:=I.look;exact PySem.W.get_value X J (PySem.W.plainGet_of d).1 (PySem.W.findObj_own e c rfl (by ext)) b h
theorem MP {e:Sem Bool}{Q:Value × List Value->SI->Prop}(X:K.In s.heap)(I:yC s.heap x dx C mA)(a:PySem.W.plainGet K C name=true)(d:PySem.W.findIn K (.ref C) name=some (some (.ref f))) (c:PySem.W.isFn K (.ref f)=true) (g:mA name=none) (h:Q (.ref f,[.ref x]) s) : zAB (zAC prog w) A (zCM (.ref x) name e) Q E s:=by obtain⟨b,J,i⟩:=I.look;exact PySem.W.method_fn X J (PySem.W.plainGet_of a).1 (PySem.W.plainGet_of a).2 d (zCv.mp c) (by show (PySem.W.lookIn name b).map _=some false; ext) h
theorem Qt {ns:List Str}{Q:Unit->SI->Prop}(X:K.In s.heap)(I:yC s.heap x dx C mA)(k:PySem.W.findIn K (.ref C) "__setattr__"=some (some (.builtin "object.__setattr__"))) (t:PySem.W.plainOver K C=true) (r:PySem.W.takerIn K C name=some none) (p:PySem.W.hasDictIn K C=true)(m:PySem.Within mA ns) (n:ns.length<=PK)(h:∀h',yC h' x dx C (λy=>if y=name then some v else mA y)->Heap.SameBut dx s.heap h'->Q () { s with heap:=h',toks:=s.toks+2 }) : zAB (zAC prog w) A (setAttr (.ref x) name v) Q E s:=by obtain⟨z,J,D⟩:=I.look;refine PySem.W.set_plain X J k (PySem.W.osa_open X J t r λb=>?_);obtain⟨B,l,g⟩:=PySem.W.any_some p;have q:=I.obj;refine yA (y3 (yA (yA (wpAny_loadPart q (yA (PySem.W.Looks.here (PySem.W.looks_clsIn X l) ?_))))));rw[g];refine y3 (yA (y3 (yA ?_)));refine wpAny_nsSet1 I.ns λh' c a=>?_;obtain⟨u,o,j,e,i,d⟩:=c.count (PySem.Within.cons name v m);refine yA (wpAny_lookBehind e (by rw[i]; exact pastItsLine_dict (zAu d (by ext))) ?_);exact y3 (h _ ⟨(a.2 _ (Ne.symm I.ne)).trans I.obj,c,I.ne⟩ a)
theorem MQ (X:K.In s.heap)(d:PySem.W.makesIn K C=true)(c:PySem.W.findIn K (.ref C) "__init__"=some (some (.ref f))) (e:PySem.W.typeIn K (.ref f)=some (.type "function"))(h:zBF (zAC prog w) (A.under (.builtin "type.__call__" ⟨.ref C::vs,b⟩)) (.call (.ref f) ⟨.ref (s.heap.objs.size+1)::vs,b⟩) (PySem.W.InitBack (s.heap.objs.size+1) R) { s with heap:=(s.heap.push PySem.W.emptyDict).push (PySem.W.instObj C s.heap.objs.size) }) : zBF (zAC prog w) A (.call (.ref C) ⟨vs,b⟩) R s:=by exact PySem.W.make_core (PySem.W.makes_of X d) (PySem.W.looks_findIn X c) (λa=>PySem.W.bind_fn X a e) (.inl rfl) h
end
noncomputable def eE (f:Str)(v:V):List (Str × V)->List (Str × V)| []=>[(f,v)]| (g,x)::r=>if g=f then (g,v)::r else (g,x)::eE f v r
theorem xZ (f g:Str)(v:V):∀a:List (Str × V),(eE f v a).lookup g=if g=f then some v else a.lookup g| []=>by show List.lookup g [(f,v)]=_;grind| (k,x)::r=>by have b:=xZ f g v r;rw[show eE f v _=(if k=f then (k,v)::r else (k,x)::eE f v r) from rfl];grind
theorem vA (f:Str)(v:V):∀a:List (Str × V),f∈(eE f v a).map (·.1)/\∀g,g∈a.map (·.1)->g∈(eE f v a).map (·.1)| []=>⟨by simp [eE],λg h=>by ext⟩| (k,x)::r=>by obtain⟨c,b⟩:=vA f v r;rw[show eE f v _=(if k=f then (k,v)::r else (k,x)::eE f v r) from rfl];grind
theorem x9 (f:Str)(v:V):∀a:List (Str × V),(eE f v a).length<=a.length+1| []=>by simp [eE]| (k,x)::r=>by have b:=x9 f v r;rw[show eE f v _=(if k=f then (k,v)::r else (k,x)::eE f v r) from rfl];grind
theorem fU.some_of (r:fU (some v) o):∃u,o=some u/\RelV v u:=by cases o with| none=>exact (show False from r).elim| some u=>exact⟨u,rfl,r⟩
theorem fU.none_of (r:fU none o):o=none:=by cases o with| none=>rfl| some u=>exact (show False from r).elim
theorem KC (r:RelV v u):PySem.W.handedIn u=true:=by cases v with| aT=>cases (show u=Value.none from r); rfl| bl b=>cases (show u=Value.bool b from r); rfl| int i=>obtain⟨t,e⟩:=(show ∃t,u=Value.int i t from r); cases e; rfl| str x=>obtain⟨t,e⟩:=(show ∃t,u=Value.str x t from r); cases e; rfl| nE b=>obtain⟨t,e⟩:=(show ∃t,u=Value.bytes b t from r); cases e; rfl| BK b=>obtain⟨t,e⟩:=(show ∃t,u=Value.float b t from r); cases e; rfl| ref a=>cases (show u=Value.ref a from r); rfl| ty n=>cases (show u=Value.type n from r); rfl
section
variable {P:zAA}{w:zAD}{H H':Hp}{h h':Heap}{a C dx:M1}{fs fs':List (Str × V)}
theorem xq (c:fO P w H h)(e:H a=some (.ins C dx fs)):∃b,yC h a dx C b/\(∀f,fU (fs.lookup f) (b f))/\PySem.Within b (fs.map (·.1))/\fs.length<=1000/\H dx=some (.own a):=by obtain⟨d,z,j,i,b,n,r,q⟩:=(show a_ P w H h a _ from c a _ e);exact⟨b,⟨i,n,j⟩,r,q,z,d⟩
end
structure gk (K:zzA)(C:M1):Prop where
 pg:PySem.W.plainGet K C Str.empty=true
 hd:PySem.W.hasDictIn K C=true
 po:PySem.W.plainOver K C=true
 sa:PySem.W.findIn K (.ref C) "__setattr__"=some (some (.builtin "object.__setattr__"))
theorem gk.get {K:zzA}(c:gk K C)(f:Str):PySem.W.plainGet K C f=true:=c.pg
noncomputable def aS (K:zzA)(C:M1)(f:Str):Prop:=PySem.W.findIn K (.ref C) f=some none
theorem aS.VD {K:zzA}(n:aS K C f):PySem.W.takerIn K C f=some none:=by unfold PySem.W.takerIn;rw[show PySem.W.findIn K _ f=some none from n];rfl
structure Meth (K:zzA)(C:M1)(m:Str)(f:M1):Prop where
 at_:PySem.W.findIn K (.ref C) m=some (some (.ref f))
 fn:PySem.W.isFn K (.ref f)=true
 kp:PySem.W.keepIn K (.ref f)=true
section
variable {X:Cx}{pins:zzC}{σ:St}{H:Hp}{s:SI}{a C dx:M1}{fs:List (Str × V)}{f:Str}{v:V}{A:zAI}{E:zzE}
theorem Jr (I:Inv X pins σ H s)(e:H a=some (.ins C dx fs))(c:gk X.K C)(n:aS X.K C f)(l:fs.lookup f=some v)(h:∀u s',Inv X pins σ H s'->RelV v u->Q u s'):zAB (zAC X.prog X.w) A (getAttr (.ref a) f b) Q E s:=by obtain⟨i,O,r,_,_,_⟩:=xq I.hok e;obtain⟨u,g,d⟩:=fU.some_of (by rw[<-l]; exact r f);exact get_map I.gR O (c.get f) c.hd n g (KC d) (h u _ (I.tok _) d)
theorem tZ {m:Str}{g:M1}{b:Sem Bool}{Q:Value × List Value->SI->Prop}(I:Inv X pins σ H s)(e:H a=some (.ins C dx fs))(c:gk X.K C)(k:Meth X.K C m g)(l:fs.lookup m=none)(h:Q (.ref g,[.ref a]) s):zAB (zAC X.prog X.w) A (zCM (.ref a) m b) Q E s:=by obtain⟨i,O,r,_,_,_⟩:=xq I.hok e;have d:=fU.none_of (by rw[<-l]; exact r m);exact MP I.gR O (c.get m) k.at_ k.fn d h
theorem Js {y:V}{u:Value}{Q:Unit->SI->Prop}(I:Inv X pins σ H s)(e:H a=some (.ins C dx fs))(c:gk X.K C)(n:aS X.K C f)(F:fs.length < 1000)(B:RelV y u)(h:∀s',Inv X pins σ (upd H a (.ins C dx (eE f y fs))) s'->Q () s'):zAB (zAC X.prog X.w) A (setAttr (.ref a) f u) Q E s:=by
 obtain⟨D,O,r,i,_,t⟩:=xq I.hok e;have m:(fs.map (·.1)).length<=PK:=by rw[yB,kA]; lia
 refine Qt I.gR O c.sa c.po n.VD c.hd i m λp d j=>h _ ?_;have k:∃o,p.get? dx=some o:=let ⟨o,_,_,x,_⟩:=d.ns; ⟨o,x⟩;refine I.write (by rw[e]; exact True.intro) (.inr t) (λb q l z=>(j.2 b l).trans z) k ?_;refine⟨by rw[aA O.ne]; symm,?_,O.ne,d.obj,_,d.ns,λg=>?_,λg w=>?_⟩;·have:=x9 f y fs; lia
 ·rw[xZ];by_cases q:g=f;·rw[u1 q,u1 q]; symm
  ·rw[xL q,xL q]; exact r g
 ·by_cases q:g=f;·rw[q]; exact (vA f y fs).1
  ·refine (vA f y fs).2 g (i g λz=>w ?_);ext
theorem Inv.made (I:Inv X pins σ H s):Inv X pins σ (upd (upd H s.heap.objs.size (.own (s.heap.objs.size+1))) (s.heap.objs.size+1) (.ins C s.heap.objs.size [])) { s with heap:=(s.heap.push PySem.W.emptyDict).push (PySem.W.instObj C s.heap.objs.size) }:=by
 have d:(s.heap.push PySem.W.emptyDict).get? s.heap.objs.size=some PySem.W.emptyDict:=wE s.heap rfl;have j:((s.heap.push PySem.W.emptyDict).push (PySem.W.instObj C s.heap.objs.size)).get? (s.heap.objs.size+1)=some (PySem.W.instObj C s.heap.objs.size):=by have:=wE (s.heap.push PySem.W.emptyDict) (o:=PySem.W.instObj C s.heap.objs.size) rfl;ext
 have k:(s.heap.push PySem.W.emptyDict).Ns s.heap.objs.size _:=⟨PySem.W.emptyDict,#[],_,d,rfl,(λe l=>absurd l (by simp)),λ_=>rfl⟩;have h:=I.laid (o:=.own (s.heap.objs.size+1)) (t':=s.toks) (λb u q=>y4 _ q) (y8 _) ⟨_,d⟩;refine h.laid (λb u q=>y4 _ q) (by simp) ?_;have g:s.heap.objs.size≠s.heap.objs.size+1:=zAe (Nat.lt_succ_self _);refine⟨by rw[aA g,ao],zAd _,g,j,λ_=>none,(Heap.Ns1.of_empty k).at λo q=>y4 _ q,λ_=>True.intro,λy i=>absurd rfl i⟩
theorem Qu (c:zBC e f env (zAP e env)=zAP e env)(h:zAB (zAC prog w) A (zAP e env) (λo d=>zAB (zAC prog w) A (getAttr o f true) Q E d) E s):zAB (zAC prog w) A (zAP (.Attribute e f b) env) Q E s:= Attribute_any_ h (by rw[arm_eval_Attribute,c])
end
noncomputable def jV (K:zzA)(g:TE)(f:Str):TE:=fun σ H Q=>g σ H λx c=>∃a C e d v,x=.ref a/\c a=some (.ins C e d)/\gk K C/\aS K C f/\d.lookup f=some v/\Q v c
noncomputable def vB (K:zzA)(h g:TE)(f:Str):TS:=λD σ H=>g σ H λy i=>h σ i λx e=>∃a C d b,x=.ref a/\e a=some (.ins C d b)/\gk K C/\aS K C f/\b.length < 1000/\ D.nx σ (upd e a (.ins C d (eE f y b)))
section
variable {X:Cx}{o e value:zAU}{f:Str}{pos pos' tpos:Pos}{ta tv:TE}
theorem R9 (t:PE X e ta)(d:zBC e f X.env (zAP e X.env)=zAP e X.env):PE X (.Attribute e f pos) (jV X.K ta f):=by intro b s σ H Q I h;refine Qu d (aM (t b s σ H _ I h) λu z g=>?_);obtain⟨x,j,i,r,a,C,A,y,v,k,w,c,n,l,q⟩:=g;subst k;obtain rfl:u=Value.ref a:=r;exact Jr i w c n l λD B m p=>⟨v,j,m,p,q⟩
theorem R_ (m:PE X o ta)(i:PE X value tv)(k:zBX value (some (.Attribute o f pos')) pos.line X.env=pure false):PS X (.Assign [.Attribute o f pos'] value pos) (vB X.K ta tv f):=by intro b s σ H D I h;refine plainObj_wpAny_Assign_Attribute (aM (i b s σ H _ I h) λu E ⟨y,j,A,d,q⟩=>aM (m b E σ j _ A q) λv K w=>?_) k;obtain⟨x,G,g,p,a,C,L,J,z,r,c,n,l,t⟩:=w;subst z;obtain rfl:v=Value.ref a:=p;exact Js g r c n l d λF B=>⟨σ,_,B,t⟩
theorem Vw (G:PE X e v)(I:Inv X i σ H s)(h:v σ H λx r=>∃a C z t g,x=.ref a/\r a=some (.ins C z t)/\gk X.K C/\Meth X.K C m g/\t.lookup m=none/\ ∀n,Inv X i σ r n->zAB (zAC X.prog X.w) X.A (zDS pos (.ref g) [.ref a] (zAW pos (zAG b X.env)) (zCF pos (zAZ [] X.env))) Q X.xe n)(D:zAP (.Call (.Attribute e m d) b [] pos) X.env=(do let w <-zAP e X.env;zDK d.atName;let (f,j) <-zCP [w] (zCM w m F);zDS pos f j (zAW pos (zAG b X.env)) (zCF pos (zAZ [] X.env)))) : zAB (zAC X.prog X.w) X.A (zAP (.Call (.Attribute e m d) b [] pos) X.env) Q X.xe s:=by refine PySem.W.methodCall_KW (aM (G i s σ H _ I h) λu n E=>?_) D;obtain⟨x,r,y,A,a,C,z,t,g,J,B,c,k,l,q⟩:=E;subst J;obtain rfl:u=Value.ref a:=A;exact tZ y B c k l (q n y)
end
section
variable {X:Cx}{pins:zzC}{σ:St}{H:Hp}{s:SI}{A:zAI}{E:zzE}{Q:zzE}{c:Value}{b:Bool}
inductive mR (K:zzA)(H:Hp):V->Value->Prop where| aT:mR K H .aT (.type "NoneType")| bl (x:Bool):mR K H (.bl x) (.type "bool")| int (i:Int):mR K H (.int i) (.type "int")| str (x:Str):mR K H (.str x) (.type "str")| BK (x:UInt64):mR K H (.BK x) (.type "float")| lst {a:M1} {xs:List V} (e:H a=some (.lst xs)):mR K H (.ref a) (.type "list")| iL {a:M1} {o:Obj} {xs:List V} (e:H a=some (.iL o (.lst xs))):mR K H (.ref a) (.type "list")| tup {a:M1} {xs:List V} (e:H a=some (.tup xs)):mR K H (.ref a) (.type "tuple")| dK {a:M1} {kvs:List (Key × V)} (e:H a=some (.dK kvs)):mR K H (.ref a) (.type "dict")| dT {a:M1} {kvs:List (List Key × V)} (e:H a=some (.dT kvs)):mR K H (.ref a) (.type "dict")| ins {a C dx:M1} {fs:List (Str × V)} (e:H a=some (.ins C dx fs)) (cl:gk K C) (ha:PySem.W.findIn K (.ref C) "__class__"=some (some (.builtin "object.__class__")))(hn:PySem.W.specialIn K (.builtin "object.__class__") "__get__"=some (some (.builtin "getset_descriptor.__get__"))) (htk:PySem.W.takesIn K (.builtin "object.__class__")=some true)(hm:PySem.W.mroIn K C (.type "object")=some true):mR K H (.ref a) (.ref C)
theorem KD {x:V}{u t:Value}(I:Inv X pins σ H s)(g:RelV x u)(w:mR X.K H x t)(e:PySem.W.kitOne X.K t c=some b)(h:∀B,Q (.bool b) { s with toks:=B }) : zAB (zAC X.prog X.w) A (call (.builtin "isinstance") [u,c]) Q E s:=by cases w with| aT=>cases (show u=Value.none from g); exact zBo PySem.W.kitx_none I.gR True.intro e (λz=>nomatch z) h| bl y=>cases (show u=Value.bool y from g); exact zBo PySem.W.kitx_bool I.gR True.intro e (λz=>nomatch z) h| int i=>obtain⟨t,q⟩:=(show ∃t,u=Value.int i t from g); cases q; exact zBo PySem.W.kitx_int I.gR True.intro e (λz=>nomatch z) h| str y=>obtain⟨t,q⟩:=(show ∃t,u=Value.str y t from g); cases q; exact zBo PySem.W.kitx_str I.gR True.intro e (λz=>nomatch z) h| BK y=>obtain⟨t,q⟩:=(show ∃t,u=Value.float y t from g); cases q; exact zBo PySem.W.kitx_float I.gR True.intro e (λz=>nomatch z) h| @lst a l f=> cases (show u=Value.ref a from g);obtain⟨_,_,n,_,j⟩:=(show a_ X.prog X.w H s.heap a (.lst l) from I.hok a _ f);exact zBo PySem.W.kitx_list I.gR ⟨_,j,rfl⟩ e (λz=>nomatch z) h| @iL a K l f=> cases (show u=Value.ref a from g);obtain⟨_,_,_,n,_,j⟩:=(show a_ X.prog X.w H s.heap a (.iL K (.lst l)) from I.hok a _ f);exact zBo PySem.W.kitx_list I.gR ⟨_,j,rfl⟩ e (λz=>nomatch z) h| @tup a l f=> cases (show u=Value.ref a from g);obtain⟨_,_,_,p⟩:=(show a_ X.prog X.w H s.heap a (.tup l) from I.hok a _ f);obtain⟨o,j,m,_⟩:=p;exact zBo PySem.W.kitx_tuple I.gR ⟨o,j,m⟩ e (λz=>nomatch z) h| @dK a k f=> cases (show u=Value.ref a from g);obtain⟨_,_,S,_,p⟩:=(show a_ X.prog X.w H s.heap a (.dK k) from I.hok a _ f);obtain⟨o,M,G,j,m,_⟩:=p;exact zBo PySem.W.kitx_dict I.gR ⟨o,j,m.1⟩ e (λz=>nomatch z) h| @dT a k f=> cases (show u=Value.ref a from g);obtain⟨_,_,l,_,o,M,G,j,m,_⟩:=(show a_ X.prog X.w H s.heap a (.dT k) from I.hok a _ f);exact zBo PySem.W.kitx_dict I.gR ⟨o,j,m.1⟩ e (λz=>nomatch z) h| @ins a C R T f v L F r D=> cases (show u=Value.ref a from g);obtain⟨P,O,_⟩:=xq I.hok f;obtain⟨N,J,_⟩:=O.look;exact zBo (PySem.W.kitx_own (v.get _) v.hd L F r D) I.gR J e (λz=>nomatch z) h
end
structure cg (k:Nat)(A:zAI):Prop where
 hd:A.handled=none
 dp:A.depth+3 * k+5 < recursionLimit
 un:A.units+16 * k+200 < zAT
theorem cg.mono (r:cg k A)(h:j<=k):cg j A:=⟨r.hd,by have:=r.dp; lia,by have:=r.un; lia⟩
theorem cg.deeper (r:cg (k+1) A)(env:Env):cg k (A.deeper env):=⟨r.hd,by have:=r.dp; show A.depth+1+3 * k+5 < _; lia,by have:=r.un; show A.units+3+16 * k+200 < _; lia⟩
theorem Jt {A:zAI}:(A.under (.builtin "type.__call__" ⟨.ref C::us,a⟩)).depth=A.depth+1:=by rfl
theorem Ju {A:zAI}:(A.under (.builtin "type.__call__" ⟨.ref C::us,a⟩)).units=A.units+1:=by rfl
theorem cg.make (r:cg (k+1) A)(C:M1)(us:List Value)(a:List (Str × Value)):cg k (A.under (.builtin "type.__call__" ⟨.ref C::us,a⟩)):=⟨r.hd,by have:=r.dp; rw[Jt]; lia,by have:=r.un; rw[Ju]; lia⟩
theorem cg.depth (r:cg k A):A.depth < recursionLimit:=by have:=r.dp; lia
theorem cg.units (r:cg k A):A.units+64 < zAT:=by have:=r.un; lia
noncomputable def fB:TA:=λ_ H Q=>Q [] H
noncomputable def dj (a:TE)(e:TA):TA:=fun σ H Q=>a σ H λx c=>e σ c λd b=>Q (x::d) b
section
variable {X:Cx}{e:zAU}{es:List zAU}{te:TE}{t:TA}{pos:Pos}
theorem ai:PA X [] fB:=λ_ _ _ _ H Q I h=>Calls.spliced_nil ⟨[],H,I,.nil,h⟩
theorem af (p:PE X e te)(n:PA X es t)(k:zAG (e::es) X.env=(false,zAP e X.env)::zAG es X.env:=by rfl):PA X (e::es) (dj te t):=by intro pos a s σ H Q I h;rw[k];refine zCs (aM (p a s σ H _ I h) λu r l=>?_);obtain⟨x,m,i,g,o⟩:=l;exact aM (n pos a r σ m _ i o) λw v ⟨j,q,f,d,c⟩=>⟨x::j,q,f,.cons g d,c⟩
noncomputable def AQ (t:TA):TE:=fun σ H Q=>t σ H λa b=>a.length<=PK/\∀p,b p=none->Q (.ref p) (upd b p (.tup a))
noncomputable def AR (t:TA):TE:=fun σ H Q=>t σ H λa b=>a.length<=PK/\∀p,b p=none->Q (.ref p) (upd b p (.lst a))
theorem b7 (h:PA X es t):PE X (.Tuple es f pos) (AQ t):=by intro a s σ H Q I k;refine wpAny_Tuple_spliced (aM (h pos a s σ H _ I k) λg d ⟨l,i,c,r,z,q⟩=>⟨by rw[<-r.length]; symm,?_⟩);have j:=c.hok.fresh (y8 _);refine⟨.ref d.heap.objs.size,upd i d.heap.objs.size _,c.laid (λb u e=>y4 _ e) (y8 _) ?_,rfl,q _ j⟩;exact⟨z,g,r,⟨_,wE _ rfl,rfl,_,rfl⟩⟩
theorem bH (h:PA X es t):PE X (.List es pos) (AR t):=by intro a s σ H Q I f;refine wpAny_List_spliced (aM (h pos a s σ H _ I f) λj c ⟨k,i,d,r,z,q⟩=>⟨by rw[<-r.length]; symm,?_⟩);have g:=d.hok.fresh (y8 _);refine⟨.ref c.heap.objs.size,upd i c.heap.objs.size _,d.laid (λb u e=>y4 _ e) (y8 _) ?_,rfl,q _ g⟩;exact⟨z,j,0,r,wE _ rfl⟩
end
abbrev Sp:=List V->Hp->VK->XK->Prop
abbrev uJ:=List Env->Hp->SI->XK->Value->SI->Prop
structure yD (P:zAA)(w:zAD)(K:zzA)(mg:Str->Option Value)(base:Heap)(A:zAI)(outer:List Env)(s:SI)(H:Hp):Prop where
 frames:A.frames=some outer
 mod:Mod K mg base
 bs:∀b o,base.get? b=some o->s.heap.get? b=some o/\H b=none
 rV:base.objs.size<=s.heap.objs.size
 kP:s.heap.FunFrames base outer
 xY:∀b∈frs outer,H b=none
 hok:fO P w H s.heap
 bare:zCY s.gens
noncomputable def CE (a:List Env)(P:zAA)(w:zAD)(H:Hp)(s:SI)(Q:VK)(u:Value)(s':SI):Prop:= ∃v b,s'.os=s.os/\zCY s'.gens/\Un (frs a) [] H b s.heap s'.heap/\fO P w b s'.heap/\RelV v u/\Q v b
noncomputable def CR (CX:uJ)(a:List Env)(P:zAA)(w:zAD)(H:Hp)(s:SI)(Q:VK)(E:XK)(r:zED)(s':SI):Prop:= match r with| .ok (.ret u)=>CE a P w H s Q u s'| .ok _=>False| .error e=>CX a H s E e s'
structure aL (P:zAA)(w:zAD)(K:zzA)(mg:Str->Option Value)(base:Heap)(CX:uJ)(k:Nat)(f:M1)(fd:zAE)(ps:List Str)(sp:Sp):Prop where
 len:∀vs H Q E,sp vs H Q E->vs.length=ps.length
 run:∀(A:zAI) (outer:List Env) (s:SI) (H:Hp) (args:Args) (us:List Value) (vs:List V) (Q:VK) (E:XK),cg k A->yD P w K mg base A outer s H->zDL s fd args (ps.zip us)->Vals vs us->sp vs H Q E-> zBF (zAC P w) A (.call (.ref f) args) (CR CX outer P w H s Q E) s
theorem yD.make {K:zzA}(e:yD P w K c base A a s H)(C:M1)(us:List Value)(d:List (Str × Value)) : yD P w K c base (A.under (.builtin "type.__call__" ⟨.ref C::us,d⟩)) a s H:=⟨by first | exact e.frames,e.mod,e.bs,e.rV,e.kP,e.xY,e.hok,e.bare⟩
section
variable {X:Cx}{pins:zzC}{σ:St}{H:Hp}{s s':SI}
theorem Inv.Sa (I:Inv X pins σ H s):yD X.prog X.w X.K X.mg X.base X.A X.stack s H:=⟨I.ok.frames,I.ok.mod,I.bs,zAu I.ok.rV I.sz,I.stack,I.xo,I.hok,I.bare⟩
theorem Inv.after (I:Inv X pins σ H s)(h:CE X.stack X.prog X.w H s Q u s'):EP X pins σ Q u s':=by obtain⟨v,f,os,a,e,b,r,q⟩:=h;obtain⟨i,g,d,t,c⟩:=s';obtain rfl:c=s.os:=os;exact⟨v,f,I.call e b a (by simp),r,q⟩
end
noncomputable def qy (sp:Sp)(a:List V)(E:XK)(t:TA):TE:=fun σ H Q=>t σ H λb c=>sp (b++a) c Q E
noncomputable def t6 (C:M1)(m:Str)(sp:Sp)(b:List V)(E:XK)(h:TE)(t:TA):TE:=fun σ H Q=>h σ H λx d=>∃a g c,x=.ref a/\d a=some (.ins C g c)/\c.lookup m=none/\ t σ d λf e=>sp (x::(f++b)) e Q E
noncomputable def zz (C:M1)(sp:Sp)(b:List V)(E:XK)(t:TA):TE:=fun σ H Q=>t σ H λd c=>∀x a,c x=none->c a=none->a≠x-> sp (.ref x::(d++b)) (upd (upd c a (.own x)) x (.ins C a [])) (λv e=>v=.aT/\Q (.ref x) e) E
noncomputable def Binds (K:zzA)(d:zAE)(ps:List Str)(c:List Value):Prop:= ∀(s:SI) (b:List Value),K.In s.heap->(b++c).length=ps.length->zDL s d ⟨b,[]⟩ (ps.zip (b++c))
theorem Binds.all {K:zzA}(h:∀us:List Value,us.length=ps.length->zDT c ⟨us,[]⟩=pure (ps.zip us)):Binds K c ps []:=λs us _ b=>by rw[zCw] at b ⊢;exact .of_eq (h us b)
noncomputable def Passes (CX:uJ)(X:Cx)(E:XK):Prop:=∀(a:zzC) (σ:St) (H:Hp) (s:SI) (e:Value) (b:SI),Inv X a σ H s->CX X.stack H s E e b->X.xe e b
section
variable {X:Cx}{CX:uJ}{k:Nat}{f C:M1}{fd:zAE}{ps:List Str}{sp:Sp}{pq:List V}{ds:List Value}{E:XK}{x m:Str}{p pos apos:Pos}{e o:zAU}{es:List zAU}{ta:TE}{t:TA}
theorem DO (F:aL X.prog X.w X.K X.mg X.base CX k f fd ps sp)(g:cg k X.A)(j:Binds X.K fd ps ds)(i:Vals pq ds)(d:Passes CX X E)(I:Inv X a σ H s) (r:Vals vs us) (h:sp (vs++pq) H Q E):zAB (zAC X.prog X.w) X.A (call (.ref f) us) (EP X a σ Q) X.xe s:=by
 have c:=r.append i;have l:(us++ds).length=ps.length:=by rw[<-c.length]; exact F.len _ _ _ _ h
 refine wpAny_call (zCC (F.run X.A X.stack s H _ _ _ Q E g I.Sa (j s us I.gR l) c h) λr q b=>?_);cases r with| error e=>exact d a σ H s e q I b| ok n=> cases n with| ret u=>exact I.after b| next=>symm| brk=>symm| cont=>symm
theorem Qv (F:aL X.prog X.w X.K X.mg X.base CX k f fd ps sp)(z:cg k X.A)(w:Gl X x)(u:X.mg x=some (.ref f))(j:PySem.W.keepIn X.K (.ref f)=true)(i:Binds X.K fd ps ds)(l:Vals pq ds)(v:Passes CX X E)(n:PA X (e::es) t) (c:(x == ("__debug__":Str))=false:=by decide) (y:zAG (e::es) X.env=(false,zAP e X.env)::zAG es X.env:=by rfl) (d:(zAW pos (zAG es X.env)).any (·.1)=false:=by rfl) : PE X (.Call (.Name x p) (e::es) [] pos) (qy sp pq E t):=by intro b s σ H Q I h;refine zBG (oV I w u ?_ c);refine PySem.W.callWith_K I.ok.mod.GX j (aM (n pos b s σ H _ I h) λA D ⟨G,B,g,r,q⟩=>⟨g.gR,?_⟩) y d;exact DO F z i l v g r q
theorem Qw {N:Sem Bool}(S:PE X o ta)(c:gk X.K C)(n:Meth X.K C m f)(F:aL X.prog X.w X.K X.mg X.base CX k f fd ps sp)(z:cg k X.A)(G:Binds X.K fd ps ds)(J:Vals pq ds)(R:Passes CX X E)(M:PA X (e::es) t)(i:zAG (e::es) X.env=(false,zAP e X.env)::zAG es X.env:=by rfl) (j:(zAW pos (zAG es X.env)).any (·.1)=false:=by rfl)(P:zAP (.Call (.Attribute o m apos) (e::es) [] pos) X.env=(do let v <-zAP o X.env;zDK apos.atName;let (f,d) <-zCP [v] (zCM v m N);zDS pos f d (zAW pos (zAG (e::es) X.env)) (zCF pos (zAZ [] X.env))):=by rfl) : PE X (.Call (.Attribute o m apos) (e::es) [] pos) (t6 C m sp pq E ta t):=by intro b s σ H Q I h;refine PySem.W.methodCall_KW (aM (S b s σ H _ I h) λu K L=>?_) P;obtain⟨x,T,y,A,a,Y,W,B,O,l,q⟩:=L;subst B;obtain rfl:u=Value.ref a:=A;refine tZ y O c n l ?_;refine PySem.W.callWith_K I.ok.mod.GX n.kp (aM (M pos b K σ T _ y q) λU s2 ⟨vs,Z,w,r,D⟩=>⟨w.gR,?_⟩) i j;exact DO (vs:=.ref a::vs) F z G J R w (.cons rfl r) D
theorem MR (J:PE X o ta)(c:gk X.K C)(j:Meth X.K C m f)(F:aL X.prog X.w X.K X.mg X.base CX k f fd ps sp)(z:cg k X.A)(w:Binds X.K fd ps ds)(G:Vals pq ds)(v:Passes CX X E)(B:zAP (.Call (.Attribute o m apos) [] [] pos) X.env=(do let n <-zAP o X.env;zDK apos.atName;let (f,b) <-zCP [n] (zCM n m A);zDS pos f b (zAW pos (zAG [] X.env)) (zCF pos (zAZ [] X.env))):=by rfl) : PE X (.Call (.Attribute o m apos) [] [] pos) (t6 C m sp pq E ta fB):=by intro g s σ H Q I h;refine PySem.W.methodCall_KW (aM (J g s σ H _ I h) λu N r=>?_) B;obtain⟨x,M,i,K,a,L,O,D,y,l,q⟩:=r;subst D;obtain rfl:u=Value.ref a:=K;exact tZ i y c j l (PySem.W.callWith_K0 i.gR j.kp (DO (vs:=[.ref a]) F z w G v i (.cons rfl .nil) q))
structure Mk (K:zzA)(C f:M1):Prop where
 makes:PySem.W.makesIn K C=true
 init:PySem.W.findIn K (.ref C) "__init__"=some (some (.ref f))
 fn:PySem.W.isFn K (.ref f)=true
 kp:PySem.W.keepIn K (.ref C)=true
theorem DP {a:zzC}{σ:St}{H:Hp}{s:SI}{Q:VK}{us:List Value}{vs:List V}(M:Mk X.K C f)(F:aL X.prog X.w X.K X.mg X.base CX k f fd ps sp)(j:cg (k+1) X.A)(n:Binds X.K fd ps ds)(q:Vals pq ds)(K:Passes CX X E) (I:Inv X a σ H s) (r:Vals vs us)(h:∀x c,H x=none->H c=none->c≠x->sp (.ref x::(vs++pq)) (upd (upd H c (.own x)) x (.ins C c [])) (λv w=>v=.aT/\Q (.ref x) w) E) : zAB (zAC X.prog X.w) X.A (call (.ref C) us) (EP X a σ Q) X.xe s:=by
 have g:=h _ s.heap.objs.size (I.hok.fresh (zC9 _)) (I.hok.fresh (y8 _)) (zAe (Nat.lt_succ_self _));have d:=Inv.made (C:=C) I;have i:Vals (V.ref (s.heap.objs.size+1)::(vs++pq)) _:=.cons rfl (r.append q);have B:(Value.ref (s.heap.objs.size+1)::us++ds).length=ps.length:=by have e:=i.length;rw[F.len _ _ _ _ g] at e;ext
 refine wpAny_call (MQ I.gR M.makes M.init (zCv.mp M.fn) (zCC (F.run _ X.stack _ _ _ _ _ _ E (j.make C us []) (d.Sa.make C us []) (n _ _ d.gR B) i g) λr J b=>?_));cases r with| error e=>exact K a σ _ _ e J d b| ok D=> cases D with| ret u=> obtain⟨v,l,A,z,y,G⟩:=d.after b;subst y;exact⟨z,⟨V.ref _,l,A,rfl,G⟩⟩| next=>symm| brk=>symm| cont=>symm
theorem Qx (M:Mk X.K C f)(F:aL X.prog X.w X.K X.mg X.base CX k f fd ps sp)(y:cg (k+1) X.A)(v:Gl X x)(u:X.mg x=some (.ref C))(i:Binds X.K fd ps ds)(l:Vals pq ds)(j:Passes CX X E)(n:PA X (e::es) t) (b:(x == ("__debug__":Str))=false:=by decide) (w:zAG (e::es) X.env=(false,zAP e X.env)::zAG es X.env:=by rfl) (d:(zAW pos (zAG es X.env)).any (·.1)=false:=by rfl) : PE X (.Call (.Name x p) (e::es) [] pos) (zz C sp pq E t):=by intro a s σ H Q I h;refine zBG (oV I v u ?_ b);refine PySem.W.callWith_K I.ok.mod.GX M.kp (aM (n pos a s σ H _ I h) λz A ⟨D,B,g,r,q⟩=>⟨g.gR,?_⟩) w d;exact DP M F y i l j g r q
theorem MS (M:Mk X.K C f)(F:aL X.prog X.w X.K X.mg X.base CX k f fd ps sp)(j:cg (k+1) X.A)(d:Gl X x)(n:X.mg x=some (.ref C))(l:Binds X.K fd ps ds)(g:Vals pq ds)(i:Passes CX X E)(b:(x == ("__debug__":Str))=false:=by decide):PE X (.Call (.Name x p) [] [] pos) (zz C sp pq E fB):=by intro c s σ H Q I h;refine zBG (oV I d n ?_ b);exact PySem.W.callWith_K0 I.gR M.kp (DP M F j l g i I .nil h)
end
section
variable {X:Cx}{CX:uJ}{k:Nat}{f C:M1}{fd:zAE}{ps ks:List Str}{sp:Sp}{E:XK}{x m:Str}{p pos apos kpos:Pos}{e o:zAU}{es:List zAU}{kws:List zEB}{te ta:TE}{t tk:TA}{nm:Option Str}
variable {g:List Value->List Value->List Value}{gV:List V->List V->List V}
end
structure aJ (N P:List Str)(sc:zDE):Prop where
 kind:sc.kind=.function
 co:sc.isCoroutine=false
 gen:sc.isGenerator=false
 nd:N.Nodup
 pre:N.take P.length=P
 par:∀x∈P,sc.names.lookup x=some .local\/sc.names.lookup x=some .cell
 Sb:∀y∈sc.names,y.2≠.free
theorem BS {kindOf:Str->Option zBA}:∀{a:List (Str × Value)} {m:Str->Option Value},(∀v,(x,v)∉a)->bindL kindOf a m x=m x
 | [],_,_=>rfl| (n,v)::r,m,h=>by
  unfold bindL;rw[BS (by ext)];split;·grind
  rfl
theorem BU {kindOf:Str->Option zBA}:∀{a:List (Str × Value)} {m:Str->Option Value},(∀v,(x,v)∉a)->bindC kindOf a m x=m x
 | [],_,_=>rfl| (n,v)::r,m,h=>by
  unfold bindC;rw[BU (by ext)];split;·rfl
  grind
theorem BV {kindOf:Str->Option zBA}{x:Str}{v:Value}:∀{P:List Str} {vs:List Value} {i:Nat} {m:Str->Option Value},P.Nodup->P[i]?=some x->vs[i]?=some v->kindOf x=some .local-> bindL kindOf (P.zip vs) m x=some v| [],_,_,_,_,h,_,_=>by ext| _::_,[],_,_,_,_,h,_=>by ext| p::P,w::vs,0,m,d,c,a,b=>by simp at c a; subst c; subst a;show bindL kindOf ((p,w)::P.zip vs) m p=_;unfold bindL;rw[BS λv e=>(zDo.mp d).1 (List.of_mem_zip e).1,u1 b];simp| p::P,w::vs,i+1,m,d,c,a,b=>by unfold bindL;exact BV (by ext) ‹_› ‹_› b
theorem BW {kindOf:Str->Option zBA}{x:Str}{v:Value}:∀{P:List Str} {vs:List Value} {i:Nat} {m:Str->Option Value},P.Nodup->P[i]?=some x->vs[i]?=some v->kindOf x≠some .local-> bindC kindOf (P.zip vs) m x=some v| [],_,_,_,_,h,_,_=>by ext| _::_,[],_,_,_,_,h,_=>by ext| p::P,w::vs,0,m,d,c,a,b=>by simp at c a; subst c; subst a;show bindC kindOf ((p,w)::P.zip vs) m p=_;unfold bindC;rw[BU λv e=>(zDo.mp d).1 (List.of_mem_zip e).1,xL b];simp| p::P,w::vs,i+1,m,d,c,a,b=>by unfold bindC;exact BW (by ext) ‹_› ‹_› b
noncomputable def start (N:List Str)(vs:List V):St:=vs.map some++replicate (N.length - vs.length) none
noncomputable def vC (CX:uJ)(P:zAA)(w:zAD)(K:zzA)(mg:Str->Option Value)(base:Heap)(N:List Str)(b:Str)(a:zDE)(f:M1)(d:Value)(A:zAI)(outer:List Env)(s:SI)(H:Hp)(E:XK):Cx where prog:=P;w:=w;K:=K;mg:=mg;base:=base;A:=A.deeper (zDW b a s.heap.objs.size f d);N:=N;s₀:=s;H₀:=H;env:=zDW b a s.heap.objs.size f d;outer:=outer;stack:=zDW b a s.heap.objs.size f d::outer;ex:=[];calm:=true;fn:=λ_=>true;pn:=[];xe:=λe h=>zAB (zAC P w) (A.deeper (zDW b a s.heap.objs.size f d)) (leaving (zDW b a s.heap.objs.size f d) e) (λ_ c=>CX outer H s E e c) (λi c=>CX outer H s E i c) h
theorem DQ {b:zDE}(h:b.names.lookup x=some .cell):∃c,(zAV n b.names []).lookup x=some c:=by have q:=zDa b.names n [] (.inl h);exact zBz.mp q
theorem KG {K:zzA}(S:aJ N ps a) (Q:A.handled=none) (l:yD P w K C base A g s H) (R:vs.length=ps.length) (r:Vals vs us)(x:InCallC s s.heap.objs.size (bindL (zDW j a s.heap.objs.size f t).kindOf (ps.zip us) λ_=>none) (zAV (s.heap.objs.size+1) a.names []) (bindC (zDW j a s.heap.objs.size f t).kindOf (ps.zip us) λ_=>none) G) : Inv (vC CX P w K C base N j a f t A g s H E) [] (start N vs) H G:=by
 have O:ps.length<=N.length:=by have:=zA7 length S.pre; grind
 obtain⟨D,W,rfl,F⟩:=x.done;have M:∀b:M1,b∉(vC CX P w K C base N j a f t A g s H E).ex:=λb z=>absurd (show b∈([]:List M1) from z) (by simp);refine⟨⟨l.mod,S.kind,rfl,rfl,y8 _,λy z c D B=>?_,λy n=>?_,λy c _ h=>?_,λ_=>Q,Around.frames_deeper l.frames,.inr ⟨rfl,rfl⟩,(by ext),l.bs,l.rV,(by ext),(by ext),l.kP,l.xY⟩, rfl,l.bare,Un.kept F,⟨_,x.toInCall.ns,λi y v D B U=>?_⟩,λy c h=>⟨_,x.cell y c h⟩,l.hok.fresh (y8 _),λy c h=>?_,λp o=>absurd (show p∈([]) from o) (by simp),l.hok.kept F,?_⟩;·exact name_of_addr x.apart (zDm D) (zDm B)
 ·rcases n with n | n;·exact DQ n
  ·exact absurd rfl (S.Sb _ (zDm n))
 ·exact zCd (x.above y c (zDm h))
 ·have T:i < vs.length:=by unfold start at B;grind
  have J:vs[i]?=some v:=by unfold start at B;grind
  obtain⟨u,I,L⟩:=r.get J;have o:ps[i]?=some y:=by rw[<-S.pre,List.getElem?_take_of_lt (by ext)]; symm
  have m:ps.Nodup:=by rw[<-S.pre]; exact S.nd.sublist (List.take_sublist _ _)
  refine⟨u,L,?_⟩;rcases S.par y (u4 o) with k | k;·exact .inl ⟨k,BV m o I k⟩
  ·obtain⟨c,e⟩:=DQ k;refine .inr ⟨.inl k,c,e,?_⟩;have q:=x.cell y c e;rw[BW m o I (by show a.names.lookup y≠_; rw[k]; decide)] at q;exact q
 ·exact l.hok.fresh (zCd (x.above y c (zDm h)))
 ·unfold start;show _=N.length;rw[zAm,yB,List.length_replicate];ext
theorem OQ {K:zzA}{Z kV D pm h ct oc:Value}(lk:K.lookup f=some ⟨oc,od,.func (PySem.W.fnOf name g i j a Z kV D pm X h ct),U⟩) (O:PySem.W.codeIn K h g=true) (S:aJ N ps a)(F:∀vs H Q E,sp vs H Q E->vs.length=ps.length)(m:∀(A:zAI) (c:List Env) (s:SI) (H:Hp) (vs:List V) (Q:VK) (E:XK),cg k (A.deeper (zDW g a s.heap.objs.size f h))->sp vs H Q E-> ∃t,o8 (vC CX P w K G base N g a f h A c s H E) j t/\t { nx:=λ_ H'=>Q .aT H',rt:=Q } (start N vs) H) : aL P w K G base CX (k+1) f (PySem.W.fnOf name g i j a Z kV D pm X h ct) ps sp:=by
 refine⟨F,λA c s H Y us vs Q E M B hb r z=>?_⟩;have hl:=F _ _ _ _ z;have KX:=B.mod.GX.keeps λb o e=>(B.bs b o e).1;have T:=B.mod.nolimit.keeps λb o e=>(B.bs b o e).1;have l:∀y∈ps.zip us,a.names.lookup y.1=some .local\/(a.names.lookup y.1=some _/\((zAV (s.heap.objs.size+1) a.names []).lookup y.1).isSome=true):=λ⟨n,v⟩ hy=>by
  rcases S.par n (List.of_mem_zip hy).1 with q | q;·ext
  ·exact .inr ⟨q,zDa _ _ _ (.inl q)⟩
 refine codeAny_call_function M.depth (KX _ _ lk) rfl S.co S.gen rfl (PySem.W.codeRec_of KX O) (hb _ _ _ _ ?_);refine wpAny_newFunctionEnv_cells S.kind l λenv he s1 x=>?_;subst he;refine⟨T.keeps x.toInCall.keep,codeAny_func ?_⟩;obtain⟨t,ht,hq⟩:=m A c s H vs Q E (M.deeper _) z;have I:Inv (vC CX P w K G base N g a f h A c s H E) [] _ H s1:=KG S M.hd B hl r x;refine zB1 (ht [] s1 _ H _ I hq) (λfl W p=>?_) λe W p=>p;have C:∀{L:St} {H':Hp} {v:V} {u:Value},Inv (vC CX P w K G base N g a f h A c s H E) [] L H' W->RelV v u->Q v H'->CE c P w H s Q u W:= λ{L H' v u} J R q=>⟨v,H',J.os,J.bare,J.base,J.hok,R,q⟩;cases fl with| ret u=> obtain⟨v,L,H',J,R,q⟩:=p;exact C J R q| next=> obtain⟨L,H',J,q⟩:=p;exact C (v:=V.aT) J rfl q| brk=> obtain⟨_,_,_,q⟩:=p;exact False.elim q| cont=> obtain⟨_,_,_,q⟩:=p;exact False.elim q
section
variable {X:Cx}{x:Str}{p pos:Pos}{e:zAU}{es:List zAU}{t:TA}{id T:String}{r:List V->Hp->VK->Prop}
noncomputable def pA (r:List V->Hp->VK->Prop)(t:TA):TE:=fun σ H Q=>t σ H λa b=>r a b Q
theorem aI (i:bP X (.builtin id) r)(y:Gl X x)(l:X.mg x=none)(m:zCE x=some (.builtin id))(k:PA X (e::es) t)(o:x≠"__name__":=by decide)(c:(x == ("__debug__":Str))=false:=by decide)(w:zAG (e::es) X.env=(false,zAP e X.env)::zAG es X.env:=by rfl) (d:(zAW pos (zAG es X.env)).any (·.1)=false:=by rfl):PE X (.Call (.Name x p) (e::es) [] pos) (pA r t):=by intro a s σ H Q I h;refine zBG (nF I y l m ?_ o c);exact PyProof.Rows.callWith_builtin1 (aM (k pos a s σ H _ I h) λj f ⟨v,n,u,q,g⟩=>i a f σ n v j Q u q g) w d
theorem jb (i:bP X (.type T) r)(y:Gl X x)(l:X.mg x=none)(m:zCE x=some (.type T))(k:PA X (e::es) t)(o:x≠"__name__":=by decide)(c:(x == ("__debug__":Str))=false:=by decide)(w:zAG (e::es) X.env=(false,zAP e X.env)::zAG es X.env:=by rfl) (d:(zAW pos (zAG es X.env)).any (·.1)=false:=by rfl):PE X (.Call (.Name x p) (e::es) [] pos) (pA r t):=by intro a s σ H Q I h;refine zBG (nF I y l m ?_ o c);exact zB0 (aM (k pos a s σ H _ I h) λj f ⟨v,n,u,q,g⟩=>i a f σ n v j Q u q g) w d
end
end L2
namespace HT
open PySem PyProof.Rows
noncomputable def lexLt:List Int->List Int->Bool| [],[]=>false| [],_::_=>true| _::_,[]=>false| x::b,y::a=>if x=y then lexLt b a else decide (x < y)
theorem ee (x y:Int)(xs ys:List Int):lexLt (x::xs) (y::ys)=if x=y then lexLt xs ys else decide (x < y):=rfl
theorem CL:lexLt [] []=false:=rfl
theorem AS (y:Int)(ys:List Int):lexLt [] (y::ys)=true:=rfl
theorem AU (x:Int)(xs:List Int):lexLt (x::xs) []=false:=rfl
theorem MT (A:zAI)(s:SI)(a:Int)(t:Tok)(c:Int)(u:Tok):∃e,SeqAt.EqAt A s (.int a t) (.int c u) e/\(e=true↔a=c):=⟨(a == c),SeqAt.EqAt.int_int a t c u,by simp⟩
theorem MU (A:zAI)(s:SI)(a:Int)(t:Tok)(c:Int)(u:Tok)(prog:zAA)(w:zAD)(E:zzE)(Q:zzE)(h:Q (.bool (decide (a < c))) s) : zAB (zAC prog w) A (richCompare .Lt (.int a t) (.int c u)) Q E s:=(PyProof.Rows.lt_int h)
section
open PySem.SeqAt
open PySem.AutoSeq1 (wpAny_loadPart')
open PySem.MeetsSeq PySem.MeetsSeq2 PySem.MeetsSeq3
theorem CM (l b:M1)(items f:Array Value)(n n2:Nat)(dd J:Option M1)(W O:Array (Option Value))(ns ms:List Int)(hi:zBM items.toList ns)(U:zBM f.toList ms) : Meets (Builtin.«tuple.__lt__» ⟨[.ref l,.ref b],[]⟩) (λ_ R s=>s.heap.get? l=some { cls:=.type "tuple",dict:=dd,data:=.seq items n,slots:=W }/\s.heap.get? b=some { cls:=.type "tuple",dict:=J,data:=.seq f n2,slots:=O }/\ R (.ok (.ret (.bool (lexLt ns ms)))) s):= .of_wp λm w A R s h=>by
  obtain⟨I,g,d,N,os⟩:=s; obtain⟨T,V,h⟩:=h;have f2:=AutoSeq1.sub_tuple_tuple;have z1:items.size=ns.length:=by rw[<-hi.length]; simp
  have z2:f.size=ms.length:=by rw[<-U.length]; simp
  wp_walk using wpAny_loadPart' T,wpAny_loadPart' V,zBP _ (λo b L=>b.1=none/\L=⟨I,g,d,N,os⟩/\∃(F G:List Value) (j i:List Int),o=F.zip G/\ zBM F j/\zBM G i/\j.length+f.size=i.length+items.size/\R (.ok (.ret (.bool (lexLt j i)))) ⟨I,g,d,N,os⟩) _;case turn=> rintro⟨y,x⟩ o b L ⟨z,rfl,F,G,j,i,H,q,k,p,B⟩;cases q with| nil=>cases H| cons a t E=> cases k with| nil=>cases H| cons c u C=> injection H with M r;injection M with Z X;subst Z X;rw[ee] at B;simp at p;obtain⟨e,Y,D⟩:=MT A.in1 _ a t c u;refine yA (Y m w _ _ ?_);cases e with| true=> rw[u1 (D.mp rfl)] at B;wp_walk;exact⟨rfl,rfl,_,_,_,_,r,E,C,by lia,B⟩| false=> have K:=MU A.in1 ⟨I,g,d,N,os⟩ a t c u m w;wp_walk using K;ext
  case fin=>
   rintro⟨b1,b2⟩ L ⟨z,rfl,F,G,j,i,H,q,k,p,B⟩;subst z;have Q:lexLt j i=decide (items.size < f.size):=by cases q with
    | nil=> cases k with| nil=> rw[CL];ext| cons c u S=> rw[AS];ext
    | cons a t Q=> cases k with| nil=> rw[AU];grind| cons c u S=> ext
   rw[Q] at B;wp_walk;exact⟨_,rfl,by symm⟩
  grind
end
section
variable {prog:zAA}{w:zAD}{A:zAI}{E:zzE}{s:SI}
theorem Jv {l b:M1}{items a:Array Value}{ns ms:List Int}{Q:zzE}(x:IsTup s.heap l items)(m:IsTup s.heap b a)(v:zBM items.toList ns)(u:zBM a.toList ms)(y:A.units < zAT) (h:Q (.bool (lexLt ns ms)) s):zAB (zAC prog w) A (zAO .Lt (.ref l) (.ref b)) Q E s:=by obtain⟨⟨o,q,k,r⟩,t,z,n,B⟩:=id x;obtain⟨⟨j,d,data2,i⟩,e,f,p,g⟩:=id m;subst z B f g;exact richCompare_meets_room (op:=.Lt) ⟨_,t,rfl⟩ ⟨_,e,rfl⟩ PySem.F.slot_tuple_lt PySem.F.entry_tuple_lt (PySem.F.args_tuple_lt_2 _ _) (CM l b items a n p q d r i ns ms v u) (by grind) y
noncomputable def uK (n d:Nat):Option Int->Nat| none=>d| some v=>if v < 0 then (v+(n:Int)).toNat else min v.toNat n
theorem DR (n d:Nat):uK n d none=d:=rfl
theorem Hz (n d k:Nat):uK n d (some (k:Int))=min k n:=by rfl
end
end HT
namespace L2
open PySem PySem.Spec PyProof.Rows
abbrev TO:=St->Hp->(Option Int->Hp->Prop)->Prop
noncomputable def PO (X:Cx)(e:Option zAU)(t:TO):Prop:= ∀(a:zzC) (s:SI) (σ:St) (H:Hp) (Q:Option Int->Hp->Prop),Inv X a σ H s->t σ H Q-> zAB (zAC X.prog X.w) X.A (evalPart e X.env) (λu c=>∃o b,Inv X a σ b c/\zDt u o/\Q o b) X.xe s
noncomputable def AV:TO:=λ_ H Q=>Q none H
noncomputable def Jw (t:TE):TO:=fun σ H Q=>t σ H λx a=>∃i,x=.int i/\Q (some i) a
theorem intsAre_of:∀{us:List Value},Vals (ns.map V.int) us->zBM us ns:=by induction ns with| nil=>intro us r; cases r; exact .nil| cons n ns a=> intro us r;cases r with| cons c b=> obtain⟨t,e⟩:=c;subst e;exact .cons n t (a b)
section
variable {X:Cx}{e:zAU}{te:TE}{lo hi:Option zAU}{tl th:TO}{pos p2:Pos}
theorem AW:PO X none AV:=by intro a s σ H Q I h;exact y3 ⟨none,H,I,.none,h⟩
theorem AX (h:PE X e te):PO X (some e) (Jw te):=by intro a s σ H Q I b;refine aM (h a s σ H _ I b) λu k d=>?_;obtain⟨x,g,c,f,j⟩:=d;obtain⟨i,rfl,q⟩:=j;obtain⟨t,rfl⟩:=f;exact⟨some i,g,c,.int i t,q⟩
noncomputable def Sd (X:Cx)(r:V->Option Int->Option Int->Hp->VK->Prop):Prop:= ∀(a:zzC) (s:SI) (σ:St) (H:Hp) (x:V) (v d c:Value) (lo hi:Option Int) (b:M1) (Q:VK),Inv X a σ H s->RelV x v->s.heap.IsSliceOf b d c .none->zDt d lo->zDt c hi->r x lo hi H Q-> ∃T id,zDF (.type T) "__getitem__"=pure (some (.builtin id))/\s.TypeIs v T/\zAB (zAC X.prog X.w) X.A (zDX v (.ref b)) (EP X a σ Q) X.xe s
noncomputable def Sf (r:V->Option Int->Option Int->Hp->VK->Prop)(te:TE)(tl th:TO):TE:=fun σ H Q=>te σ H λx b=>tl σ b λl a=>th σ a λu c=>r x l u c Q
theorem yE (w:Sd X r)(K:PE X e te)(E:PO X lo tl)(J:PO X hi th):PE X (.Subscript e (.Slice lo hi none p2) pos) (Sf r te tl th):=by intro a s σ H Q I h;refine zEF (aM (K a s σ H _ I h) λv M c=>?_);obtain⟨x,p,B,y,C⟩:=c;refine wpAny_Slice (aM (E a M σ p _ B C) λi D ⟨l,j,n,k,m⟩=>aM (J a D σ j _ n m) λf d c=>?_);obtain⟨u,g,A,o,G⟩:=c;refine y3 ?_;have t:Inv X a σ g { d with heap:=d.heap.push { cls:=.type "slice",data:=.fields #[i,f,.none] } }:=A.kept λb N q=>y4 _ q;obtain⟨T,id,F,z,L⟩:=w a _ σ g x v i f l u d.heap.objs.size Q t y (Heap.IsSliceOf.new ..) k o G;exact tail_any z F L (by rfl)
noncomputable def nW (xs:List V)(lo hi:Option Int):List V:=(xs.drop (HT.uK xs.length 0 lo)).take (HT.uK xs.length xs.length hi - HT.uK xs.length 0 lo)
theorem Gu (xs:List V)(lo hi:Option Int):(nW xs lo hi).length<=xs.length:=by unfold nW;rw[zCe,zDi];lia
noncomputable def MV (K:zzA):R2:=λx y H Q=>∃a b d f,x=.ref a/\y=.ref b/\aG K H a (d.map V.int)/\aG K H b (f.map V.int)/\Q (.bl (HT.lexLt d f)) H
theorem Sg (m:X.A.units < zAT):eT X (zAO .Lt) (MV X.K):=by intro c s σ H x y v u Q I r f h;obtain⟨a,b,t,z,rfl,rfl,n,o,q⟩:=h;cases r;cases f;obtain⟨l,j,p,_⟩:=I.tuple n;obtain⟨d,k,p2,_⟩:=I.tuple o;have g:=intsAre_of j;have i:=intsAre_of k;exact HT.Jv p p2 g i m ⟨.bl _,H,I,rfl,q⟩
end
noncomputable def DS (n:Nat)(i:Int):Option Nat:=if 0<=i then (if i < n then some i.toNat else none) else if -(n:Int)<=i then some (i+n).toNat else none
noncomputable def j4 {α:Type}(xs:List α)(i:Int):Option α:=(DS xs.length i).bind λj=>xs[j]?
theorem Qy (h:DS n i=some j):seqIndex? i n=some j/\j < n/\-(n:Int)<=i/\i < n:=by
 unfold DS at h;by_cases b:0<=i
 ·rw[u1 b] at h;by_cases a:i < n
  ·rw[u1 a] at h;have e:=zA4 h;exact⟨by rw[seqIndex_of b a,e],by lia,by lia,a⟩
  ext
 ·rw[xL b] at h;by_cases a:-n<=i
  ·rw[u1 a] at h;have e:=zA4 h;exact⟨by rw[seqIndex_neg (by ext) a,e],by lia,a,by lia⟩
  ext
theorem AY (h:j4 xs i=some v):∃j,seqIndex? i xs.length=some j/\xs[j]?=some v/\j < xs.length/\-(xs.length:Int)<=i/\i < xs.length:=by unfold j4 at h;cases e:DS xs.length i with| none=>ext| some j=> obtain⟨a,d,b,c⟩:=Qy e;ext
theorem cN {j:Nat}(h:xs[j]?=some v):j4 xs (j:Int)=some v:=by
 have a:=(xI.mp h).1;have e:DS xs.length j=some j:=by unfold DS;ext
 unfold j4; ext
noncomputable def Qz (b:zAU):Prop:=∀o i,zDu b false o i=operate [o,i] (zDX o i)
noncomputable def uL (X:Cx)(r:R2):Prop:= ∀(c a:zAU) (b:zzC) (s:SI) (σ:St) (H:Hp) (x y:V) (v u:Value) (Q:VK),Inv X b σ H s->RelV x v->RelV y u->r x y H Q-> zDu a false v u=operate [v,u] (zDX v u)->zAB (zAC X.prog X.w) X.A (subscriptTail c a v u) (EP X b σ Q) X.xe s
noncomputable def rX (X:Cx)(id:String)(r:V->List V->Hp->VK->Prop):Prop:= ∀(a:zzC) (s:SI) (σ:St) (H:Hp) (x:V) (b:List V) (v:Value) (c:List Value) (Q:VK),Inv X a σ H s->RelV x v->Vals b c->r x b H Q-> zAB (zAC X.prog X.w) X.A (call (.builtin id) (v::c)) (EP X a σ Q) X.xe s
section
variable {X:Cx}{a b:zAU}{ta tb:TE}{pos:Pos}
theorem uL.or (h:uL X r)(h':uL X j):uL X (λx y H Q=>r x y H Q\/j x y H Q):=by
 intro d c e s σ H x y v u Q I i f q g;rcases q with q | q;·exact h d c e s σ H x y v u Q I i f q g
 ·exact h' d c e s σ H x y v u Q I i f q g
theorem aO (f:uL X r)(i:PE X a ta)(m:PE X b tb)(g:Qz b):PE X (.Subscript a b pos) (dz r ta tb):=by intro c s σ H Q I h;exact zEF (MJ i m I h λv u e x y l k j d q=>f a b c e σ l x y v u Q k j d q (g _ _))
noncomputable def q4 (K:zzA):R2:=λx y H Q=>∃p d i v,x=.ref p/\y=.int i/\az K H p d/\j4 d i=some v/\Q v H
noncomputable def yF (K:zzA):R2:=λx y H Q=>∃p d i v,x=.ref p/\y=.int i/\aG K H p d/\j4 d i=some v/\Q v H
noncomputable def MW:R2:=λx y H Q=>∃z i c,x=.str z/\y=.int i/\z.length<=PK/\j4 z.cps.toList i=some c/\Q (.str ⟨#[c]⟩) H
theorem HD:uL X (q4 X.K):=by
 intro l k c s σ H x y v u Q I G F h m;obtain⟨p,P,i,z,rfl,rfl,B,J,q⟩:=h;cases G;obtain⟨t,rfl⟩:=F;obtain⟨g,r,e,O⟩:=I.list B;obtain⟨j,o,A,N,E,C⟩:=AY J;obtain⟨w,K,f⟩:=r.get A;have L:=r.length;have M:=DN;have d:EP X c σ Q w s:=⟨z,H,I,f,q⟩;by_cases n:0<=i
 ·have D:i.toNat=j:=by rw[seqIndex_of n C] at o;ext
  exact item_listR e.isList n (by lia) (by ext) d m
 ·have D:(i+(g.toArray.size:Int)).toNat=j:=by rw[seqIndex_neg (by lia) E] at o;ext
  exact subscriptTail_builtinR (x:=w) e.isList.typeIs slot_list_getitem.lookup (wpAny_getItem_list_neg e.isList (by lia) (by ext) (by lia) (by ext) ⟨rfl,d⟩) m
theorem KH:uL X (yF X.K):=by intro g e c s σ H x y v u Q I C n h A;obtain⟨p,E,i,z,rfl,rfl,o,B,q⟩:=h;cases C;obtain⟨t,rfl⟩:=n;obtain⟨m,r,k,K⟩:=I.tuple o;obtain⟨j,F,l,L,N,D⟩:=AY B;obtain⟨w,G,f⟩:=r.get l;have J:=r.length;have M:=DN;have d:EP X c σ Q w s:=⟨z,H,I,f,q⟩;exact subscriptTail_builtinR k.typeIs slot_tuple_getitem.lookup (getItem_tuple (j:=j) k (by lia) (by lia) (by ext) (by ext) ⟨rfl,d⟩) A
theorem zA:uL X MW:=by
 intro e d f s σ H x y v u Q I m g h k;obtain⟨z,i,c,rfl,rfl,A,l,q⟩:=h;obtain⟨t,rfl⟩:=m;obtain⟨o,rfl⟩:=g;obtain⟨j,w,C,p,r,D⟩:=AY l;have B:z.cps.toList.length=z.length:=by rfl
 have n:=DN;exact tail_any rfl slot_str_getitem.lookup (getItem_str (by grind) (by ext) ⟨.str _,H,I.tok _,⟨_,rfl⟩,q⟩) k
noncomputable def Sh (K:zzA):R2:=λx y H Q=>q4 K x y H Q\/yF K x y H Q\/MW x y H Q
theorem Sk:uL X (Sh X.K):=HD.or (KH.or zA)
theorem DT (lo c:Option Int)(n:Nat):(zCT lo c none n).1=((HT.uK n 0 lo:Nat):Int)/\(zCT lo c none n).2.1=((HT.uK n n c:Nat):Int)/\(zCT lo c none n).2.2=1:=by
 refine⟨?_,?_,rfl⟩;·cases lo with| none=>rfl| some i=> simp only [zCT,HT.uK,Option.getD_none,show (1) > 0 by decide,if_true];grind
 ·cases c with| none=>rfl| some i=> simp only [zCT,HT.uK,Option.getD_none,show (1) > 0 by decide,if_true];grind
theorem CO (its:List Value)(lo c:Option Int):slicePick its.toArray lo c none=((its.drop (HT.uK its.length 0 lo)).take (HT.uK its.length its.length c - HT.uK its.length 0 lo)).toArray:=by obtain⟨g,e,f⟩:=DT lo c its.toArray.size;unfold slicePick;rw[g,e,f];simp only [sliceRange_one,pick_run,zB7] <;> rfl
noncomputable def Jx (K:zzA):V->Option Int->Option Int->Hp->VK->Prop:=λx lo e H Q=>∃a d,x=.ref a/\az K H a d/\∀p,H p=none->Q (.ref p) (upd H p (.lst (nW d lo e)))
theorem QA:Sd X (Jx X.K):=by intro d s σ H x v t w lo l p Q I o k i f h;obtain⟨a,j,rfl,g,q⟩:=h;cases o;obtain⟨m,r,e,n⟩:=I.list g;have c:=r.length;refine⟨"list",_,slot_list_getitem.lookup,e.isList.typeIs,?_⟩;refine wpAny_getItem_list_slice e.isList k i f .none (by simp) ?_ (by ext);rw[CO,<-c];refine⟨.ref s.heap.objs.size,_,I.laid (λb u q=>y4 _ q) (y8 _) ?_,rfl,q _ (I.hok.fresh (y8 _))⟩;exact⟨zAu (Gu j lo l) n,_,0,(r.drop _).take _,wE _ rfl⟩
noncomputable def iE:V->Bool| .aT=>true| .bl _=>true| .int _=>true| .str _=>true| _=>false
noncomputable def nI:V->V->Bool| .aT,.aT=>true| .bl a,.bl b=>a == b| .bl a,.int b=>(if a then 1 else 0) == b| .int a,.bl b=>a == (if b then 1 else 0)| .int a,.int b=>a == b| .str a,.str b=>a == b| _,_=>false
theorem Sl (f:RelV y u)(d:RelV x v)(h:iE y=true)(g:iE x=true):SeqAt.EqAt A s u v (nI y x):=by cases y with
 | aT=> cases f;cases x with| aT=>cases d; exact SeqAt.EqAt.same _| bl b=>cases d; exact SeqAt.EqAt.none_bool b| int b=>obtain⟨t,rfl⟩:=d; exact SeqAt.EqAt.none_int b t| str b=>obtain⟨t,rfl⟩:=d; exact SeqAt.EqAt.none_str b t| _=>exact absurd (show false=true from g) zAn
 | bl a=> cases f;cases x with| aT=>cases d; exact SeqAt.EqAt.bool_none a| bl b=>cases d; exact SeqAt.EqAt.bool_bool a b| int b=>obtain⟨t,rfl⟩:=d; exact SeqAt.EqAt.bool_int a b t| str b=>obtain⟨t,rfl⟩:=d; exact SeqAt.EqAt.bool_str a b t| _=>exact absurd (show false=true from g) zAn
 | int a=> obtain⟨e,rfl⟩:=f;cases x with| aT=>cases d; exact SeqAt.EqAt.int_none a e| bl b=>cases d; exact SeqAt.EqAt.int_bool a e b| int b=>obtain⟨t,rfl⟩:=d; exact SeqAt.EqAt.int_int a e b t| str b=>obtain⟨t,rfl⟩:=d; exact SeqAt.EqAt.int_str a e b t| _=>exact absurd (show false=true from g) zAn
 | str a=> obtain⟨e,rfl⟩:=f;cases x with| aT=>cases d; exact SeqAt.EqAt.str_none a e| bl b=>cases d; exact SeqAt.EqAt.str_bool a e b| int b=>obtain⟨t,rfl⟩:=d; exact SeqAt.EqAt.str_int a e b t| str b=>obtain⟨t,rfl⟩:=d; exact SeqAt.EqAt.str_str a e b t| _=>exact absurd (show false=true from g) zAn
 | _=>exact absurd (show false=true from h) zAn
noncomputable def HE (x:V)(u:Value):Bool:=match u with| .none=>nI .aT x| .bool b=>nI (.bl b) x| .int i _=>nI (.int i) x| .str z _=>nI (.str z) x| _=>false
theorem DU (r:RelV y u)(f:iE y=true):HE x u=nI y x:=by cases y with| aT=>cases r; rfl| bl b=>cases r; rfl| int i=>obtain⟨t,rfl⟩:=r; rfl| str z=>obtain⟨t,rfl⟩:=r; rfl| _=>exact absurd (show false=true from f) zAn
theorem yG (e:RelV x v)(g:iE x=true):∀{xs:List V} {us:List Value},Vals xs us->xs.all iE=true->∀u∈us,SeqAt.EqAt A s u v (HE x u)
 | _,_,.nil,_=>λu c=>by cases c| y::xs,u::us,.cons r t,f=>λh c=>by
  rw[List.all_cons,zAw] at f;rcases wS.mp c with rfl | c;·rw[DU r f.1]; exact Sl r e f.1 g
  ·exact yG e g t f.2 h c
theorem DV:bP X (.type "list") (λxs H Q=>∃p ys,xs=[.ref p]/\(az X.K H p ys\/aG X.K H p ys)/\∀l,H l=none->Q (.ref l) (upd H l (.lst ys))):=by
 intro v s σ H xs C Q I r h;obtain⟨p,ys,rfl,t,q⟩:=h;obtain⟨u,rfl,B⟩:=vals1 r;cases B;have j:∀c,Vals ys c->ys.length<=PK->∀(d:Heap) g,(∀b A,s.heap.get? b=some A->d.get? b=some A)-> d.get? s.heap.objs.size=some _->EP X v σ Q _ _:=λc f m d g k e=>⟨.ref s.heap.objs.size,_,I.laid (t':=s.toks) k (y8 _) (show a_ X.prog X.w _ d _ (.lst ys) from ⟨m,c,g,f,e⟩),rfl,q _ (I.hok.fresh (y8 _))⟩;rcases t with t | t
 ·obtain⟨c,f,y,m⟩:=I.list t;have i:=f.length;obtain⟨o,x,w,n,z⟩:=y.isList;exact call_list_seq p (.inl rfl) x w z (λd g k e=>j c f m d g k e) (by ext)
 ·obtain⟨c,f,y,m⟩:=I.tuple t;have i:=f.length;obtain⟨o,x,w,n,z⟩:=y;exact call_list_seq p (.inr rfl) x w z (λd g k e=>j c f m d g k e) (by ext)
theorem CP:bP X (.type "tuple") (λxs H Q=>∃p ys,xs=[.ref p]/\((az X.K H p ys/\∀l,H l=none->Q (.ref l) (upd H l (.tup ys)))\/(aG X.K H p ys/\Q (.ref p) H))):=by
 intro k s σ H xs x Q I r h;obtain⟨p,ys,rfl,h⟩:=h;obtain⟨u,rfl,w⟩:=vals1 r;cases w;rcases h with ⟨g,q⟩ | ⟨g,q⟩
 ·obtain⟨c,d,f,j⟩:=I.list g;have i:=d.length;refine call_tuple_list f.isList (λt n=>?_) (by ext);have m:=I.kept (t':=s.toks) n;have v:= m.laid (t':=s.toks) (λb o e=>y4 _ e) (y8 _) (show a_ X.prog X.w _ _ _ (.tup ys) from ⟨j,c,d,IsTup.new _ _⟩);exact⟨.ref t.objs.size,_,v,rfl,q _ (m.hok.fresh (y8 _))⟩
 ·obtain⟨c,d,f,j⟩:=I.tuple g;exact call_tuple_same f ⟨.ref p,H,I,rfl,q⟩
noncomputable def Sn (K:zzA)(T:String)(x:V)(H:Hp):Prop:=match x with| .str _=>T="str"| .int _=>T="int"| .ref p=>(T="list"/\∃e,az K H p e)\/(T="tuple"/\∃o,K.lookup p=some o/\o.cls=.type "tuple"/\o.dict=none)\/(T="dict"/\((∃c,H p=some (.dK c))\/∃c,H p=some (.dT c)))\/(T="set"/\∃S n,H p=some (.set S n))| _=>False
theorem KI (I:Inv X g σ H s)(r:RelV x v)(h:Sn X.K T x H) : s.TypeIs v T/\∀a,v=.ref a->∃q,s.heap.get? a=some q/\q.dict=none:=by cases x with
 | str z=> obtain⟨t,rfl⟩:=r;cases (show T="str" from h);exact⟨rfl,(by simp)⟩| int i=> obtain⟨t,rfl⟩:=r;cases (show T="int" from h);exact⟨rfl,(by simp)⟩| ref p=>
  cases r;rcases h with ⟨rfl,A,u⟩ | ⟨rfl,o,d,w,l⟩ | ⟨rfl,d⟩ | ⟨rfl,S,n,d⟩
  ·obtain⟨y,_,m,_⟩:=I.list u;refine⟨m.isList.typeIs,λa e=>?_⟩;obtain⟨o,n,e,c,l,_⟩:=m;ext
  ·refine⟨⟨o,I.gR p o d,w⟩,λa e=>?_⟩;cases e;exact⟨o,I.gR _ o d,l⟩
  ·have z:∃o,s.heap.get? p=some o/\o.ExactDict:=by
    rcases d with ⟨j,d⟩ | ⟨j,d⟩
    ·obtain⟨_,_,_,_,o,_,_,e,f,_⟩:=I.hok p _ d;ext
    ·obtain⟨_,_,_,_,o,_,_,e,f,_⟩:=I.hok p _ d;ext
   obtain⟨o,e,f⟩:=z;refine⟨⟨o,e,f.1⟩,λa k=>?_⟩;cases k;exact⟨o,e,f.2.1⟩
  ·obtain⟨o,_,_,_,e,f,_⟩:=I.hok p _ d;refine⟨⟨o,e,f.1⟩,λa k=>?_⟩;cases k;exact⟨o,e,f.2.1⟩| _=>exact False.elim h
noncomputable def So (K:zzA)(T:String)(r:V->List V->Hp->VK->Prop)(e:TE):TE:=fun σ H Q=>e σ H λx d=>Sn K T x d/\r x [] d Q
noncomputable def BX (K:zzA)(T:String)(r:V->List V->Hp->VK->Prop)(e:TE)(t:TA):TE:=fun σ H Q=>e σ H λx d=>Sn K T x d/\t σ d λg f=>r x g f Q
variable {o e:zAU}{es:List zAU}{to:TE}{t:TA}{name:Str}{apos cpos:Pos}{T id:String}{r:V->List V->Hp->VK->Prop}
theorem Ss (B:zEG T)(g:Slot T name id)(j:typeOf (.builtin id)=pure (.type "method_descriptor"))(A:rX X id r)(n:PE X o to)(f:zBC o name X.env (zAP o X.env)=zAP o X.env:=by rfl) (d:(apos.endLine == cpos.line)=true:=by rfl):PE X (.Call (.Attribute o name apos) [] [] cpos) (So X.K T r to):=by intro c s σ H Q I h;refine wpAny_Call_method0_late f d (aM (n c s σ H _ I h) λv p q=>?_);obtain⟨x,w,l,m,u,y⟩:=q;obtain⟨z,C⟩:=KI l m u;exact⟨T,id,B,g,j,z,C,zDb rfl (PySem.evalArgs_none (A c p σ w x [] v [] Q l m .nil y))⟩
theorem VE (F:zEG T)(j:Slot T name id)(l:typeOf (.builtin id)=pure (.type "method_descriptor"))(B:rX X id r)(G:PE X o to)(z:PA X (e::es) t)(d:zBC o name X.env (zAP o X.env)=zAP o X.env:=by rfl)(i:((zAW cpos (zAG (e::es) X.env)).all (λx=>!x.1)&&(zCF cpos (zAZ [] X.env)).all (λx=>x.1.isSome) &&decide ((e::es).length+([]:List zEB).length+(if ([]:List zEB).isEmpty then 0 else 1) < 30))=true:=by rfl)(f:(apos.endLine == cpos.line)=true:=by rfl) (w:zAG (e::es) X.env=(false,zAP e X.env)::zAG es X.env:=by rfl) (k:(zAW cpos (zAG es X.env)).any (·.1)=false:=by rfl) : PE X (.Call (.Attribute o name apos) (e::es) [] cpos) (BX X.K T r to t):=by intro c s σ H Q I h;refine wpAny_Call_method_late d i f rfl (aM (G c s σ H _ I h) λv u D=>?_);obtain⟨x,N,m,p,E,O⟩:=D;obtain⟨J,q⟩:=KI m p E;refine⟨T,id,F,j,l,J,q,?_⟩;have n:=z cpos c u σ N _ m O;rw[w] at n ⊢;refine zDb ‹_› (zDg ?_);exact aM n λy L ⟨M,P,K,C,A⟩=>B c L σ P x M v y Q K p C A
end
noncomputable def Yy (X:Cx)(id:String)(r:V->List V->Hp->VK->Prop):Prop:= ∀(a:zzC) (s:SI) (σ:St) (H:Hp) (x:V) (b:List V) (v:Value) (c:List Value) (Q:VK),Inv X a σ H s->RelV x v->Vals b c->r x b H Q-> zAB (zAC X.prog X.w) X.A (call (.builtin id) (v::c)) (EP X a σ Q) X.xe s
theorem Vals.one:∀{x:V} {us:List Value},Vals [x] us->∃u,us=[u]/\RelV x u| _,_,.cons r .nil=>⟨_,rfl,r⟩
theorem Vals.reverse (h:Vals xs us):Vals xs.reverse us.reverse:=by induction h with| nil=>exact .nil| cons r t a=>rw[List.reverse_cons,List.reverse_cons]; exact Vals.append a (.cons r .nil)
theorem Vals.rep (h:Vals xs us):∀k:Nat,Vals (replicate k xs).flatten (replicate k us).flatten| 0=>.nil| k+1=>by exact Vals.append h (Vals.rep h k)
theorem foldl_rep (its:List Value):∀(k:Nat) (a:List Value), foldl (λd c=>d++c) a.toArray (replicate k its.toArray)=(a++(replicate k its).flatten).toArray
 | 0,a=>by simp| k+1,a=>by
  have e:a.toArray++its.toArray=(a++its).toArray:=by simp
  have b:(a++its)++(replicate k its).flatten=a++(replicate (k+1) its).flatten:=by grind
  rw[<-b,<-foldl_rep its k _,<-e,List.replicate_succ,List.foldl_cons]
section
variable {X:Cx}{pins:zzC}{σ:St}{H:Hp}{s:SI}{l b:M1}{xs ys zs:List V}
theorem Inv.XF {its its':List Value}{n:Nat}{f:Array Value->Array Value}{t':Nat}(I:Inv X pins σ H s)(c:H l=some (.lst xs))(e:s.heap.get? l=some { cls:=.type "list",data:=.seq its.toArray n }) (h:f its.toArray=its'.toArray) (d:Vals ys its') (hz:ys.length<=PK) : Inv X pins σ (upd H l (.lst ys)) { s with heap:=s.heap.update l (mapSeq f),toks:=t' }:=by have q:=PySem.IsL.update e f;rw[h] at q;refine I.write (by rw[c]; exact trivial) (.inl rfl) (λj u i g=>(zBc s.heap _ (Ne.symm i)).trans g) ⟨_,q⟩ ?_;exact⟨hz,its',_,d,q⟩
theorem Inv.Jy (I:Inv X pins σ H s)(a:Vals ys its)(hz:ys.length<=PK) : Inv X pins σ (upd H s.heap.objs.size (.lst ys)) { s with heap:=s.heap.push { cls:=.type "list",data:=.seq its.toArray },toks:=t' }:= I.laid (λ_ _ q=>y4 _ q) (y8 _) ⟨hz,its,0,a,wE _ rfl⟩
theorem Inv.fresh (I:Inv X pins σ H s):H s.heap.objs.size=none:=I.hok.fresh (y8 _)
theorem Inv.Jz (I:Inv X pins σ H s)(a:H l=some (.lst xs)):xs.length<=PK/\∃(its:List Value) (n:Nat),Vals xs its/\xs.length=its.length/\s.heap.get? l=some { cls:=.type "list",data:=.seq its.toArray n }:=by obtain⟨z,its,n,r,e⟩:=I.hok l _ a;exact⟨z,its,n,r,r.length,e⟩
theorem MX (h:n<=PK):Builtin.List.listTooLong n=false:=by unfold Builtin.List.listTooLong;ext
end
section
variable {X:Cx}
noncomputable def AZ:V->List V->Hp->VK->Prop:=λx b H Q=>∃l a y,x=.ref l/\b=[y]/\H l=some (.lst a)/\a.length < PK/\Q .aT (upd H l (.lst (a++[y])))
theorem eF:Yy X "list.append" AZ:=by intro d s σ H x p v m Q I g f h;obtain⟨l,o,y,rfl,rfl,c,k,q⟩:=h;cases g;obtain⟨u,rfl,j⟩:=f.one;obtain⟨z,a,n,r,i,e⟩:=I.Jz c;refine zCN F.slot_list_append ⟨_,e,rfl⟩ F.entry_list_append (F.args_list_append_2 _ _) (PySem.list_append l a.toArray n u (by ext)) ⟨e,?_⟩;refine⟨.aT,_,I.XF (its':=a++[u]) c e (by simp) (r.append ‹_›) ?_,rfl,q⟩;grind
noncomputable def DW:R2:=λx y H Q=>∃l b c a,x=.ref l/\y=.ref b/\H l=some (.lst c)/\H b=some (.lst a)/\c.length+a.length<=PK/\∀p,H p=none->Q (.ref p) (upd H p (.lst (c++a)))
theorem gU:eT X (zBI .Add) DW:=by
 intro f s σ H x y v u Q I o g h;obtain⟨l,b,w,E,rfl,rfl,t,i,C,q⟩:=h;cases o;cases g;obtain⟨z,c,n,r,A,e⟩:=I.Jz t;obtain⟨B,a,D,p,k,m⟩:=I.Jz i;refine PySem.P.add_list e m ?_ (by ext);have j:c.toArray++a.toArray=(c++a).toArray:=by simp
 rw[j];exact⟨.ref _,_,I.Jy (r.append p) (by ext),rfl,q _ I.fresh⟩
noncomputable def MY:R2:=λx y H Q=>∃l k a,x=.ref l/\y=.int k/\H l=some (.lst a)/\-(2 ^ 63)<=k/\k < 2 ^ 63/\a.length * k.toNat<=PK/\ ∀p,H p=none->Q (.ref p) (upd H p (.lst (replicate k.toNat a).flatten))
theorem len_rep {α:Type}(xs:List α)(k:Nat):(replicate k xs).flatten.length=k * xs.length:=by simp
theorem zB:eT X (zBI .Mult) MY:=by
 intro o s σ H x y v u Q I J w h;obtain⟨l,k,L,rfl,rfl,E,D,G,A,q⟩:=h;cases J;obtain⟨t,rfl⟩:=w;obtain⟨z,b,n,r,M,e⟩:=I.Jz E;have j:b.toArray.size * k.toNat<=PK:=by ext
 have i:¬ b.toArray.size * k.toNat > (2 ^ 63 - 1) / 8:=by
  have:PK<=(2 ^ 63 - 1) / 8:=by decide
  lia
 have f:¬ (!Builtin.List.listFitsIndex k)=true:=by rw[fitsIndex_both D G];simp
 have d:¬ Builtin.List.listTooLong (b.toArray.size * k.toNat)=true:=by rw[MX j];simp
 have g:foldl (λK p=>K++p) #[] (replicate (if b.toArray.isEmpty=true then 0 else k.toNat) b.toArray)=(replicate k.toNat b).flatten.toArray:=by
  have C:=λm=>by have:=foldl_rep b m [];symm
  rw[C];cases b with| nil=>simp| cons a N=>rfl
 refine zDI (by decide) ⟨_,e,rfl⟩ (λB=>typeIs_int B k t) noFill_list_mul F.fills_int_mul F.slot_int_rmul repeat_list F.slot_int_index.lookup (zCN F.slot_int_rmul rfl F.entry_int_rmul (F.args_int_rmul_2 _ _) (int___rmul___int_list k t l b.toArray n) ⟨e,rfl,⟨_,e,rfl⟩,zCN F.slot_list_mul ⟨_,e,rfl⟩ F.entry_list_mul (F.args_list_mul_2 _ _) (AutoListH.list___mul___list_int_3 l b.toArray n k t f i d) ⟨e,?_⟩⟩);rw[g];exact⟨.ref _,_,I.Jy (r.rep k.toNat) (by rw[len_rep,Nat.mul_comm]; exact A),rfl,q _ I.fresh⟩
end
section
variable {prog:zAA}{w:zAD}{A:zAI}{E:zzE}{s:SI}
end
section
variable {X:Cx}
end
end L2
namespace VZ
open PySem PySem.W PySem.Calls PyProof.Rows
theorem zC:∀(ns:List Int) (vs:List Value),WellAll P h vs (ns.map WData.int)->zBM vs ns:=by intro ns;induction ns with| nil=> intro vs w;cases w;exact .nil| cons n ns c=> intro vs w;cases w with| cons a b=> cases a;exact .cons _ _ (c _ b)
theorem KJ {l:OpenLaw}(v:l.most=some n)(c:l.row.toRowW.claim.pre args=true) (i:WellAll P h b args) : ∃a vs ns,b=[Value.ref a]/\args=[WData.list (ns.map WData.int)]/\h.get? a=some { cls:=.type "list",data:=.seq vs.toArray }/\zBM vs ns/\ns.length<=n:=by
 have g:=(pre_splitW c).1;have k:l.pre.holds [] _=true:=(pre_splitW c).2;obtain⟨d,r,rfl,s,t⟩:=hasAllW_cons g;obtain rfl:=hasAllW_nil t;obtain⟨u,rfl,q⟩:=hasW_list s;obtain⟨ns,rfl⟩:=items_int q;have f:ns.length<=n:=by
  have j:(WTm.not (.lt (.lit (.int n)) (.len (.arg 0)))).holds [] { args:=[.list (ns.map .int)] }=true:=by have j:=(holds_andW k).1;ext
  have w:=condW_of j rfl;ext
 cases i with| cons p o=> cases o;cases p with| list m e=>exact⟨_,_,ns,rfl,rfl,m,zC ns _ e,f⟩
theorem KL (l:OpenLaw)(a:List WData):l.row.toRowW.claim.post a (.bool true) a=true:= postW_of (show WShape.has [] _ _=true by rfl) (show (WTm.eq _ _).value [] _=some _ from w_eq_bool rfl w_lit) rfl
theorem Gw {l:OpenLaw}{n:Nat}{q:zAA}{loose:List Str}{XP:(Str->Option Value)->Heap->Prop}{YP:zAD->Heap->Prop}{d:DefRec}(P:l.most=some n) (p:d.params.defaults=[])(call:∀(w:zAD) (t b:SI) (m u:Str->Option Value) (g:M1) (o:Obj) (z k c:Value) (a:M1) (vs:List Value) (ns:List Int), Ground q loose [] XP w t m u b.heap->YP w b.heap-> b.heap.get? g=some o->o.data=.func (docDef d.name d.params d.body d.scope z k c)->b.heap.CodeRec k d.name->m d.name=some (.ref g)-> b.heap.get? a=some { cls:=.type "list",data:=.seq vs.toArray }->zBM vs ns->ns.length<=n->b.gens=#[]-> zBF (zAC l.prog w) zEC (.call (.ref g) ⟨[.ref a],[]⟩) (λr s'=>r=.ok (.ret (.bool true))/\OldK b.heap s'.heap/\s'.os=b.os/\zCY s'.gens) b) : WalkO q loose XP YP l.row.toRowW d [] (λf vs=>PySem.call f vs):=by intro w t b m u G Y g o z k c J F L E s D x I C B R i A N y O;obtain rfl:J=.none:=Dflts.none D p;obtain rfl:F=.none:=Dflts.noKw D;obtain⟨a,vs,ns,rfl,rfl,j,e,h⟩:=KJ P i y;refine enter_call (zCC (call w t b m u g o z k c a vs ns G Y L (fd_plain E) s x j e h I) λr s' M=>?_);obtain⟨rfl,K,H,Q⟩:=M;exact⟨.inl ⟨.bool true,.bool true,[],rfl,λ_=>rfl,.bool true,KL l _,(by simp)⟩,K,H,Q⟩
section
variable {prog:zAA}{w:zAD}{A:zAI}{E:zzE}{s:SI}{K:zBV}
end
end VZ
namespace L2
open PySem PySem.Spec PyProof.Rows
theorem vD:∀{vs:List Value} {ns:List Int},zBM vs ns->Vals (ns.map V.int) vs| _,_,.nil=>.nil| _,_,.cons n t h=>.cons ⟨t,rfl⟩ (vD h)
noncomputable def MZ (H:Hp):Prop:=∀b,H b=none\/∃o a,H b=some (.iL o (.lst a))
theorem M0 {K:zzA}(Q:K.In c.heap) (A:c.heap.Ns VV t) (f:c.heap.Ns zDV R) (hbb:∀x:Str,x≠"__name__"->R x=zCE x) (y:c.heap.NoLimit) (hg:c.gens=#[])(I:c.heap.get? a=some { cls:=.type "list",data:=.seq vs.toArray }) (U:zBM vs ns) (Z:ns.length<=PK) (hr:cg k zEC)(F:∀base:Heap,K.In base->base.Ns VV t->aL P w K t base CX k J X [x] sp) (l:∀(s:SI) (u:Value),zDL s X ⟨[u],[]⟩ [(x,u)])(M:∀H:Hp,MZ H->az K H a (ns.map V.int)->sp [.ref a] H (λv _=>v=.bl true) λ_ _ _=>False)(L:∀H e s',CX [] H c (λ_ _ _=>False) e s'->False) : zBF (zAC P w) zEC (.call (.ref J) ⟨[.ref a],[]⟩) (λr s'=>r=.ok (.ret (.bool true))/\OldK c.heap s'.heap/\s'.os=c.os/\zCY s'.gens) c:=by
 have S:=vD U;have C:=U.length;have i:∀H:Hp,MZ H->az K H a (ns.map V.int)->fO P w H c.heap->(∀b,H b≠none->b=a)->(H a≠none->K.lookup a=none)-> zBF (zAC P w) zEC (.call (.ref J) ⟨[.ref a],[]⟩) (λr s'=>r=.ok (.ret (.bool true))/\OldK c.heap s'.heap/\s'.os=c.os/\zCY s'.gens) c:=by intro H T hS E hA hK;have g:∀{b:M1} {o:Obj},c.heap.get? b=some o->H b=none->(vj c.heap H).get? b=some o:=λe n=>MI e n;have j:∀{b:M1} {m:Str->Option Value},c.heap.Ns b m->(vj c.heap H).Ns b m:=λ{b m} ⟨o,es,ep,e,d,r⟩=>⟨o,es,ep,(by grind),d,r⟩;have p:=λb o e=>g (Q b o e) (by grind);have hM:Mod K t (vj c.heap H):=⟨p,j A,(by grind),let ⟨mc,h1,h2⟩:=y; ⟨mc,j h1,h2⟩⟩;have e0:yD P w K t (vj c.heap H) zEC [] c H:=⟨rfl,hM,λb o e=>Qn e,Nat.le_of_eq (Km _ _),trivial,λb f=>absurd (show b∈([]:List M1) from f) (by simp),E,.of_eq hg⟩;refine zCC ((F _ p (j A)).run zEC [] c H _ [.ref a] [.ref a] _ _ hr e0 (l c (.ref a)) (.cons rfl .nil) (M H T hS)) λr s' h=>?_;cases r with| error e=>exact (L H e s' h).elim| ok fl=> cases fl with| next=>exact False.elim h| brk=>exact False.elim h| cont=>exact False.elim h| ret u=> obtain⟨v,H',os,D,Y,B,r',q⟩:=h;have q':v=.bl true:=q;subst q';obtain rfl:u=Value.bool true:=r';refine⟨rfl,OldK.of_keep λb o e=>?_,os,D⟩;cases q:H b with| none=>exact Y.keep b o e q (by intro z; exact absurd (show b∈([]:List M1) from z) (by simp)) (by simp)| some u=>
     rcases T b with z | ⟨ob,xs,z⟩;·rw[q] at z; cases z
     ·have z2:=Y.kO b ob _ z;obtain⟨W,_⟩:=E b _ z;obtain⟨e2,_⟩:=B b _ z2;rw[e] at W; cases W;exact e2
 cases N:K.lookup a with| some o=> have e:=Q a o N;rw[I] at e;cases e;refine i (λ_=>none) (λ_=>.inl rfl) (.inr ⟨_,vs.toArray,_,N,rfl,rfl,rfl,by rw[zB7,C]; exact Z,by simpa using S⟩) (λb u z=>by have G:=z; cases G) (λb z=>absurd rfl z) λz=>absurd rfl z| none=>
  refine i (λb=>if b=a then some _ else none) (λb=>?_) (.inl (.inr ⟨{ cls:=.type "list",data:=.seq vs.toArray },u1 rfl⟩)) (λb u z=>?_) (λb z=>?_) λ_=>N
  ·by_cases f:b=a;·exact .inr ⟨_,_,u1 f⟩
   ·exact .inl (xL f)
  ·by_cases f:b=a
   ·have G:=(u1 f).symm.trans z;cases G;subst f;exact⟨I,by rw[yB]; exact Z,vs,_,S,I⟩
   ·have G:=(xL f).symm.trans z;cases G
  ·by_cases f:b=a;·exact f
   ·exact absurd (xL f) z
theorem QB {l:PySem.W.OpenLaw}{n k:Nat}{q:zAA}{loose:List Str}{XP:(Str->Option Value)->Heap->Prop}{YP:zAD->Heap->Prop}{d:DefRec}{K:Params->zzA}{CX:zAD->uJ}{sp:zAD->Sp}{x:Str}(C:l.most=some n) (A:n<=PK) (t:d.params.defaults=[]) (R:cg k zEC)(I:∀(w:zAD) (h:Heap),YP w h->(K w.params).In h)(F:∀(w:zAD) (i:Str->Option Value) (m:M1) (h:Heap),(K w.params).In h->h.Ns VV i->i d.name=some (.ref m)-> ∃z:zAE,(∀(s:SI) (u:Value),zDL s z ⟨[u],[]⟩ [(x,u)])/\ ∀base:Heap,(K w.params).In base->base.Ns VV i->aL l.prog w (K w.params) i base (CX w) k m z [x] (sp w))(p:∀(w:zAD) (H:Hp) (a:M1) (ns:List Int),ns.length<=n->MZ H->az (K w.params) H a (ns.map V.int)->sp w [.ref a] H (λv _=>v=.bl true) λ_ _ _=>False)(y:∀(w:zAD) (H:Hp) (s:SI) (e:Value) (s':SI),CX w [] H s (λ_ _ _=>False) e s'->False) : PySem.W.WalkO q loose XP YP l.row.toRowW d [] (λf vs=>PySem.call f vs):=by refine VZ.Gw C t λw W Q i X m o Z S D a vs ns G Y T U M r j g c L=>?_;have B:=I w _ Y;obtain⟨z,N,E⟩:=F w i m _ B G.T.g r;exact M0 B G.T.g G.T.b G.T.builtins G.T.nolimit L j g (zAu c A) R E N (λH J P=>p w H a ns c J P) λH e s'=>y w H Q e s'
def inClass (s:zAM)(j:Nat):zAM:=match s with| .ClassDef _ _ _ a _ _ _ _ _ _ _=>a.getD j (.Pass ⟨0,0,0,0⟩)| _=>.Pass ⟨0,0,0,0⟩
def gp (s:zAM):Arguments:=match s with| .FunctionDef _ a _ _ _ _ _ _ _ _=>a| _=>{ posonlyargs:=[],args:=[],vararg:=none,kwonlyargs:=[],kw_defaults:=[],kwarg:=none,defaults:=[] }
def eU (s:zAM):List zAM:=match s with| .FunctionDef _ _ b _ _ _ _ _ _ _=>b| _=>[]
def aE (s:zAM):zDE:=match s with| .FunctionDef _ _ _ _ _ _ a _ _ _=>a| _=>{ kind:=.function,names:=[],isGenerator:=false,isCoroutine:=false }
abbrev bI:uJ:=λ_ _ _ _ _ _=>False
abbrev E0:XK:=λ_ _ _=>False
theorem aN:Passes bI X E0:=λ_ _ _ _ _ _ _ h=>h.elim
structure nJ (K:zzA)(x qual:Str)(st:zAM)(f:M1)(fd:zAE):Prop where
 ex:∃(oc:Value) (od:Option M1) (kV doc pm:Value) (an:Option M1) (cdv ct:Value) (osl:Array (Option Value)), fd=PySem.W.fnOf x qual (gp st) (eU st) (aE st) .none kV doc pm an cdv ct/\K.lookup f=some ⟨oc,od,.func fd,osl⟩/\PySem.W.codeIn K cdv qual=true
 kp:PySem.W.keepIn K (.ref f)=true
section
variable {P:zAA}{w:zAD}{K:zzA}{mg:Str->Option Value}{base:Heap}
theorem nJ.ok {st:zAM}(F:nJ K x b st f j)(S:aJ N ps (aE st))(e:∀vs H Q E,sp vs H Q E->vs.length=ps.length)(d:∀(c:Value) (A:zAI) (a:List Env) (s:SI) (H:Hp) (vs:List V) (Q:VK) (E:XK),cg k (A.deeper (zDW b (aE st) s.heap.objs.size f c))->sp vs H Q E-> ∃t,o8 (vC bI P w K mg base N b (aE st) f c A a s H E).OM (eU st) t/\t { nx:=λ_ H'=>Q .aT H',rt:=Q } (start N vs) H):aL P w K mg base bI (k+1) f j ps sp:=by obtain⟨v,r,kV,m,p,y,c,u,o,rfl,l,g⟩:=F.ex;refine OQ l g S e λA a s H vs Q E n i=>?_;obtain⟨t,h,q⟩:=d c A a s H vs Q E n i;exact⟨t,h.OM,q⟩
theorem nJ.binds {st:zAM}(F:nJ K x a st f i)(h:∀(kV b d:Value) (e:Option M1) (c g:Value) (us:List Value),us.length=ps.length->zDT (PySem.W.fnOf x a (gp st) (eU st) (aE st) .none kV b d e c g) ⟨us,[]⟩=pure (ps.zip us)):Binds K i ps []:=by obtain⟨n,l,kV,b,d,e,c,g,j,rfl,m,k⟩:=F.ex;exact .all (h kV b d e c g)
theorem Su {st:zAM}{kV d g b h:Value}(l:K.lookup f=some ⟨j,od,.func (PySem.W.fnOf x a (gp st) (eU st) (aE st) .none kV d g i b h),e⟩)(c:PySem.W.codeIn K b a=true) (k:PySem.W.keepIn K (.ref f)=true):nJ K x a st f (PySem.W.fnOf x a (gp st) (eU st) (aE st) .none kV d g i b h):=⟨⟨j,od,kV,d,g,i,b,h,e,rfl,l,c⟩,k⟩
end
theorem iF (a:cg k A):A.units+1 < zAT:=zCt (by simp) a.units
theorem KN (h:n<=1000):n < PK:=zCt h (by decide)
section
variable {X:Cx}
theorem pv (i:Nat){a:Pos}(c:X.N[i]?=some x:=by rfl)(d:OH X.env.scope x:=by first | exact Or.inl rfl | exact Or.inr (Or.inl rfl) | exact Or.inr (Or.inr rfl))(e:(x == ("__debug__":Str))=false:=by decide)(b:(x == ("__classdict__":Str))=false:=by decide):PE X (.Name x a) (b_ i):=RS c d e b
end
noncomputable def ah (H H':Hp):Prop:=∀b o,H b=some o->H' b=some o
theorem ah.refl (H:Hp):ah H H:=λ_ _ h=>h
theorem ah.trans (a:ah H d)(b:ah d e):ah H e:=λc o h=>b c o (a c o h)
theorem ah.free (e:ah H H')(h:H' l=Option.none):H l=Option.none:=by cases q:H l with| none=>rfl| some o=> rw[e l o q] at h;symm
theorem ah.seq {K:zzA}(e:ah H H')(h:az K H a xs):az K H' a xs:=by
 rcases h with (h | ⟨o,h⟩) | h;·exact .inl (.inl (e _ _ h))
 ·exact .inl (.inr ⟨o,e _ _ h⟩)
 ·exact .inr h
end L2
namespace TB
open PySem PySem.Spec PySem.W PyProof.Rows
section
variable {prog:zAA}{w:zAD}{A:zAI}{E:zzE}{s:SI}
theorem nK (h:(zAN prog w).is k v=true):∃t,v=.int k t:=Value.isInt_shape h
theorem KO {k f:Bool}{Q:Bool->SI->Prop}:∀{x y:List Int} {xs ys:List Value} (i:Nat),ItemsAre (zAN prog w) x xs->ItemsAre (zAN prog w) y ys->f=decide (xs.length < ys.length)->Q (HT.lexLt x y) s->KatLex prog w A k f Q (xs.zip ys) i s
 | [],[],_,_,i,.nil,.nil,d,h=>by subst d;symm| [],_::_,_,_,i,.nil,.cons _ _,d,h=>by subst d;symm| _::_,[],_,_,i,.cons _ _,.nil,d,h=>by subst d;symm| a::x,b::y,_,_,i,.cons j n,.cons g m,d,h=>by
  refine kat_cons ((zAN prog w).eqBool j g ?_);obtain⟨t,rfl⟩:=nK j;obtain⟨u,rfl⟩:=nK g;rw[HT.ee] at h;by_cases c:a=b
  ·rw[zAa c];rw[u1 c] at h;exact kat_yes (KO _ n m (by ext) h)
  ·rw[zAp c];rw[xL c] at h;refine kat_no ?_;cases e:(k&&i == 0) with| true=>exact oneLt_int h| false=>exact kat_one _ _ (lt_int h)
theorem Sv {x y:List Int}{a b:M1}{j:Bool}{Q:Bool->SI->Prop}(i:zAJ (zAN prog w) s.heap x a)(f:zAJ (zAN prog w) s.heap y b)(h:Q (HT.lexLt x y) s):zAB (zAC prog w) A (keyLt' (tuples' j) (.ref a) (.ref b)) Q E s:=by obtain⟨o,m,n,g,_,l,k⟩:=i;obtain⟨t,r,q,d,_,c,e⟩:=f;exact kat_lt g l d c (KO 0 k e (by simp) h)
theorem lex_irrefl:∀x:List Int,HT.lexLt x x=false| []=>rfl| a::x=>by rw[HT.ee,u1 rfl,lex_irrefl x]
theorem lex_trans:∀{x y z:List Int},HT.lexLt x y=true->HT.lexLt y z=true->HT.lexLt x z=true
 | [],[],_,h,_=>by symm| [],_::_,[],_,h=>by symm| [],_::_,_::_,_,_=>rfl| _::_,[],_,h,_=>by cases h| _::_,_::_,[],_,h=>by symm| a::x,b::y,c::z,e,f=>by
  rw[HT.ee] at e f ⊢;by_cases g:a=b
  ·rw[u1 g] at e;by_cases i:b=c
   ·rw[u1 i] at f;rw[u1 (g.trans i)];exact lex_trans e f
   ext
  grind
theorem vE:∀x y:List Int,x≠y->HT.lexLt x y=true\/HT.lexLt y x=true
 | [],[],h=>absurd rfl h| [],_::_,_=>.inl rfl| _::_,[],_=>.inr rfl| a::x,b::y,h=>by
  rw[HT.ee,HT.ee];by_cases e:a=b
  ·rw[u1 e,u1 e.symm];exact vE x y λz=>h (by ext)
  grind
abbrev rf (p:M1 × List Int):Value:=.ref p.1
theorem DX:∀ps:zzD,(∀p∈ps,zAJ (zAN prog w) s.heap p.2 p.1)->(∀p∈ps,p.2≠[])->∃b,KatTups s.heap (ps.map rf) b/\b.length=ps.length/\∀v∈b,∃k t,v=Value.int k t
 | [],_,_=>⟨[],KatTups.nil,rfl,λv h=>by ext⟩| p::ps,f,C=>by
  obtain⟨b,g,x,z⟩:=DX ps (λq D=>f q (by ext)) (by grind);obtain⟨o,a,n,i,m,u,d⟩:=f p zAb;obtain⟨k,r,e⟩:∃k r,p.2=k::r:=by cases c:p.2 with| nil=>ext| cons k r=>simp
  rw[e] at d;obtain⟨l⟩:=a;cases d with| @cons _ v _ y j B=> obtain⟨t,rfl⟩:=nK j;refine⟨.int k t::b,KatTups.cons i m u (by rfl) g,by ext,λv h=>?_⟩;grind
end
noncomputable def Gq (a:zAK->Nat)(xs:Array zAK)(i:Nat):Nat:=(xs[i]?).elim 0 a
theorem gq (h:xs[i]?=ys[j]?):Gq a xs i=Gq a ys j:=by unfold Gq; rw[h]
theorem gW (h:xs[i]?=some p):Gq a xs i=a p:=by unfold Gq; rw[h]; rfl
structure Rk (M:zEK)(A:zAI)(E:zzE)(s:SI)(κ:zEH)(a0:Array zAK)(rk:zAK->Nat):Prop where
 lt:∀(st:zAQ) (x y:zAK) (Q:Option Bool->zAQ->Prop),kindOf st=κ->x∈a0.toList->y∈a0.toList->Q (some (decide (rk x < rk y))) st->wpS M A E s (lt' x y) Q st
 nd:(a0.toList.map rk).Nodup
structure gy (κ:zEH)(a0:Array zAK)(st:zAQ):Prop where
 kind:kindOf st=κ
 failed:zBJ st=none
 perm:(zAH st).Perm a0
noncomputable def Up (c:zAK->Nat)(xs:Array zAK)(a b:Nat):Prop:=∀i j,a<=i->i < j->j < b->Gq c xs i < Gq c xs j
section
variable {M:zEK}{A:zAI}{E:zzE}{s:SI}{κ:zEH}{a0:Array zAK}{rk:zAK->Nat}{st:zAQ}
theorem gy.size (h:gy κ a0 st):(zAH st).size=a0.size:=h.perm.size_eq
theorem gy.set (h:gy κ a0 st)(p:xs.Perm (zAH st)):gy κ a0 (zCO st xs):=⟨h.kind,h.failed,p.trans h.perm⟩
theorem gy.at_ (h:gy κ a0 st)(b:i < a0.size):∃x,(zAH st)[i]?=some x/\x∈a0.toList:=by
 have a:i < (zAH st).size:=by rw[h.size]; exact b
 exact⟨(zAH st)[i],zCg _ i a,(zCo.mp h.perm).mem_iff.mp (by simp)⟩
theorem gy.ne (R:Rk M A E s κ a0 rk)(h:gy κ a0 st)(b:i < a0.size)(d:j < a0.size)(e:Gq rk (zAH st) i=Gq rk (zAH st) j):i=j:=by
 have f:((zAH st).toList.map rk).Nodup:=((zCo.mp h.perm).map rk).nodup_iff.mpr R.nd;have l:=h.size;have g:∀k (c:k < a0.size),((zAH st).toList.map rk)[k]?=some (Gq rk (zAH st) k):=λk c=>by obtain⟨x,a,_⟩:=h.at_ c;rw[vT,zAh,a,gW a];rfl
 refine (List.getElem?_inj (by simp [l]; exact b) f).mp ?_;rw[g i b,g j d,e]
theorem zD (R:Rk M A E s κ a0 rk)(h:gy κ a0 st){i j:Nat}{Q:Option Bool->zAQ->Prop}(g:i < a0.size)(d:j < a0.size)(c:Q (some (decide (Gq rk (zAH st) i < Gq rk (zAH st) j))) st):wpS M A E s (ltAt' i j) Q st:=by obtain⟨x,b,f⟩:=h.at_ g;obtain⟨y,a,e⟩:=h.at_ d;rw[gW b,gW a] at c;rw[ltAt'_eq];refine v6 (zCZ ?_);show wpS _ _ _ _ (do let x <-elem' (zAH st) i; let y <-elem' (zAH st) j; lt' x y) Q st;rw[elem'_eq,elem'_eq,b,a];exact v6 (u8 (v6 (u8 (R.lt st x y Q h.kind f e c))))
theorem Up.snoc (h:Up rk xs a b)(d:a < b->Gq rk xs (b - 1) < Gq rk xs b):Up rk xs a (b+1):=λi j c g k=>by
 by_cases e:j=b
 ·subst e;have:=d (by omega);by_cases f:i=j - 1;·rw[f]; exact this
  ·exact lt_trans (h i (j - 1) c (by omega) (by omega)) this
 ·exact h i j c g (by omega)
theorem Sw {i j:Nat}{Q:Unit->zAQ->Prop}(h:Q () (zCO st (mirror (zAH st) i j ((j - i) / 2)))):wpS M A E s (reverseSlice' i j) Q st:=by rw[reverseSlice'_eq]; exact zDp h
theorem Sx {i j:Nat}{Q:Unit->zAQ->Prop}(h:Q () (zCO st (bubble (zAH st) i (i - j)))):wpS M A E s (moveDown' i j) Q st:=by rw[moveDown'_eq]; exact zDp h
theorem M7 (R:Rk M A E s κ a0 rk)(p:gy κ a0 st){lo f:Nat}{Q:Option Nat->zAQ->Prop}(hn:lo+f<=a0.size)(Y:1<=f)(h:∀m xs,xs.Perm (zAH st)->(∀k:Nat,k < lo->xs[k]?=(zAH st)[k]?)->1<=m->m<=f->Up rk xs lo (lo+m)->Q (some m) (zCO st xs)):wpS M A E s (countRun' lo f) Q st:=by
 have sz:=p.size;rw[countRun'_eq];have w:∀(l:zAQ) (a:Nat),gy κ a0 l->1<=a->a<=f->Up rk (zAH l) lo (lo+a)->∀{O:Option (Option Nat) × Nat->zAQ->Prop},(∀m,a<=m->m<=f->Up rk (zAH l) lo (lo+m)->(m < f->Gq rk (zAH l) (lo+m) < Gq rk (zAH l) (lo+m - 1))->O (none,m) l)-> wpS M A E s (forIn [a:f] ((none,a):Option (Option Nat) × Nat) λ_ r=>do let x <-ltAt' (lo+r.2) (lo+r.2 - 1);match x with| some b=>if b=true then pure (ForInStep.done (none,r.2)) else pure (ForInStep.yield (none,r.2+1))| _=>pure (ForInStep.done (some none,r.2))) O l:=by
  intro l a v Z U u O S;refine zBl (I:=λx c g=>c=(none,x)/\g=l/\Up rk (zAH l) lo (lo+x)) (λx c g q J n=>?_) (λc g n=>?_) ⟨rfl,rfl,u⟩
  ·obtain⟨rfl,rfl,t⟩:=n;refine v6 (zD R v (by omega) (by omega) ?_);by_cases c:Gq rk (zAH g) (lo+x) < Gq rk (zAH g) (lo+x - 1)
   ·rw[zAa c];exact u8 (S x q (by omega) t λ_=>c)
   ·rw[zAp c];refine u8 ⟨rfl,rfl,t.snoc λhb=>?_⟩;rcases lt_or_ge (Gq rk (zAH g) (lo+x - 1)) (Gq rk (zAH g) (lo+x)) with z | z;·exact z
    ·have:=v.ne R (i:=lo+x) (j:=lo+x - 1) (by omega) (by omega) (by omega);omega
  ·obtain⟨rfl,rfl,t⟩:=n;rw[zBr U] at t ⊢;exact S f U (y8 _) t λz=>absurd z (by omega)
 refine v6 (w st 1 p (y8 _) Y (λi j _ _ _=>by omega) λm P B u d=>?_);dsimp only;by_cases e:(m == f)=true
 ·rw[u1 e];exact u8 (h m (zAH st) (Array.Perm.refl _) (λ_ _=>rfl) P B u)
 rw[xL e];have m3:m < f:=by have:m≠f:=λz=>e (by rw[z]; exact beq_self_eq_true _);omega
 by_cases T:m > 1
 ·rw[u1 T];refine v6 (zD R p (by omega) (by omega) ?_);rw[zAa (u lo (lo+m - 1) (y8 _) (by omega) (by omega))];exact u8 (h m (zAH st) (Array.Perm.refl _) (λ_ _=>rfl) P B u)
 rw[xL T];have X:m=1:=by omega
 subst X;refine v6 (zDU (zC8 ⟨rfl,?_⟩));refine v6 (zC5 (zBl (I:=λx c g=>c=(none,x,0)/\g=st/\∀i j,lo<=i->i < j->j < lo+x->Gq rk (zAH st) j < Gq rk (zAH st) i) (Q:=λc g=>∃x,c=(none,x,0)/\g=st/\2<=x/\x<=f/\∀i j,lo<=i->i < j->j < lo+x->Gq rk (zAH st) j < Gq rk (zAH st) i) (λx c g q J n=>?_) (λc g n=>?_) ⟨rfl,rfl,λi j D F V=>?_⟩) λc g n=>?_)
 ·obtain⟨rfl,rfl,o⟩:=n;dsimp only;refine v6 (zD R p (by omega) (by omega) ?_);dsimp only;by_cases c:Gq rk (zAH g) (lo+x) < Gq rk (zAH g) (lo+x - 1)
  ·rw[zAa c];simp only [if_true];rw[xL (by omega)];refine u8 ⟨rfl,rfl,λi j D F V=>?_⟩;by_cases N:j=lo+x
   ·subst N;by_cases L:i=lo+x - 1;·rw[L]; exact c
    ·exact lt_trans c (o i (lo+x - 1) D (by omega) (by omega))
   ·exact o i j D F (by omega)
  ·rw[zAp c];simp only [zAx,zCf];refine v6 (zD R p (by omega) (by omega) ?_);have:Gq rk (zAH g) (lo+x - 1) < Gq rk (zAH g) (lo+x):=by
    rcases lt_or_ge (Gq rk (zAH g) (lo+x - 1)) (Gq rk (zAH g) (lo+x)) with z | z;·exact z
    ·have:=p.ne R (i:=lo+x) (j:=lo+x - 1) (by omega) (by omega) (by omega);omega
   rw[zAa this];exact u8 ⟨x,rfl,rfl,q,by omega,o⟩
 ·obtain⟨rfl,rfl,o⟩:=n;have C:max (1+1) f=f:=by omega
  rw[C] at o ⊢;exact⟨f,rfl,rfl,by omega,y8 _,o⟩
 ·have L:i=lo:=by omega
  have N:j=lo+1:=by omega
  have:=d (by omega);rw[L,N];exact this
 ·obtain⟨x,rfl,rfl,x1,x2,o⟩:=n;dsimp only;rw[xL (by omega)];refine v6 (Sw ?_);have H:=mirror_perm (zAH g) lo (lo+x) ((lo+x - lo) / 2);have y:=getElem?_mirror_all (xs:=zAH g) (i:=lo) (j:=lo+x) (by omega);generalize mirror (zAH g) lo (lo+x) ((lo+x - lo) / 2)=K at H y;have G:=p.set H;have u2:Up rk K lo (lo+x):=λi j D F V=>by have W:=y i;have C:=y j;rw[u1 (by omega)] at W C;rw[gq W,gq C];exact o _ _ (by omega) (by omega) (by omega)
  refine v6 (w (zCO g K) x G (by omega) x2 u2 λm P B u _=>?_);dsimp only;refine u8 (h m K H (λk hk=>?_) (by omega) B u);rw[y k,xL (by omega)]
theorem Sy (R:Rk M A E s κ a0 rk)(F:gy κ a0 st){lo n B:Nat}{Q:Bool->zAQ->Prop}(hn:lo+n<=a0.size)(T:1<=B)(D:B<=n)(u:Up rk (zAH st) lo (lo+B))(h:∀xs,xs.Perm (zAH st)->(∀k:Nat,k < lo->xs[k]?=(zAH st)[k]?)->Up rk xs lo (lo+n)->Q true (zCO st xs)):wpS M A E s (binarySort' lo n B) Q st:=by
 have sz:=F.size;rw[binarySort'_eq,Nat.max_eq_left T];refine v6 (zC5 (zBl (I:=λk c a=>c=(none,())/\∃xs,a=zCO st xs/\xs.Perm (zAH st)/\(∀k:Nat,k < lo->xs[k]?=(zAH st)[k]?)/\Up rk xs lo (lo+k)) (Q:=λc a=>c=(none,())/\∃xs,a=zCO st xs/\xs.Perm (zAH st)/\(∀k:Nat,k < lo->xs[k]?=(zAH st)[k]?)/\Up rk xs lo (lo+n)) (λk c a N Y d=>?_) (λc a d=>?_) ⟨rfl,zAH st,rfl,Array.Perm.refl _,λ_ _=>rfl,u⟩) λc a d=>?_)
 ·obtain⟨rfl,xs,rfl,p,v,g⟩:=d;have o:=F.set p;have sx:xs.size=a0.size:=o.size;dsimp only;refine v6 (zC5 (zBl (I:=λx c a=>∃l r,c=(none,l,r)/\a=zCO st xs/\l<=r/\r<=k/\r - l<=k - x/\(∀i,i < l->Gq rk xs (lo+i) < Gq rk xs (lo+k))/\∀i,r<=i->i < k->Gq rk xs (lo+k) < Gq rk xs (lo+i)) (Q:=λc a=>∃l,c=(none,l,l)/\a=zCO st xs/\l<=k/\(∀i,i < l->Gq rk xs (lo+i) < Gq rk xs (lo+k))/\∀i,l<=i->i < k->Gq rk xs (lo+k) < Gq rk xs (lo+i)) (λx c a S X d=>?_) (λc a d=>?_) ⟨0,k,rfl,rfl,by omega,by omega,by omega,λi z=>by omega,λi _ z=>by omega⟩) λc a d=>?_)
  ·obtain⟨l,r,rfl,rfl,P,y,J,t,q⟩:=d;dsimp only;by_cases c:l >= r
   ·rw[u1 c];have:l=r:=by omega
    subst this;exact u8 ⟨l,rfl,rfl,y,t,q⟩
   ·rw[xL c];have H:l<=(l+r) / 2:=by omega
    have O:(l+r) / 2 < r:=by omega
    generalize (l+r) / 2=m at H O ⊢;refine v6 (zD R o (by omega) (by omega) ?_);have V:zAH (zCO st xs)=xs:=rfl;rw[V];by_cases c:Gq rk xs (lo+k) < Gq rk xs (lo+m)
    ·rw[zAa c];refine u8 ⟨l,m,rfl,rfl,H,by omega,by omega,t,λi w C=>?_⟩;by_cases e:i=m;·rw[e]; exact c
     ·exact lt_trans c (g (lo+m) (lo+i) (by omega) (by omega) (by omega))
    ·rw[zAp c];refine u8 ⟨m+1,r,rfl,rfl,by omega,y,by omega,λi w=>?_,q⟩;have z:Gq rk xs (lo+m) < Gq rk xs (lo+k):=by
      rcases lt_or_ge (Gq rk xs (lo+m)) (Gq rk xs (lo+k)) with z | z;·exact z
      ·have:=o.ne R (i:=lo+m) (j:=lo+k) (by omega) (by omega) (by show Gq rk xs _=Gq rk xs _; omega);omega
     by_cases e:i=m;·rw[e]; exact z
     ·exact lt_trans (g (lo+i) (lo+m) (by omega) (by omega) (by omega)) z
  ·obtain⟨l,r,rfl,rfl,P,y,J,t,q⟩:=d;rw[zBr (by omega)] at J;have:l=r:=by omega
   subst this;exact⟨l,rfl,rfl,y,t,q⟩
  ·obtain⟨l,rfl,rfl,y,t,q⟩:=d;dsimp only;refine v6 (Sx (u8 ⟨rfl,bubble xs (lo+k) (lo+k - (lo+l)),rfl,(bubble_perm _ _ _).trans p,λj W=>?_,λi j w C a3=>?_⟩))
   ·rw[zDY (by omega) _ (by omega),xL (by omega),xL (by omega)];exact v j W
   ·have f:=zDY (xs:=xs) (src:=lo+k) (by omega) (lo+k - (lo+l)) (by omega) i;have b:=zDY (xs:=xs) (src:=lo+k) (by omega) (lo+k - (lo+l)) (by omega) j;rw[show lo+k - (lo+k - (lo+l))=lo+l by omega] at f b;have L:∀i,lo<=i->i < lo+l->Gq rk xs i < Gq rk xs (lo+k):=λi w C=>by have:=t (i - lo) (by omega);rwa [show lo+(i - lo)=i by omega] at this
    have U:∀i,lo+l<=i->i < lo+k->Gq rk xs (lo+k) < Gq rk xs i:=λi w C=>by have:=q (i - lo) (by omega) (by omega);rwa [show lo+(i - lo)=i by omega] at this
    by_cases K:i=lo+l
    ·rw[u1 K] at f;rw[xL (by omega),u1 (by omega)] at b;rw[gq f,gq b];exact U _ (by omega) (by omega)
    ·rw[xL K] at f;by_cases Z:lo+l < i
     ·rw[u1 (by omega)] at f;rw[xL (by omega),u1 (by omega)] at b;rw[gq f,gq b];exact g _ _ (by omega) (by omega) (by omega)
     ·rw[xL (by omega)] at f;by_cases G:j=lo+l
      ·rw[u1 G] at b;rw[gq f,gq b];exact L i w (by omega)
      ·rw[xL G] at b;by_cases j2:lo+l < j
       ·rw[u1 (by omega)] at b;rw[gq f,gq b];exact g _ _ (by omega) (by omega) (by omega)
       ·rw[xL (by omega)] at b;rw[gq f,gq b];exact g _ _ (by omega) (by omega) (by omega)
 ·obtain⟨rfl,xs,rfl,p,v,g⟩:=d;rw[zBr D] at g;exact⟨rfl,xs,rfl,p,v,g⟩
 ·obtain⟨rfl,xs,rfl,p,v,g⟩:=d;exact u8 (h xs p v g)
noncomputable def QD:Bool->zAK->Array zAK->Nat->Nat->Nat->StateT zAQ Sem (Option Nat):=sortPriv% PySem.Builtin.gallop
noncomputable def Bd (d:zAK->Nat)(b:Bool)(a:zAK)(c:Array zAK)(base i:Nat):Bool:=if b=true then decide (Gq d c (base+i) < d a) else !decide (d a < Gq d c (base+i))
theorem xu (u:Up rk c base (base+n))(f:i<=j)(g:j < n)(b:Bd rk a d c base j=true):Bd rk a d c base i=true:=by
 by_cases e:i=j;·rw[e]; exact b
 have:=u (base+i) (base+j) (by omega) (by omega) (by omega);unfold Bd at b ⊢;cases a
 ·simp only [zAx,zCf,Bool.not_eq_true',decide_eq_false_iff_not] at b ⊢;omega
 ·simp only [if_true,zBn] at b ⊢;omega
theorem kZ (R:Rk M A E s κ a0 rk)(hk:kindOf st=κ){a:Bool}{f:zAK}{g:Array zAK}{base n d:Nat}{Q:Option Nat->zAQ->Prop}(L:f∈a0.toList)(S:∀i,base<=i->i < base+n->∃x,g[i]?=some x/\x∈a0.toList)(u:Up rk g base (base+n))(hh:d < n)(h:∀k,k<=n->(∀i,i < k->Bd rk a f g base i=true)->(∀i,k<=i->i < n->Bd rk a f g base i=false)->Q (some k) st):wpS M A E s (QD a f g base n d) Q st:=by
 have ask:∀(i:Nat) {B:Option Bool->zAQ->Prop},i < n->B (some (Bd rk a f g base i)) st->wpS M A E s (do let x <-elem' g (base+i);if a=true then lt' x f else do let q <-lt' f x;pure (q.map λz=>!z)) B st:=λi B F K=>by
  obtain⟨x,hx,mx⟩:=S (base+i) (by omega) (by omega);rw[elem'_eq,hx];refine v6 (u8 ?_);unfold Bd at K;rw[gW hx] at K;cases a;·exact v6 (R.lt st f x _ hk L mx (u8 K))
  ·exact R.lt st x f _ hk mx L K
 have dn:∀{i j:Nat},i<=j->i < n->Bd rk a f g base i=false->j < n->Bd rk a f g base j=false:=λ{i j} W F b hj=>by cases e:Bd rk a f g base j with| false=>rfl| true=>rw[xu u W hj e] at b; cases b
 have V:∀(lo F:Nat) (y:Nat->Option (Option Nat) × Nat × Nat->StateT zAQ Sem (ForInStep (Option (Option Nat) × Nat × Nat))) (T:Option (Option Nat) × Nat × Nat->zAQ->Prop),lo<=F->F<=n->(∀i,i < lo->Bd rk a f g base i=true)->(∀i,F<=i->i < n->Bd rk a f g base i=false)->(∀x l r B,r<=l->B (.done (none,l,r)) st->wpS M A E s (y x (none,l,r)) B st)->(∀x l r B,l < r->r<=n->(Bd rk a f g base (l+(r - l) / 2)=true->B (.yield (none,l+(r - l) / 2+1,r)) st)->(Bd rk a f g base (l+(r - l) / 2)=false->B (.yield (none,l,l+(r - l) / 2)) st)->wpS M A E s (y x (none,l,r)) B st)->(∀l,l<=n->(∀i,i < l->Bd rk a f g base i=true)->(∀i,l<=i->i < n->Bd rk a f g base i=false)->T (none,l,l) st)->wpS M A E s (forIn [:n] (none,lo,F) y) T st:=λlo F y T h1 h2 h3 h4 b1 b2 hT=>by
  refine zBl (I:=λx c m=>∃l r,c=(none,l,r)/\m=st/\l<=r/\r<=n/\r - l<=n - x/\(∀i,i < l->Bd rk a f g base i=true)/\∀i,r<=i->i < n->Bd rk a f g base i=false) (λx c m U N v=>?_) (λc m v=>?_) ⟨lo,F,rfl,rfl,h1,h2,by omega,h3,h4⟩
  ·obtain⟨l,r,rfl,rfl,C,t,J,p,w⟩:=v;by_cases c:l >= r
   ·refine b1 x l r _ c ?_;have:l=r:=by omega
    subst this;exact hT l t p w
   ·refine b2 x l r _ (by omega) t (λe=>⟨_,r,rfl,rfl,by omega,t,by omega,λi H=>xu u (by omega) (by omega) e,w⟩) λe=>⟨l,_,rfl,rfl,by omega,by omega,by omega,p,λi H G=>dn H (by omega) e G⟩
  ·obtain⟨l,r,rfl,rfl,C,t,J,p,w⟩:=v;rw[zBr (by omega)] at J;have:l=r:=by omega
   subst this;exact hT l t p w
 refine v6 (ask d hh ?_);dsimp only;cases e:Bd rk a f g base d
 ·rw[xL (by decide)];refine v6 (zC5 (zBl (I:=λx c m=>∃l o,c=(none,l,o)/\m=st/\l < o/\l < d+1/\x < o/\Bd rk a f g base (d - l)=false) (Q:=λc m=>∃l o,c=(none,l,o)/\m=st/\l < o/\l < d+1/\Bd rk a f g base (d - l)=false/\(o >= d+1\/Bd rk a f g base (d - o)=true)) (λx c m U N v=>?_) (λc m v=>?_) ⟨0,1,rfl,rfl,by omega,by omega,by omega,e⟩) λc m v=>?_)
  ·obtain⟨l,o,rfl,rfl,C,t,J,p⟩:=v;dsimp only;by_cases c:o >= d+1
   ·rw[u1 c];exact u8 ⟨l,o,rfl,rfl,C,t,p,.inl c⟩
   ·rw[xL c];refine v6 (ask (d - o) (by omega) ?_);cases O:Bd rk a f g base (d - o);·exact u8 ⟨o,2 * o+1,rfl,rfl,by omega,by omega,by omega,O⟩
    ·exact u8 ⟨l,o,rfl,rfl,C,t,p,.inr O⟩
  ·obtain⟨l,o,rfl,rfl,C,t,J,p⟩:=v;rw[zBr (by omega)] at J;exact⟨l,o,rfl,rfl,C,t,p,.inl (by omega)⟩
  ·obtain⟨l,o,rfl,rfl,C,t,p,w⟩:=v;dsimp only;refine v6 (V (d+1 - min o (d+1)) (d - l) _ _ (by omega) (by omega) (λi F=>?_) (λi H G=>dn H (by omega) p G) ?_ ?_ λl H G X=>u8 (h l H G X))
   ·rcases w with w | w;·omega
    ·exact xu u (by omega) (by omega) w
   ·intro x l r B D K;dsimp only;rw[u1 D];exact u8 K
   ·intro x l r B D hr Y Z;dsimp only;rw[xL (by omega)];refine v6 (ask _ (by omega) ?_);cases P:Bd rk a f g base (l+(r - l) / 2);·exact u8 (Z P)
    ·exact u8 (Y P)
 ·rw[u1 rfl];refine v6 (zC5 (zBl (I:=λx c m=>∃l o,c=(none,l,o)/\m=st/\l < o/\l < n - d/\x < o/\Bd rk a f g base (d+l)=true) (Q:=λc m=>∃l o,c=(none,l,o)/\m=st/\l < o/\l < n - d/\Bd rk a f g base (d+l)=true/\(o >= n - d\/Bd rk a f g base (d+o)=false)) (λx c m U N v=>?_) (λc m v=>?_) ⟨0,1,rfl,rfl,by omega,by omega,by omega,e⟩) λc m v=>?_)
  ·obtain⟨l,o,rfl,rfl,C,t,J,p⟩:=v;dsimp only;by_cases c:o >= n - d
   ·rw[u1 c];exact u8 ⟨l,o,rfl,rfl,C,t,p,.inl c⟩
   ·rw[xL c];refine v6 (ask (d+o) (by omega) ?_);cases O:Bd rk a f g base (d+o);·exact u8 ⟨l,o,rfl,rfl,C,t,p,.inr O⟩
    ·exact u8 ⟨o,2 * o+1,rfl,rfl,by omega,by omega,by omega,O⟩
  ·obtain⟨l,o,rfl,rfl,C,t,J,p⟩:=v;rw[zBr (by omega)] at J;exact⟨l,o,rfl,rfl,C,t,p,.inl (by omega)⟩
  ·obtain⟨l,o,rfl,rfl,C,t,p,w⟩:=v;dsimp only;refine v6 (V (d+l+1) (d+min o (n - d)) _ _ (by omega) (by omega) (λi F=>xu u (by omega) (by omega) p) (λi H G=>?_) ?_ ?_ λl H G X=>u8 (h l H G X))
   ·rcases w with w | w;·omega
    ·exact dn (by omega) (by omega) w G
   ·intro x l r B D K;dsimp only;rw[u1 D];exact u8 K
   ·intro x l r B D hr Y Z;dsimp only;rw[xL (by omega)];refine v6 (ask _ (by omega) ?_);cases P:Bd rk a f g base (l+(r - l) / 2);·exact u8 (Z P)
    ·exact u8 (Y P)
end
structure Jq {α:Type}(r:α->α->Prop)(all o x y:List α):Prop where
 perm:(o++(x++y)).Perm all
 so:o.Pairwise r
 sx:x.Pairwise r
 sy:y.Pairwise r
 lt:∀p∈o,∀q∈x++y,r p q
section
variable {α:Type}{r:α->α->Prop}{all o x y c:List α}
theorem Jq.swap (h:Jq r all o x y):Jq r all o y x:=⟨(List.Perm.append_left o List.perm_append_comm).trans h.perm,h.so,h.sy,h.sx,λp a q b=>h.lt p a q (by
 rcases w8.mp b with z | z;·exact w8.mpr (.inr z)
 ·exact w8.mpr (.inl z))⟩
theorem Jq.take (h:Jq r all o (c++x) y)(f:∀p∈c,∀q∈y,r p q):Jq r all (o++c) x y:=by
 obtain⟨i,g,d⟩:=zBa.mp h.sx;refine⟨by simpa using h.perm,zBa.mpr ⟨h.so,i,λp b q a=>h.lt p b q (by simp [a])⟩,g,h.sy,λp b q a=>?_⟩;rcases w8.mp b with z | z;·exact h.lt p z q (by
   rcases w8.mp a with e | e;·simp [e]
   ·simp [e])
 ·rcases w8.mp a with e | e;·exact d p z q e
  ·exact f p z q e
theorem Jq.take' (h:Jq r all o x (c++y))(a:∀p∈c,∀q∈x,r p q):Jq r all (o++c) x y:=(h.swap.take a).swap
theorem Jq.fin (h:Jq r all o x []):(o++x).Perm all/\(o++x).Pairwise r:=by obtain⟨a,e,d,_,g⟩:=h;rw[zCw] at a;exact⟨a,zBa.mpr ⟨e,d,λp b q f=>g p b q (by simp [f])⟩⟩
theorem Jq.last (h:Jq r all o [z] y)(hz:∀q∈y,r q z):(o++y++[z]).Perm all/\(o++y++[z]).Pairwise r:=by have d:=(Jq.take' (c:=y) (y:=[]) (by rw[zCw]; exact h) λp a q b=>by rw[zAc.mp b]; exact hz p a).fin;exact d
end
theorem xw {α:Type}(a:Array α):a.toList.drop i=(a.extract i (i+k)).toList++a.toList.drop (i+k):=by
 rw[zCx,zCa,zCj];conv=>lhs; rw[<-zBy k (a.toList.drop i)]
 rw[List.drop_drop]
theorem fR {α:Type}{a:Array α}{p:α}(h:a[i]?=some p):a.toList.drop i=[p]++a.toList.drop (i+1):=by rw[<-zAh] at h;obtain⟨b,e⟩:=xI.mp h;rw[zCu b,e];rfl
theorem mS {α:Type}(a:Array α):(a.extract i a.size).toList=a.toList.drop i:=by rw[zCx,zCa];exact zB6 (by simp)
noncomputable def M9:Array zAK->Array zAK->StateT zAQ Sem (Array zAK):=sortPriv% PySem.Builtin.mergeLo
noncomputable def bW (st:zAQ)(g:Nat):zAQ:=SortSt.mk' (kindOf st) (zAH st) (zAF st) g (zBJ st)
section
variable {M:zEK}{A:zAI}{E:zzE}{s:SI}{κ:zEH}{a0:Array zAK}{rk:zAK->Nat}{st:zAQ}
theorem cu {a:Array zAK}{i:Nat}{p:zAK}{Q:zAK->zAQ->Prop}(h:a[i]?=some p)(k:Q p st):wpS M A E s (elem' a i) Q st:=by rw[elem'_eq,h]; exact u8 k
theorem bD [Decidable c](a:c->wpS M A E s m Q st)(b:¬ c->wpS M A E s n Q st):wpS M A E s (if c then m else n) Q st:=by
 by_cases h:c;·rw[u1 h]; exact a h
 ·rw[xL h]; exact b h
theorem DY {a:Array zAK}(h:p∈(a.extract i (i+k)).toList):∃j,j < k/\a[i+j]?=some p:=by
 rw[zCx,zCa,zCj] at h;obtain⟨j,b⟩:=zBx.mp h;rw[List.getElem?_take] at b;split at b
 ·rename_i c;rw[List.getElem?_drop,zAh] at b;exact⟨j,c,b⟩
 ·cases b
theorem KP {a:Array zAK}(h:p∈a.toList.drop i):∃j,i+j < a.size/\a[i+j]?=some p:=by obtain⟨j,b⟩:=zBx.mp h;rw[List.getElem?_drop,zAh] at b;exact⟨j,(Array.getElem?_eq_some_iff.mp b).1,b⟩
theorem zE (h:a.toList.Pairwise λp q=>rk p < rk q)(e:j<=a.size):Up rk a i j:=λx y _ d f=>by
 have b:y < a.size:=by omega
 have c:x < a.size:=by omega
 rw[gW (zCg a x c),gW (zCg a y b)];exact zBs.mp h x y (by simpa using c) (by simpa using b) d
theorem Jq.ne (h:Jq (λp q=>rk p < rk q) a o x y)(d:(a.map rk).Nodup)(b:p∈x)(c:q∈y):rk p≠rk q:=by have:=(h.perm.map rk).nodup_iff.mpr d;rw[v3,v3] at this;have e:=(zBv.mp (zBv.mp this).2.1).2.2;exact e _ (zAg b) _ (zAg c)
theorem xx (h:([p]++x).Pairwise λp q=>rk p < rk q)(a:rk q < rk p):∀z∈[p]++x,rk q < rk z:=λz b=>by
 rcases wS.mp b with rfl | e;·exact a
 ·exact lt_trans a ((zCr.mp h).1 z e)
abbrev JJ (rk:zAK->Nat) (a b o:Array zAK) (i j:Nat):Prop:=Jq (λp q=>rk p < rk q) (a.toList++b.toList) o.toList (a.toList.drop i) (b.toList.drop j)
abbrev Fn (rk:zAK->Nat) (a b r:Array zAK):Prop:=r.toList.Perm (a.toList++b.toList)/\r.toList.Pairwise λp q=>rk p < rk q
theorem JA (R:Rk M A E s κ a0 rk)(hk:kindOf st=κ){a b:Array zAK}{Q:Array zAK->zAQ->Prop}(ha:∀p∈a.toList++b.toList,p∈a0.toList)(nd:((a.toList++b.toList).map rk).Nodup)(sa:a.toList.Pairwise λp q=>rk p < rk q)(sb:b.toList.Pairwise λp q=>rk p < rk q)(ha1:1<=a.size) (hb1:1<=b.size) (hf:∀p q,b[0]?=some p->q∈a.toList->rk p < rk q) (hl:∀p q,a[a.size - 1]?=some p->q∈b.toList->rk q < rk p)(h:∀(f:Array zAK) g,Fn rk a b f->Q f (bW st g)):wpS M A E s (M9 a b) Q st:=by
 have Y:∀i,i < a.size->∃p,a[i]?=some p/\p∈a0.toList/\p∈a.toList.drop i:=λi U=>⟨a[i],zCg a i U,ha _ (by simp),by rw[fR (zCg a i U)]; simp⟩;have X:∀i,i < b.size->∃p,b[i]?=some p/\p∈a0.toList/\p∈b.toList.drop i:=λi U=>⟨b[i],zCg b i U,ha _ (by simp),by rw[fR (zCg b i U)]; simp⟩;have D:∀(out:Array zAK) ia ib,JJ rk a b out ia ib->ib=b.size->Fn rk a b (out++a.extract ia a.size++b.extract ib b.size):=λout ia ib j e=>by
  have e1:b.toList.drop ib=[]:=by rw[e]; simp
  unfold JJ at j;rw[e1] at j;unfold Fn;rw[zAt,zAt,mS,mS,e1,zCw];exact j.fin
 have tell2:∀(out:Array zAK) ia ib,JJ rk a b out ia ib->ia=a.size->Fn rk a b (out++a.extract ia a.size++b.extract ib b.size):=λout ia ib j e=>by
  have e1:a.toList.drop ia=[]:=by rw[e]; simp
  unfold JJ at j;rw[e1] at j;unfold Fn;rw[zAt,zAt,mS,mS,e1,zCw];exact j.swap.fin
 have F:∀(out:Array zAK) ia ib,JJ rk a b out ia ib->ia+1=a.size->Fn rk a b (out++b.extract ib b.size++a.extract ia a.size):=λout ia ib j e=>by
  obtain⟨z,P,_⟩:=Y ia (by omega);have e1:a.toList.drop ia=[z]:=by rw[fR P,e]; simp
  unfold JJ at j;rw[e1] at j;unfold Fn;rw[zAt,zAt,mS,mS,e1];exact j.last λq C=>hl z q (by rw[show a.size - 1=ia by omega]; exact P) (List.mem_of_mem_drop C)
 have S:∀{out:Array zAK} {ia ib:Nat} {p:zAK},JJ rk a b out ia ib->a[ia]?=some p->(∀q∈b.toList.drop ib,rk p < rk q)->JJ rk a b (out.push p) (ia+1) ib:=λ{out ia ib p} j w C=>by unfold JJ at j;rw[fR w] at j;unfold JJ;rw[zCy];exact j.take λx W q hq'=>by rw[zAc.mp W]; exact C q hq'
 have N:∀{out:Array zAK} {ia ib:Nat} {p:zAK},JJ rk a b out ia ib->b[ib]?=some p->(∀q∈a.toList.drop ia,rk p < rk q)->JJ rk a b (out.push p) ia (ib+1):=λ{out ia ib p} j w C=>by unfold JJ at j;rw[fR w] at j;unfold JJ;rw[zCy];exact j.take' λx W q hq'=>by rw[zAc.mp W]; exact C q hq'
 obtain⟨b0,Sz,mb0,_⟩:=X 0 hb1;have j0:JJ rk a b (#[b0]) 0 1:=N (out:=#[]) (ia:=0) (ib:=0) ⟨by simp,List.Pairwise.nil,by simpa using sa,by simpa using sb,by simp⟩ Sz λq C=>hf b0 q Sz (List.mem_of_mem_drop C);refine v6 (zDU (zC8 ⟨rfl,?_⟩));refine v6 (cu Sz ?_);refine bD (λc=>u8 (h _ (zAX st) (D _ 0 1 j0 (by simpa using c)))) λc1=>?_;refine bD (λc=>u8 (h _ (zAX st) (F _ 0 1 j0 (by simpa using c)))) λc2=>?_;have hb2:1 < b.size:=by
  have:¬ 1=b.size:=by simpa using c1
  omega
 have ha2:1 < a.size:=by
  have:¬ 1=a.size:=by simpa using c2
  omega
 refine v6 (zCZ ?_);refine v6 (zC5 (zBl (I:=λx c o=>∃out ia ib O g,c=(none,out,ia,ib,O)/\o=bW st g/\JJ rk a b out ia ib/\ia+1 < a.size/\ib < b.size/\x+1<=ia+ib) (Q:=λc o=>∃f g,c.1=some f/\o=bW st g/\Fn rk a b f) (λx c o SA DZ J=>?_) (λc o J=>?_) ⟨#[b0],0,1,zAX st,zAX st,rfl,rfl,j0,ha2,hb2,y8 _⟩) λc o J=>?_);rotate_left
 ·obtain⟨out,ia,ib,O,g,rfl,rfl,j,G,K,l3⟩:=J;rw[zBr (zAd _)] at l3;omega
 ·obtain⟨f,g,e,rfl,H⟩:=J;obtain⟨c1,c2⟩:=c;cases e;exact u8 (h f g H)
 obtain⟨out,ia,ib,O,g,rfl,rfl,j,G,K,l3⟩:=J;refine v6 (zC5 (zBl (I:=λy c o=>∃out d l t v,c=(none,out,d,l,t,v)/\o=bW st g/\JJ rk a b out d l/\d+1 < a.size/\l < b.size/\ia+ib+min y 1<=d+l) (Q:=λc o=>o=bW st g/\((∃out d l t v,c=(none,out,d,l,t,v)/\JJ rk a b out d l/\d+1 < a.size/\l < b.size/\ia+ib+1<=d+l)\/∃f,c.1=some f/\Fn rk a b f)) (λy c o hy1 vf J=>?_) (λc o J=>?_) ⟨out,ia,ib,0,0,rfl,rfl,j,G,K,by omega⟩) λc o J=>?_)
 ·obtain⟨out,d,l,t,v,rfl,rfl,j,G,K,l4⟩:=J;obtain⟨p,w,mp,dp⟩:=Y d (by omega);obtain⟨q,C,mq,dq⟩:=X l K;refine v6 (cu C (v6 (cu w (v6 (R.lt _ q p _ hk mq mp ?_)))));by_cases c:rk q < rk p
  ·rw[zAa c];have B:=N j C (by rw[fR w]; exact xx (by rw[<-fR w]; exact j.sx) c);refine v6 (cu C (bD (λe=>u8 ⟨rfl,.inr ⟨_,rfl,D _ _ _ B (by simpa using e)⟩⟩) λe=>?_));have e':¬ l+1=b.size:=by simpa using e
   exact bD (λ_=>u8 ⟨rfl,.inl ⟨out.push q,d,l+1,_,_,rfl,B,G,by omega,by omega⟩⟩) λ_=>u8 ⟨out.push q,d,l+1,_,_,rfl,rfl,B,G,by omega,by omega⟩
  ·rw[zAp c];have c':rk p < rk q:=by have:=j.ne nd dp dq; omega
   have B:=S j w (by rw[fR C]; exact xx (by rw[<-fR C]; exact j.sy) c');refine v6 (cu w (bD (λe=>u8 ⟨rfl,.inr ⟨_,rfl,F _ _ _ B (by simpa using e)⟩⟩) λe=>?_));have e':¬ d+1+1=a.size:=by simpa using e
   exact bD (λ_=>u8 ⟨rfl,.inl ⟨out.push p,d+1,l,_,_,rfl,B,by omega,by omega,by omega⟩⟩) λ_=>u8 ⟨out.push p,d+1,l,_,_,rfl,rfl,B,by omega,by omega,by omega⟩
 ·obtain⟨out,d,l,t,v,rfl,rfl,j,G,K,l4⟩:=J;exact⟨rfl,.inl ⟨_,_,_,_,_,rfl,j,G,K,by rw[zBr (zAd _)] at l4; omega⟩⟩
 obtain⟨rfl,⟨out,d,l,t,v,rfl,j,G,K,l4⟩ | ⟨f,e,H⟩⟩:=J;rotate_left
 ·obtain⟨c1,c2⟩:=c;cases e;exact u8 ⟨f,g,rfl,rfl,H⟩
 dsimp -zeta only;refine v6 (zDU (zC8 ⟨rfl,?_⟩));refine v6 (zC5 (zBl (I:=λy c o=>∃out ia ib O t v g,c=(none,out,ia,ib,O,t,v)/\o=bW st g/\JJ rk a b out ia ib/\ia+1 < a.size/\ib < b.size/\d+l<=ia+ib) (Q:=λc o=>∃g,o=bW st g/\((∃out ia ib O t v,c=(none,out,ia,ib,O,t,v)/\JJ rk a b out ia ib/\ia+1 < a.size/\ib < b.size/\d+l<=ia+ib)\/∃f,c.1=some f/\Fn rk a b f)) (λy c o hy1 vf J=>?_) (λc o J=>?_) ⟨out,d,l,_,_,_,g,rfl,rfl,j,G,K,y8 _⟩) λc o J=>?_);rotate_left
 ·obtain⟨out,ia,ib,O,t,v,g,rfl,rfl,j,G,K,l5⟩:=J;exact⟨g,rfl,.inl ⟨out,ia,ib,O,t,v,rfl,j,G,K,l5⟩⟩
 ·obtain⟨g,rfl,⟨out,r,V0,KQ,t,v,rfl,j,G,K,l5⟩ | ⟨f,e,H⟩⟩:=J;·refine v6 (zDp (u8 ⟨out,r,V0,_,KQ+1,rfl,rfl,j,G,K,by omega⟩))
  ·obtain⟨c1,c2⟩:=c;cases e;exact u8 ⟨f,g,rfl,rfl,H⟩
 obtain⟨out,ia,ib,KQ,t,v,g,rfl,rfl,j,G,K,l5⟩:=J;obtain⟨q,C,mq,dq⟩:=X ib K;dsimp -zeta only;extract_lets s1 XG s2 ia1 s3 ib1 s4 Yz s5 YA YB V0 jp;have KR:∀T:ForInStep (Option (Array zAK) × Array zAK × Nat × Nat × Nat × Nat × Nat)->zAQ->Prop,(∀(f:Array zAK) c g,Fn rk a b f->T (.done (some f,c)) (bW st g))->(∀(out:Array zAK) ia ib O t v g,JJ rk a b out ia ib->ia+1 < a.size->ib < b.size->d+l<=ia+ib->T (.done (none,out,ia,ib,O,t,v)) (bW st g)/\T (.yield (none,out,ia,ib,O,t,v)) (bW st g))->∀u m g,wpS M A E s (jp u m) T (bW st g):=by
  intro T tS tN u m g;refine v6 (zDp (v6 (cu C (v6 (kZ (base:=ia) (n:=a.size - ia) (st:=bW st m) R hk mq (λi h1 h2=>?_) (zE sa (by omega)) (by omega) λk k1 k2 k3=>?_)))))
  ·obtain⟨p,h1,h2,_⟩:=Y i (by omega);exact⟨p,h1,h2⟩
  have lo:∀p∈(a.extract ia (ia+k)).toList,rk p < rk q:=λp w=>by
   obtain⟨i,U,e⟩:=DY w;have:=k2 i U;unfold Bd at this;rw[xL (by decide),gW e] at this;have h2:¬ rk q < rk p:=by simpa using this
   have h3:=j.ne nd (p:=p) (q:=q) (by rw[xw a (k:=k)]; exact zBe _ w) dq;omega
  have up:∀p∈a.toList.drop (ia+k),rk q < rk p:=λp w=>by obtain⟨i,U,e⟩:=KP w;have:=k3 (k+i) (by omega) (by omega);unfold Bd at this;rw[xL (by decide),<-zCz,gW e] at this;simpa using this
  dsimp -zeta only;extract_lets YC jp2;have D0:∀(u:Unit) (out:Array zAK) (r:Nat),JJ rk a b out r ib->ia<=r->r+1 < a.size->(∀p∈a.toList.drop r,rk q < rk p)->wpS M A E s (jp2 u out r) T (bW st m):=by
   intro u out r j h1 h2 h3;have B:=N j C h3;obtain⟨p,w,mp,dp⟩:=Y r (by omega);refine v6 (cu C (bD (λe=>u8 (tS _ _ _ (D _ _ _ B (by simpa using e)))) λe=>?_));have e':¬ ib+1=b.size:=by simpa using e
   refine v6 (cu w (v6 (kZ (base:=ib+1) (n:=b.size - (ib+1)) (st:=bW st m) R hk mp (λi h1 h2=>?_) (zE sb (by omega)) (by omega) λk k1 k2 k3=>?_)))
   ·obtain⟨p,h1,h2,_⟩:=X i (by omega);exact⟨p,h1,h2⟩
   have lo:∀z∈(b.extract (ib+1) (ib+1+k)).toList,rk z < rk p:=λz P=>by obtain⟨i,U,e⟩:=DY P;have:=k2 i U;unfold Bd at this;rw[u1 rfl,gW e] at this;simpa using this
   have up:∀z∈b.toList.drop (ib+1+k),rk p < rk z:=λz P=>by
    obtain⟨i,U,e⟩:=KP P;have:=k3 (k+i) (by omega) (by omega);unfold Bd at this;rw[u1 rfl,<-zCz,gW e] at this;have h2:¬ rk z < rk p:=by simpa using this
    have h3:=B.ne nd (p:=p) (q:=z) dp (by rw[xw b (k:=k)]; exact zA8 _ P);omega
   dsimp -zeta only;extract_lets YD ia3 jp3;have Z:∀(u:Unit) (out:Array zAK) (L:Nat),JJ rk a b out r L->ib+1<=L->L < b.size->(∀z∈b.toList.drop L,rk p < rk z)->wpS M A E s (jp3 u out L) T (bW st m):=by
    intro u out L j h4 h5 h6;have j3:=S j w h6;refine v6 (cu w (bD (λe=>u8 (tS _ _ _ (F _ _ _ j3 (by simpa using e)))) λe=>?_));have e':¬ r+1+1=a.size:=by simpa using e
    have tt:=λt v=>tN _ (r+1) L m t v m j3 (by omega) h5 (by omega);exact bD (λ_=>u8 (tt _ _).1) λ_=>u8 (tt _ _).2
   clear_value jp3;refine bD (λkp=>?_) λkp=>?_
   ·have j3:JJ rk a b (out.push q++b.extract (ib+1) (ib+1+k)) r (ib+1+k):=by unfold JJ at B;rw[xw b (i:=ib+1) (k:=k)] at B;unfold JJ;rw[zAt];refine B.take' λz P x W=>?_;rw[fR w] at W;exact xx (by rw[<-fR w]; exact B.sx) (lo z P) x W
    refine bD (λe=>u8 (tS _ _ _ (D _ _ _ j3 (by simpa using e)))) λe=>?_;have e':¬ ib+1+k=b.size:=by simpa using e
    exact Z _ _ (ib+1+k) j3 (by omega) (by omega) up
   ·have k0:k=0:=by omega
    subst k0;exact Z _ _ (ib+1) B (y8 _) (by omega) up
  clear_value jp2;refine bD (λkp=>?_) λkp=>?_
  ·have B:JJ rk a b (out++a.extract ia (ia+k)) (ia+k) ib:=by unfold JJ at j;rw[xw a (i:=ia) (k:=k)] at j;unfold JJ;rw[zAt];refine j.take λz P x W=>?_;rw[fR C] at W;exact xx (by rw[<-fR C]; exact j.sy) (lo z P) x W
   refine bD (λe=>u8 (tS _ _ _ (F _ _ _ B (by simpa using e)))) λe=>?_;refine bD (λe=>u8 (tS _ _ _ (tell2 _ _ _ B (by simpa using e)))) λe2=>?_;have e':¬ ia+k+1=a.size:=by simpa using e
   have YE:¬ ia+k=a.size:=by simpa using e2
   exact D0 _ _ (ia+k) B (by omega) (by omega) up
  ·have k0:k=0:=by omega
   subst k0;exact D0 _ _ ia j (y8 _) G up
 clear_value jp;refine bD (λ_=>KR _ ?_ ?_ _ _ _) λ_=>KR _ ?_ ?_ _ _ _;all_goals first | exact λf c g hr=>⟨g,rfl,.inr ⟨f,rfl,hr⟩⟩ | exact λout ia ib O t v g j G K l5=>⟨⟨g,rfl,.inl ⟨out,ia,ib,O,t,v,rfl,j,G,K,l5⟩⟩,⟨out,ia,ib,O,t,v,g,rfl,rfl,j,G,K,l5⟩⟩
theorem xy {α:Type}(a:Array α)(h:i<=n):(a.toList.take n).reverse=(a.extract i n).reverse.toList++(a.toList.take i).reverse:=by
 rw[zDh,zCx,zCa,<-zC2];congr 1;have:n=i+(n - i):=by omega
 conv=>lhs; rw[this,List.take_add]
theorem fS {α:Type}{a:Array α}{p:α}(h:a[n]?=some p):(a.toList.take (n+1)).reverse=[p]++(a.toList.take n).reverse:=by rw[<-zAh] at h;rw[zAz,h,zC2];rfl
theorem take_all {α:Type}(a:Array α):(a.extract 0 n).toList=a.toList.take n:=by rw[zCx,zCa];rfl
noncomputable def M_:Array zAK->Array zAK->StateT zAQ Sem (Array zAK):=sortPriv% PySem.Builtin.mergeHi
theorem HF {a:Array zAK}(b:i<=n)(h:p∈(a.extract i n).reverse.toList):∃j,i<=j/\j < n/\a[j]?=some p:=by
 rw[zDh,List.mem_reverse] at h;have h:p∈(a.extract i (i+(n - i))).toList:=by rw[show i+(n - i)=n by omega]; exact h
 obtain⟨j,c,e⟩:=DY h;exact⟨i+j,by omega,by omega,e⟩
theorem KS {a:Array zAK}(h:p∈(a.toList.take n).reverse):∃j,j < n/\a[j]?=some p:=by
 obtain⟨j,b⟩:=zBx.mp (List.mem_reverse.mp h);rw[List.getElem?_take] at b;split at b
 ·rename_i c;exact⟨j,c,by rw[<-zAh]; exact b⟩
 ·cases b
theorem Jq.ne' (h:Jq (λp q=>rk q < rk p) a o x y)(d:(a.map rk).Nodup)(b:p∈x)(c:q∈y):rk p≠rk q:=by have:=(h.perm.map rk).nodup_iff.mpr d;rw[v3,v3] at this;have e:=(zBv.mp (zBv.mp this).2.1).2.2;exact e _ (zAg b) _ (zAg c)
theorem xA (h:([p]++x).Pairwise λp q=>rk q < rk p)(a:rk p < rk q):∀z∈[p]++x,rk z < rk q:=λz b=>by
 rcases wS.mp b with rfl | e;·exact a
 ·exact lt_trans ((zCr.mp h).1 z e) a
abbrev JH (rk:zAK->Nat) (a b o:Array zAK) (i j:Nat):Prop:=Jq (λp q=>rk q < rk p) (a.toList++b.toList) o.toList (a.toList.take i).reverse (b.toList.take j).reverse
theorem JB (R:Rk M A E s κ a0 rk)(hk:kindOf st=κ){a b:Array zAK}{Q:Array zAK->zAQ->Prop}(ha:∀p∈a.toList++b.toList,p∈a0.toList)(nd:((a.toList++b.toList).map rk).Nodup)(sa:a.toList.Pairwise λp q=>rk p < rk q)(sb:b.toList.Pairwise λp q=>rk p < rk q)(ha1:1<=a.size) (hb1:1<=b.size) (hf:∀p q,b[0]?=some p->q∈a.toList->rk p < rk q) (hl:∀p q,a[a.size - 1]?=some p->q∈b.toList->rk q < rk p)(h:∀(d:Array zAK) g,Fn rk a b d->Q d (bW st g)):wpS M A E s (M_ a b) Q st:=by
 have OR:∀i,i < a.size->∃p,a[i]?=some p/\p∈a0.toList/\p∈(a.toList.take (i+1)).reverse:=λi X=>⟨a[i],zCg a i X,ha _ (by simp),by rw[fS (zCg a i X)]; simp⟩;have OS:∀i,i < b.size->∃p,b[i]?=some p/\p∈a0.toList/\p∈(b.toList.take (i+1)).reverse:=λi X=>⟨b[i],zCg b i X,ha _ (by simp),by rw[fS (zCg b i X)]; simp⟩;have flip:∀{l:List zAK},l.Perm (a.toList++b.toList)/\(l.Pairwise λp q=>rk q < rk p)->l.reverse.Perm (a.toList++b.toList)/\l.reverse.Pairwise λp q=>rk p < rk q:=λ{l} hl=>⟨(List.reverse_perm l).trans hl.1,List.pairwise_reverse.mpr hl.2⟩;have G:∀(out:Array zAK) na nb,JH rk a b out na nb->na=0->Fn rk a b (a.extract 0 na++b.extract 0 nb++out.reverse):=λout na nb j e=>by subst e;have:=flip j.swap.fin;rw[zC2,List.reverse_reverse] at this;unfold Fn;rw[zAt,zAt,take_all,take_all,zDh];exact this
 have tell2:∀(out:Array zAK) na nb,JH rk a b out na nb->nb=0->Fn rk a b (a.extract 0 na++b.extract 0 nb++out.reverse):=λout na nb j e=>by subst e;have:=flip j.fin;rw[zC2,List.reverse_reverse] at this;unfold Fn;rw[zAt,zAt,take_all,take_all,zDh,List.take_zero,zCw];exact this
 have F:∀(out:Array zAK) na nb,JH rk a b out na nb->nb=1->Fn rk a b (b.extract 0 nb++a.extract 0 na++out.reverse):=λout na nb j e=>by
  subst e;obtain⟨z,Y,_⟩:=OS 0 hb1;have e1:(b.toList.take 1).reverse=[z]:=by rw[fS (n:=0) Y]; rfl
  have e2:b.toList.take 1=[z]:=by rw[<-List.reverse_reverse (b.toList.take 1),e1]; rfl
  unfold JH at j;rw[e1] at j;have:=flip (j.swap.last λq D=>hf z q Y (List.mem_of_mem_take (List.mem_reverse.mp D)));rw[zC2,zC2,List.reverse_reverse] at this;unfold Fn;rw[zAt,zAt,take_all,take_all,zDh,e2,zAv];exact this
 have W:∀{out:Array zAK} {na nb:Nat} {p:zAK},JH rk a b out (na+1) nb->a[na]?=some p->(∀q∈(b.toList.take nb).reverse,rk q < rk p)->JH rk a b (out.push p) na nb:=λ{out na nb p} j C D=>by unfold JH at j;rw[fS C] at j;unfold JH;rw[zCy];exact j.take λx hx q hq'=>by rw[zAc.mp hx]; exact D q hq'
 have OT:∀{out:Array zAK} {na nb:Nat} {p:zAK},JH rk a b out na (nb+1)->b[nb]?=some p->(∀q∈(a.toList.take na).reverse,rk q < rk p)->JH rk a b (out.push p) na nb:=λ{out na nb p} j C D=>by unfold JH at j;rw[fS C] at j;unfold JH;rw[zCy];exact j.take' λx hx q hq'=>by rw[zAc.mp hx]; exact D q hq'
 obtain⟨n,hn⟩:∃n,a.size=n+1:=⟨a.size - 1,by omega⟩;have hn':a.size - 1=n:=by omega
 obtain⟨z0,SD,mz0,_⟩:=OR n (by omega);have j0:Jq (λp q=>rk q < rk p) (a.toList++b.toList) (#[z0]).toList (a.toList.take n).reverse (b.toList.take b.size).reverse:=W (out:=#[]) (na:=n) (nb:=b.size) ⟨by rw[show n+1=a.toList.length by simp [hn],zAj,show b.size=b.toList.length by simp,zAj];exact ((List.reverse_perm _).append (List.reverse_perm _)),List.Pairwise.nil,List.pairwise_reverse.mpr (sa.sublist (List.take_sublist _ _)),List.pairwise_reverse.mpr (sb.sublist (List.take_sublist _ _)),by simp⟩ SD λq D=>hl z0 q (by rw[hn']; exact SD) (List.mem_of_mem_take (List.mem_reverse.mp D));refine v6 (zDU (zC8 ⟨rfl,?_⟩));refine v6 (cu (i:=a.size - 1) (by rw[hn']; exact SD) ?_);rw[hn'];refine bD (λc=>u8 (h _ (zAX st) (G _ n b.size j0 (by simpa using c)))) λc1=>?_;refine bD (λc=>u8 (h _ (zAX st) (F _ n b.size j0 (by simpa using c)))) λc2=>?_;have ha2:1<=n:=by
  have:¬ n=0:=by simpa using c1
  omega
 have hb2:2<=b.size:=by
  have:¬ b.size=1:=by simpa using c2
  omega
 refine v6 (zCZ ?_);refine v6 (zC5 (zBl (I:=λx c o=>∃out na nb U g,c=(none,na,nb,out,U)/\o=bW st g/\JH rk a b out na nb/\1<=na/\2<=nb/\na<=n/\nb<=b.size/\na+nb+x+1<=a.size+b.size) (Q:=λc o=>∃d g,c.1=some d/\o=bW st g/\Fn rk a b d) (λx c o SA DZ O=>?_) (λc o O=>?_) ⟨#[z0],n,b.size,zAX st,zAX st,rfl,rfl,j0,ha2,hb2,y8 _,y8 _,by omega⟩) λc o O=>?_);rotate_left
 ·obtain⟨out,na,nb,U,g,rfl,rfl,j,K,N,_,_,l3⟩:=O;rw[zBr (zAd _)] at l3;omega
 ·obtain⟨d,g,e,rfl,L⟩:=O;obtain⟨c1,c2⟩:=c;cases e;exact u8 (h d g L)
 obtain⟨out,na,nb,U,g,rfl,rfl,j,K,N,P,S,l3⟩:=O;refine v6 (zC5 (zBl (I:=λy c o=>∃out f r w v,c=(none,f,r,out,w,v)/\o=bW st g/\JH rk a b out f r/\1<=f/\2<=r/\f<=n/\r<=b.size/\f+r+min y 1<=na+nb) (Q:=λc o=>o=bW st g/\((∃out f r w v,c=(none,f,r,out,w,v)/\JH rk a b out f r/\1<=f/\2<=r/\f<=n/\r<=b.size/\f+r+1<=na+nb)\/∃d,c.1=some d/\Fn rk a b d)) (λy c o hy1 vf O=>?_) (λc o O=>?_) ⟨out,na,nb,0,0,rfl,rfl,j,K,N,P,S,by omega⟩) λc o O=>?_)
 ·obtain⟨out,f,r,w,v,rfl,rfl,j,K,N,P,S,l4⟩:=O;obtain⟨H,rfl⟩:∃k,f=k+1:=⟨f - 1,by omega⟩;obtain⟨t,rfl⟩:∃k,r=k+1:=⟨r - 1,by omega⟩;obtain⟨p,C,mp,dp⟩:=OR H (by omega);obtain⟨q,D,mq,dq⟩:=OS t (by omega);refine v6 (cu (i:=t) D (v6 (cu (i:=H) C (v6 (R.lt _ q p _ hk mq mp ?_)))));by_cases c:rk q < rk p
  ·rw[zAa c];have J:=W j C (by rw[fS D]; exact xA (by rw[<-fS D]; exact j.sy) c);refine v6 (cu (i:=H) C (bD (λe=>u8 ⟨rfl,.inr ⟨_,rfl,G _ H _ J (by simpa using e)⟩⟩) λe=>?_));have e':¬ H=0:=by simpa using e
   exact bD (λ_=>u8 ⟨rfl,.inl ⟨out.push p,H,t+1,_,_,rfl,J,by omega,N,by omega,S,by omega⟩⟩) λ_=>u8 ⟨out.push p,H,t+1,_,_,rfl,rfl,J,by omega,N,by omega,S,by omega⟩
  ·rw[zAp c];have c':rk p < rk q:=by have:=j.ne' nd dp dq; omega
   have J:=OT j D (by rw[fS C]; exact xA (by rw[<-fS C]; exact j.sx) c');refine v6 (cu (i:=t) D (bD (λe=>u8 ⟨rfl,.inr ⟨_,rfl,F _ _ t J (by simpa using e)⟩⟩) λe=>?_));have e':¬ t=1:=by simpa using e
   exact bD (λ_=>u8 ⟨rfl,.inl ⟨out.push q,H+1,t,_,_,rfl,J,K,by omega,P,by omega,by omega⟩⟩) λ_=>u8 ⟨out.push q,H+1,t,_,_,rfl,rfl,J,K,by omega,P,by omega,by omega⟩
 ·obtain⟨out,f,r,w,v,rfl,rfl,j,K,N,P,S,l4⟩:=O;exact⟨rfl,.inl ⟨_,_,_,_,_,rfl,j,K,N,P,S,by rw[zBr (zAd _)] at l4; omega⟩⟩
 obtain⟨rfl,⟨out,f,r,w,v,rfl,j,K,N,P,S,l4⟩ | ⟨d,e,L⟩⟩:=O;rotate_left
 ·obtain⟨c1,c2⟩:=c;cases e;exact u8 ⟨d,g,rfl,rfl,L⟩
 dsimp -zeta only;refine v6 (zDU (zC8 ⟨rfl,?_⟩));refine v6 (zC5 (zBl (I:=λy c o=>∃out na nb U w v g,c=(none,na,nb,out,U,w,v)/\o=bW st g/\JH rk a b out na nb/\1<=na/\2<=nb/\na<=n/\nb<=b.size/\na+nb<=f+r) (Q:=λc o=>∃g,o=bW st g/\((∃out na nb U w v,c=(none,na,nb,out,U,w,v)/\JH rk a b out na nb/\1<=na/\2<=nb/\na<=n/\nb<=b.size/\na+nb<=f+r)\/∃d,c.1=some d/\Fn rk a b d)) (λy c o hy1 vf O=>?_) (λc o O=>?_) ⟨out,f,r,_,_,_,g,rfl,rfl,j,K,N,P,S,y8 _⟩) λc o O=>?_);rotate_left
 ·obtain⟨out,na,nb,U,w,v,g,rfl,rfl,j,K,N,P,S,l5⟩:=O;exact⟨g,rfl,.inl ⟨out,na,nb,U,w,v,rfl,j,K,N,P,S,l5⟩⟩
 ·obtain⟨g,rfl,⟨out,B,V1,KQ,w,v,rfl,j,K,N,P,S,l5⟩ | ⟨d,e,L⟩⟩:=O;·refine v6 (zDp (u8 ⟨out,B,V1,_,KQ+1,rfl,rfl,j,K,N,P,S,by omega⟩))
  ·obtain⟨c1,c2⟩:=c;cases e;exact u8 ⟨d,g,rfl,rfl,L⟩
 obtain⟨out,na,nb,KQ,w,v,g,rfl,rfl,j,K,N,P,S,l5⟩:=O;obtain⟨t,rfl⟩:∃k,nb=k+1:=⟨nb - 1,by omega⟩;obtain⟨q,D,mq,dq⟩:=OS t (by omega);dsimp -zeta only;extract_lets s1 na1 s2 nb1 s3 XG s4 Yz s5 YA YB V1 jp;have KR:∀T:ForInStep (Option (Array zAK) × Nat × Nat × Array zAK × Nat × Nat × Nat)->zAQ->Prop,(∀(d:Array zAK) c g,Fn rk a b d->T (.done (some d,c)) (bW st g))->(∀(out:Array zAK) na nb U w v g,JH rk a b out na nb->1<=na->2<=nb->na<=n->nb<=b.size->na+nb<=f+r->T (.done (none,na,nb,out,U,w,v)) (bW st g)/\T (.yield (none,na,nb,out,U,w,v)) (bW st g))->∀u m g,wpS M A E s (jp u m) T (bW st g):=by
  intro T tS tN u m g;refine v6 (zDp (v6 (cu (i:=t) D (v6 (kZ (base:=0) (n:=na) (st:=bW st m) R hk mq (λi h1 h2=>?_) (zE sa (by omega)) (by show na - 1 < na; omega) λk k1 k2 k3=>?_)))))
  ·obtain⟨p,h1,h2,_⟩:=OR i (by omega);exact⟨p,h1,h2⟩
  have lo:∀p∈(a.toList.take k).reverse,rk p < rk q:=λp C=>by
   obtain⟨i,X,e⟩:=KS C;have:=k2 i X;unfold Bd at this;rw[xL (by decide),zero_add,gW e] at this;have h2:¬ rk q < rk p:=by simpa using this
   have h3:=j.ne' nd (p:=p) (q:=q) (by rw[xy a k1]; exact zA8 _ C) dq;omega
  have up:∀p∈(a.extract k na).reverse.toList,rk q < rk p:=λp C=>by obtain⟨i,X,hi2,e⟩:=HF k1 C;have:=k3 i X hi2;unfold Bd at this;rw[xL (by decide),zero_add,gW e] at this;simpa using this
  dsimp -zeta only;extract_lets kk YC jp2;have D0:∀(u:Unit) (B:Nat) (out:Array zAK),JH rk a b out B (t+1)->B<=na->1<=B->(∀p∈(a.toList.take B).reverse,rk p < rk q)->wpS M A E s (jp2 u B out) T (bW st m):=by
   intro u B out j h1 h2 h3;have J:=OT j D h3;obtain⟨H,rfl⟩:∃k,B=k+1:=⟨B - 1,by omega⟩;obtain⟨p,C,mp,dp⟩:=OR H (by omega);refine v6 (cu (i:=t) D (bD (λe=>u8 (tS _ _ _ (F _ _ t J (eq_of_beq e)))) λe=>?_));have e':¬ t=1:=λz=>e (zCv.mpr z);refine v6 (cu (i:=H) C (v6 (kZ (base:=0) (n:=t) (st:=bW st m) R hk mp (λi h1 h2=>?_) (zE sb (by omega)) (by show t - 1 < t; omega) λk k1 k2 k3=>?_)))
   ·obtain⟨p,h1,h2,_⟩:=OS i (by omega);exact⟨p,h1,h2⟩
   have lo:∀z∈(b.toList.take k).reverse,rk z < rk p:=λz Y=>by obtain⟨i,X,e⟩:=KS Y;have:=k2 i X;unfold Bd at this;rw[u1 rfl,zero_add,gW e] at this;simpa using this
   have up:∀z∈(b.extract k t).reverse.toList,rk p < rk z:=λz Y=>by
    obtain⟨i,X,hi2,e⟩:=HF k1 Y;have:=k3 i X hi2;unfold Bd at this;rw[u1 rfl,zero_add,gW e] at this;have h2:¬ rk z < rk p:=by simpa using this
    have h3:=J.ne' nd (p:=p) (q:=z) dp (by rw[xy b k1]; exact zBe _ Y);omega
   dsimp -zeta only;extract_lets kk2 YD na3 jp3;have SE:∀(u:Unit) (V:Nat) (out:Array zAK),JH rk a b out (H+1) V->V<=t->2<=V->(∀z∈(b.toList.take V).reverse,rk z < rk p)->wpS M A E s (jp3 u V out) T (bW st m):=by intro u V out j h4 h5 h6;have j3:=W j C h6;refine v6 (cu (i:=H) C (bD (λe=>u8 (tS _ _ _ (G _ H _ j3 (eq_of_beq e)))) λe=>?_));have e':¬ H=0:=λz=>e (zCv.mpr z);have tt:=λw v=>tN _ H V m w v m j3 (by omega) h5 (by omega) (by omega) (by omega);exact bD (λ_=>u8 (tt _ _).1) λ_=>u8 (tt _ _).2
   clear_value jp3;refine bD (λkp=>?_) λkp=>?_
   ·have j3:JH rk a b (out.push q++(b.extract k t).reverse) (H+1) k:=by unfold JH at J;rw[xy b k1] at J;unfold JH;rw[zAt];refine J.take' λz Y x hx=>?_;rw[fS C] at hx;exact xA (by rw[<-fS C]; exact J.sx) (up z Y) x hx
    refine bD (λe=>u8 (tS _ _ _ (F _ _ _ j3 (by simpa using e)))) λe=>?_;refine bD (λe=>u8 (tS _ _ _ (tell2 _ _ _ j3 (by simpa using e)))) λe2=>?_;have e':¬ k=1:=by simpa using e
    have YE:¬ k=0:=by simpa using e2
    exact SE _ k _ j3 k1 (by omega) lo
   ·have k0:k=t:=by have:¬ (t - k > 0):=kp;omega
    subst k0;exact SE _ k _ J (y8 _) (by omega) lo
  clear_value jp2;refine bD (λkp=>?_) λkp=>?_
  ·have J:JH rk a b (out++(a.extract k na).reverse) k (t+1):=by unfold JH at j;rw[xy a k1] at j;unfold JH;rw[zAt];refine j.take λz Y x hx=>?_;rw[fS D] at hx;exact xA (by rw[<-fS D]; exact j.sy) (up z Y) x hx
   refine bD (λe=>u8 (tS _ _ _ (G _ _ _ J (by simpa using e)))) λe=>?_;have e':¬ k=0:=by simpa using e
   exact D0 _ k _ J k1 (by omega) lo
  ·have k0:k=na:=by have:¬ (na - k > 0):=kp;omega
   subst k0;exact D0 _ k _ j (y8 _) K lo
 clear_value jp;refine bD (λ_=>KR _ ?_ ?_ _ _ _) λ_=>KR _ ?_ ?_ _ _ _;all_goals first | exact λd c g hr=>⟨g,rfl,.inr ⟨d,rfl,hr⟩⟩ | exact λout na nb U w v g j K N P S l5=>⟨⟨g,rfl,.inl ⟨out,na,nb,U,w,v,rfl,j,K,N,P,S,l5⟩⟩,⟨out,na,nb,U,w,v,g,rfl,rfl,j,K,N,P,S,l5⟩⟩
abbrev pB (a:zAK->Nat) (l:List zAK):Prop:=l.Pairwise λp q=>a p < a q
theorem j5 {α:Type}{xs:Array α}{P X S:List α}(h:xs.toList=P++(X++S))(a:i < X.length):xs[P.length+i]?=X[i]?:=by rw[<-zAh,h,zAy (by omega),zCj,zAo a]
theorem KU {α:Type}{xs:Array α}{P X S:List α}(h:xs.toList=P++(X++S))(a:i=P.length)(b:j=i+X.length):(xs.extract i j).toList=X:=by subst a b;rw[zCx,zCa,h,List.drop_left,zCj,List.take_left]
theorem KW (h:xs.toList=P++(X++S))(d:pB c X):Up c xs P.length (P.length+X.length):=λi j f g e=>by have b:=j5 h (i:=i - P.length) (by omega);have a:=j5 h (i:=j - P.length) (by omega);rw[show P.length+(i - P.length)=i by omega,y2 (by omega)] at b;rw[show P.length+(j - P.length)=j by omega,y2 (by omega)] at a;rw[gW b,gW a];exact zBs.mp d _ _ _ _ (by omega)
theorem mid_up (h:xs.toList=P++(X++S))(u:Up a xs P.length (P.length+X.length)):pB a X:=by refine zBs.mpr λi j e d f=>?_;have:=u (P.length+i) (P.length+j) (by omega) (by omega) (by omega);have c:=j5 h e;have b:=j5 h d;rw[y2 e] at c;rw[y2 d] at b;rwa [gW c,gW b] at this
theorem D3 {α:Type}:∀(Z:List α) (base j:Nat) (xs:Array α) (U V W:List α),xs.toList=U++(V++W)->V.length=Z.length->U.length=base+j->((Z.zipIdx j).foldl (λa x=>a.setIfInBounds (base+x.2) x.1) xs).toList=U++(Z++W)| [],base,j,xs,U,V,W,h,b,c=>by have:V=[]:=List.eq_nil_of_length_eq_zero b;rw[this] at h;exact h| z::Z,base,j,xs,U,V,W,h,b,c=>by cases V with| nil=>cases b| cons v V=>
   have e:(xs.setIfInBounds (base+j) z).toList=(U++[z])++(V++W):=by rw[Array.toList_setIfInBounds,h,<-c,List.set_append,xL (by omega),zDk];simp
   have:=D3 Z base (j+1) (xs.setIfInBounds (base+j) z) (U++[z]) V W e (by simpa using b) (by simp [c]; omega);rw[List.zipIdx_cons,List.foldl_cons,this];simp
theorem SG {a:zAQ}{Q:PUnit->zAQ->Prop}(h:Q ⟨⟩ a):wpS M A E s (set a:StateT zAQ Sem PUnit) Q st:=by unfold wpS; rw[StateT.run_set]; exact y3 ⟨rfl,h⟩
theorem JC (R:Rk M A E s κ a0 rk)(C:gy κ a0 st){i W na nb B YF:Nat}{P X Y S:List zAK}{Q:Bool->zAQ->Prop}(h1:(zAF st)[i]?=some (W,na,B))(h2:(zAF st)[i+1]?=some (W+na,nb,YF))(r:(zAH st).toList=P++(X++(Y++S))) (hP:P.length=W) (hX:X.length=na) (hY:Y.length=nb) (J:pB rk X) (I:pB rk Y) (na1:1<=na) (w:1<=nb)(h:∀Z ys g,Z.Perm (X++Y)->pB rk Z->ys.toList=P++(Z++S)->Q true (SortSt.mk' (kindOf st) ys (((zAF st).setIfInBounds i (W,na+nb,B)).eraseIdxIfInBounds (i+1)) g (zBJ st))):wpS M A E s (mergeAt' i) Q st:=by
 subst hP hX hY;have nd:((zAH st).toList.map rk).Nodup:=((zCo.mp C.perm).map rk).nodup_iff.mpr R.nd;have v:∀p∈(zAH st).toList,p∈a0.toList:=λp d=>(zCo.mp C.perm).mem_iff.mp d;have V:(zAH st).toList=(P++X)++(Y++S):=by rw[r,zAv]
 have D:(P++X).length=P.length+X.length:=zAm;have YG:∀j,P.length<=j->j < P.length+X.length->∃x,(zAH st)[j]?=some x/\x∈a0.toList:=λj a b=>by have:=j5 r (i:=j - P.length) (by omega);rw[show P.length+(j - P.length)=j by omega,y2 (by omega)] at this;exact⟨_,this,v _ (by rw[r]; simp)⟩
 have YH:∀j,P.length+X.length<=j->j < P.length+X.length+Y.length->∃x,(zAH st)[j]?=some x/\x∈a0.toList:=λj a b=>by have:=j5 V (i:=j - (P++X).length) (by omega);rw[show (P++X).length+(j - (P++X).length)=j by omega,y2 (by omega)] at this;exact⟨_,this,v _ (by rw[r]; simp)⟩
 have gX:∀j (t:j < X.length),Gq rk (zAH st) (P.length+j)=rk X[j]:=λj t=>gW (by rw[j5 r t,y2 t]);have gY:∀j (t:j < Y.length),Gq rk (zAH st) (P.length+X.length+j)=rk Y[j]:=λj t=>gW (by rw[<-D,j5 V t,y2 t]);have ne:∀p∈X,∀q∈Y,rk p≠rk q:=λp d q m=>by rw[r,v3,v3,v3] at nd;have h2:=(zBv.mp (zBv.mp nd).2.1).2.2;exact h2 _ (zAg d) _ (zBe _ (zAg m))
 have eb:(zAH st)[P.length+X.length]?=some Y[0]:=by have:=j5 V (i:=0) w;rw[add_zero,D,y2 w] at this;exact this
 have l:∀q∈Y,rk Y[0]<=rk q:=λq m=>by
  obtain⟨j,t,e⟩:=zBb.mp m;rw[<-e];by_cases z:j=0;·subst z; exact y8 _
  ·exact zCd (zBs.mp I 0 j w t (by omega))
 have u:∀p∈X,rk p<=rk (X[X.length - 1]'(by omega)):=λp d=>by
  obtain⟨j,t,e⟩:=zBb.mp d;rw[<-e];by_cases z:j=X.length - 1;·subst z; exact y8 _
  ·exact zCd (zBs.mp J j (X.length - 1) t (by omega) (by omega))
 refine v6 (zCZ ?_);dsimp -zeta only;rw[h1,h2];refine v6 (SG ?_);refine v6 (cu eb (v6 (kZ (st:=SortSt.mk' (kindOf st) (zAH st) (((zAF st).setIfInBounds i (P.length,X.length+Y.length,B)).eraseIdxIfInBounds (i+1)) (zAX st) (zBJ st)) R C.kind (v Y[0] (by rw[r]; simp)) YG (KW r J) na1 λk k1 k2 k3=>?_)));have lo:∀p∈X.take k,rk p < rk Y[0]:=λp d=>by
  obtain⟨j,t,e⟩:=List.mem_take_iff_getElem.mp d;have:=k2 j (by omega);unfold Bd at this;rw[xL (by decide),gX j (by omega)] at this;have h3:¬ rk Y[0] < rk X[j]:=by simpa using this
  have:=ne X[j] (zB2 _) Y[0] (zB2 _);rw[<-e];omega
 have up:∀p∈X.drop k,rk Y[0] < rk p:=λp d=>by
  obtain⟨j,t,e⟩:=List.mem_drop_iff_getElem.mp d;have:=k3 (k+j) (by omega) (by omega);unfold Bd at this;rw[xL (by decide),gX (k+j) (by omega)] at this;have h3:rk Y[0] < rk X[k+j]:=by simpa using this
  rw[<-e];have e4:k+j=j+k:=Nat.add_comm _ _;simpa [e4] using h3
 refine bD (λe=>?_) λe=>?_
 ·have ek:X.length - k=0:=eq_of_beq e;have et:X.take k=X:=zB6 (by omega);exact u8 (h (X++Y) (zAH st) (zAX st) (List.Perm.refl _) (zBa.mpr ⟨J,I,λp d q m=>wT (lo p (by rw[et]; exact d)) (l q m)⟩) (by rw[r,zAv]))
 have kl:k < X.length:=by have:¬ X.length - k=0:=λz=>e (zCv.mpr z);omega
 have el:(zAH st)[P.length+k+(X.length - k) - 1]?=some (X[X.length - 1]'(by omega)):=by have:=j5 r (i:=X.length - 1) (by omega);rw[y2 (by omega)] at this;rw[<-this];congr 1;omega
 have mX:X[X.length - 1]'(by omega)∈X:=zB2 _;refine v6 (cu el (v6 (kZ (base:=P.length+X.length) (n:=Y.length) (st:=SortSt.mk' (kindOf st) (zAH st) (((zAF st).setIfInBounds i (P.length,X.length+Y.length,B)).eraseIdxIfInBounds (i+1)) (zAX st) (zBJ st)) R C.kind (v (X[X.length - 1]'(by omega)) (by rw[r]; simp)) YH (by rw[<-D]; exact KW V I) (by show Y.length - 1 < Y.length; omega) λc j1 j2 j3=>?_)));have lo2:∀q∈Y.take c,rk q < rk (X[X.length - 1]'(by omega)):=λp d=>by obtain⟨j,t,e⟩:=List.mem_take_iff_getElem.mp d;have:=j2 j (by omega);unfold Bd at this;rw[u1 rfl,gY j (by omega)] at this;rw[<-e];simpa using this
 have K:∀q∈Y.drop c,rk (X[X.length - 1]'(by omega)) < rk q:=λp d=>by
  obtain⟨j,t,e⟩:=List.mem_drop_iff_getElem.mp d;have:=j3 (c+j) (by omega) (by omega);unfold Bd at this;rw[u1 rfl,gY (c+j) (by omega)] at this;have h3:¬ rk Y[c+j] < rk (X[X.length - 1]'(by omega)):=by simpa using this
  have h4:=ne _ mX Y[c+j] (zB2 _);have h5:rk (X[X.length - 1]'(by omega)) < rk Y[c+j]:=by omega
  rw[<-e];have e4:c+j=j+c:=Nat.add_comm _ _;simpa [e4] using h5
 refine bD (λe=>?_) λe2=>?_
 ·have ek:c=0:=eq_of_beq e;have et:Y.drop c=Y:=by rw[ek]; rfl
  exact u8 (h (X++Y) (zAH st) (zAX st) (List.Perm.refl _) (zBa.mpr ⟨J,I,λp d q m=>zCt (u p d) (K q (by rw[et]; exact m))⟩) (by rw[r,zAv]))
 have kl2:1<=c:=by have:¬ c=0:=λz=>e2 (zCv.mpr z);omega
 have U:X=X.take k++X.drop k:=(zBy k X).symm;have O:Y=Y.take c++Y.drop c:=(zBy c Y).symm;have hz:(zAH st).toList=(P++X.take k)++((X.drop k++Y.take c)++(Y.drop c++S)):=by
  rw[r];conv=>lhs; rw[U,O]
  simp only [zAv]
 have H:((zAH st).extract (P.length+k) (P.length+X.length)).toList=X.drop k:=KU (P:=P++X.take k) (S:=Y++S) (by rw[r]; conv=>{ lhs; rw[U] }; simp only [zAv]) (by simp; omega) (by simp; omega);have F:((zAH st).extract (P.length+X.length) (P.length+X.length+c)).toList=Y.take c:=KU (P:=P++X) (S:=Y.drop c++S) (by rw[r]; conv=>{ lhs; rw[O] }; simp only [zAv]) (by simp) (by simp; omega);have fin:∀(f:Array zAK) (o:zAQ) g,f.toList.Perm (X.drop k++Y.take c)/\pB rk f.toList->o=SortSt.mk' (kindOf st) (zAH st) (((zAF st).setIfInBounds i (P.length,X.length+Y.length,B)).eraseIdxIfInBounds (i+1)) g (zBJ st)-> Q true (SortSt.mk' (kindOf o) (f.toList.zipIdx.foldl (λa x=>a.setIfInBounds (P.length+k+x.2) x.1) (zAH o)) (zAF o) (zAX o) (zBJ o)):=by
  rintro f o g ⟨T,YI⟩ rfl;have hw:=D3 f.toList (P.length+k) 0 (zAH st) (P++X.take k) (X.drop k++Y.take c) (Y.drop c++S) hz (by rw[T.length_eq]) (by simp; omega);refine h (X.take k++(f.toList++Y.drop c)) _ g ?_ ?_ ?_
  ·have:(X.take k++((X.drop k++Y.take c)++Y.drop c)).Perm (X++Y):=by
    conv=>rhs; rw[U,O]
    simp only [zAv];exact List.Perm.refl _
   exact (List.Perm.append_left _ (List.Perm.append_right _ T)).trans this
  ·have sx:=zBa.mp (U ▸ J:pB rk (X.take k++X.drop k));have sy:=zBa.mp (O ▸ I:pB rk (Y.take c++Y.drop c));refine zBa.mpr ⟨sx.1,zBa.mpr ⟨YI,sy.2.1,λp d q m=>?_⟩,λp d q m=>?_⟩
   ·rcases w8.mp (T.mem_iff.mp d) with z | z;·exact zCt (u p (List.mem_of_mem_drop z)) (K q m)
    ·exact sy.2.2 p z q m
   ·rcases w8.mp m with z | z
    ·rcases w8.mp (T.mem_iff.mp z) with z | z;·exact sx.2.2 p d q z
     ·exact wT (lo p d) (l q (List.mem_of_mem_take z))
    ·exact wT (lo p d) (l q (List.mem_of_mem_drop z))
  ·exact hw.trans (by simp only [zAv])
 have g1:∀p∈X.drop k++Y.take c,p∈a0.toList:=λp d=>v p (by rw[hz]; exact zA8 _ (zBe _ d));have g2:((X.drop k++Y.take c).map rk).Nodup:=by rw[hz,v3] at nd;have:=(zBv.mp nd).2.1;rw[v3] at this;exact (zBv.mp this).1
 have g3:pB rk (X.drop k):=J.sublist (List.drop_sublist _ _);have g4:pB rk (Y.take c):=I.sublist (List.take_sublist _ _);generalize hxa:(zAH st).extract (P.length+k) (P.length+X.length)=G at H;generalize hyb:(zAH st).extract (P.length+X.length) (P.length+X.length+c)=N at F;have s1:G.size=X.length - k:=by rw[<-zAq,H,zDi]
 have s2:N.size=c:=by rw[<-zAq,F,zCe]; omega
 have f1:∀p q,N[0]?=some p->q∈G.toList->rk p < rk q:=λp q e m=>by rw[<-zAh,F,List.getElem?_take,u1 (by omega),y2 w] at e;cases e;rw[H] at m;exact up q m
 have f2:∀p q,G[G.size - 1]?=some p->q∈N.toList->rk q < rk p:=λp q e m=>by
  rw[<-zAh,H,List.getElem?_drop,y2 (by omega)] at e;cases e;rw[F] at m;have:=lo2 q m;have e5:k+(G.size - 1)=X.length - 1:=by omega
  simp only [e5];exact this
 rw[<-H,<-F] at g1 g2;rw[<-H] at g3;rw[<-F] at g4;extract_lets x y jp;have L:∀(f:Array zAK) g,(f.toList.Perm (G.toList++N.toList)/\pB rk f.toList)->wpS M A E s (jp f) Q (bW (SortSt.mk' (kindOf st) (zAH st) (((zAF st).setIfInBounds i (P.length,X.length+Y.length,B)).eraseIdxIfInBounds (i+1)) (zAX st) (zBJ st)) g):=λf g hr=>by
  refine v6 (zDp (v6 (zCZ (u8 ?_))));have e:(zBJ st).isNone=true:=by rw[C.failed]; rfl
  show Q (zBJ st).isNone _;rw[e];rw[H,F] at hr;exact fin f _ g hr rfl
 clear_value jp;have t1:1<=G.size:=by omega
 have t2:1<=N.size:=by omega
 exact bD (λ_=>v6 (JA (st:=(SortSt.mk' (kindOf st) (zAH st) (((zAF st).setIfInBounds i (P.length,X.length+Y.length,B)).eraseIdxIfInBounds (i+1)) (zAX st) (zBJ st))) R C.kind g1 g2 g3 g4 t1 t2 f1 f2 L)) λ_=>v6 (JB (st:=(SortSt.mk' (kindOf st) (zAH st) (((zAF st).setIfInBounds i (P.length,X.length+Y.length,B)).eraseIdxIfInBounds (i+1)) (zAX st) (zBJ st))) R C.kind g1 g2 g3 g4 t1 t2 f1 f2 L)
end
def Ch (c:zAK->Nat):List (Nat × Nat × Nat)->Nat->Nat->List zAK->List zAK->Prop| [],a,b,l,r=>a=b/\l=r| (s,n,_)::e,a,b,l,r=>s=a/\1<=n/\∃X d,l=X++d/\X.length=n/\pB c X/\Ch c e (a+n) b d r
section
variable {rk:zAK->Nat}
theorem vF:∀{p q:List (Nat × Nat × Nat)} {a b:Nat} {l r:List zAK},Ch rk (p++q) a b l r↔∃m c,Ch rk p a m l c/\Ch rk q m b c r
 | [],q,a,b,l,r=>⟨λh=>⟨a,l,⟨rfl,rfl⟩,h⟩,λ⟨m,c,⟨t,u⟩,h⟩=>by rw[t,u]; exact h⟩| (s,n,w)::p,q,a,b,l,r=>by
  constructor
  ·rintro⟨e,k,X,o,f,i,d,v⟩;obtain⟨m,c,j,g⟩:=vF.mp v;exact⟨m,c,⟨e,k,X,o,f,i,d,j⟩,g⟩
  ·rintro⟨m,c,⟨e,k,X,o,f,i,d,j⟩,g⟩;exact⟨e,k,X,o,f,i,d,vF.mpr ⟨m,c,j,g⟩⟩
theorem vG:∀{p:List (Nat × Nat × Nat)} {a b:Nat} {l r:List zAK},Ch rk p a b l r->∃W,l=W++r/\a+W.length=b/\p.length<=W.length/\∀c,Ch rk p a b (W++c) c| [],a,b,l,r,h=>⟨[],h.2,h.1,y8 _,λ_=>⟨h.1,rfl⟩⟩| (s,n,w)::p,a,b,l,r,⟨f,m,X,o,k,i,d,g⟩=>by obtain⟨W,j,t,q,e⟩:=vG g;refine⟨X++W,by rw[k,j,zAv],by rw[zAm]; omega,by rw[zAm,zCp]; omega,λc=>⟨f,m,X,W++c,by rw[zAv],i,d,e c⟩⟩
theorem OU:∀{p q:List (Nat × Nat × Nat)} {a b:Nat} {l r:List zAK},p.map (λx=>(x.1,x.2.1))=q.map (λx=>(x.1,x.2.1))->Ch rk p a b l r->Ch rk q a b l r| [],[],a,b,l,r,_,h=>h| (s,n,w)::p,(o,t,m)::q,a,b,l,r,e,⟨j,k,X,d,i,g,c,f⟩=>by simp only [zA2,List.cons.injEq,Prod.mk.injEq] at e;obtain⟨⟨rfl,rfl⟩,e⟩:=e;exact⟨j,k,X,d,i,g,c,OU e f⟩| [],y::q,_,_,_,_,e,_=>by simp at e| x::p,[],_,_,_,_,e,_=>by simp at e
theorem Gx (p:Array (Nat × Nat × Nat))(w:Nat):(p.modify (p.size - 1) λx=>(x.1,x.2.1,w)).toList.map (λx=>(x.1,x.2.1))=p.toList.map (λx=>(x.1,x.2.1)):=by
 refine List.ext_getElem? λi=>?_;rw[vT,vT,zAh,zAh,Array.getElem?_modify];split;·rw[Option.map_map]; rfl
 ·rfl
end
section
variable {M:zEK}{A:zAI}{E:zzE}{s:SI}{κ:zEH}{a0:Array zAK}{rk:zAK->Nat}{st:zAQ}
theorem zF (R:Rk M A E s κ a0 rk)(k:gy κ a0 st){i lo:Nat}{rest:List zAK}{Q:Bool->zAQ->Prop}(o:Ch rk (zAF st).toList 0 lo (zAH st).toList rest)(hi:i+1 < (zAF st).size)(h:∀a,gy κ a0 a->Ch rk (zAF a).toList 0 lo (zAH a).toList rest->(zAF a).size+1=(zAF st).size->Q true a):wpS M A E s (mergeAt' i) Q st:=by
 obtain⟨d,x,y,j,e,l⟩:∃d x y j,(zAF st).toList=d++(x::y::j)/\d.length=i:=by
  refine⟨(zAF st).toList.take i,(zAF st)[i],(zAF st)[i+1],(zAF st).toList.drop (i+2),?_,by simp; omega⟩;have C:(zAF st).toList.drop i=(zAF st)[i]::(zAF st)[i+1]::(zAF st).toList.drop (i+2):=by rw[zCu (by simp; omega),zCu (by simp; omega)];rfl
  rw[<-C,zBy]
 obtain⟨b,N,c⟩:=x;obtain⟨D,K,f⟩:=y;have B:(zAF st)[i]?=some (b,N,c):=by rw[<-zAh,e,zAy (by omega),l,zDk]; rfl
 have O:(zAF st)[i+1]?=some (D,K,f):=by rw[<-zAh,e,zAy (by omega),l,zCj]; rfl
 rw[e] at o;obtain⟨m,U,I,rfl,L,X,S,F,rfl,w,rfl,z,Y,t,G,rfl,H,P⟩:=vF.mp o;obtain⟨W,n,V,T,v⟩:=vG I;rw[F,G] at n;have p:(((zAF st).setIfInBounds i (b,X.length+Y.length,c)).eraseIdxIfInBounds (i+1)).toList=d++((b,X.length+Y.length,c)::j):=by rw[Array.toList_eraseIdxIfInBounds,Array.toList_setIfInBounds,e,List.set_append,xL (by omega),l,zDk];show (d++((b,X.length+Y.length,c)::(b+X.length,Y.length,f)::j)).eraseIdx (i+1)=_;rw[List.eraseIdx_append_of_length_le (by omega),l,zCj];rfl
 refine JC R k B O n (by omega) rfl rfl w H L z λZ r g u J q=>?_;refine h _ ⟨k.kind,k.failed,?_⟩ ?_ ?_
 ·refine Array.Perm.trans (zCo.mpr ?_) k.perm;show r.toList.Perm (zAH st).toList;rw[q,n];refine List.Perm.append_left _ ?_;rw[<-zAv];exact List.Perm.append_right _ u
 ·show Ch rk (((zAF st).setIfInBounds i (b,X.length+Y.length,c)).eraseIdxIfInBounds (i+1)).toList 0 lo r.toList rest;rw[p,q];refine vF.mpr ⟨b,Z++t,v _,rfl,by omega,Z,t,rfl,by rw[u.length_eq,zAm],J,?_⟩;rw[<-zCz];exact P
 ·show (((zAF st).setIfInBounds i (b,X.length+Y.length,c)).eraseIdxIfInBounds (i+1)).size+1=(zAF st).size;rw[<-zAq,<-zAq,p,e];simp;omega
theorem QE (R:Rk M A E s κ a0 rk)(hS:gy κ a0 st){Q:Unit->zAQ->Prop}(hp:zAF st=#[])(h:∀g,gy κ a0 g->pB rk (zAH g).toList->Q () g):wpS M A E s sortRuns' Q st:=by
 rw[sortRuns'_eq];refine v6 (zCZ ?_);have sz:=hS.size;rw[sz];extract_lets size mr lo0;have es:size=a0.size:=rfl;clear_value size mr;subst es;refine v6 (zC5 (zBl (I:=λx c g=>∃lo,c=(none,lo)/\gy κ a0 g/\Ch rk (zAF g).toList 0 lo (zAH g).toList ((zAH g).toList.drop lo)/\lo<=a0.size/\x<=lo) (Q:=λc g=>c=(none,a0.size)/\gy κ a0 g/\Ch rk (zAF g).toList 0 a0.size (zAH g).toList []) (λx c g SA DZ r=>?_) (λc g r=>?_) ⟨0,rfl,hS,by rw[hp]; exact⟨rfl,rfl⟩,zAd _,y8 _⟩) λc g r=>?_)
 ·obtain⟨lo,rfl,o,B,l1,l2⟩:=r;dsimp -zeta only;refine bD (λc=>?_) λc=>?_
  ·have c:a0.size<=lo:=c;have:lo=a0.size:=by omega
   subst this;refine u8 ⟨rfl,o,?_⟩;rwa [List.drop_eq_nil_of_le (by simp [o.size])] at B
  have c:¬ a0.size<=lo:=c;refine v6 (M7 R o (by omega) (by omega) λm q L Y m1 m2 u=>?_);dsimp -zeta only;extract_lets n jp;have O:∀T:ForInStep (Option Unit × Nat)->zAQ->Prop,(∀f j,gy κ a0 f->Ch rk (zAF f).toList 0 j (zAH f).toList ((zAH f).toList.drop j)->j<=a0.size->x+1<=j->T (.yield (none,j)) f)-> ∀(v:Unit) (n:Nat) (q:Array zAK),q.Perm (zAH g)->(∀k:Nat,k < lo->q[k]?=(zAH g)[k]?)->1<=n->lo+n<=a0.size->Up rk q lo (lo+n)->wpS M A E s (jp v n) T (zCO g q):=by
   intro T hT v n q L Y n1 n2 u;obtain⟨W,w1,w2,w3,w4⟩:=vG B;have hz:q.size=a0.size:=(L.trans o.perm).size_eq;have eW:W=q.toList.take lo:=by
    have:W=(zAH g).toList.take lo:=by rw[w1,List.take_left' (by omega)]
    rw[this];refine List.ext_getElem? λk=>?_;rw[List.getElem?_take,List.getElem?_take];split
    ·rename_i ck;rw[zAh,zAh,Y k ck]
    ·rfl
   have ex:q.toList=W++q.toList.drop lo:=by rw[eW,zBy]
   have p:Ch rk (zAF g).toList 0 lo q.toList (q.toList.drop lo):=by conv=>{ arg 5; rw[ex] };exact w4 _
   obtain⟨X,N,eX,lX⟩:∃X N,q.toList.drop lo=X++N/\X.length=n:=⟨(q.toList.drop lo).take n,(q.toList.drop lo).drop n,(zBy _ _).symm,by simp; omega⟩;have Z:pB rk X:=mid_up (P:=W) (S:=N) (by rw[ex,eX]) (by rw[show W.length=lo by omega,lX]; exact u);refine v6 (zCZ ?_);extract_lets j V;have F:∀(v:Unit) (f:zAQ),gy κ a0 f->Ch rk (zAF f).toList 0 lo (zAH f).toList (q.toList.drop lo)->wpS M A E s (V v) T f:=by
    intro v f l B;refine v6 (zDp (u8 (hT (setPending f ((zAF f).push (lo,n,0))) (lo+n) ⟨l.kind,l.failed,l.perm⟩ ?_ n2 (by omega))));show Ch rk ((zAF f).push (lo,n,0)).toList 0 (lo+n) (zAH f).toList ((zAH f).toList.drop (lo+n));obtain⟨W2,v1,v2,_⟩:=vG B;have e9:(zAH f).toList.drop (lo+n)=N:=by rw[v1,eX,<-zAv];exact List.drop_left' (by rw[zAm]; omega)
    rw[e9,zCy];exact vF.mpr ⟨lo,_,B,rfl,n1,X,N,eX,lX,Z,rfl,rfl⟩
   clear_value V;have l:gy κ a0 (zCO g q):=o.set L;cases e:(zAF (zCO g q)).back? with| none=>exact F _ _ l p| some t=>
    obtain⟨s1,n1',w⟩:=t;dsimp -zeta only;refine v6 (zC5 (zBl (I:=λ_ c f=>c=(none,())/\gy κ a0 f/\Ch rk (zAF f).toList 0 lo (zAH f).toList (q.toList.drop lo)) (Q:=λc f=>c=(none,())/\gy κ a0 f/\Ch rk (zAF f).toList 0 lo (zAH f).toList (q.toList.drop lo)) (λy c f _ _ r=>?_) (λc f r=>r) ⟨rfl,l,p⟩) λc f r=>?_)
    ·obtain⟨rfl,z,C⟩:=r;refine v6 (zCZ ?_);dsimp only;by_cases U:(zAF f).size > 1
     ·rw[u1 U,zCg (zAF f) ((zAF f).size - 2) (by omega)];dsimp only;refine bD (λ_=>u8 ⟨rfl,z,C⟩) λ_=>?_;exact v6 (zF R z C (by omega) λOV H J _=>u8 ⟨rfl,H,J⟩)
     ·rw[xL U];exact u8 ⟨rfl,z,C⟩
    ·obtain⟨rfl,z,C⟩:=r;dsimp only;refine v6 (zDp (F _ _ ⟨z.kind,z.failed,z.perm⟩ ?_));exact OU (Gx _ _).symm C
  clear_value jp;have G:∀f j,gy κ a0 f->Ch rk (zAF f).toList 0 j (zAH f).toList ((zAH f).toList.drop j)->j<=a0.size->x+1<=j->∃lo,((none,j):Option Unit × Nat)=(none,lo)/\gy κ a0 f/\Ch rk (zAF f).toList 0 lo (zAH f).toList ((zAH f).toList.drop lo)/\lo<=a0.size/\x+1<=lo:=λf j a b c d=>⟨j,rfl,a,b,c,d⟩;refine bD (λcm=>?_) λcm=>?_
  ·have cm:m < mr:=cm;refine v6 (zDU (zC8 ⟨rfl,?_⟩));refine v6 (Sy R (o.set L) (n:=min (a0.size - lo) mr) (by omega) m1 (by omega) u λys py ky uy=>?_);refine O _ G _ _ ys (py.trans L) (λk hk=>(ky k hk).trans (Y k hk)) (by omega) (by omega) uy
  ·exact O _ G _ m q L Y m1 (by omega) u
 ·obtain⟨lo,rfl,o,B,l1,l2⟩:=r;have:lo=a0.size:=by omega
  subst this;refine⟨rfl,o,?_⟩;rwa [List.drop_eq_nil_of_le (by simp [o.size])] at B
 ·obtain⟨rfl,o,B⟩:=r;dsimp only;refine v6 (zC5 (zBl (I:=λx c f=>c=(none,())/\gy κ a0 f/\Ch rk (zAF f).toList 0 a0.size (zAH f).toList []/\((zAF f).size<=1\/(zAF f).size+x<=a0.size)) (Q:=λc f=>c=(none,())/\gy κ a0 f/\Ch rk (zAF f).toList 0 a0.size (zAH f).toList []/\(zAF f).size<=1) (λx c f _ _ r=>?_) (λc f r=>?_) ⟨rfl,o,B,.inr ?_⟩) λc f r=>?_)
  ·obtain⟨rfl,l,p,K⟩:=r;refine v6 (zCZ ?_);refine bD (λU=>u8 ⟨rfl,l,p,U⟩) λU=>?_;refine v6 (zF R l p ?_ λOV H J e4=>u8 ⟨rfl,H,J,by omega⟩);have hle:∀(b:Bool) (i:Nat),(if b=true then i - 1 else i)<=i:=λb i=>by split <;> omega
   exact zCt (zCh (hle _ ((zAF f).size - 2))) (by omega)
  ·obtain⟨rfl,l,p,K⟩:=r;refine⟨rfl,l,p,?_⟩;rw[zBr (zAd _)] at K;omega
  ·obtain⟨W,w1,w2,w3,_⟩:=vG B;rw[zAq] at w3;omega
  ·obtain⟨rfl,l,p,K⟩:=r;refine u8 (h f l ?_);rw[<-zAq] at K;generalize (zAF f).toList=ps at K p;match ps,K,p with| [],_,B=>rw[B.2]; exact List.Pairwise.nil| [(s1,n,w)],_,⟨_,_,X,N,e,_,Z,_,e2⟩=>rw[e,e2,zCw]; exact Z
end
theorem vH {α β:Type}(f:α->β):∀{ps:List α} {l:List β},l.Perm (ps.map f)->∃c:List α,c.Perm ps/\l=c.map f:=by intro ps;induction ps with| nil=> intro l h;exact⟨[],List.Perm.nil,h.eq_nil⟩| cons p ps i=>
  intro l h;have d:f p∈l:=h.mem_iff.mpr (by simp);obtain⟨a,b,rfl⟩:=List.append_of_mem d;have g:(a++b).Perm (ps.map f):=by have:=List.perm_middle.symm.trans h;rw[zA2] at this;exact (List.perm_cons _).mp this
  obtain⟨c,j,e⟩:=i g;refine⟨c.take a.length++p::c.drop a.length,?_,?_⟩
  ·refine List.perm_middle.trans (List.Perm.cons p ?_);rw[zBy];exact j
  ·rw[v3,zA2,List.map_take,List.map_drop,<-e];simp
noncomputable def BY (ks:zzB)(a:List Int):Nat:=ks.countP λk=>HT.lexLt k a
theorem zG (f:a∈ks)(h:HT.lexLt a b=true):BY ks a < BY ks b:=by unfold BY;induction ks with| nil=>cases f| cons k ks m=>
  have d:∀l:zzB,l.countP (λk=>HT.lexLt k a)<=l.countP λk=>HT.lexLt k b:=λl=>List.countP_mono_left λx _ i=>lex_trans i h;rw[List.countP_cons,List.countP_cons];rcases wS.mp f with e | f
  ·rw[<-e,lex_irrefl,h];have:=d ks;simp;lia
  ·have:=m f;by_cases c:HT.lexLt k a=true;·rw[c,lex_trans c h]; simp; lia
   ·have j:HT.lexLt k a=false:=by simpa using c
    rw[j,xL (by decide)];lia
theorem HG (f:a∈ks)(g:b∈ks):decide (BY ks a < BY ks b)=HT.lexLt a b:=by
 by_cases e:a=b
 ·subst e;rw[lex_irrefl];simp
 ·rcases vE _ _ e with h | h
  ·rw[h];exact zAa (zG f h)
  ·have i:=zG g h;cases c:HT.lexLt a b with| false=>exact zAp (by lia)| true=> have:=lex_trans c h;rw[lex_irrefl] at this;cases this
theorem QF (d:a∈ks)(c:b∈ks)(h:BY ks a=BY ks b):a=b:=by
 by_cases e:a=b;·exact e
 ·rcases vE _ _ e with q | q;·have:=zG d q; lia
  ·have:=zG c q; lia
section
variable {prog:zAA}{w:zAD}{A:zAI}{E:zzE}{s:SI}
noncomputable def SH (ps:zzD):Value->List Int| .ref a=>((ps.find? λp=>p.1 == a).map (·.2)).getD []| _=>[]
theorem BZ:∀{x y:List Int} {vs:List Value},ItemsAre (zAN prog w) x vs->ItemsAre (zAN prog w) y vs->x=y| [],[],_,_,_=>rfl| [],_::_,_,.nil,h=>by cases h| _::_,[],_,h,.nil=>by cases h| a::x,b::y,_,.cons d g,.cons c f=>by obtain⟨t,rfl⟩:=nK d;obtain⟨u,e⟩:=nK c;cases e;rw[BZ g f]
theorem QG (g:zAJ (zAN prog w) h x a)(e:zAJ (zAN prog w) h y a):x=y:=by obtain⟨o,m,n,f,_,i,j⟩:=g;obtain⟨l,p,k,c,_,b,d⟩:=e;rw[f] at c;cases c;rw[i] at b;cases b;exact BZ j d
theorem rY (a:∀p∈ps,zAJ (zAN prog w) h p.2 p.1)(c:p∈ps):SH ps (rf p)=p.2:=by unfold SH rf;dsimp only;cases e:ps.find? λq=>q.1 == p.1 with| none=> have:=List.find?_eq_none.mp e p c;simp at this| some q=>
  have f:=List.mem_of_find?_eq_some e;have d:q.1=p.1:=by simpa using List.find?_some e
  have b:=a q f;rw[d] at b;exact QG b (a p c)
theorem SJ (a:∀p∈ps,zAJ (zAN prog w) s.heap p.2 p.1)(k:(ps.map (·.2)).Nodup)(m:Bool)(j:h.toList=ps.map λp=>(rf p,rf p)):Rk (zAC prog w) A E s (tuples' m) h (λx=>BY (ps.map (·.2)) (SH ps x.1)):=by
 have f:∀x∈h.toList,∃p∈ps,x=(rf p,rf p):=λx g=>by rw[j] at g;obtain⟨p,b,e⟩:=q0.mp g;exact⟨p,b,e.symm⟩
 constructor
 ·intro st x y Q n g l i;obtain⟨p,b,rfl⟩:=f x g;obtain⟨q,c,rfl⟩:=f y l;dsimp only at i;rw[rY a b,rY a c,HG (zAg b) (zAg c)] at i;rw[lt'_eq];refine v6 (zCZ ?_);rw[n];exact v6 (zDU (zCQ (Sv (a p b) (a q c) ⟨rfl,u8 i⟩)))
 ·rw[j,zAf,List.Nodup,zAl];rw[List.Nodup,zAl] at k;have:=List.Pairwise.and_mem.mp k;refine this.imp λ{p q} ⟨b,c,o⟩ e=>o ?_;dsimp only [Function.comp] at e;rw[rY a b,rY a c] at e;exact QF (zAg b) (zAg c) e
set_option maxHeartbeats 1000000 in theorem uM {a:M1}{n:Nat}{ps:zzD}{P:PySem.Fin->SI->Prop}(D:s.heap.get? a=some (zAS "list" (ps.map rf).toArray n))(i:∀p∈ps,zAJ (zAN prog w) s.heap p.2 p.1)(I:∀p∈ps,p.2≠[])(nd:(ps.map (·.2)).Nodup)(S:ps.length < 100000)(h:∀(h':Heap) (x:zzD) (c:Nat),(∀b o,b≠a->s.heap.get? b=some o->h'.get? b=some o)->h'.get? a=some (zAS "list" (x.map rf).toArray c)->x.Perm ps->x.Pairwise (λp q=>HT.lexLt p.2 q.2=true)->P (.done (.ret .none)) { s with heap:=h' }) : zAB (zAC prog w) A (Builtin.«list.sort» ⟨[.ref a],[]⟩) P E s:=by
 have ha:a < s.heap.objs.size:=v4 D;obtain⟨X,u⟩:∃X,(s.heap.update a (mapSeq λ_=>(#[]:Array Value))).get? a=some (zAS "list" #[] X):=⟨_,get?_update_seq D λ_=>#[]⟩;have hz:(ps.map rf).length=ps.length:=yB _;rw[list_sort_plain];refine yA (listItems_at D rfl ?_);refine yA (listUpdate_at D rfl ?_ (by rw[zB7,hz,kA]; lia) (zAd _));refine yA (seqEpoch_at u rfl ?_);refine yA (wpAny_newTuple ?_ (by show (ps.map rf).length<=_; rw[hz,kA]; lia));refine yA (zDO ?_ (zAd _));refine zBw ?_;have l:∀b o,b≠a->s.heap.get? b=some o->(((s.heap.update a (mapSeq λ_=>(#[]:Array Value))).push (zAS "tuple" (ps.map rf).toArray 0)).push (zAS "list" #[] 0)).get? b=some o:=λb o L e=>y4 _ (y4 _ ((zBc _ _ (Ne.symm L)).trans e));have g:(((s.heap.update a (mapSeq λ_=>(#[]:Array Value))).push (zAS "tuple" (ps.map rf).toArray 0)).push (zAS "list" #[] 0)).get? a=some (zAS "list" #[] X):=y4 _ (y4 _ u);have d:∀p∈ps,zAJ (zAN prog w) (((s.heap.update a (mapSeq λ_=>(#[]:Array Value))).push (zAS "tuple" (ps.map rf).toArray 0)).push (zAS "list" #[] 0)) p.2 p.1:=λp M=>lC (i p M) λo e=>l _ o (λz=>by obtain⟨o',_,_,G,V,_⟩:=i p M;rw[z,D] at G;cases G;exact absurd V (show ¬ (Value.type "list"=Value.type "tuple") by decide)) e;show zAB (zAC prog w) A _ P E { s with heap:=((s.heap.update a (mapSeq λ_=>(#[]:Array Value))).push (zAS "tuple" (ps.map rf).toArray 0)).push (zAS "list" #[] 0) };generalize ((s.heap.update a (mapSeq λ_=>(#[]:Array Value))).push (zAS "tuple" (ps.map rf).toArray 0)).push (zAS "list" #[] 0)=C at *;dsimp only;have y:∀(f:zzD),f.Perm ps->f.Pairwise (λp q=>HT.lexLt p.2 q.2=true)->P (.done (.ret .none)) { s with heap:=C.update a (mapSeq λ_=>(f.map rf).toArray) }:=λf pm U=>by obtain⟨O,hc2⟩:∃O,(C.update a (mapSeq λ_=>(f.map rf).toArray)).get? a=some (zAS "list" (f.map rf).toArray O):=⟨_,get?_update_seq g λ_=>(f.map rf).toArray⟩;exact h _ f O (λb o L e=>(zBc _ _ (Ne.symm L)).trans (l b o L e)) hc2 pm U
 have N:((ps.map rf).toArray.zip (ps.map rf).toArray).toList=ps.map λp=>(rf p,rf p):=by simp only [Array.toList_zip,List.zip_map,zAf];clear S hz D h y u l g d i I nd;induction ps with| nil=>rfl| cons p ps ih=>simp [ih]
 by_cases F:(ps.map rf).toArray.size < 2
 ·rw[u1 F,u1 F];refine yA (y3 ?_);rw[StateT.run_pure];refine yA (y3 ?_);dsimp only;have arr:(zAH (SortSt.mk' general' ((ps.map rf).toArray.zip (ps.map rf).toArray) #[] 7 none)).map (·.2)=(ps.map rf).toArray:=by show ((ps.map rf).toArray.zip (ps.map rf).toArray).map (·.2)=_;apply Array.toList_inj.mp;rw[Array.toList_map,N,zAf];rfl
  rw[arr];refine yA (seqEpoch_at g rfl ?_);refine yA (listUpdate_at g rfl ?_ (zAd _) (by show (ps.map rf).toArray.size<=_; lia));simp only [bne_self_eq_false,zAx,zCf];refine y3 (y ps (List.Perm.refl _) ?_);have hl:ps.length < 2:=by simpa using F
  match ps,hl with| [],_=>exact List.Pairwise.nil| [p],_=>exact List.pairwise_singleton _ _
 ·rw[xL F,xL F];have hl:2<=ps.length:=by simpa using F
  obtain⟨fs,ft,fl,fi⟩:=DX (prog:=prog) (w:=w) (s:={ s with heap:=C }) ps d I;refine yA (kat_kind (T:=.type "int") ft (by lia) (λv hv=>?_) (by decide) ?_)
  ·obtain⟨k,t,rfl⟩:=fi v hv;exact Looks.now
  have R:=SJ (A:=A) (E:=E) (s:={ s with heap:=C }) d nd ((Value.type "int") != Value.type "tuple") N;have W:=QE (st:=SortSt.mk' (tuples' ((Value.type "int") != Value.type "tuple")) ((ps.map rf).toArray.zip (ps.map rf).toArray) #[] 7 none) R ⟨rfl,rfl,Array.Perm.refl _⟩ (Q:=λ_ m=>zBJ m=none/\∃r:zzD,r.Perm ps/\(zAH m).toList=r.map (λp=>(rf p,rf p))/\r.Pairwise (λp q=>HT.lexLt p.2 q.2=true)) rfl λm hS K=>by obtain⟨r,B,e⟩:=vH (λp:M1 × List Int=>(rf p,rf p)) (N ▸ hS.perm.toList);refine⟨hS.failed,r,B,e,?_⟩;rw[e] at K;unfold pB at K;rw[zAl] at K;refine (List.Pairwise.and_mem.mp K).imp λ{p q} ⟨M,Y,Z⟩=>?_;have m1:=B.mem_iff.mp M;have m2:=B.mem_iff.mp Y;dsimp only at Z;rw[rY d m1,rY d m2] at Z;rw[<-HG (zAg m1) (zAg m2)];exact zAa Z
  unfold wpS at W;refine yA (zB1 W ?_ λ_ _ e=>e);rintro⟨⟨⟩,m⟩ s' ⟨rfl,hf,r,B,J,U⟩;dsimp only at hf J ⊢;have H:(zAH m).map (·.2)=(r.map rf).toArray:=by apply Array.toList_inj.mp;rw[Array.toList_map,J,zAf];rfl
  rw[H];refine yA (seqEpoch_at (s:={ s with heap:=C }) g rfl ?_);refine yA (listUpdate_at (s:={ s with heap:=C }) g rfl ?_ (zAd _) (by show (r.map rf).toArray.size<=_; simp [B.length_eq,kA]; lia));rw[hf];simp only [bne_self_eq_false,zAx,zCf];exact y3 (y r B U)
theorem gf.calm {K:Type}[DecidableEq K]{knd:KeyKind prog w K}{ps:List (M1 × List K)}(x:gf knd h S ps):∃o ep t,h.get? S=some o/\Calm w o (ps.map (ent knd)).toArray ep t/\(ps.map (·.2)).Nodup:=by obtain⟨o,ep,t,e,a,c,H,b,i,d⟩:=x;refine⟨o,ep,t,e,⟨a,c,?_,H.plain.rise,b.1,b.2⟩,d⟩;have f:=H.size;have g:=H.room;simp only [SetTable.fits,SetTable.fill,H.plain.GP,zAw,zCv,zBn];ext
set_option maxHeartbeats 1000000 in theorem zH {S:M1}{ps:zzD}{Q:zzE}(T:A.handled=none)(L:gf (zAN prog w) s.heap S ps)(v:∀p∈ps,zAJ (zAN prog w) s.heap p.2 p.1)(F:∀p∈ps,p.2≠[])(M:ps.length < 100000)(h:∀(h':Heap) (n:Nat) (l:M1) (a:zzD) (c:Nat),(∀b o,s.heap.get? b=some o->h'.get? b=some o)->s.heap.objs.size<=l->h'.get? l=some (zAS "list" (a.map rf).toArray c)->a.Perm ps->a.Pairwise (λp q=>HT.lexLt p.2 q.2=true)->Q (.ref l) { s with heap:=h',toks:=n }) : zAB (zAC prog w) A (call (.builtin "sorted") [.ref S]) Q E s:=by
 obtain⟨o,R,t,K,C,O⟩:=L.calm;refine Calls.call_function_entry kind_sorted plain_sorted entry_sorted (args_sorted1 _) ?_;unfold Builtin.«sorted»;refine yA (m:=checkCount "sorted" 1 1 _) (y3 ?_);refine yA (Gp (by simp [T]) K C (by rw[kA]; simp; lia) λj n V g x U=>?_);obtain⟨i,u,N⟩:=vH (ent (zAN prog w)) (by simpa using BJ w S R (ps.map (ent (zAN prog w))).toArray);have B:V=i.map rf:=by rw[U,N,zAf];rfl
 subst B;have ql:i.length=ps.length:=u.length_eq;refine yA (zDO ?_ (by rw[yB,kA]; lia));have H:(j.push (zAS "list" (i.map rf).toArray 0)).get? j.objs.size=some (zAS "list" (i.map rf).toArray 0):=wE _ rfl;have f:∀b o,s.heap.get? b=some o->(j.push (zAS "list" (i.map rf).toArray 0)).get? b=some o:=λb o e=>y4 _ (g b o e);have r:s.heap.get? j.objs.size=none:=by cases e:s.heap.get? j.objs.size with| none=>rfl| some Z=>exact absurd (v4 (g _ _ e)) (zB5 _)
 show zAB _ _ _ _ _ { s with heap:=j.push (zAS "list" (i.map rf).toArray 0),toks:=n };have k:∀p∈i,zAJ (zAN prog w) (j.push (zAS "list" (i.map rf).toArray 0)) p.2 p.1:=λp D=>lC (v p (u.mem_iff.mp D)) λo e=>f _ o e;generalize j.push (zAS "list" (i.map rf).toArray 0)=X at *;generalize j.objs.size=l at *;refine yA (zBw (zBq slot_list_sort ⟨_,H,rfl⟩ entry_list_sort ?_ (zDv _)));refine uM (s:={ s with heap:=X,toks:=n }) H k (λp D=>F p (u.mem_iff.mp D)) ((u.map _).nodup_iff.mpr O) (by ext) λW a c J G I P=>?_;refine⟨_,rfl,y3 ⟨_,rfl,h W n l a c (λb o e=>J b o (λz=>?_) (f b o e)) x G (I.trans u) P⟩⟩;rw[z] at e;rw[r] at e;cases e
end
end TB
namespace L2
open PySem PySem.Spec PyProof.Rows
noncomputable def gz (a:List (Str × M1)):List (Str × zBA)->List (Str × M1)->List (Str × M1)| [],b=>b| (n,k)::r,b=>if (k == NameKind.free)=true then gz a r ((n,(a.lookup n).getD 0)::b) else gz a r b
theorem lG:∀{names:List (Str × zBA)} {b:List (Str × M1)},(x,c)∈gz a names b->(x,c)∈b\/((x,NameKind.free)∈names/\c=(a.lookup x).getD 0)
 | [],_,h=>.inl h| (n,k)::r,b,h=>by
  unfold gz at h;by_cases d:(k == NameKind.free)=true
  ·have f:k=NameKind.free:=by ext
   subst f;rcases lG h with q | ⟨e,g⟩;·grind
   ext
  ·rw[xL d] at h;rcases lG h with q | ⟨e,g⟩;·ext
   ext
theorem oJ:∀{names:List (Str × zBA)} {a:List (Str × M1)},((x,NameKind.free)∈names\/(a.lookup x).isSome=true)->((gz b names a).lookup x).isSome=true
 | [],_,h=>by
  rcases h with h | h;·ext
  symm| (n,k)::r,a,h=>by
  unfold gz;by_cases c:(k == NameKind.free)=true
  ·rw[u1 c];refine oJ ?_;grind
  ·rw[xL c];refine oJ ?_;grind
theorem t7 (f:Str × zBA->List (Str × M1)->Sem (ForInStep (List (Str × M1))))(g:∀n k cs,f (n,k) cs=if (k == NameKind.free)=true then (do let a <-cellOf env n; pure (ForInStep.yield ((n,a)::cs))) else pure (ForInStep.yield cs)) : ∀(names:List (Str × zBA)) (b:List (Str × M1)),(∀x∈names,x.2=NameKind.free->∃c,env.cells.lookup x.1=some c)->forIn names b f=(pure (gz env.cells names b):Sem (List (Str × M1)))
 | [],b,_=>by rfl| (n,k)::r,b,h=>by
  rw[List.forIn_cons,g];unfold gz;have i:∀x∈r,x.2=NameKind.free->∃c,env.cells.lookup _=some c:=λx o=>h x (by ext);by_cases d:(k == NameKind.free)=true
  ·rw[u1 d,u1 d];have m:k=NameKind.free:=by ext
   obtain⟨c,j⟩:=h _ zAb m;have e:=j;have l:cellOf env n=pure c:=by unfold cellOf; ext
   rw[l,e];exact t7 f g r _ i
  ·rw[xL d,xL d];exact t7 f g r _ i
theorem zI (h:∀x∈a.names,x.2=NameKind.free->∃c,env.cells.lookup x.1=some c):closureFor a env=pure (gz env.cells a.names []):=by
 unfold closureFor;dsimp only;rw[t7 _ ?_ a.names [] h];·rfl
 simp
theorem nX:∀{names:List (Str × zBA)} {n:Nat} {a:List (Str × M1)},(x,c)∈zAV n names a->(x,c)∈a\/(n<=c/\(x,NameKind.cell)∈names)
 | [],_,_,h=>.inl h| (y,k)::r,n,a,h=>by
  unfold zAV at h;by_cases b:(k == NameKind.cell)=true
  ·have d:k=NameKind.cell:=by ext
   subst d;rcases nX h with q | ⟨e,f⟩;·grind
   grind
  ·rw[xL b] at h;rcases nX h with q | ⟨e,f⟩;·ext
   ext
theorem nY:∀{names:List (Str × zBA)} {n:Nat} {d:List (Str × M1)},(∀p∈d,p.2 < n)->(x,c)∈zAV n names d->(y,c)∈zAV n names d->((x,c)∈d/\(y,c)∈d)\/x=y
 | [],_,_,_,h,f=>.inl ⟨h,f⟩| (z,k)::r,n,d,j,h,f=>by
  unfold zAV at h f;by_cases i:(k == NameKind.cell)=true
  ·rw[u1 i] at h f;have g:∀p∈(z,n)::d,p.2 < n+1:=λp l=>by grind
   rcases nY g h f with ⟨a,b⟩ | e;·grind
   ext
  ·rw[xL i] at h f;exact nY j h f
theorem mT:∀{names:List (Str × zBA)} {h:Heap} {a:List (Str × M1)},(x,c)∈zAV h.objs.size names a->(x,c)∈a\/(zDB h names).IsCell c none
 | [],_,_,q=>.inl q| (y,k)::r,h,a,q=>by
  unfold zAV at q;unfold zDB;by_cases b:(k == NameKind.cell)=true
  ·rw[u1 b] at q ⊢;have d:(x,c)∈zAV (h.push { cls:=.type "cell",data:=.cell none }).objs.size r ((y,h.objs.size)::a):=by ext
   rcases mT d with z | z
   ·rcases wS.mp z with e | z
    ·cases e;exact .inr ⟨_,zCX r _ _ _ (wE _ rfl),rfl⟩
    ext
   ext
  ·rw[xL b] at q ⊢;exact mT q
theorem Gy {M:zEK}{A:zAI}{E:zzE}{s:SI}{scope:zDE}{globals:M1}{a:List (Str × M1)}{qual:Str}{env:Env}{Q:Env->SI->Prop}(h:Q { scope:=scope,locals:=s.heap.objs.size,globals:=globals,cells:=zAV (s.heap.objs.size+1) scope.names a,qual:=qual,func:=none,code:=env.code,frame:=env.frame,builtins:=env.builtins } { s with heap:=zDB (s.heap.push { cls:=.type "dict",data:=.dict #[] }) scope.names }) : zAB M A (newFunctionEnv scope globals a [] qual none .none (some env)) Q E s:=by
 refine yA (wpAny_alloc ?_);refine yA (wpAny_layCells _ ?_ scope.names a _ _ ?_);·simp
 ·have e:(s.heap.push { cls:=.type "dict",data:=.dict #[] }).objs.size=s.heap.objs.size+1:=size_push ..;rw[<-e] at h;exact y3 h
theorem jA {env:Env}:∀{names:List (Str × zBA)},(names.map λ(n,k)=>if (k == NameKind.free&&env.scope.kind == .function&&env.kindOf n == some .cell) then (n,NameKind.cell) else (n,k)).lookup x=some a-> ∃k,names.lookup x=some k/\(a=k\/(k=.free/\a=.cell))
 | [],h=>by ext| (n,k)::r,h=>by
  by_cases d:(k == NameKind.free&&env.scope.kind == .function&&env.kindOf n == some .cell)=true
  ·simp only [zA2,d,if_true,zDl] at h ⊢;cases b:x == n with| true=> ext| false=> rw[b] at h;exact jA h
  ·have c:(k == NameKind.free&&env.scope.kind == .function&&env.kindOf n == some .cell)=false:=by ext
   simp only [zA2,c,zAx,zCf,zDl] at h ⊢;cases b:x == n with| true=>ext| false=> rw[b] at h;exact jA h
theorem jW {env:Env}:∀{names:List (Str × zBA)},names.lookup x=some k-> ∃c,(names.map λ(n,k)=>if (k == NameKind.free&&env.scope.kind == .function&&env.kindOf n == some .cell) then (n,NameKind.cell) else (n,k)).lookup x=some c/\(c=k\/(k=.free/\c=.cell))
 | [],h=>by ext| (n,d)::r,h=>by
  by_cases e:(d == NameKind.free&&env.scope.kind == .function&&env.kindOf n == some .cell)=true
  ·simp only [zA2,e,if_true,zDl] at h ⊢;cases b:x == n with| true=> ext| false=> rw[b] at h;exact jW h
  ·have a:(d == NameKind.free&&env.scope.kind == .function&&env.kindOf n == some .cell)=false:=by ext
   simp only [zA2,a,zAx,zCf,zDl] at h ⊢;cases b:x == n with| true=>ext| false=> rw[b] at h;exact jW h
noncomputable def compEnv (a:zDE)(C:M1)(env:Env):Env:={ scope:=relabel a env,locals:=C,globals:=env.globals,cells:=zAV (C+1) a.names (gz env.cells a.names []),qual:=env.qual,func:=none,code:=env.code,frame:=env.frame,builtins:=env.builtins }
noncomputable def cG (X:Cx)(b:List Str)(a:zDE)(C:M1)(s₀:SI)(H₀:Hp)(ex:List M1):Cx where prog:=X.prog;w:=X.w;K:=X.K;mg:=X.mg;base:=X.base;A:=X.A;N:=b;s₀:=s₀;H₀:=H₀;env:=compEnv a C X.env;outer:=X.stack;stack:=X.stack;ex:=ex;fn:=λx=>decide (a.names.lookup x=some .cell);calm:=X.calm;pn:=[];xe:=λ_ _=>False
noncomputable def dw (a:List (Option Nat))(σ:St):St:=a.map λo=>o.bind λj=>(σ[j]?).join
structure iB (X:Cx)(N':List Str)(ix:List (Option Nat))(sc:zDE):Prop where
 kind:sc.kind=.function
 nd:N'.Nodup
 uniq:(sc.names.map (·.1)).Nodup
 len:ix.length=N'.length
 free:∀x∈sc.names,x.2=.free->X.env.kindOf x.1=some .cell\/X.env.kindOf x.1=some .free
 at_:∀(i j:Nat),ix[i]?=some (some j)->∃x,N'[i]?=some x/\X.N[j]?=some x/\sc.names.lookup x=some .free
theorem jc {α:Type}{a:α}:∀{l:List (Str × α)},(l.map (·.1)).Nodup->(x,a)∈l->l.lookup x=some a
 | (k,v)::r,b,h=>by
  rw[zA2,zDo] at b;rw[zDl];rcases wS.mp h with e | h;·ext
  ·have:(x == k)=false:=by grind
   rw[this];exact jc b.2 h
section
variable {X:Cx}{pins:zzC}{σ:St}{H:Hp}{s:SI}{N':List Str}{ix:List (Option Nat)}{sc:zDE}{ex:List M1}
theorem kQ (S:iB X N' ix sc)(h:(compEnv sc C X.env).cells.lookup x=some c)(d:X.Ok) :(X.env.cells.lookup x=some c/\sc.names.lookup x=some .free)\/(C+1<=c/\sc.names.lookup x=some .cell):=by
 rcases nX (mem_of_lookup h) with q | ⟨a,b⟩
 ·rcases lG q with q | ⟨a,b⟩;·ext
  ·obtain⟨e,f⟩:=d.has x (S.free _ a rfl);exact .inl ⟨by ext,jc S.uniq a⟩
 ·exact .inr ⟨a,jc S.uniq b⟩
theorem B0 (S:iB X N' ix sc)(I:Inv X pins σ H s)(C:M1){i:Nat}(w:N'[i]?=some x)(J:(dw ix σ)[i]?=some (some v)) : ∃u c,RelV v u/\((compEnv sc C X.env).kindOf x=some .cell\/(compEnv sc C X.env).kindOf x=some .free)/\(compEnv sc C X.env).cells.lookup x=some c/\X.env.cells.lookup x=some c/\s.heap.IsCell c (some u):=by have a:(ix.map λo=>o.bind λj=>(σ[j]?).join)[i]?=some (some v):=J;rw[vT] at a;cases e:ix[i]? with| none=>rw[e] at a; cases a| some o=> rw[e] at a;cases o with| none=>cases a| some j=>
   have f:(σ[j]?).join=some v:=zA4 a;have K:σ[j]?=some (some v):=by cases q:σ[j]? with| none=>rw[q] at f; cases f| some o=>rw[q] at f; exact zA7 some f
   obtain⟨M,G,L,h⟩:=S.at_ i j e;rw[G] at w;cases w;have t:=S.free _ (mem_of_lookup h) rfl;obtain⟨m,N,E⟩:=I.loc;have p:OH X.env.scope x:=by
    rcases t with k | k;·exact .inr (.inl k)
    ·exact .inr (.inr k)
   obtain⟨u,r,l⟩:=E j x v L K p;rcases l with ⟨k,_⟩ | ⟨k,c,y,z⟩;·rcases t with g | g <;> (rw[k] at g; cases g)
   ·obtain⟨g,q,b⟩:=jW (env:=X.env) (names:=sc.names) h;have:((zAV (C+1) sc.names (gz X.env.cells sc.names [])).lookup x).isSome=true:=zDa _ _ _ (.inr (oJ (.inl (mem_of_lookup h))));obtain⟨D,d⟩:=zBz.mp this;have F:c=D:=by
     rcases kQ S (C:=C) d I.ok with ⟨B,_⟩ | ⟨_,A⟩;·rw[y] at B; exact zA4 B
     ·rw[h] at A; cases A
    subst F;refine⟨u,c,r,?_,d,y,z⟩;show (relabel sc X.env).names.lookup x=some .cell\/(relabel sc X.env).names.lookup x=some .free;rcases b with b | ⟨_,b⟩;·exact .inr (b ▸ q)
    ·exact .inl (b ▸ q)
theorem JD (S:iB X N' ix sc)(I:Inv X pins σ H s)(w:∀b∈ex,lF X pins H b)(M:∀b∈ex,∃o,s.heap.get? b=some o) : Inv (cG X N' sc s.heap.objs.size s H ex) [] (dw ix σ) H { s with heap:=zDB (s.heap.push { cls:=.type "dict",data:=.dict #[] }) sc.names }:=by
 have d:∀b o,s.heap.get? b=some o->(zDB (s.heap.push { cls:=.type "dict",data:=.dict #[] }) sc.names).get? b=some o:=λb o e=>zCX _ _ _ _ (y4 _ e);have D:∀x c,X.env.cells.lookup x=some c->c < s.heap.objs.size:=λx c e=>by obtain⟨v,q⟩:=I.cell x c e; exact q.lt
 have n:∀b∈ex,b < s.heap.objs.size:=λb f=>by obtain⟨o,e⟩:=M b f; exact v4 e
 have K:(cG X N' sc s.heap.objs.size s H ex).Ok:=by
  refine⟨I.ok.mod,S.kind,I.ok.glob,I.ok.blt,y8 _,λx y c t A=>?_,λx B=>?_,λx c B g=>?_,I.ok.hd,I.ok.frames,.inl rfl,λb f=>⟨zAe (n b f),λx c h z=>?_⟩,I.bs,zAu I.ok.rV I.sz,λb o e f=>?_,λb f N=>?_,I.stack,I.xo⟩
  ·have l:∀p∈gz X.env.cells sc.names [],p.2 < s.heap.objs.size+1:=λp C=>by
    obtain⟨P,T⟩:=p;rcases lG C with q | ⟨O,Q⟩;·ext
    ·obtain⟨F,g⟩:=I.ok.has P (S.free _ O rfl);grind
   rcases nY l (mem_of_lookup t) (mem_of_lookup A) with ⟨a,b⟩ | e
   ·rcases kQ S t I.ok with ⟨q,_⟩ | ⟨q,_⟩
    ·rcases kQ S A I.ok with ⟨E,_⟩ | ⟨E,_⟩;·exact I.ok.inj _ _ _ q E
     grind
    grind
   symm
  ·have m:=B;have:sc.names.lookup x=some .cell\/sc.names.lookup x=some .free:=by
    rcases m with q | q
    ·obtain⟨k,e,z⟩:=jA (names:=sc.names) q;grind
    ·obtain⟨k,e,z⟩:=jA (names:=sc.names) q;ext
   refine zBz.mp ?_;rcases this with q | q;·exact zDa _ _ _ (.inl q)
   ·exact zDa _ _ _ (.inr (oJ (.inl (mem_of_lookup q))))
  ·have m:sc.names.lookup x=some .cell:=zAr B;rcases kQ S g I.ok with ⟨_,q⟩ | ⟨q,_⟩;·rw[m] at q; cases q
   ·exact Nat.le_of_succ_le q
  ·rcases kQ S h I.ok with ⟨q,_⟩ | ⟨q,_⟩;·exact (w b f).2.2.2.2.1 x c q z
   ·exact absurd (wT (n b f) (Nat.le_of_succ_le (z ▸ q))) (zB5 _)
  ·rcases (w b f).2.2.2.1 with z | z;·exact I.ok.vm b o e z
   ·exact absurd (wT (v4 e) (zAu I.ok.rV z)) (zB5 _)
  ·rcases wS.mp (I.Dy b N) with z | z;·exact (w b f).2.1 z
   ·exact (w b f).2.2.1 z
 refine⟨K,rfl,I.bare,Un.kept d,⟨λ_=>none,?_,λi x v t A R=>?_⟩,λx c h=>?_,I.hok.fresh (y8 _),λx c h=>?_,λp C=>absurd (show p∈([]:zzC) from C) (by simp),I.hok.kept d,?_⟩;·exact (Heap.Ns.new s.heap (.type "dict")).keeps λb o e=>zCX _ _ _ _ e
 ·obtain⟨u,c,r,k,g,_,z⟩:=B0 S I s.heap.objs.size t A;exact⟨u,r,.inr ⟨k,c,g,z.keeps d⟩⟩
 ·rcases kQ S h I.ok with ⟨q,_⟩ | ⟨q,_⟩
  ·obtain⟨v,z⟩:=I.cell x c q;exact⟨v,z.keeps d⟩
  ·have L:(x,c)∈zAV (s.heap.push { cls:=.type "dict",data:=.dict #[] }).objs.size sc.names (gz X.env.cells sc.names []):=by rw[size_push]; exact mem_of_lookup h
   rcases mT L with z | z
   ·rcases lG z with z | ⟨J,G⟩;·exact absurd z (by simp)
    ·obtain⟨F,g⟩:=I.ok.has x (S.free _ J rfl);rw[g] at G;have:=D _ _ g;rw[show c=F from G] at q;exact absurd (wT this (Nat.le_of_succ_le q)) (zB5 _)
   ·exact⟨none,z⟩
 ·rcases kQ S h I.ok with ⟨q,_⟩ | ⟨q,_⟩;·exact I.gg x c q
  ·exact I.hok.fresh (Nat.le_of_succ_le q)
 ·show (ix.map _).length=N'.length;rw[yB]; exact S.len
theorem comp_back (S:iB X N' ix sc)(I:Inv X pins σ H s)(w:∀b∈ex,lF X pins H b)(J:Inv (cG X N' sc s.heap.objs.size s H ex) ps j H' s'):Inv (cG X N' sc s.heap.objs.size s H ex) [] (dw ix σ) H' s':=by
 obtain⟨m,l,_⟩:=J.loc;refine⟨J.ok,J.os,J.bare,J.base,⟨m,l,λi x v n t y=>?_⟩,J.cell,J.free,J.gg,λp d=>absurd (show p∈([]) from d) (by simp),J.hok,?_⟩
 ·obtain⟨u,c,r,k,g,a,⟨o,e,h⟩⟩:=B0 S I s.heap.objs.size n t;have f:=J.base;obtain⟨A,q⟩:=f.any e (I.gg x c a) λz=>(w c z).2.2.2.2.1 x c a rfl;exact⟨u,r,.inr ⟨k,c,g,_,q,h⟩⟩
 ·show (ix.map _).length=N'.length;rw[yB]; exact S.len
theorem zJ (I:Inv X pins σ H s)(j:∀b∈ex,lF X pins H b)(J:Inv (cG X N' sc s.heap.objs.size s H ex) ps i H' s') (h:Heap.SameBut s.heap.objs.size s'.heap h'):Inv X pins σ H' { s' with heap:=h' }:=by
 have u:=J.base;have f:∀b o,s.heap.get? b=some o->b≠s.heap.objs.size:=λb o e=>zAe (v4 e);have g:=λb a=>h.2 b a;have r:H' s.heap.objs.size=none:=J.free;refine I.Jg J.os ⟨λb o e n a d=>?_,λb o e n a d=>?_,u.free,λb o e d=>?_,u.tups,u.kO,u.lD⟩ (λb o e=>?_) J.bare λb a=>?_;·exact (g b (f b o e)).trans (u.keep b o e n a d)
 ·obtain⟨t,q⟩:=u.slot b o e n a d;ext
 ·obtain⟨p,q⟩:=u.there b o e d;ext
 ·refine (J.hok b o e).stay (λc v l q=>(g c ?_).trans q) (by simp) (by simp);grind
 ·obtain⟨w,z,y,x,k,m⟩:=j b a;grind
end
noncomputable def PF (X:Cx)(b:List zAU)(t:TT):Prop:= ∀(a:zzC) (s:SI) (σ:St) (H:Hp) (Q:Bool->Hp->Prop),Inv X a σ H s->t σ H Q-> zAB (zAC X.prog X.w) X.A (forIn b true λc r=>if r=true then do let d <-zEJ c X.env (zAP c X.env); pure (ForInStep.yield d) else pure (ForInStep.yield r)) (TP X a σ Q) X.xe s
noncomputable def lH:TT:=λ_ H Q=>Q true H
theorem cE:PF X [] lH:=λ_ _ _ H _ I h=>wpAny_tests_nil ⟨H,I,h⟩
theorem zK (h:PT X c t):PF X [c] t:=λa s σ H Q I b=>wpAny_tests_one (h a s σ H Q I b)
theorem D4 {prog:zAA}{w:zAD}{A:zAI}{R:zED->SI->Prop}{s:SI}{f a g:zAU}{i:List zAU}{b:zDE}{k:Pos}{l d:Value}{env:Env}(I:Nat->SI->Prop)(e:∀n s,I n s->zAB (zAC prog w) A (zCB l) (λr j=>match r with| none=>R (.ok .next) j| some v=>zAB (zAC prog w) A (zCW a l v) (λ_ q=>zAB (zAC prog w) A (assign a env v) (λ_ p=> zAB (zAC prog w) A (forIn i true λc r=>if r=true then do let ok <-zEJ c env (zAP c env); pure (ForInStep.yield ok) else pure (ForInStep.yield r)) (λok o=> if ok=true then zAB (zAC prog w) A (zAP f env) (λx y=> zAB (zAC prog w) A (call (.builtin "list.append") [d,x]) (λ_ t=>∃m,m < n/\I m t) (λ_ _=>False) y) (λ_ _=>False) o else ∃m,m < n/\I m o) (λ_ _=>False) p) (λ_ _=>False) q) (λ_ _=>False) j) (λ_ _=>False) s)(n:Nat) (h:I n s) : zBF (zAC prog w) A (.compLoop (.ListComp f [⟨a,g,i,0⟩] b k) 0 l d env) R s:=by refine codeAny_loop rfl I (λn s C=>?_) n h;refine wpAny_noted ?_;refine yA (wpAny_standAt (yA (zB1 (e n s C) (λr j u=>?_) λ_ _ z=>z.elim)));cases r with| none=>exact y3 u| some v=> refine yA (zB1 u (λ_ q F=>?_) λ_ _ z=>z.elim);refine yA (zB1 F (λ_ p G=>yA (zB1 G (λok o B=>?_) λ_ _ z=>z.elim)) λ_ _ z=>z.elim);cases ok with| false=>exact y3 ⟨rfl,B⟩| true=> exact yA (yA (zB1 B (λx y E=>yA (zB1 E (λ_ t D=>y3 (y3 ⟨rfl,D⟩)) λ_ _ z=>z.elim)) λ_ _ z=>z.elim))
noncomputable def dF (J:It)(o:List (Option Nat))(g:TG)(n:TT)(p:TE)(σ:St)(k:Hp)(Q:M1->Hp->Prop):Prop:= ∀D,k D=none->∃W:Nat->Nat->List V->Hp->Prop,(∃m,W 0 m [] (upd k D (.lst [])))/\∀i m a c,W i m a c->c D=some (.lst a)->(J.stop i c/\Q D c)\/(J.go i c/\∀x f,J.DI i c x f->g x (dw o σ) f λh l=>n h l λb e=> if b=true then p h e λv j=>j D=some (.lst a)/\a.length < PK/\∃d,d < m/\W (i+1) d (a++[v]) (upd j D (.lst (a++[v]))) else e D=some (.lst a)/\∃d,d < m/\W (i+1) d a e)
noncomputable def xB (a:TI)(e:List (Option Nat))(g:TG)(c:TT)(f:TE):TE:=fun σ H Q=>a σ H λJ b=>dF J e g c f σ b λD d=>Q (.ref D) d
section
variable {X:Cx}{N':List Str}{ix:List (Option Nat)}{sc:zDE}{elt tg iter:zAU}{ifs:List zAU}{wi:TI}{g:TG}{tf:TT}{te:TE}{pos:Pos}
set_option maxHeartbeats 1000000 in theorem zL (S:iB X N' ix sc)(hc:X.calm=true)(hg:∀C P V ex,PG (cG X N' sc C P V ex) tg g) (hf:∀C P V ex,PF (cG X N' sc C P V ex) ifs tf) (he:∀C P V ex,PE (cG X N' sc C P V ex) elt te){l:zzC} {σ:St} {j:SI} {itv:Value} {Q:M1->Hp->Prop} {E:zzE} {RR:Value->M1->zED->SI->Prop}(h2:RY X l σ tg (λJ H1=>dF J ix g tf te σ H1 Q) itv j)(hR:∀(D C:M1) (H3 H':Hp) (c s':SI) (σ':St) (ex:List M1) (ps:zzC),C=c.heap.objs.size->Inv X l σ H3 c->(∀b∈ex,lF X l H3 b)->Inv (cG X N' sc c.heap.objs.size c H3 ex) ps σ' H' s'->Q D H'->RR (.ref D) C (.ok .next) s') : zAB (zAC X.prog X.w) X.A (newList []) (λacc s₃=>zAB (zAC X.prog X.w) X.A (newFunctionEnv sc X.env.globals (gz X.env.cells sc.names []) [] X.env.qual none .none (some X.env)) (λw s₄=> zBF (zAC X.prog X.w) X.A (.compStart (.ListComp elt [⟨tg,iter,ifs,0⟩] sc pos) 0 itv acc { w with scope:=relabel sc X.env }) (RR acc w.locals) s₄) E s₃) E j:=by
 refine hold λYw YJ=>?_;obtain⟨it,fp,tn,J,H2,rfl,I2,T,st2,f2,cw⟩:=h2;obtain⟨W,⟨m0,w0⟩,turn⟩:=cw j.heap.objs.size I2.fresh;refine YJ ?_;refine zCk ?_;generalize V2:({ j with heap:=j.heap.push { cls:=.type "list",dict:=none,data:=.seq ([]:List Value).toArray } }:SI)=c;have I3:Inv X l σ (upd H2 j.heap.objs.size (.lst [])) c:=by rw[<-V2];exact I2.Jy (its:=[]) (t':=j.toks) .nil (zAd _)
 have k23:∀b o,j.heap.get? b=some o->c.heap.get? b=some o:=λb o e=>by rw[<-V2]; exact y4 _ e
 have fD:∀b∈fp,b≠j.heap.objs.size:=λb k=>by obtain⟨o,e,_⟩:=T.obj _ _ st2 b k;exact zAe (v4 e)
 have f3:∀b∈fp,lF X l (upd H2 j.heap.objs.size (.lst [])) b:=λb k=>⟨by rw[aA (fD b k)]; exact (f2 b k).1,(f2 b k).2⟩;have st3:tn 0 c.heap:=T.keep _ _ _ st2 (by ext);have e3:∀b∈fp,∃o,c.heap.get? b=some o:=λb k=>by obtain⟨o,e,_⟩:=T.obj _ _ st3 b k;ext
 refine Gy ?_;have J4:=JD (ex:=fp) S I3 f3 e3;have k34:∀b o,c.heap.get? b=some o->(zDB (c.heap.push { cls:=.type "dict",data:=.dict #[] }) sc.names).get? b=some o:=λb o e=>zCX _ _ _ _ (y4 _ e);generalize YK:({ c with heap:=zDB (c.heap.push { cls:=.type "dict",data:=.dict #[] }) sc.names }:SI)=s4 at J4;have OV:tn 0 s4.heap:=by rw[<-YK]; exact T.keep _ _ _ st3 (by ext)
 show zBF (zAC X.prog X.w) X.A (.compStart (.ListComp elt [⟨tg,iter,ifs,0⟩] sc pos) 0 (.ref it) (.ref j.heap.objs.size) (compEnv sc c.heap.objs.size X.env)) (RR (.ref j.heap.objs.size) c.heap.objs.size) s4;generalize m:cG X N' sc c.heap.objs.size c (upd H2 j.heap.objs.size (.lst [])) fp=Y at J4;have O:Y.prog=X.prog:=by rw[<-m]; rfl
 have N:Y.w=X.w:=by rw[<-m]; rfl
 have yK:Y.K=X.K:=by rw[<-m]; rfl
 have M:Y.A=X.A:=by rw[<-m]; rfl
 have ye:Y.env=compEnv sc c.heap.objs.size X.env:=by rw[<-m]; rfl
 have yx:Y.xe=λ_ _=>False:=by rw[<-m]; rfl
 have yc:Y.calm=true:=by rw[<-m]; symm
 have yfs:Y.fs=frs X.stack:=by rw[<-m]; rfl
 have yex:Y.ex=fp:=by rw[<-m]; rfl
 have ypn:Y.pn=[]:=by rw[<-m]; rfl
 have yl:Y.env.locals=c.heap.objs.size:=by rw[ye]; rfl
 have YL:PG Y tg g:=by rw[<-m]; exact hg _ _ _ _
 have YM:PF Y ifs tf:=by rw[<-m]; exact hf _ _ _ _
 have YN:PE Y elt te:=by rw[<-m]; exact he _ _ _ _
 have Z:=J4.ok;have s:∀{H':Hp},(∀b∈fp,H' b=none)->∀b∈fp,lF Y [] H' b:=λhn b k=>by have x:=Z.GY b (by ext);exact⟨hn b k,x.1,Z.vn b (by ext),.inl (by ext),x.2,λp hp=>by ext⟩
 have A:zBF (zAC X.prog X.w) X.A (.compLoop (.ListComp elt [⟨tg,iter,ifs,0⟩] sc pos) 0 (.ref it) (.ref j.heap.objs.size) (compEnv sc c.heap.objs.size X.env)) (RR (.ref j.heap.objs.size) c.heap.objs.size) s4:=by
  refine D4 (λn s'=>∃i F H',Inv Y [] (dw ix σ) H' s'/\tn i s'.heap/\(∀b∈fp,H' b=none)/\H' j.heap.objs.size=some (.lst F)/\W i n F H') ?_ m0 ⟨0,[],_,J4,OV,λb k=>(f3 b k).1,ao,w0⟩;rintro n s5 ⟨i,F,H5,I5,V3,V4,YO,w5⟩;have acq:(dw ix σ).length=Y.N.length:=J4.len;rcases turn i n F H5 w5 YO with ⟨stop,q⟩ | ⟨go,step⟩
  ·have r:=T.done Y O N yK yc i [] s5 (dw ix σ) H5 (λ_ _=>False) I5 (s V4) V3 stop;rw[M] at r;refine aM r λr s6 ⟨hr,I6⟩=>?_;subst hr;refine hR _ _ _ H5 c s6 (dw ix σ) fp [] rfl I3 f3 ?_ q;rw[m]; symm
  ·have r:=T.item Y O N yK yc i [] s5 (dw ix σ) H5 (λ_ _=>False) I5 (s V4) V3 go;rw[M] at r;refine aM r λr s6 ⟨u,hr,h6⟩=>?_;subst hr;refine aM h6 λ_ s7 H=>?_;obtain⟨x,H7,I7,r7,y7,K,YQ⟩:=H;have YR:=I7.pinned (s YQ) (T.obj _ _ K);have r2:=YL _ s7 (dw ix σ) H7 x u _ YR r7 (step x H7 y7);rw[O,N,M,ye,yx] at r2;refine aM r2 λ_ s8 H=>?_;obtain⟨σ8,H8,I8,q8⟩:=H;have r3:=YM _ s8 σ8 H8 _ I8 q8;rw[O,N,M,ye,yx] at r3;refine aM r3 λok s9 ⟨H9,I9,q9⟩=>?_;have again:∀{f:SI} {I:St} {a:Hp},Inv Y ([]++vt fp s7.heap) I a f->I.length=Y.N.length->Inv Y [] (dw ix σ) a f->tn (i+1) f.heap/\∀b∈fp,a b=none:=λ{f I a} J _ _=>by have p:=λb k o e=>J.pin (b,o) (zA8 _ (zA8 _ (tX (fp:=fp) (h:=s7.heap) (b:=b) (o:=o) k e)));refine⟨T.keep _ _ _ K λb k o e=>(p b k o e).1,λb k=>?_⟩;obtain⟨o,e,d⟩:=T.obj _ _ K b k;exact (p b k o e).2.1
   have G:∀{f:SI} {a:Hp},Inv Y ([]++vt fp s7.heap) σ8 a f->Inv Y [] (dw ix σ) a f:=λ{f a} J=>by rw[<-m] at J ⊢;exact comp_back S I3 f3 J
   cases ok with| false=> rw[xL (by decide)] at q9 ⊢;obtain⟨YS,m',hm,w9⟩:=q9;have B:=G I9;have z:=again I9 I9.len B;exact⟨m',hm,i+1,F,H9,B,z.1,z.2,YS,w9⟩| true=> rw[u1 rfl] at q9 ⊢;have r4:=YN _ s9 σ8 H9 _ I9 q9;rw[O,N,M,ye,yx] at r4;refine aM r4 λv f H=>?_;obtain⟨y,a,YT,YU,R,hz,m',hm,YV⟩:=H;have r5:=eF (X:=Y) _ f σ8 a (.ref j.heap.objs.size) [y] (.ref j.heap.objs.size) [v] (λ_ U=>U=upd a j.heap.objs.size (.lst (F++[y]))) YT rfl (.cons YU .nil) ⟨_,F,y,rfl,rfl,R,hz,rfl⟩;rw[O,N,M,yx] at r5;refine aM r5 λ_ D5 H=>?_;obtain⟨_,U,L,_,SK⟩:=H;subst SK;have B:=G L;have z:=again L L.len B;exact⟨m',hm,i+1,F++[y],_,B,z.1,z.2,ao,YV⟩
 exact codeAny_compStart_list A (T.self _ 0 _ _ _ OV A)
theorem QH (S:iB X N' ix sc)(l:X.calm=true)(w:PI X tg iter wi)(A:∀C c b ex,PG (cG X N' sc C c b ex) tg g) (n:∀C c b ex,PF (cG X N' sc C c b ex) ifs tf) (z:∀C c b ex,PE (cG X N' sc C c b ex) elt te)(B:∀x,zBL iter X.env x=pure x:=by intro _; rfl):PE X (.ListComp elt [⟨tg,iter,ifs,0⟩] sc pos) (xB wi ix g tf te):=by intro d s σ H Q I h;have e:=zI λx j i=>I.ok.has _ (S.free x j i);have a:∀x∈sc.names,x.2=.local->sc.names.lookup x.1=some .local:=λx j i=>jc S.uniq (by grind);refine wpAny_comprehension_free rfl B e S.kind a (aM (w d s σ H _ I h) λv K u=>aM u λy O E=>?_);refine zL S l A n z E ?_;intro D C M o F G N ex P k p r J q;subst k;obtain⟨m,t,_⟩:=J.loc;exact⟨m,t,λL f=>⟨.ref D,o,zJ p r J f,rfl,q⟩⟩
noncomputable def t8 (i:Nat)(wi:TI)(ix:List (Option Nat))(g:TG)(tf:TT)(te:TE):TS:=λD σ H=>wi σ H λJ c=>dF J ix g tf te σ c λa b=>D.nx (σ.set i (some (.ref a))) b
theorem JE {F f:Pos}(U:X.N.Nodup)(W:X.N[i]?=some y)(hL:Loc X.env.scope y)(S:iB X N' ix sc)(N:X.calm=true)(hi:PI X tg iter wi)(R:∀C j n ex,PG (cG X N' sc C j n ex) tg g) (hf:∀C j n ex,PF (cG X N' sc C j n ex) ifs tf) (he:∀C j n ex,PE (cG X N' sc C j n ex) elt te)(u:zBX (.ListComp elt [⟨tg,iter,ifs,0⟩] sc pos) (some (.Name y F)) f.line X.env=pure true:=by rfl)(O:∀x,zBL iter X.env x=pure x:=by intro _; rfl)(A:X.fn y=true\/X.env.scope.names.lookup y=some .local:=by first | exact .inl rfl | exact .inr rfl | symm) : PS X (.Assign [.Name y F] (.ListComp elt [⟨tg,iter,ifs,0⟩] sc pos) f) (t8 i wi ix g tf te):=by
 intro l s σ H D I h;rw[exec_Assign_Name_used _ _ _ _ u];refine yA (wpAny_standAt (yA ?_));have E:=zI λx L G=>I.ok.has _ (S.free x L G);have d:∀x∈sc.names,x.2=.local->sc.names.lookup x.1=some .local:=λx L G=>jc S.uniq (by grind);refine yA (zB1 (wpAny_comprehension_free rfl O E S.kind d (aM (hi l s σ H _ I h) λv s1 h1=>aM h1 λitv s2 Q=>?_)) (λ_ s' V=>y3 (y3 V)) λ_ _ e=>e);refine zL S N R hf he Q ?_;intro a C H3 H' K s' σ' ex ps M k Z J q;subst M;obtain⟨m,hn,_⟩:=J.loc;have I5:=zJ k Z J (Heap.SameBut.refl _ _);have t:=zAe k.lt;have w:∀x c,X.env.cells.lookup x=some c->c≠K.heap.objs.size:=λx c e=>by obtain⟨v,z⟩:=k.cell x c e;exact zAe z.lt
 refine wpAny_assign_Name (BO (v:=.ref a) I5 U W hL rfl (λs6 I6 r=>?_) A);obtain⟨b,Y,r⟩:=r;have P:K.heap.objs.size≠b:=by grind
 refine⟨m,hn.sameBut Y P,λh' B=>?_⟩;refine⟨_,H',I6.turned (λb o r e=>(B.2 b r).trans e) J.free (Ne.symm t) (.inr k.sz) w (λp T z=>?_),q⟩;have:=(k.pin p T).1;exact absurd (v4 this) (by ext)
end
noncomputable def zM (d:List (Str × zBA))(N b:List Str)(c:List (Option Nat))(a:zDE):Bool:= decide (a.kind=.function)&&decide b.Nodup&&decide (a.names.map (·.1)).Nodup&&decide (c.length=b.length)&& a.names.all (λx=>decide (x.2≠.free)||decide (d.lookup x.1=some .cell)||decide (d.lookup x.1=some .free))&&(range c.length).all λi=>match c[i]? with| some (some j)=>(match b[i]? with| some x=>decide (N[j]?=some x)&&decide (a.names.lookup x=some .free)| none=>false)| _=>true
theorem vI (h:zM X.env.scope.names X.N b c a=true):iB X b c a:=by
 unfold zM at h;simp only [zAw,zBn,zAi,Bool.or_eq_true,zAk] at h;obtain⟨⟨⟨⟨⟨g,m⟩,f⟩,l⟩,d⟩,o⟩:=h;refine⟨g,m,f,l,λx k n=>?_,λi j e=>?_⟩
 ·rcases d x k with (q | q) | q;·ext
  ·exact .inl q
  ·exact .inr q
 grind
theorem ah.new {H:Hp}{p:M1}(h:H p=none)(o:HO):ah H (upd H p o):=λb u q=>by rw[aA (aQ q h)]; symm
theorem ah.put (e:ah H H')(h:H p=none)(o:HO):ah H (upd H' p o):=λb u q=>by rw[aA (aQ q h)]; exact e b u q
theorem ah.tup {K:zzA}{H H':Hp}{a:M1}{xs:List V}(e:ah H H')(h:aG K H a xs):aG K H' a xs:=by
 rcases h with (h | ⟨o,h⟩) | h;·exact .inl (.inl (e a _ h))
 ·exact .inl (.inr ⟨o,e a _ h⟩)
 ·exact .inr h
section
variable {K:zzA}{ix:List (Option Nat)}{g:TG}{tf:TT}{te:TE}{σ:St}{H1:Hp}{Q:M1->Hp->Prop}
theorem B3 {a:M1}{xs:List V}(u:az K H1 a xs)(hz:xs.length<=PK)(f:Nat->List V->Hp->Prop)(w:∀D,H1 D=none->f 0 [] (upd H1 D (.lst [])))(A:∀D i x ys H (s:VK) (r:Hp->Prop),H1 D=none->xs[i]?=some x->ah H1 H->H D=some (.lst ys)->f i ys H->(∀v n,ah H n->f (i+1) (ys++[v]) (upd n D (.lst (ys++[v])))->s v n)->(∀d,ah H d->f (i+1) ys d->r d)->g x (dw ix σ) H λt z=>tf t z λb d=>if b=true then te t d s else r d)(C:∀D ys H,H1 D=none->ah H1 H->H D=some (.lst ys)->ys.length<=xs.length->f xs.length ys H->Q D H):dF (pe K a) ix g tf te σ H1 Q:=by
 intro D k;refine⟨λi m ys H=>m=xs.length - i/\i<=xs.length/\ah H1 H/\ys.length<=i/\f i ys H,⟨xs.length,by simp,zAd _,ah.new k _,y8 _,w D k⟩,?_⟩;rintro i m ys H ⟨rfl,F,j,B,p⟩ c;have q:=j.seq u;by_cases h:i < xs.length
 ·refine .inr ⟨⟨xs,xs[i],q,by simp⟩,λx E y=>?_⟩;obtain⟨e,y⟩:=y;subst e;refine A D i x ys _ _ _ k (y xs q) j c p (λv n l o=>?_) λd l o=>?_
  ·refine⟨l _ _ c,by lia,xs.length - (i+1),by grind,rfl,h,(j.trans l).put k _,?_,o⟩;rw[zAm,List.length_singleton]; ext
  ·exact⟨l _ _ c,xs.length - (i+1),by grind,rfl,h,j.trans l,by lia,o⟩
 ·have e:i=xs.length:=by lia
  subst e;exact .inl ⟨⟨xs,q,y8 _⟩,C D ys H k j c B p⟩
theorem JF {lo:Int}{n:Nat}(hz:n<=PK)(f:Nat->List V->Hp->Prop)(z:∀D,H1 D=none->f 0 [] (upd H1 D (.lst [])))(t:∀D i ys H (r:VK) (s:Hp->Prop),H1 D=none->i < n->ah H1 H->H D=some (.lst ys)->f i ys H->(∀v l,ah H l->f (i+1) (ys++[v]) (upd l D (.lst (ys++[v])))->r v l)->(∀d,ah H d->f (i+1) ys d->s d)->g (.int (lo+i)) (dw ix σ) H λq u=>tf q u λb d=>if b=true then te q d r else s d)(w:∀D ys H,H1 D=none->ah H1 H->H D=some (.lst ys)->ys.length<=n->f n ys H->Q D H):dF (uI lo n) ix g tf te σ H1 Q:=by
 intro D h;refine⟨λi m ys H=>m=n - i/\i<=n/\ah H1 H/\ys.length<=i/\f i ys H,⟨n,by simp,zAd _,ah.new h _,y8 _,z D h⟩,?_⟩;rintro i m ys H ⟨rfl,C,k,A,p⟩ a;by_cases c:i < n
 ·refine .inr ⟨c,λx B y=>?_⟩;obtain⟨e,y⟩:=y;subst e; subst y;refine t D i ys _ _ _ h c k a p (λv l j o=>?_) λd j o=>?_
  ·refine⟨j _ _ a,by lia,n - (i+1),by grind,rfl,c,(k.trans j).put h _,?_,o⟩;rw[zAm,List.length_singleton]; lia
  ·exact⟨j _ _ a,n - (i+1),by grind,rfl,c,k.trans j,by lia,o⟩
 ·have e:i=n:=by lia
  subst e;exact .inl ⟨y8 _,w D ys H h k a A p⟩
theorem uN {α β:Type}(f:α->β)(xs:List α)(i:Nat)(x:α)(h:xs[i]?=some x):(xs.take (i+1)).map f=(xs.take i).map f++[f x]:=by rw[zAz,h];simp
theorem uO {a:M1}{xs:List V}{k:Nat}(f:V->V)(r:az K H1 a xs)(hz:xs.length<=PK)(n:∀(i:Nat) (x:V) (H:Hp) (R:VK),xs[i]?=some x->ah H1 H->(∀e,ah H e->R (f x) e)->te ((dw ix σ).set k (some x)) H R)(o:∀D H,H1 D=none->ah H1 H->H D=some (.lst (xs.map f))->Q D H):dF (pe K a) ix (cz k) lH te σ H1 Q:=by
 refine B3 r hz (λi d _=>d=(xs.take i).map f) (by simp) (λD i x d H q s h j c b p l u=>?_) λD d H h c b t p=>?_;·exact n i x H q j c λe m=>l _ _ m (by rw[uN f xs i x j,p])
 ·refine o D H h c ?_;rw[b,p,zAj]
theorem mU {lo:Int}{n e:Nat}(f:Nat->V)(hz:n<=PK)(j:∀(i:Nat) (H:Hp) (R:VK),i < n->ah H1 H->(∀a,ah H a->R (f i) a)->te ((dw ix σ).set e (some (.int (lo+i)))) H R)(r:∀D H,H1 D=none->ah H1 H->H D=some (.lst ((range n).map f))->Q D H):dF (uI lo n) ix (cz e) lH te σ H1 Q:=by
 refine JF hz (λi c _=>c=(range i).map f) (by simp) (λD i c H h t k m d b p o q=>?_) λD c H k d b s p=>?_;·exact j i H h m d λa l=>o _ _ l (by rw[zBk,v3,p]; rfl)
 ·ext
end
section
variable {X:Cx}
theorem zN:∀{ys:List Str} {us:List Value},Vals (ys.map V.str) us->StrsAre us ys| [],_,h=>by cases h; exact .nil| y::ys,_,h=>by cases h with| cons r t=> obtain⟨a,rfl⟩:=r;exact .cons y a (zN t)
noncomputable def rJoin (K:zzA):V->List V->Hp->VK->Prop:=λx vs H Q=>∃b a c,x=.str b/\vs=[.ref a]/\az K H a (c.map V.str)/\(c.map (·.length)).sum+c.length * b.length<=16777216/\Q (.str (join b c)) H
theorem QI:rX X "str.join" (rJoin X.K):=by intro b s σ H x l v o Q I j e h;obtain⟨c,a,m,rfl,rfl,d,g,q⟩:=h;obtain⟨t,rfl⟩:=j;obtain⟨u,rfl,f⟩:=e.one;cases f;obtain⟨i,r,p,_⟩:=I.list d;exact join_list p.isList (by simpa using zN r) g λn k=>⟨.str _,H,I.tok _,⟨_,rfl⟩,q⟩
theorem JG {h:Heap}{lo f st:Option Int}(j:h.IsSliceOf d e g vs)(k:zDt e lo)(i:zDt g f)(ps:zDt vs st) : ∃l u t,l.map (·.1)=lo/\u.map (·.1)=f/\t.map (·.1)=st/\h.IsSlice d l u t:=by
 obtain⟨o,b,a,c⟩:=j;cases k <;> cases i <;> cases ps;·exact⟨none,none,none,rfl,rfl,rfl,o,b,a,c⟩
 ·exact⟨none,none,some (_,_),rfl,rfl,rfl,o,b,a,c⟩
 ·exact⟨none,some (_,_),none,rfl,rfl,rfl,o,b,a,c⟩
 ·exact⟨none,some (_,_),some (_,_),rfl,rfl,rfl,o,b,a,c⟩
 ·exact⟨some (_,_),none,none,rfl,rfl,rfl,o,b,a,c⟩
 ·exact⟨some (_,_),none,some (_,_),rfl,rfl,rfl,o,b,a,c⟩
 ·exact⟨some (_,_),some (_,_),none,rfl,rfl,rfl,o,b,a,c⟩
 ·exact⟨some (_,_),some (_,_),some (_,_),rfl,rfl,rfl,o,b,a,c⟩
noncomputable def zO (x:Str)(lo a st:Option Int):Str:= if ((st.getD 1 == 1&&(Builtin.Str.strSliceIndices lo a (st.getD 1) x.length).length == x.length)=true) then x else ⟨((Builtin.Str.strSliceIndices lo a (st.getD 1) x.length).filterMap (x.cps[·]?)).toArray⟩
theorem KY (x:Str)(lo a st:Option Int)(b:st.getD 1≠0):(zO x lo a st).length<=x.length:=by
 unfold zO;split;·simp
 ·exact zAu (List.length_filterMap_le _ _) (sliceIndicesBy_le _ _ _ b x.length)
theorem zP {a:zzC}{s:SI}{σ:St}{H:Hp}{x:Str}{t:Tok}{g:M1}{f e vs:Value}{lo b st:Option Int}{Q:VK}(I:Inv X a σ H s)(p:s.heap.IsSliceOf g f e vs)(o:zDt f lo)(j:zDt e b)(ps:zDt vs st)(m:st.getD 1≠0) (hz:x.length<=PK) (q:Q (.str (zO x lo b st)) H):zAB (zAC X.prog X.w) X.A (zDX (.str x t) (.ref g)) (EP X a σ Q) X.xe s:=by
 obtain⟨l,u,c,r,v,w,z⟩:=JG p o j ps;have d:(c.map (·.1)).getD 1=st.getD 1:=by ext
 have i:((c.map (·.1)).getD 1 == 0)=false:=by ext
 refine wpAny_getItem_str_slice z i ?_;have h:slicePicked x l u c=Builtin.Str.strSliceIndices lo b (st.getD 1) x.length:=by unfold slicePicked; ext
 unfold sliceMade;rw[h,d];exact post_val_or_str ⟨zAu (KY x lo b st m) hz,λn k=>⟨.str _,H,I.tok _,⟨_,rfl⟩,q⟩⟩
variable {e:zAU}{te:TE}{pos p2 p3 p4:Pos}
noncomputable def Na (K:zzA)(te:TE):TE:=fun σ H Q=>te σ H λx b=>(∃y,x=.str y/\y.length<=PK/\Q (.str (zO y none none (some (-1)))) b)\/ ∃a d,x=.ref a/\az K b a d/\∀p,b p=none->Q (.ref p) (upd b p (.lst d.reverse))
theorem B4 {α:Type}(xs:List α):∀k:Nat,(range k).filterMap (xs[·]?)=xs.take k| 0=>by simp| k+1=>by rw[zBk,List.filterMap_append,B4 xs k,zAz];rfl
theorem QJ (n:Nat):sliceRange ((n:Int) - 1) (-1) (-1)=(range n).reverse:=by
 unfold sliceRange;have a:(if ((n:Int) - 1) > -1 then ((n:Int) - 1 - -1 - -1 - 1) / (- -1) else 0)=n:=by grind
 rw[a];refine zCq (by simp) λi c b=>?_;ext;grind
theorem Nb {α:Type}(xs:List α):((sliceRange ((xs.length:Int) - 1) (-1) (-1)).filterMap (xs[·]?))=xs.reverse:=by rw[QJ,List.filterMap_reverse,B4,zAj]
theorem Nc (its:List Value):slicePick its.toArray none none (some (-1))=its.reverse.toArray:=by unfold slicePick zCT;have e:=Nb its;ext
theorem SM (G:PE X e te):PE X (.Subscript e (.Slice none none (some (.UnaryOp .USub (.Constant (.int 1) j p4) p3)) p2) pos) (Na X.K te):=by
 intro c s σ H Q I h;refine zEF (aM (G c s σ H _ I h) λv w k=>?_);obtain⟨x,m,C,o,D⟩:=k;refine wpAny_Slice ?_;refine y3 (y3 ?_);refine aM (qw nH av c w σ m (λy i=>y=.int _/\i=m) C ⟨1,rfl,rfl,rfl⟩) λM f k=>?_;obtain⟨y,i,B,z,E,u⟩:=k;subst E; subst u;obtain⟨l,rfl⟩:=z;have g:Inv X c σ i { f with heap:=f.heap.push { cls:=.type "slice",data:=.fields #[.none,.none,.int (-1) l] } }:=B.kept λb K q=>y4 _ q;have d:(f.heap.push { cls:=.type _,data:=.fields _ }).IsSliceOf f.heap.objs.size .none .none (.int (-1) l):=⟨_,wE _ rfl,rfl,rfl⟩;rcases D with ⟨y,rfl,n,q⟩ | ⟨a,L,rfl,J,q⟩
 ·obtain⟨t,rfl⟩:=o;exact tail_any rfl F.slot_str_getitem.lookup (zP g d .none .none (.int _ _) (by decide) n q) (by rfl)
 ·cases o;obtain⟨A,r,p,n⟩:=g.list J;refine tail_any p.isList.typeIs slot_list_getitem.lookup (wpAny_getItem_list_slice p.isList d .none .none (.int _ _) (by decide) ?_ (by rw[zB7,<-r.length]; symm)) (by rfl);rw[Nc];refine⟨.ref _,_,g.Jy r.reverse (by ext),rfl,q _ g.fresh⟩
theorem Nd:bP X (.builtin "all") (λxs H Q=>X.calm=true/\∃(a:M1) (bs:List Bool),xs=[.ref a]/\az X.K H a (bs.map V.bl)/\Q (.bl (bs.all λb=>b)) H):=by
 intro y s σ H xs O Q I r h;obtain⟨F,a,bs,rfl,A,q⟩:=h;obtain⟨u,rfl,C⟩:=vals1 r;cases C;obtain⟨d,w,p,N⟩:=I.list A;have c:=w.length;rw[yB] at c;refine call_all_walk (zBK p.isList ?_);have B:a≠s.heap.objs.size:=by obtain⟨o,n,e,_⟩:=p; exact zAe (v4 e)
 refine⟨s.heap.objs.size,_,_,_,_,_,λi=>(bs[i]?).getD true,rfl,Walks.list (by exact I.ok.hd F) s.heap.objs.size a B d.toArray,?_,?_,λK J k=>?_⟩;·exact⟨⟨_,wE _ rfl,rfl,rfl⟩,p.isList.push _⟩
 ·intro i v G E M P l;have g:d[i]?=some v:=by ext
  have m:i < bs.length:=by grind
  obtain⟨L,f,t⟩:=w.get (i:=i) (x:=.bl bs[i]) (by simp);rw[g] at f;cases f;cases t;have j:E ((bs[i]?).getD true) G:=l;rw[y2 m] at j;exact zBu j
 ·have e:(range d.toArray.size).all (λi=>(bs[i]?).getD true)=bs.all λb=>b:=by
   rw[zB7,<-c];rw[Bool.eq_iff_iff];simp only [zAi,zAk];constructor
   ·intro z b D;obtain⟨i,g,e⟩:=zBb.mp D;grind
   ·intro z i g;rw[y2 g];exact z _ (zB2 g)
  rw[e];exact⟨.bl _,H,I.kept λb o e=>k b o (by simp; exact zAe (v4 e)) (y4 _ e),rfl,q⟩
noncomputable def SN (f:Nat->V)(n:Nat):It:=⟨λi _=>i < n,λi H x a=>a=H/\x=f i,λi _=>n<=i⟩
noncomputable def jd (x:Str)(i:Nat):V:=.str ⟨#[x.cps.getD i 0]⟩
theorem D6 {K:zzA}(a:M1)(g:String)(x:Str)(t:Tok)(v:["enumerate","zip","dict_itemiterator","dict_reverseitemiterator","odict_iterator","itertools.zip_longest","itertools.pairwise"].contains g=false)(O:∀(A:zAI) (s:SI) (i c:Nat) (Q:Option Value->SI->Prop) (E:zzE),s.heap.IsStrIter a g x t i->x.cps[i]?=some c->(∀h',h'.IsStrIter a g x t (i+1)->Heap.SameBut a s.heap h'->Q (some (.str ⟨#[c]⟩ s.toks)) { s with heap:=h',toks:=s.toks+1 })->zAB (zAC P w) A (zCB (.ref a)) Q E s)(U:∀(A:zAI) (s:SI) (i:Nat) (Q:Option Value->SI->Prop) (E:zzE),A.handled=none->s.heap.IsStrIter a g x t i->x.cps[i]?=none->(∀h',Heap.ExtBut a s.heap h'->Q none { s with heap:=h' })->zAB (zAC P w) A (zCB (.ref a)) Q E s)(ws:∀(A:zAI) (s:SI) (i:Nat) (Q:zzE) (E:zzE),s.heap.IsStrIter a g x t i->Q (.ref a) s->zAB (zAC P w) A (zEE (.ref a)) Q E s) : Turn P w K T (SN (jd x) x.cps.size) [a] a (λi h=>h.IsStrIter a g x t i) where
 mem:=by simp
 obj:=λi h st b l=>by
  have e:b=a:=by ext
  subst e;obtain⟨o,e,c,d⟩:=st;ext
 keep:=λi h h' st k=>by obtain⟨o,e,r⟩:=st;exact⟨o,(by ext),r⟩
 item:=by
  intro X m u p J i f s σ H E I C st D;subst m u p;obtain⟨z,y,V,B,F,q⟩:=C a (by simp);have n:i < x.cps.size:=D;refine O X.A s i x.cps[i] _ _ st (by simp) λh' j L=>?_;have R:Inv X f σ H { s with heap:=h',toks:=s.toks+1 }:=I.turned (λb o l e=>(L.2 b l).trans e) z y B F q;obtain⟨o,e,M,S⟩:=id j;refine⟨_,rfl,zv (s:={ s with heap:=h',toks:=s.toks+1 }) e M S v ⟨jd x i,H,R,⟨s.toks,?_⟩,⟨rfl,rfl⟩,j,(by ext)⟩⟩;have:x.cps.getD i 0=x.cps[i]:=by rw[zCm,zA1 n]; rfl
  rw[this]
 done:=by intro X m u p J i f s σ H E I C st D;subst m u p;obtain⟨z,y,V,B,F,q⟩:=C a (by simp);have n:x.cps.size<=i:=D;exact U X.A s i _ _ (I.ok.hd J) st (zCn n) λh' N=>⟨rfl,I.turned (t':=s.toks) (λb o l e=>N b o l e) z y B F q⟩
 self:=λA i s Q E st h=>ws A s i Q E st h
noncomputable def XH (a:TE):TI:=fun σ H R=>a σ H λx b=>∃y,x=.str y/\R (SN (jd y) y.cps.size) b
theorem D7 (w:PE X l p):PI X z l (XH p):=by
 intro a s σ H R I h;refine aM (w a s σ H _ I h) λv f j=>?_;obtain⟨x,n,m,u,B⟩:=j;obtain⟨y,e,q⟩:=B;subst e;obtain⟨t,rfl⟩:=u;have g:∀(o:Obj),∀b∈[f.heap.objs.size],lF X a n b:=λo b C=>by
  have e:b=f.heap.objs.size:=by ext
  subst e;exact m.yw (y8 _) (m.hok.fresh (y8 _))
 cases r:y.cps.all _
 ·refine wpAny_pyIter_wide r ?_;exact⟨f.heap.objs.size,[f.heap.objs.size],_,_,n,rfl,m.kept λb o e=>y4 _ e, D6 _ _ y t (by decide) (λA s i c Q E st d k=>wpAny_pyNext_wide_item st d k) (λA s i Q E j st d k=>wpAny_pyNext_wide_end j st d k) (λA s i Q E st k=>wpAny_pyIter_striter_wide st k),⟨_,wE _ rfl,rfl,rfl⟩,g default,q⟩
 ·refine wpAny_pyIter_ascii r ?_;exact⟨f.heap.objs.size,[f.heap.objs.size],_,_,n,rfl,m.kept λb o e=>y4 _ e, D6 _ _ y t (by decide) (λA s i c Q E st d k=>wpAny_pyNext_ascii_item st d k) (λA s i Q E j st d k=>wpAny_pyNext_ascii_end j st d k) (λA s i Q E st k=>wpAny_pyIter_striter_ascii st k),⟨_,wE _ rfl,rfl,rfl⟩,g default,q⟩
noncomputable def KZ (K:zzA)(a b:M1):It:=⟨λi H=>∃c d x y,az K H a c/\az K H b d/\c[i]?=some x/\d[i]?=some y, λi H v g=>∃t,v=.ref t/\H t=none/\∃x y,g=upd H t (.tup [x,y])/\(∀c,az K H a c->c[i]?=some x)/\∀d,az K H b d->d[i]?=some y, λi H=>∃c d,az K H a c/\az K H b d/\(c.length<=i\/d.length<=i)⟩
theorem D8 {a b z TI TO d f:M1}(t:[z,TI,TO,d,f].Nodup)(hz:IsZip h z TI TO .none)(K:IsPair h TI (.ref d) (.ref f))(n:IsPair h TO u v)(w:h.IsListIter d a k1) (F:h.IsListIter f b k2) (p:PlainL h a xs) (p2:PlainL h b ys):ZipApart z TI TO d f a b:=by
 obtain⟨W,m,L,S⟩:=w;obtain⟨J,l,G,Q⟩:=F;obtain⟨I,T,U,H,_,M⟩:=p;obtain⟨O,R,N,P,_,V⟩:=p2;ext;obtain⟨⟨B,A,i,k⟩,⟨y,s,E⟩,⟨D,C⟩,j⟩:=t;have g:∀{x:M1} {o:Obj},h.get? x=some o->o.cls≠.type "list"->a≠x:=λ{x o} e r q=>by ext
 have c:∀{x:M1} {o:Obj},h.get? x=some o->o.cls≠.type "list"->b≠x:=λ{x o} e r q=>by ext
 exact⟨Ne.symm B,Ne.symm A,Ne.symm i,Ne.symm k,y,s,E,D,C,j,g hz (by simp),g n (by simp),g m (by lia),g l (by lia),c hz (by simp),c n (by simp),c m (by lia),c l (by lia)⟩
theorem Nf {K:zzA}(a b z TI TO g j:M1)(W:[z,TI,TO,g,j].Nodup) : Turn P w K (.Tuple elts k pos) (KZ K a b) [z,TI,TO,g,j] z (λi h=>IsZip h z TI TO .none/\IsPair h TI (.ref g) (.ref j)/\(∃u v,IsPair h TO u v)/\h.IsListIter g a i/\h.IsListIter j b i) where
 mem:=by simp
 obj:=λi h st c f=>by obtain⟨J,G,⟨u,v,S⟩,⟨o1,e1,c1,d1⟩,⟨o2,e2,c2,d2⟩⟩:=st;grind
 keep:=λi h h' st kk=>by obtain⟨J,G,⟨u,v,S⟩,M,L⟩:=st;exact⟨kk z (by simp) _ J,kk TI (by simp) _ G,(by grind),M.at (by grind),L.at (by ext)⟩
 item:=by
  intro X hP hw hK f i N s σ H E I l st hg;subst hP hw hK;refine hold λP_2 k_2=>?_;obtain⟨xs,ys,x,y,C,B,hx,hy⟩:=hg;obtain⟨J,G,⟨u0,v0,S⟩,M,L⟩:=id st;obtain⟨its,rv,p,_⟩:=I.list C;obtain⟨Y,R,p2,_⟩:=I.list B;obtain⟨u,hu,ru⟩:=rv.get hx;obtain⟨v,hv,YW⟩:=R.get hy;refine k_2 ?_;have D:ZipApart z TI TO g j a b:=D8 W J G S M L p p2;refine wpAny_pyNext_zip_item D J G S M L p.isList p2.isList (x:=u) (y:=v) (by ext) (by ext) λh' a1 a2 a3 a4 a5 a6 kk=>?_;refine⟨_,rfl,wpAny_letOwnedTupleGo_zip a1 λh'' b1 V=>?_⟩;have nT:∀c∈[z,TI,TO,g,j],c≠s.heap.objs.size:=λc f=>by obtain⟨o,e,_⟩:=(show ∀c∈[z,TI,TO,g,j],∃o,s.heap.get? c=some o/\True from λc f=>by simp only [wS,zBm,zB9] at f;obtain⟨o1,e1,_⟩:=M;obtain⟨o2,e2,_⟩:=L;grind) c f;exact zAe (v4 e)
  have U:H s.heap.objs.size=none:=I.fresh;have t:∀c o,c∉[z,TO,g,j]->s.heap.get? c=some o->h''.get? c=some o:=λc o f e=>by simp only [wS,zBm,zB9,not_or] at f;exact (V.2 c f.1).trans (by ext)
  have Q:∀c∈[z,TO,g,j],H c=none:=λc f=>by simp only [wS,zBm,zB9] at f;rcases f with rfl | rfl | rfl | rfl <;> exact (l _ (by simp)).1
  have I1:Inv X N σ (upd H s.heap.objs.size (.tup [x,y])) { s with heap:=h'' }:=by
   refine I.step (g':=s.gens) (d':=s.drawn) (t':=s.toks) (ch:=[z,TO,g,j]) (λc f=>?_) (λc o _ _ f e _=>t c o f e) (λc o _ _ f e _=>⟨o.slots,t c o f e⟩) (λc o f e n=>?_) (λc o f e=>⟨o,t c o f e⟩) (λc F e=>?_) (λc o F e=>?_) (λc F e=>⟨#[],?_⟩) (λm hm=>?_) (λc F e=>?_) I.bare
   ·simp only [wS,zBm,zB9] at f;have:c∈[z,TI,TO,g,j]:=by
     simp only [wS,zBm,zB9];rcases f with q | q | q | q;·exact .inl q
     ·exact .inr (.inr (.inl q))
     ·exact .inr (.inr (.inr (.inl q)))
     ·exact .inr (.inr (.inr (.inr q)))
    obtain⟨f0,f1,f2,f3,f4,f5⟩:=l c this;exact⟨f3,f1,f4,f5⟩
   ·rw[aA (zAe (v4 e))]; exact n
   ·rw[aA (aQ e U)]; exact e
   ·rw[aA (aQ e U)]; exact e
   ·rw[aA (aQ e U),e]; rfl
   ·obtain⟨o,es,ep,ho,r⟩:=hm;refine⟨o,es,ep,t _ o (λq=>?_) ho,r⟩;simp only [wS,zBm,zB9] at q;rcases q with q | q | q | q;·exact (l z (by simp)).2.1 q.symm
    ·exact (l TO (by simp)).2.1 q.symm
    ·exact (l g (by simp)).2.1 q.symm
    ·exact (l j (by simp)).2.1 q.symm
   ·by_cases V5:c=s.heap.objs.size
    ·subst V5;rw[ao] at e;cases e;have e5:=(V.2 _ (Ne.symm (nT z (by simp)))).trans a5;exact⟨(by show 2<=PK; decide),[u,v],.cons ru (.cons YW .nil),_,e5,rfl,_,rfl⟩
    ·rw[aA V5] at e;refine (I.hok c F e).stay (λd w' hd q=>t d w' (λq2=>?_) q) (λd q=>?_) λd ws q=>?_
     ·have A:=Q d q2;rcases hd with O | O;·rw[O,e] at A; cases A
      ·rw[O] at A; cases A
     ·rw[aA (aQ q U)]; exact q
     ·rw[aA (aQ q U)]; exact q
  refine⟨.ref s.heap.objs.size,_,I1,rfl,⟨_,rfl,U,x,y,rfl,λzs T=>by rw[I.tU T C]; exact hx,λzs T=>by rw[I.tU T B]; exact hy⟩,?_,λc f=>?_⟩
  ·refine⟨b1,?_,⟨u,v,?_⟩,?_,?_⟩;·exact t TI _ (by simp only [zDo,wS,zBm,zB9,not_or] at W ⊢; exact⟨λq=>W.1.1 q.symm,W.2.1⟩) G
   ·exact (V.2 _ D.TOz).trans a2
   ·exact a3.extBut V.extBut D.i1z
   ·exact a4.extBut V.extBut D.i2z
  ·rw[aA (nT c f)]; exact (l c f).1
 done:=by
  intro X hP hw hK f i N s σ H E I l st hg;subst hP hw hK;refine hold λYX SO=>?_;obtain⟨xs,ys,C,B,Z⟩:=hg;obtain⟨J,G,⟨u0,v0,S⟩,M,L⟩:=id st;obtain⟨its,rv,p,_⟩:=I.list C;obtain⟨Y,R,p2,_⟩:=I.list B;refine SO ?_;have D:ZipApart z TI TO g j a b:=D8 W J G S M L p p2;have l1:=rv.length;have l2:=R.length;refine wpAny_pyNext_zip_end (I.ok.hd f) D J G S M L p.isList p2.isList (Z.imp (λq=>by simp; ext) λq=>by simp; ext) λh' kk=>⟨rfl,?_⟩;have t:∀c o,c∉[z,TO,g,j]->s.heap.get? c=some o->h'.get? c=some o:=λc o f e=>by simp only [wS,zBm,zB9,not_or] at f;exact kk c o f.1 f.2.1 f.2.2.1 f.2.2.2 e
  have Q:∀c∈[z,TO,g,j],H c=none:=λc f=>by simp only [wS,zBm,zB9] at f;rcases f with rfl | rfl | rfl | rfl <;> exact (l _ (by simp)).1
  refine I.step (g':=s.gens) (d':=s.drawn) (t':=s.toks) (ch:=[z,TO,g,j]) (λc f=>?_) (λc o _ _ f e _=>t c o f e) (λc o _ _ f e _=>⟨o.slots,t c o f e⟩) (λc o f e n=>n) (λc o f e=>⟨o,t c o f e⟩) (λc F e=>e) (λc o F e=>e) (λc F e=>⟨#[],by rw[e]; rfl⟩) (λm hm=>?_) (λc F e=>?_) I.bare
  ·simp only [wS,zBm,zB9] at f;have:c∈[z,TI,TO,g,j]:=by
    simp only [wS,zBm,zB9];rcases f with q | q | q | q;·exact .inl q
    ·exact .inr (.inr (.inl q))
    ·exact .inr (.inr (.inr (.inl q)))
    ·exact .inr (.inr (.inr (.inr q)))
   obtain⟨f0,f1,f2,f3,f4,f5⟩:=l c this;exact⟨f3,f1,f4,f5⟩
  ·obtain⟨o,es,ep,ho,r⟩:=hm;refine⟨o,es,ep,t _ o (λq=>?_) ho,r⟩;simp only [wS,zBm,zB9] at q;rcases q with q | q | q | q;·exact (l z (by simp)).2.1 q.symm
   ·exact (l TO (by simp)).2.1 q.symm
   ·exact (l g (by simp)).2.1 q.symm
   ·exact (l j (by simp)).2.1 q.symm
  ·refine (I.hok c F e).stay (λd w' hd q=>t d w' (λq2=>?_) q) (λd q=>q) λd ws q=>q;have A:=Q d q2;rcases hd with O | O;·rw[O,e] at A; cases A
   ·rw[O] at A; cases A
 self:=λ_ _ _ _ _ st h=>wpAny_pyIter_zip st.1 h
noncomputable def Ng (K:zzA)(i:TA):TI:=fun σ H R=>i σ H λf d=>∃a b,f=[.ref a,.ref b]/\(∃h,az K d a h)/\(∃g,az K d b g)/\R (KZ K a b) d
theorem SQ (L:Gl X "zip")(E:X.mg "zip"=none)(C:PA X [a,b] n)(hs:zAG [a,b] X.env=[(false,zAP a X.env),(false,zAP b X.env)]:=by rfl)(l:zAG [b] X.env=[(false,zAP b X.env)]:=by rfl) : PI X (.Tuple f k d) (.Call (.Name "zip" p) [a,b] [] pos) (Ng X.K n):=by
 intro j s σ H R I h;refine Call_ (nF I L E boot_zip (zB0 (aM (C pos j s σ H _ I h) λZ c ⟨W,J,i,F,O⟩=>?_) (by ext) (by rw[l]; rfl)));obtain⟨x,y,e,⟨P,A⟩,⟨V,G⟩,q⟩:=O;subst e;obtain⟨u,v,rfl,K,B⟩:=vals2 F;cases K;cases B;obtain⟨z,w,N,_⟩:=i.list A;obtain⟨m,D,t,_⟩:=i.list G;refine call_zip_2 N.isList t.isList λT M a2 S Y Q a6 r=>wpAny_pyIter_zip M ?_;refine⟨c.heap.objs.size+4,[c.heap.objs.size+4,c.heap.objs.size+2,c.heap.objs.size+3,c.heap.objs.size,c.heap.objs.size+1],_,_,J,rfl,i.kept r,Nf x y _ _ _ _ _ ?_,(by grind),λb U=>?_,q⟩;·simp
 ·have o:c.heap.objs.size<=b:=by grind
  exact i.yw o (i.hok.fresh o)
end
structure vJ (P:zAA)(w:zAD)(outer:List Env)(H:Hp)(s:SI)(a:M1)(cls a0:Value)(B:Heap)(H':Hp)(s':SI):Prop where
 os:s'.os=s.os
 bare:zCY s'.gens
 un:Un (frs outer) [] H H' s.heap s'.heap
 hok:fO P w H' s'.heap
 new:s.heap.get? a=none
 out:H' a=none
 K0:Heap.FlyingW B outer a cls a0 s'.heap
 SR:∀b o,s.heap.get? b=some o->b∉frs outer->∃o',B.get? b=some o'
 V6:∀b u,H' b=some u->∃o',B.get? b=some o'
theorem a_.obj (x:a_ P w H h a o):∃b,h.get? a=some b:=by cases o with| lst d=>obtain⟨_,_,_,_,e⟩:=x; ext| tup d=>obtain⟨_,_,_,b,e,_⟩:=x; ext| dK c=>obtain⟨_,_,_,_,o,_,_,e,_⟩:=x; ext| dT c=>obtain⟨_,_,_,_,o,_,_,e,_⟩:=x; ext| set S n=>obtain⟨o,_,_,_,e,_⟩:=x; ext| ins C i g=>obtain⟨_,_,_,e,_⟩:=x; ext| own y=>symm| xd g=>obtain⟨_,⟨_,_,_,e,_⟩,_⟩:=x; ext| OG lo k=>obtain⟨_,_,_,e⟩:=x; ext| iL b u=>obtain⟨e,_⟩:=x; ext| BL j=>exact⟨_,‹_›⟩| met f y=>exact⟨_,‹_›⟩| ext φ=>obtain⟨_,e,_⟩:=x; symm
noncomputable def nL (P:zAA)(w:zAD):uJ:=λb H s E e g=>∃(a:M1) (c f:Value) (B:Heap) (d:Hp),e=.ref a/\vJ P w b H s a c f B d g/\E c none d
section
variable {P:zAA}{w:zAD}{outer:List Env}{H H':Hp}{s s':SI}{a:M1}{cls a0:Value}{B h5:Heap}
theorem vJ.OW (F:vJ P w outer H s a cls a0 B H' s'):∀b∈frs outer,B.get? b=none/\∃o,s'.heap.get? b=some o/\∀vs,o.data≠.fields vs:=λb c=>F.K0.2.2.1.mem c
theorem vJ.un' (F:vJ P w outer H s a cls a0 B H' s')(st:B.StaysIn h5)(us:s'.heap.UpToSlots h5):Un (frs outer) [] H H' s.heap h5 where
 keep:=λb o e n d j=>by have h:=F.un.keep b o e n d j;obtain⟨i,c⟩:=F.SR b o e d;have f:=F.K0.1 b i c;rw[h] at f;cases f;exact st b o c
 slot:=λb o e n d j=>by obtain⟨m,h⟩:=F.un.slot b o e n d j;obtain⟨_,l,c,k⟩:=F.OW b d;rw[h] at c;cases c;obtain⟨g,f⟩:=us b _ h k;exact⟨g,f⟩
 free:=F.un.free;there:=λb o e j=>by
  by_cases d:b∈frs outer
  ·obtain⟨_,l,c,k⟩:=F.OW b d;obtain⟨g,f⟩:=us b _ c k;exact⟨_,f⟩
  ·obtain⟨i,c⟩:=F.SR b o e d;exact⟨i,st b i c⟩
 tups:=F.un.tups;kO:=F.un.kO;lD:=F.un.lD
theorem vJ.Nh (F:vJ P w outer H s a cls a0 B H' s')(st:B.StaysIn h5):fO P w H' h5:=λb u e=>by
 refine (F.hok b u e).stay (λc v i q=>?_) (by simp) (by simp);have:∃d,H' c=some d:=by grind
 obtain⟨d,z⟩:=this;obtain⟨h,g⟩:=F.V6 c d z;have f:=F.K0.1 c h g;rw[q] at f;cases f;exact st c v g
end
section
variable {X:Cx}{pins:zzC}{σ:St}{H H':Hp}{s s':SI}{a:M1}{cls a0:Value}{B:Heap}{M:zEK}{E:zzE}{Q:Unit->SI->Prop}
theorem K1 (I:Inv X pins σ H s)(C:X.ex=[])(g:X.stack=X.env::X.outer)(l:X.env.frame=some X.env.locals)(F:vJ X.prog X.w X.stack H s a cls a0 B H' s')(h:∀k,vJ X.prog X.w X.outer X.H₀ X.s₀ a cls a0 B H' k->Q () k):zAB M X.A (leaving X.env (.ref a)) Q E s':=by
 have D:Heap.FlyingW B (X.env::X.outer) a cls a0 s'.heap:=g ▸ F.K0;refine wpAny_leaves_onW (by rw[I.ok.frames,g]) l D λK i J=>h _ ?_;have u:=F.un' i.1 J;have m:∀b,b∈frs X.stack↔b=X.env.locals\/b∈X.fs:=λb=>by rw[g];unfold frs;rw[List.filterMap_cons,l];exact wS
 have x:∀b o,X.s₀.heap.get? b=some o->b≠X.env.locals:=λb o e=>zAe (wT (v4 e) I.ok.above);have f:∀b,b∉X.ex:=λb=>by rw[C]; simp
 have p:∀b o,X.s₀.heap.get? b=some o->b∉X.fs->b∉frs X.stack:=λb o e d z=>by
  rcases (m b).mp z with q | q;·exact x b o e q
  ·exact d q
 refine⟨F.os.trans I.os,F.bare,⟨λb o e n d _=>?_,λb o e n d _=>?_,λb o e n _=>?_,λb o e _=>?_,λb w e=>u.tups b w (I.base.tups b w e),λb o v e=>u.kO b o v (I.base.kO b o v e),λb G e=>?_⟩,F.Nh i.1,?_,F.out,i,λb o e d=>?_,F.V6⟩;·exact u.keep b o (I.base.keep b o e n d (f b)) (I.base.free b o e n (f b)) (p b o e d) ‹_›
 ·obtain⟨L,c⟩:=I.base.slot b o e n d (f b);obtain⟨r,t⟩:=u.slot b _ c (I.base.free b o e n (f b)) ((m b).mpr (.inr d)) ‹_›;exact⟨r,t⟩
 ·obtain⟨j,c⟩:=I.base.there b o e (f b);exact u.free b j c (I.base.free b o e n (f b)) ‹_›
 ·obtain⟨j,c⟩:=I.base.there b o e (f b);exact u.there b j c ‹_›
 ·obtain⟨y,c⟩:=I.base.lD b G e;obtain⟨A,t⟩:=u.lD b _ c;exact⟨y++A,by rw[t,Array.append_assoc]⟩
 ·cases q:X.s₀.heap.get? a with| none=>rfl| some o=> obtain⟨j,c⟩:=I.base.there a o q (f a);rw[F.new] at c; cases c
 ·obtain⟨j,c⟩:=I.base.there b o e (f b);exact F.SR b j c (p b o e d)
theorem Ni {S:Heap}{D:List Value}(I:Inv X pins σ H s)(Y:X.ex=[])(j:X.stack=X.env::X.outer)(x:X.env.frame=some X.env.locals)(L:Heap.MadeExcOf s.heap S a cls D)(h:∀B a0 G,vJ X.prog X.w X.outer X.H₀ X.s₀ a cls a0 B H G->Q () G):zAB M X.A (leaving X.env (.ref a)) Q E { s with heap:=S }:=by
 have A:s.heap.FunFrames X.base (X.env::X.outer):=j ▸ I.stack;have N:∀l∈(X.env::X.outer),∀b,l.frame=some b->b∈frs X.stack:=λl he b f=>by rw[j]; exact List.mem_filterMap.mpr ⟨l,he,f⟩
 refine wpAny_leaves_madeW (base:=PySem.W.hideAll s.heap (frs X.stack)) (h:=s.heap) (by rw[I.ok.frames,j]) x (λb o q=>PySem.W.of_hideAll _ q) (PySem.W.funFrames_hide A N) L λT t r _ _ us=>h (PySem.W.hideAll s.heap (frs X.stack)) (.ref t) _ ?_;have F:∀b,b∈frs X.stack↔b=X.env.locals\/b∈X.fs:=λb=>by rw[j];unfold frs;rw[List.filterMap_cons,x];exact wS
 have Z:∀b o,X.s₀.heap.get? b=some o->b≠X.env.locals:=λb o e=>zAe (wT (v4 e) I.ok.above);have m:∀b,b∉X.ex:=λb=>by rw[Y]; simp
 have w:∀b o,X.s₀.heap.get? b=some o->b∉X.fs->b∉frs X.stack:=λb o e f z=>by
  rcases (F b).mp z with q | q;·exact Z b o e q
  ·exact f q
 have g:∀b o,s.heap.get? b=some o->b∉frs X.stack->(PySem.W.hideAll s.heap (frs X.stack)).get? b=some o:=λb o e f=>PySem.W.hideAll_get _ e f;have R:∀b u,H b=some u->∃o,s.heap.get? b=some o/\b∉frs X.stack:=λb u e=>by obtain⟨W,q⟩:=(I.hok b u e).obj;refine⟨W,q,λz=>?_⟩;rw[I.xo b z] at e; cases e
 have O:∀b o,s.heap.get? b=some o->b∉frs X.stack->T.get? b=some o:=λb o e f=>r.1 b o (g b o e f);have J:∀b o,s.heap.get? b=some o->b∈frs X.stack->∃P,T.get? b=some { o with slots:=P }:=λb o e f=>by obtain⟨_,o2,k,V⟩:=I.stack.mem f;rw[e] at k; cases k;exact us b o (L.keeps b o e) V
 refine⟨I.os,I.bare,⟨λb o e n f _=>?_,λb o e n f _=>?_,λb o e n _=>I.base.free b o e n (m b),λb o e _=>?_,I.base.tups,I.base.kO,I.base.lD⟩,λb u e=>?_,?_,?_,r,λb o e f=>?_,λb u e=>?_⟩;·exact O b o (I.base.keep b o e n f (m b)) (w b o e f)
 ·obtain⟨P,i⟩:=I.base.slot b o e n f (m b);obtain⟨C,k⟩:=J b _ i ((F b).mpr (.inr f));exact⟨C,k⟩
 ·obtain⟨p,i⟩:=I.base.there b o e (m b);by_cases f:b∈frs X.stack
  ·obtain⟨C,k⟩:=J b _ i f;exact⟨_,k⟩
  ·exact⟨p,O b p i f⟩
 ·refine (I.hok b u e).stay (λc v U q=>?_) (λ_ q=>q) λ_ _ q=>q;refine O c v q λz=>?_;have K:=I.xo c z;rcases U with y | y;·rw[y,e] at K; cases K
  ·rw[y] at K; cases K
 ·cases q:X.s₀.heap.get? a with| none=>rfl| some o=> obtain⟨p,i⟩:=I.base.there a o q (m a);rw[L.new] at i; cases i
 ·cases q:H a with| none=>rfl| some u=> obtain⟨o,e,_⟩:=R a u q;rw[L.new] at e; cases e
 ·obtain⟨p,i⟩:=I.base.there b o e (m b);exact⟨p,g b p i (w b o e f)⟩
 ·obtain⟨o,i,k⟩:=R b u e;exact⟨o,g b o i k⟩
theorem QK (I:Inv X pins σ H s)(F:vJ X.prog X.w X.stack H s a cls a0 B H' s')(st:B.StaysIn c)(us:s'.heap.UpToSlots c):Inv X pins σ H' { s' with heap:=c }:= I.Jg (s':={ s' with heap:=c }) (ch:=[]) F.os (F.un' st us) (F.Nh st) F.bare λb d=>absurd d (by simp)
end
structure C9 (K:zzA)(mg:Str->Option Value)(x:Str)(C:M1):Prop where
 mg:mg x=some (.ref C)
 ok:PySem.W.excIn K C [.type "ValueError",.type "Exception",.type "BaseException",.type "object"] "ValueError.__new__"=true
theorem QL {K:zzA}(X:K.In h)(q:PySem.W.excIn K C c b=true) : ∃f N nm g bs hdct sn sub ab col dd k0 k1 k2 k3 k5 k,h.get? C=some (excClassObj nm g C N bs f hdct sn sub ab col dd k0 k1 k2 k3 k5 b)/\h.Ns N k/\k "__init__"=none/\OwnTail h c f:=by
 unfold PySem.W.excIn at q;split at q
 ·rename_i dd p s u;split at q
  ·rename_i A f k0 k1 k2 k3 n k5 o r;simp at q;obtain⟨⟨⟨⟨⟨m,t⟩,d⟩,v⟩,e⟩,i⟩:=q;subst m; subst t;obtain⟨nm,bs,x,w,g,y,sn,sub,ab,col,z⟩:=p;subst o; subst d;obtain⟨l⟩:=s;have j:=r;subst j;exact⟨f,w,nm,g,bs,y,sn,sub,ab,col,dd,k0,k1,k2,k3,k5,_,X _ _ u,.of_isNs (PySem.W.isNs_of_in X e),PySem.W.nsMap_none_of_in X e i,PySem.W.tail_of_in X v⟩
  ·cases q
 ·cases q
noncomputable def D9 (X:Cx)(E:XK):Prop:=∀e b,zAB (zAC X.prog X.w) X.A (leaving X.env e) (λ_ a=>nL X.prog X.w X.outer X.H₀ X.s₀ E e a) (λc a=>nL X.prog X.w X.outer X.H₀ X.s₀ E c a) b->X.xe e b
section
variable {X:Cx}{E E':XK}{x:Str}{C:M1}{e₀:zAU}{rest:List zAU}{ta:TA}{np cpos pos:Pos}
noncomputable def SS (C:M1)(E:XK)(ta:TA):TS:=λ_ σ H=>ta σ H λa b=>a.length<=PK/\E (.ref C) none b
theorem D_ (o:D9 X E)(p:X.ex=[])(j:X.stack=X.env::X.outer)(f:X.env.frame=some X.env.locals)(J:X.calm=true)(K:C9 X.K X.mg x C)(G:Gl X x)(n:PA X (e₀::rest) ta)(k:zAG (e₀::rest) X.env=(false,zAP e₀ X.env)::zAG rest X.env:=by rfl) (O:(zAW cpos (zAG rest X.env)).any (·.1)=false:=by rfl) (m:(x == ("__debug__":Str))=false:=by decide) : PS X (.Raise (some (.Call (.Name x np) (e₀::rest) [] cpos)) none pos) (SS C E ta):=by intro b s σ H D I h;refine hold λL d=>?_;obtain⟨S,N,nm,l,bs,hdct,sn,sub,ab,col,dd,k0,k1,k2,k3,k5,R,w,M,g,T⟩:=QL I.mod.GX K.ok;refine d ?_;refine wpAny_Raise_call_subU (nm:=nm) (q:=l) (N:=N) (bs:=bs) (hdct:=hdct) (sn:=sn) (sub:=sub) (ab:=ab) (col:=col) (dd:=dd) (k0:=k0) (k1:=k1) (k2:=k2) (k3:=k3) (k5:=k5) PySem.F.excBase_ValueError rfl PySem.F.excBase_ValueError (T.hasType PySem.F.excBase_ValueError.hasBase) (I.ok.hd J) (by rw[k]; symm) g (oV I G K.mg ⟨rfl,?_⟩ m);have r:=n cpos b s σ H _ I h;rw[k] at r ⊢;refine zDg (aM r λW Q v=>?_);obtain⟨V,A,c,u,U,q⟩:=v;refine⟨rfl,by rw[<-u.length]; symm,c.bk _ _ w,M.keeps c.bk,T.keeps c.bk,λP e t=>o _ _ ?_⟩;exact Ni c p j f t λB z y F=>⟨e,_,z,B,A,rfl,F,q⟩
theorem HH (m:D9 X E)(k:X.ex=[])(g:X.stack=X.env::X.outer)(f:X.env.frame=some X.env.locals)(j:∀c d H',E' c d H'->E c d H'):Passes (nL X.prog X.w) X E':=by intro i σ H s e p I h;obtain⟨a,b,l,B,H',rfl,F,q⟩:=h;exact m _ _ (K1 I k g f F λo n=>⟨a,b,l,B,H',rfl,n,j _ _ _ q⟩)
end
theorem nJ.OX {K:zzA}{st:zAM}(F:nJ K x b st f l)(S:aJ N ps (aE st))(e:∀vs H Q E,sp vs H Q E->vs.length=ps.length)(d:∀(c:Value) (A:zAI) (a:List Env) (s:SI) (H:Hp) (vs:List V) (Q:VK) (E:XK),cg k (A.deeper (zDW b (aE st) s.heap.objs.size f c))->sp vs H Q E-> ∃t,o8 (vC (nL P w) P w K j base N b (aE st) f c A a s H E) (eU st) t/\t { nx:=λ_ H'=>Q .aT H',rt:=Q } (start N vs) H):aL P w K j base (nL P w) (k+1) f l ps sp:=by obtain⟨u,v,kV,o,y,r,c,q,p,rfl,m,i⟩:=F.ex;exact OQ m i S e λA a s H vs Q E n g=>d c A a s H vs Q E n g
theorem zQ {K:zzA} : D9 (vC (nL P w) P w K g base N c b f e A a s H E) E:=λ_ _ h=>h
noncomputable def yH (a:M1)(b:Value):HO:=.ext λh=>∃o c,h.get? a=some o/\o.cls=b/\o.data=.fields c
abbrev Cx.guard (X:Cx) (ps:zzC) (E:zzE):Cx:={ X with pn:=ps,xe:=E }
theorem Cx.Ok.guard {X:Cx}(a:X.Ok)(ps:zzC)(E:zzE):(X.guard ps E).Ok:=⟨a.mod,a.kind,a.glob,a.blt,a.above,a.inj,a.has,a.BN,a.hd,a.frames,a.stk,a.GY,a.bs,a.rV,a.vm,a.vn,a.kP,a.xY⟩
theorem Cx.Ok.mV {X:Cx}(a:(X.guard ps E).Ok):X.Ok:=⟨a.mod,a.kind,a.glob,a.blt,a.above,a.inj,a.has,a.BN,a.hd,a.frames,a.stk,a.GY,a.bs,a.rV,a.vm,a.vn,a.kP,a.xY⟩
abbrev Cx.marked (X:Cx) (a:M1):Cx:={ X with A:=X.A.mark (some (.ref a)),calm:=false,xe:=λ_ _=>False }
theorem Cx.Ok.marked {X:Cx}(b:X.Ok)(a:M1):(X.marked a).Ok:=⟨b.mod,b.kind,b.glob,b.blt,b.above,b.inj,b.has,b.BN,(λz=>nomatch z),b.frames,b.stk,b.GY,b.bs,b.rV,b.vm,b.vn,b.kP,b.xY⟩
section
variable {X:Cx}{pins:zzC}{σ:St}{H:Hp}{s:SI}{E:zzE}{a:M1}
theorem Inv.guard (I:Inv X pins σ H s)(E:zzE):Inv (X.guard (X.pn++pins) E) [] σ H s:=⟨I.ok.guard _ E,I.os,I.bare,I.base,I.loc,I.cell,I.free,I.gg,λp b=>I.pin p (by simpa using b),I.hok,I.len⟩
theorem Inv.mV (I:Inv (X.guard (X.pn++pins) E) ps σ H s):Inv X pins σ H s:=⟨I.ok.mV,I.os,I.bare,I.base,I.loc,I.cell,I.free,I.gg,λp b=>I.pin p (zBe _ b),I.hok,I.len⟩
theorem Inv.marked (I:Inv X pins σ H s)(a:M1):Inv (X.marked a) pins σ H s:=⟨I.ok.marked a,I.os,I.bare,I.base,I.loc,I.cell,I.free,I.gg,I.pin,I.hok,I.len⟩
theorem Inv.unmarked (I:Inv (X.marked a) pins σ H s)(b:X.Ok):Inv X pins σ H s:=⟨b,I.os,I.bare,I.base,I.loc,I.cell,I.free,I.gg,I.pin,I.hok,I.len⟩
end
noncomputable def Ends.gone (D:Ends)(i:Nat):Ends:={ nx:=fun σ H=>D.nx (σ.set i none) H,rt:=D.rt,bk:=fun σ H=>D.bk (σ.set i none) H,ct:=fun σ H=>D.ct (σ.set i none) H }
noncomputable def Nj (K:zzA)(d:Value)(n i:Nat)(ts:TS)(D:Ends):XK:=λc _ H=>PySem.W.exmOne K c d=some true/\∀a,H a=none->ts (D.gone i) ((replicate n none).set i (some (.ref a))) (upd H a (yH a c))
noncomputable def SV (K:zzA)(b:Value)(n i:Nat)(c:XK->TS)(ts:TS):TS:=λD σ H=>c (Nj K b n i ts D) D σ H
section
variable {X:Cx}{QC:Value}{x n:Str}{i:Nat}{body suite:List zAM}{b₀:zAM}{tb:XK->TS}{ts:TS}{np hpos pos:Pos}
theorem SW (hst:X.stack=X.env::X.outer)(hfr:X.env.frame=some X.env.locals)(hg:Gl X x)(hm:X.mg x=some QC)(hN:X.N.Nodup)(hi:X.N[i]?=some n)(V:X.env.scope.names.lookup n=some .local)(hb:∀(ps:zzC) (xe:zzE) (E:XK),Passes (nL X.prog X.w) (X.guard ps xe) E->o8 (X.guard ps xe) body (tb E))(hs:∀a,o8 (X.marked a) (b₀::suite) ts) (hd:(x == ("__debug__":Str))=false:=by decide) : PS X (.Try body [.ExceptHandler (some (.Name x np)) (some n) (b₀::suite) hpos] [] [] pos) (SV X.K QC X.N.length i tb ts):=by
 intro g s σ H D I h;have M:=I.ok;refine wpAny_Try_except ?_;have P1:Passes (nL X.prog X.w) (X.guard (X.pn++g) λe s₁=>zAB (zAC X.prog X.w) X.A (noteFrame e X.env) (λ_ s₂=>zAB (zAC X.prog X.w) X.A (setFlight e none) (λ_ s₃=>zAB (zAC X.prog X.w) X.A (handleBy e X.env [.ExceptHandler (some (.Name x np)) (some n) (b₀::suite) hpos]) (SP X g D) X.xe s₃) X.xe s₂) X.xe s₁) (Nj X.K QC X.N.length i ts D):=by
  intro ps' L H1 s1 e s2 I1 hx;obtain⟨a,cls,a0,B,H2,rfl,F,hm1,q⟩:=hx;have J1:Inv X g L H1 s1:=I1.mV;have fl:Heap.FlyingW B (X.env::X.outer) a cls a0 s2.heap:=hst ▸ F.K0;show zAB (zAC X.prog X.w) X.A (noteFrame (.ref a) X.env) _ X.xe s2;refine wpAny_looks_onW (by rw[M.frames,hst]) hfr fl λh3 Y us3=>?_;refine wpAny_landsW Y λh4 W V7=>?_;have J4:Inv X g L H2 { s2 with heap:=h4 }:=QK J1 F W.1 (us3.trans V7);refine wpAny_handleBy_cons (codeAny_handlers_test ?_) (by intro q; cases q);refine oV (X:=X.marked a) (J4.marked a) hg hm ?_ hd;obtain⟨ob,hob,hcl⟩:=W.there;have LT:PySem.W.Looks (zAC X.prog X.w) h4 (typeOf (.ref a)) cls:=hcl ▸ (PySem.W.Looks.ld hob).andThen PySem.W.Looks.now;refine (PySem.W.exm_one (K:=X.K) J4.gR LT hm1).here ?_;show zBF (zAC X.prog X.w) (X.A.mark (some (.ref a))) (.handlers (.ref a) [.ExceptHandler none (some n) (b₀::suite) hpos] X.env) _ _;refine codeAny_handlers_suite_as ?_;refine lands_againW W λh5 U YY=>?_;have us:s2.heap.UpToSlots h5:=(us3.trans V7).trans YY;obtain⟨oe,vs,V8,hoc,hod,_⟩:=U.first;have na:H2 a=none:=F.out;have J5:Inv X g (replicate X.N.length none) (upd H2 a (yH a cls)) { s2 with heap:=h5 }:=by
   have u:=F.un' U.1 us;have k0:=F.Nh U.1;refine Inv.weak (σ:=L) (J1.Jg (s':={ s2 with heap:=h5 }) (ch:=[]) F.os ⟨u.keep,u.slot,λb o e m hx=>?_,u.there,λb xs e=>?_,λb o v e=>?_,λb p e=>?_⟩ (λb u' e=>?_) F.bare λb hb=>absurd hb (by simp)) (by rw[List.length_replicate]; exact J1.len.symm) λj v e=>?_
   ·have:b≠a:=λz=>by rw[z,F.new] at e; cases e
    rw[aA this]; exact u.free b o e m hx
   ·have C:=u.tups b xs e;rw[aA (aQ C na)]; exact C
   ·have C:=u.kO b o v e;rw[aA (aQ C na)]; exact C
   ·obtain⟨more,C⟩:=u.lD b p e;exact⟨more,by rw[aA (aQ C na)]; exact C⟩
   ·by_cases hba:b=a
    ·subst hba;rw[ao] at e;cases e;exact⟨⟨oe,vs,V8,hoc,hod⟩,⟨oe,V8⟩,λh1 h2 ⟨o,ws,C,e2,e3⟩ k=>⟨o,ws,k o C,e2,e3⟩⟩
    ·rw[aA hba] at e;refine (k0 b u' e).stay (λc v _ q=>q) (λc q=>?_) λc xs q=>?_;·rw[aA (aQ q na)]; exact q
     ·rw[aA (aQ q na)]; exact q
   ·rw[List.getElem?_replicate] at e;split at e <;> cases e
  refine tT (X:=X.marked a) (v:=.ref a) (i:=i) (J5.marked a) hN hi (.inl V) rfl (λs6 I6=>?_) (.inr V);refine zB1 (hs a g s6 _ _ (D.gone i) I6 (q a na)) (λf s7 h7=>?_) λ_ _ z=>z.elim;have P:∀{O:St} {A:Hp} {R:Unit->SI->Prop},Inv (X.marked a) g O A s7->(∀S,Inv X g (O.set i none) A S->R () S)->zAB (zAC X.prog X.w) X.A (do bindName X.env n .none; unbindBehindTheSuite X.env n hpos) R X.xe s7:=by
   intro O A R Q hq;have J7:Inv X g O A s7:=Q.unmarked M;refine yA (wpAny_bindName (tT J7 hN hi (.inl V) (v:=.aT) (u:=.none) rfl (λS l=>?_) (.inr V)));unfold unbindBehindTheSuite;refine wpAny_onRaise ?_;obtain⟨m,hn,hl⟩:=id l.loc;have hiσ:i < O.length:=by rw[J7.len]; exact (xI.mp hi).1
   obtain⟨u,ru,lk⟩:=hl i n .aT hi (by rw[List.getElem?_set_self hiσ]) (.inl V);have hmn:m n=some u:=by
    rcases lk with ⟨_,z⟩ | ⟨k,_⟩;·exact z
    ·have hL':X.env.kindOf n=some .local:=V;rcases k with k | k <;> (rw[hL'] at k; cases k)
   have hcls:(X.env.scope.kind == .class||(X.env.scope.kind == .module&&X.env.locals != X.env.globals))=false:=by rw[M.kind]; rfl
   refine wpAny_unbindName_local (m:=m) V hn hmn hcls λh9 u9 YZ w=>hq _ ?_;obtain⟨oL,_,_,VX,_⟩:=id hn;have I9:Inv X g ((O.set i (some .aT)).set i none) A { S with heap:=h9 }:=by
    have T:∀b o,X.s₀.heap.get? b=some o->b≠X.env.locals:=λb o e=>zAe (wT (v4 e) M.above);refine⟨M,l.os,l.bare,⟨λb o e n' hb N=>?_,λb o e n' hb N=>?_,l.base.free,λb o e N=>?_,l.base.tups,l.base.kO,l.base.lD⟩,⟨_,YZ,λj y v' C e2 e3=>?_⟩,λy c e=>?_,l.free,l.gg,λp hp=>?_,λb ob e=>?_,by simpa using l.len⟩;·exact (w.2 b (T b o e)).trans (l.base.keep b o e n' hb N)
    ·obtain⟨sl,z⟩:=l.base.slot b o e n' hb N;exact⟨sl,(w.2 b (T b o e)).trans z⟩
    ·obtain⟨o',z⟩:=l.base.there b o e N;exact⟨o',(w.2 b (T b o e)).trans z⟩
    ·have hj:j≠i:=λz=>by subst z;rw[List.getElem?_set_self (by simpa using hiσ)] at e2;cases e2
     rw[List.getElem?_set_ne (Ne.symm hj)] at e2;obtain⟨u',r',G⟩:=hl j y v' C e2 e3;refine⟨u',r',?_⟩;rcases G with ⟨k,z⟩ | ⟨k,c,z,y'⟩
     ·refine .inl ⟨k,?_⟩;have ny:y≠n:=λz=>hj (yt hN C (z ▸ hi));simp [ny,z]
     ·exact .inr ⟨k,c,z,y'.sameBut w (l.Kn y c z)⟩
    ·obtain⟨v,z⟩:=l.cell y c e;exact⟨v,z.sameBut w (l.Kn y c e)⟩
    ·obtain⟨e,n',ne,nf,d⟩:=l.pin p hp;exact⟨(w.2 p.1 ne).trans e,n',ne,nf,d⟩
    ·refine (l.hok b ob e).stay (λc v hc G=>(w.2 c ?_).trans G) (λ_ G=>G) λ_ _ G=>G;intro z;have z':=l.free;rcases hc with y | y;·rw[<-z,y,e] at z'; cases z'
     ·rw[<-z,y] at z'; cases z'
   rw[List.set_set] at I9;exact I9
  cases f with| next=> obtain⟨O,A,Q,Z⟩:=h7;exact P Q λS l=>⟨_,A,l,Z⟩| brk=> obtain⟨O,A,Q,Z⟩:=h7;exact P Q λS l=>⟨_,A,l,Z⟩| cont=> obtain⟨O,A,Q,Z⟩:=h7;exact P Q λS l=>⟨_,A,l,Z⟩| ret v=> obtain⟨v',O,A,Q,r7,Z⟩:=h7;exact P Q λS l=>⟨v',_,A,l,r7,Z⟩
 have back:∀{f:Flow} {s':SI} {E:zzE},SP (X.guard (X.pn++g) E) [] D f s'->SP X g D f s':=λ{f s' E} q=>by cases f with| next=>obtain⟨L,H',J,z⟩:=q; exact⟨L,H',J.mV,z⟩| brk=>obtain⟨L,H',J,z⟩:=q; exact⟨L,H',J.mV,z⟩| cont=>obtain⟨L,H',J,z⟩:=q; exact⟨L,H',J.mV,z⟩| ret u=>obtain⟨v,L,H',J,r,z⟩:=q; exact⟨v,L,H',J.mV,r,z⟩
 refine zB1 (hb (X.pn++g) _ _ P1 [] s σ H D (I.guard _) h) (λf s' q=>?_) λ_ _ z=>z;have G:=back q;cases f with| next=>exact zCV G| brk=>exact G| cont=>exact G| ret u=>exact G
end
inductive Dt where| aT | bl (b:Bool) | int (i:Int) | str (x:Str) | lst (ds:List Dt) | tup (ds:List Dt)
mutual noncomputable def Rep (K:zzA)(H:Hp):Dt->V->Prop| .aT,v=>v=.aT| .bl b,v=>v=.bl b| .int i,v=>v=.int i| .str x,v=>v=.str x| .lst ds,v=>∃a xs,v=.ref a/\az K H a xs/\aK K H ds xs| .tup ds,v=>∃a xs,v=.ref a/\aG K H a xs/\aK K H ds xs noncomputable def aK (K:zzA)(H:Hp):List Dt->List V->Prop| [],xs=>xs=[]| d::ds,xs=>∃x r,xs=x::r/\Rep K H d x/\aK K H ds r end
mutual theorem Rep.same {K:zzA}{H H':Hp}(e:ah H H'):∀{d:Dt} {v:V},Rep K H d v->Rep K H' d v| .aT,_,h=>by unfold Rep at h ⊢; exact h| .bl _,_,h=>by unfold Rep at h ⊢; exact h| .int _,_,h=>by unfold Rep at h ⊢; exact h| .str _,_,h=>by unfold Rep at h ⊢; exact h| .lst ds,_,h=>by unfold Rep at h ⊢;obtain⟨a,xs,rfl,q,r⟩:=h;exact⟨a,xs,rfl,e.seq q,aK.same e r⟩| .tup ds,_,h=>by unfold Rep at h ⊢;obtain⟨a,xs,rfl,q,r⟩:=h;exact⟨a,xs,rfl,e.tup q,aK.same e r⟩;theorem aK.same {K:zzA}{H H':Hp}(e:ah H H'):∀{ds:List Dt} {vs:List V},aK K H ds vs->aK K H' ds vs| [],_,h=>by unfold aK at h ⊢; exact h| d::ds,_,h=>by unfold aK at h ⊢;obtain⟨x,r,rfl,q,t⟩:=h;exact⟨x,r,rfl,Rep.same e q,aK.same e t⟩;end
theorem aK.length {K:zzA}:∀{b:List Dt} {vs:List V},aK K H b vs->vs.length=b.length| [],_,h=>by unfold aK at h; ext| d::b,_,h=>by obtain⟨x,r,rfl,q,t⟩:=h;rw[zCp,zCp,aK.length t]
section
variable {X:Cx}{pins:zzC}{σ:St}{H:Hp}{s:SI}
end
section
variable {X:Cx}
theorem B5:∀{xs:List V} {us:List Value},Vals xs us->xs.all iE=true->us.countP (HE x)=xs.countP λy=>nI y x| _,_,.nil,_=>rfl| y::a,u::us,.cons r t,h=>by simp only [List.all_cons,zAw] at h;rw[List.countP_cons,List.countP_cons,B5 t h.2,DU r h.1]
noncomputable def Ea (K:zzA):V->List V->Hp->VK->Prop:=λx d H Q=>∃a c v,x=.ref a/\d=[v]/\az K H a c/\c.all iE=true/\iE v=true/\Q (.int (c.countP λy=>nI y v:Nat)) H
theorem Nk:rX X "list.count" (Ea X.K):=by intro k s σ H x C v E Q I l A h;obtain⟨a,D,w,rfl,rfl,B,j,t,q⟩:=h;cases l;obtain⟨u,rfl,p⟩:=A.one;obtain⟨c,r,⟨⟨z,G,i,m⟩,n,e,g,b,f⟩,_⟩:=I.list B;simp only at g b f;subst g; subst b; subst f;refine zCN F.slot_list_count ⟨_,e,rfl⟩ F.entry_list_count (F.args_list_count_2 _ _) (SeqAt.list_countAt a c.toArray n none m u (HE w)) ⟨e,λy o=>yG p t r j y (by simpa using o),?_⟩;refine⟨.int _,H,I.tok _,⟨_,rfl⟩,?_⟩;have:=B5 (x:=w) r j;simp only [this];exact q
theorem HJ (r:Vals xs us)(c:xs.all iE=true)(j:Nat)(b:j < us.length)(a:j < xs.length):HE x us[j]=nI xs[j] x:=by obtain⟨u,e,d⟩:=r.get (i:=j) (x:=xs[j]) (y2 a);rw[y2 b] at e;cases e;exact DU d (zAi.mp c _ (zB2 a))
noncomputable def Eb (K:zzA):V->List V->Hp->VK->Prop:=λx d H Q=>∃a b v,x=.ref a/\d=[v]/\az K H a b/\b.all iE=true/\iE v=true/\∃(j:Nat) (e:j < b.length),nI b[j] v=true/\(∀(m:Nat) (f:m < b.length),m < j->nI b[m] v=false)/\Q (.int (j:Nat)) H
theorem Nl:rX X "list.index" (Eb X.K):=by
 intro o s σ H x T v P Q I B C h;obtain⟨a,U,w,rfl,rfl,M,l,D,j,L,g,k,q⟩:=h;cases B;obtain⟨u,rfl,E⟩:=C.one;obtain⟨c,r,⟨⟨G,R,p,J⟩,n,e,z,b,t⟩,O⟩:=I.list M;simp only at z b t;subst z; subst b; subst t;have S:=r.length;have N:=kA;refine zCN F.slot_list_index ⟨_,e,rfl⟩ F.entry_list_index (F.args_list_index_2 _ _) (SeqAt.list_indexAt a c.toArray n none J u (HE w) j (by simp; lia) (by lia) ?_ λm K d=>?_) ⟨e,λy A=>yG E D r l y (by simpa using A),?_⟩
 ·have:=HJ (x:=w) r l j (by lia) L;simpa [this] using g
 ·have i:m < c.length:=by simpa using K
  have:=HJ (x:=w) r l m i (by lia);simpa [this] using k m (by lia) d
 ·exact⟨.int _,H,I.tok _,⟨_,rfl⟩,q⟩
end
structure jB (K:zzA)(C:M1):Prop where
 ga:PySem.W.findIn K (.ref C) "__getattribute__"=some (some (.builtin "BaseException.__getattribute__"))
 gt:PySem.W.findIn K (.ref C) "__getattr__"=some none
 cl:PySem.W.findIn K (.ref C) "__class__"=some (some (.builtin "object.__class__"))
 mb:PySem.W.mroIn K C (.type "BaseException")=some true
 mo:PySem.W.mroIn K C (.type "object")=some true
section
open PySem.W
variable {K:zBV}{prog:zAA}{w:zAD}{A:zAI}{E:zzE}{h:Heap}{g:Array GenState}{d:Drawn}{t:Nat}{os:OsState}{a C:M1}{o:Obj}
theorem CQ {R:zED->SI->Prop}(j:K.In h)(F:jB K C)(i:h.get? a=some o)(f:o.cls=.ref C)(l:R (.ok (.ret (.ref C))) ⟨h,g,d,t,os⟩) : zBF (zAC prog w) A (.call (.builtin "getset_descriptor.__get__") ⟨[.builtin "object.__class__",.ref a,.ref C],[]⟩) R ⟨h,g,d,t,os⟩:=by
 have e:(⟨h,g,d,t,os⟩:SI).TypeIs (.builtin "object.__class__") "getset_descriptor":=PySem.F.typeOf_object_class;have k:∀{A:zAI} {Q:Bool->SI->Prop} {E:zzE},Q true ⟨h,g,d,t,os⟩->zAB (zAC prog w) A (isSubtype (.ref C) (.type (".".intercalate ("object.__class__".cutAt '.').dropLast))) Q E ⟨h,g,d,t,os⟩:=λ{A Q E} q=>by rw[PySem.F.owner_object_class];exact (looks_mroIn j F.mo).at q
 refine zCS PySem.F.slot_gs_get.plain PySem.F.entry_gs_get (PySem.F.slot_gs_get.check _ _ _ _ _ _ _ _ e (PySem.F.args_gs_get _ _ _) ?_);repeat (any_goals (first | assumption | (with_reducible refine zBN i ?_; rw[f]) | with_reducible refine k ?_ | wp_step))
 refine⟨Code.quiet_builtin _ (by decide +kernel),zCl PySem.F.entry_object_class ?_⟩;repeat (any_goals (first | assumption | (with_reducible refine zBN i ?_; rw[f]) | wp_step))
theorem zR {i:Tok}{Q:Fin->SI->Prop}(c:K.In h)(F:jB K C)(f:h.get? a=some o)(e:o.cls=.ref C)(l:Q (.done (.ret (.ref C))) ⟨h,g,d,t,os⟩) : zAB (zAC prog w) A (Builtin.«object.__getattribute__» ⟨[.ref a,.str "__class__" i],[]⟩) Q E ⟨h,g,d,t,os⟩:=by
 have j:(⟨h,g,d,t,os⟩:SI).TypeIs (.builtin "object.__class__") "getset_descriptor":=PySem.F.typeOf_object_class;have m:=PySem.F.typeOf_object_class;have n:=PySem.F.slot_gs_get.lookup;have p:=PySem.F.slot_gs_set.lookup;have k:∀{A:zAI} {Q:Option Value->SI->Prop} {E:zzE},Q (some (.builtin "object.__class__")) ⟨h,g,d,t,os⟩->zAB (zAC prog w) A (zDF (.ref C) "__class__") Q E ⟨h,g,d,t,os⟩:=λ{A Q E} q=>(looks_findIn c F.cl).at q;repeat (any_goals (first | assumption | (with_reducible refine zBN f ?_; rw[e]) | with_reducible refine k ?_ | wp_step))
 refine CQ c F f e ?_;repeat (any_goals (first | assumption | wp_step))
theorem Ec {f:Value}{Q:Unit->SI->Prop}(k:K.In h)(F:jB K C)(l:h.get? a=some o)(j:o.cls=.ref C)(i:Q () ⟨h,g,d,t,os⟩) : zAB (zAC prog w) A (zDQ "BaseException.__getattribute__" ⟨[.ref a,f],[]⟩) Q E ⟨h,g,d,t,os⟩:=by
 have n:builtinKind "BaseException.__getattribute__"=some .slot:=by decide +kernel
 have c:splitId "BaseException.__getattribute__"=some ("BaseException","__getattribute__"):=by decide +kernel
 have p:=PySem.F.args_bexc_ga (.ref a) f;have m:∀{A:zAI} {Q:Bool->SI->Prop} {E:zzE},Q true ⟨h,g,d,t,os⟩->zAB (zAC prog w) A (isSubtype (.ref C) (.type "BaseException")) Q E ⟨h,g,d,t,os⟩:=λ{A Q E} q=>(looks_mroIn k F.mb).at q;simp only [zDQ,n,c];refine yA ?_;unfold isInstance;repeat (first | (with_reducible refine zBN l ?_; rw[j]) | with_reducible refine m ?_ | wp_step)
 exact i
theorem A0 {i:Tok}{R:zED->SI->Prop}(c:K.In h)(F:jB K C)(e:h.get? a=some o)(f:o.cls=.ref C)(j:R (.ok (.ret (.ref C))) ⟨h,g,d,t,os⟩) : zBF (zAC prog w) A (.call (.builtin "BaseException.__getattribute__") ⟨[.ref a,.str "__class__" i],[]⟩) R ⟨h,g,d,t,os⟩:= zCS PySem.F.excAttr_ValueError.ga.plain PySem.F.entry_bexc_ga (Ec c F e f (zR c F e f j))
theorem Ed {k:Tok}{Q:zzE}(c:K.In h)(F:jB K C)(j:h.get? a=some o)(i:o.cls=.ref C)(p:Q (.ref C) ⟨h,g,d,t,os⟩) : zAB (zAC prog w) A (getAttrBy (.ref a) (.str "__class__" k) false) Q E ⟨h,g,d,t,os⟩:=by
 have m:∀{A:zAI} {Q:Option Value->SI->Prop} {E:zzE},Q (some (.builtin "BaseException.__getattribute__")) ⟨h,g,d,t,os⟩->zAB (zAC prog w) A (zDF (.ref C) "__getattribute__") Q E ⟨h,g,d,t,os⟩:=λ{A Q E} q=>(looks_findIn c F.ga).at q;have l:∀{A:zAI} {Q:Option Value->SI->Prop} {E:zzE},Q none ⟨h,g,d,t,os⟩->zAB (zAC prog w) A (zDF (.ref C) "__getattr__") Q E ⟨h,g,d,t,os⟩:=λ{A Q E} q=>(looks_findIn c F.gt).at q;have e:(builtin "BaseException.__getattribute__" == builtin "object.__getattribute__")=false:=by decide +kernel
 have n:(onTheHeap (Value.ref C)&&builtin "BaseException.__getattribute__" == builtin "object.__getattribute__")=false:=by rw[e]; rfl
 have r:=PySem.F.excAttr_ValueError.ga.bind (.ref a);repeat (any_goals (first | assumption | (with_reducible refine zBN j ?_; rw[i]) | with_reducible refine m ?_ | with_reducible refine l ?_ | wp_step))
 refine A0 c F j i ?_;repeat (any_goals (first | assumption | wp_step))
theorem A1 {Q:Option Value->SI->Prop}(b:K.In h)(F:jB K C)(c:h.get? a=some o)(e:o.cls=.ref C)(f:Q (some (.ref C)) ⟨h,g,d,t+1,os⟩) : zAB (zAC prog w) A (getAttr? (.ref a) "__class__") Q E ⟨h,g,d,t,os⟩:=by unfold getAttr? getAttrBy?;repeat (any_goals (first | assumption | with_reducible apply Ed b F c e | wp_step))
noncomputable def VF (a:M1)(C:M1)(h:Heap):Prop:=∃o b,h.get? a=some o/\o.cls=.ref C/\o.data=.fields b
theorem Nm (F:jB K C):KitX K (.ref a) (.ref C) (VF a C) where
 ty:=λM h _ ⟨o,u,i,p,_⟩=>p ▸ (Looks.ld i).andThen .now;it:=λM h c _=>by
  obtain⟨r,b,_⟩:=Option.bind_eq_some_iff.mp F.mo;unfold clsIn at b;split at b
  ·rename_i v y l m j;intro G H L I k q;unfold isType loadHead;exact yA (wpAny_loadPart (k _ _ (c _ _ j)) (y3 q))
  ·cases b
 ne:=λh B D x n J c f=>by
  obtain⟨r,b,_⟩:=Option.bind_eq_some_iff.mp F.mo;refine Bool.eq_false_iff.mpr λq=>?_;have e:C=B:=Value.ref.inj (zCv.mp q);subst e;unfold clsIn at b;split at b
  ·rename_i v y l m j;have z:=(c _ _ j).symm.trans f;cases z
  ·cases b
 ca:=λ{prog w A E Q s} c ⟨o,u,i,p,_⟩ k=>by obtain⟨h,g,d,t,os⟩:=s;exact A1 c F i p k
end
section
variable {X:Cx}
noncomputable def yI:V->Value| .ref a=>.ref a| .ty n=>.type n| _=>.none
inductive HK (K:zzA)(H:Hp):V->Value->Prop where| of {x:V} {t:Value} (h:mR K H x t):HK K H x t| exc {a C:M1} (e:H a=some (yH a (.ref C))) (F:jB K C):HK K H (.ref a) (.ref C)
theorem call_isinstance:bP X (.builtin "isinstance") (λxs H Q=>∃x c t b,xs=[x,c]/\((∃a,c=.ref a)\/∃n,c=.ty n)/\HK X.K H x t/\PySem.W.kitOne X.K t (yI c)=some b/\Q (.bl b) H):=by
 intro g s σ H xs E Q I r h;obtain⟨x,c,t,b,rfl,v,i,l,q⟩:=h;obtain⟨u,w,rfl,j,p⟩:=vals2 r;have A:w=yI c:=by rcases v with ⟨a,rfl⟩ | ⟨n,rfl⟩ <;> exact p
 subst A;have f:∀k,EP X g σ Q (.bool b) { s with toks:=k }:=λk=>⟨.bl b,H,I.tok _,rfl,q⟩;cases i with| of i=>exact KD I j i l f| @exc a C e F=> cases (show u=Value.ref a from j);obtain⟨⟨o,y,m,D,B⟩,_⟩:=(show a_ X.prog X.w H s.heap a (yH a (.ref C)) from I.hok a _ e);exact zBo (Nm F) I.gR ⟨o,y,m,D,B⟩ l (λz=>nomatch z) f
end
structure Def (K:zzA)(mg:Str->Option Value)(x:Str)(st:zAM)(f:M1)(fd:zAE)(ps:List Str):Prop where
 fn:nJ K x x st f fd
 bd:Binds K fd ps []
 mg:mg x=some (.ref f)
section
variable {X:Cx}{CX:uJ}{k:Nat}{f:M1}{fd:zAE}{ps:List Str}{sp:Sp}{E:XK}{x:Str}{st:zAM}{p pos:Pos}{e:zAU}{es:List zAU}{t:TA}
theorem Nn (D:Def X.K X.mg x st f fd ps)(F:aL X.prog X.w X.K X.mg X.base CX k f fd ps sp)(d:cg k X.A)(c:Passes CX X E)(i:PA X (e::es) t)(h:Gl X x:=by rfl)(a:(x == ("__debug__":Str))=false:=by decide) (g:zAG (e::es) X.env=(false,zAP e X.env)::zAG es X.env:=by rfl) (b:(zAW pos (zAG es X.env)).any (·.1)=false:=by rfl) : PE X (.Call (.Name x p) (e::es) [] pos) (qy sp [] E t):=Qv F d h D.mg D.fn.kp D.bd .nil c i a g b
end
section
variable {K:zzA}{ix:List (Option Nat)}{te:TE}{σ:St}{H1:Hp}{Q:M1->Hp->Prop}
theorem pC {l:Nat->V}{n j:Nat}(f:Nat->V)(hz:n<=PK)(o:∀(i:Nat) (H:Hp) (R:VK),i < n->ah H1 H->(∀d,ah H d->R (f i) d)->te ((dw ix σ).set j (some (l i))) H R)(q:∀D H,H1 D=none->ah H1 H->H D=some (.lst ((range n).map f))->Q D H):dF (SN l n) ix (cz j) lH te σ H1 Q:=by
 intro D g;refine⟨λi m k H=>m=n - i/\i<=n/\ah H1 H/\k=(range i).map f,⟨n,by simp,zAd _,ah.new g _,by rfl⟩,?_⟩;rintro i m k H ⟨rfl,r,c,p⟩ b;by_cases a:i < n
 ·refine .inr ⟨a,λx s y=>?_⟩;obtain⟨e,y⟩:=y;subst e; subst y;refine o i _ _ a c λd h=>?_;refine⟨h _ _ b,?_,n - (i+1),by grind,rfl,a,(c.trans h).put g _,?_⟩;·rw[p,yB,zBt]; lia
  ·rw[p,zBk,v3]; rfl
 ·have e:i=n:=by lia
  subst e;exact .inl ⟨y8 _,q D H g c (by rw[b,p])⟩
end
noncomputable def Gv (t:TE)(σ:St)(H:Hp)(v:V):Prop:=∀R:VK,(∀a,ah H a->R v a)->t σ H R
noncomputable def Gt (t:TT)(σ:St)(H:Hp)(b:Bool):Prop:=∀R:Bool->Hp->Prop,(∀a,ah H a->R b a)->t σ H R
noncomputable def Ga (t:TA)(σ:St)(H:Hp)(vs:List V):Prop:=∀R:List V->Hp->Prop,(∀a,ah H a->R vs a)->t σ H R
section
variable {σ:St}{H:Hp}{ta tb tc te:TE}{t u:TT}{tt:TA}{v x y:V}{p q b:Bool}{i j k:Int}
theorem aa (h:σ[n]?=some (some v):=by rfl):Gv (b_ n) σ H v:=λR r=>⟨v,h,r H (ah.refl H)⟩
theorem aB:Gv (tC v) σ H v:=λR r=>r H (ah.refl H)
theorem qz {R:VK}(h:Gv te σ H v)(r:∀H',ah H H'->R v H'):te σ H R:=h R r
theorem aU (h:Gv te σ H x)(e:x=y):Gv te σ H y:=e ▸ h
theorem cA (h:Gt t σ H p)(e:p=q):Gt t σ H q:=e ▸ h
theorem pD (h:Gt t σ H b):Gt (RV t) σ H (!b):=λR r=>h _ ‹_›
theorem K2 (h:Gt t σ H p)(g:p=true->∀H',ah H H'->Gt u σ H' q):Gt (RU t u) σ H (p&&q):=λR r=>h _ λH' s=>by cases p with| true=>exact g rfl H' s _ λc a=>r c (s.trans a)| false=>exact r H' s
theorem xC (h:Gt t σ H p)(g:p=false->∀H',ah H H'->Gt u σ H' q):Gt (OJ t u) σ H (p||q):=λR r=>h _ λH' s=>by cases p with| true=>exact r H' s| false=>exact g rfl H' s _ λc a=>r c (s.trans a)
theorem bA (h:Gv te σ H (.bl b)):Gt (qx te) σ H b:=λR r=>h _ (by ext)
theorem iX (h:Gv te σ H (.bl b)):Gt (tB te) σ H b:=λR r=>h _ (by ext)
theorem Ef (h:Gv ta σ H (.bl p))(g:p=true->∀H',ah H H'->Gv tb σ H' (.bl q)):Gv (OL ta tb) σ H (.bl (p&&q)):=λR r=>h _ λH' s=>by refine⟨p,rfl,?_⟩;cases p with| true=>exact g rfl H' s _ λc a=>r c (s.trans a)| false=>exact r H' s
theorem Eg (h:Gv ta σ H v):Gv (RT ta) σ H (.bl (decide (v=.aT))):=λR r=>h _ ‹_›
theorem aW (h:Gv ta σ H (.int i))(g:∀H',ah H H'->Gv tb σ H' (.int j)):Gv (dz (oq f) ta tb) σ H (f i j):=λR r=>h _ λH' s=>g H' s _ λc a=>⟨i,j,rfl,rfl,r c (s.trans a)⟩
theorem dY {C:Int->Int->Prop}{f:Int->Int->V}(h:Gv ta σ H (.int i))(g:∀H',ah H H'->Gv tb σ H' (.int j))(d:C i j):Gv (dz (rI C f) ta tb) σ H (f i j):=λR r=>h _ λH' s=>g H' s _ λa c=>⟨i,j,rfl,rfl,d,r a (s.trans c)⟩
theorem dG (h:Gv ta σ H x)(g:∀H',ah H H'->Gv tb σ H' y)(c:Jm x y=true):Gv (dz G_ ta tb) σ H (.bl (decide (x=y))):=λR r=>h _ λH' s=>g H' s _ λd a=>⟨c,r d (s.trans a)⟩
theorem zS (h:Gv ta σ H x)(g:∀H',ah H H'->Gv tb σ H' y)(c:Jm x y=true):Gv (dz R4 ta tb) σ H (.bl (!decide (x=y))):=λR r=>h _ λH' s=>g H' s _ λd a=>⟨c,r d (s.trans a)⟩
theorem yJ {f g:Int->Int->Bool}(o:Gv ta σ H (.int i))(s:∀H',ah H H'->Gv tb σ H' (.int j))(l:∀H',ah H H'->Gv tc σ H' (.int k)):Gv (DL (oq λi j=>.bl (f i j)) (oq λi j=>.bl (g i j)) ta tb tc) σ H (.bl (f i j&&g j k)):= λR r=>o _ λm a=>s m a _ λd c=>⟨i,j,rfl,rfl,f i j,rfl,by cases e:f i j with| true=>rw[e] at r; exact l d (a.trans c) _ λn h=>⟨j,k,rfl,rfl,by exact r n ((a.trans c).trans h)⟩| false=>rw[e] at r; exact r d (a.trans c)⟩
theorem SX:Ga fB σ H []:=λR r=>r H (ah.refl H)
theorem ay (h:Gv te σ H v)(g:∀H',ah H H'->Ga tt σ H' vs):Ga (dj te tt) σ H (v::vs):=λR r=>h _ λH' s=>g H' s _ λc a=>r c (s.trans a)
theorem aC (h:Gv te σ H v):Ga (dj te fB) σ H [v]:=ay h λ_ _=>SX
theorem vL {K:zzA}(h:Ga tt σ H [v])(c:∀H',ah H H'->tY K v H' n):Gv (pA (λxs H Q=>∃x n,xs=[x]/\tY K x H n/\Q (.int n) H) tt) σ H (.int n):=λR r=>h _ λH' s=>⟨v,n,rfl,c H' s,r H' s⟩
theorem mW {K:zzA}{y:Str}(h:Ga tt σ H [.str y])(hz:y.length<=PK):Gv (pA (λxs H Q=>∃x n,xs=[x]/\tY K x H n/\Q (.int n) H) tt) σ H (.int y.length):=vL h λ_ _=>⟨hz,rfl⟩
theorem jC {K:zzA}(h:Ga tt σ H [.ref a])(d:az K H a xs):Gv (pA (λxs H Q=>∃x n,xs=[x]/\tY K x H n/\Q (.int n) H) tt) σ H (.int xs.length):=vL h λ_ s=>.inl ⟨xs,s.seq d,rfl⟩
theorem Eh (x:α)(xs:List α):j4 (x::xs) 0=some x:=by have:=cN (xs:=x::xs) (j:=0) rfl;symm
theorem gr {sp:Sp}{E:XK}{vs:List V}(h:Ga tt σ H vs)(d:∀H' (R:VK),ah H H'->(∀a,ah H' a->R v a)->sp (vs++[]) H' R E):Gv (qy sp [] E tt) σ H v:=λR r=>h _ λH' s=>d H' R s λa c=>r a (s.trans c)
theorem iM {K:zzA}(h:Gv ta σ H (.ref a))(g:∀H',ah H H'->Gv tb σ H' (.int i))(f:az K H a xs)(e:j4 xs i=some v):Gv (dz (q4 K) ta tb) σ H v:=λR r=>h _ λH' s=>g H' s _ λl d=>⟨a,xs,i,v,rfl,rfl,(s.trans d).seq f,e,r l (s.trans d)⟩
theorem Ei (h:Gv ta σ H (.str z))(g:∀H',ah H H'->Gv tb σ H' (.int i))(hz:z.length<=PK)(d:j4 z.cps.toList i=some c):Gv (dz MW ta tb) σ H (.str ⟨#[c]⟩):=λR r=>h _ λH' s=>g H' s _ λa e=>⟨z,i,c,rfl,rfl,hz,d,r a (s.trans e)⟩
theorem OY (h:Gt t σ H p)(e:p=true->∀H',ah H H'->Gv ta σ H' v)(d:p=false->∀H',ah H H'->Gv tb σ H' v):Gv (VY t ta tb) σ H v:=λR r=>h _ λH' s=>by cases p with| true=>exact e rfl H' s _ λc a=>r c (s.trans a)| false=>exact d rfl H' s _ λc a=>r c (s.trans a)
variable {D:Ends}{ts us:TS}{n:Nat}
theorem zT (h:ts { D with nx:=us D } σ H):fj ts us D σ H:=h
theorem je (h:Gt t σ H b)(k1:b=true->∀H',ah H H'->ts D σ H')(k2:b=false->∀H',ah H H'->us D σ H'):vp t ts us D σ H:=h _ λH' s=>by cases b with| true=>exact k1 rfl H' s| false=>exact k2 rfl H' s
theorem Ej (h:Gv te σ H v)(k:∀H',ah H H'->D.nx (σ.set n (some v)) H'):AO te (cz n) D σ H:=h _ k
theorem b8 (h:Gv te σ H v)(k:∀H',ah H H'->D.rt v H'):DH te D σ H:=h _ k
theorem HM (h:D.nx σ H):tV D σ H:=h
variable {ix:List (Option Nat)}{g:TG}{tf:TT}{R:VK}
theorem Ek {jj:Int}(h:Ga tt σ H [.int jj])(d:-(2 ^ 62)<=jj)(a:jj < 2 ^ 62)(k:∀H',ah H H'->dF (uI 0 jj.toNat) ix g tf te σ H' λc e=>R (.ref c) e):xB (C7 tt) ix g tf te σ H R:=h _ λH' s=>⟨jj,rfl,d,a,k H' s⟩
theorem rZ {K:zzA}{a:M1}{xs:List V}(h:Gv ta σ H (.ref a))(d:az K H a xs)(k:∀H',ah H H'->az K H' a xs->dF (pe K a) ix g tf te σ H' λe f=>R (.ref e) f):xB (tW K ta) ix g tf te σ H R:=h _ λH' s=>⟨a,rfl,⟨xs,s.seq d⟩,k H' s (s.seq d)⟩
theorem eV (h:te σ H D.rt):DH te D σ H:=h
theorem SY {K:zzA}(h:Gv ta σ H (.ref a))(d:az K H a xs)(k:∀H',ah H H'->az K H' a xs->dF (pe K a) ix g tf te σ H' λe f=>D.nx (σ.set n (some (.ref e))) f):t8 n (tW K ta) ix g tf te D σ H:=h _ λH' s=>⟨a,rfl,⟨xs,s.seq d⟩,k H' s (s.seq d)⟩
theorem jD {sp:Sp}{E:XK}{vs:List V}(h:Ga tt σ H vs)(k:∀H',ah H H'->sp (vs++[]) H' R E):qy sp [] E tt σ H R:=h _ ‹_›
theorem HP (h:te σ H λx a=>D.nx (σ.set n (some x)) a):AO te (cz n) D σ H:=h
theorem jf (h:te σ H λ_ a=>D.nx σ a):zu te D σ H:=h
theorem fC (h:Gt t σ H b)(k1:b=true->∀H',ah H H'->ts { D with nx:=us D } σ H')(k2:b=false->∀H',ah H H'->us D σ H'):fj (vp t ts tV) us D σ H:=je h k1 k2
theorem gZ (h:Gv te σ H v)(k:∀H',ah H H'->us D (σ.set n (some v)) H'):fj (AO te (cz n)) us D σ H:=h _ k
theorem aP (h:te σ H λx a=>us D (σ.set n (some x)) a):fj (AO te (cz n)) us D σ H:=h
theorem El (h:te σ H λ_ a=>us D σ a):fj (zu te) us D σ H:=h
end
section
variable {X:Cx}(K:zzA)
theorem g5 (h:X.K=K:=by rfl):bP X (.builtin "len") (λxs H Q=>∃x n,xs=[x]/\tY K x H n/\Q (.int n) H):=h ▸ MO
theorem A2 (h:X.K=K:=by rfl)(d:X.calm=true:=by rfl):bP X (.builtin "all") (λxs H Q=>∃(a:M1) (bs:List Bool),xs=[.ref a]/\az K H a (bs.map V.bl)/\Q (.bl (bs.all λb=>b)) H):=by subst h;intro c s σ H xs e Q I r q;exact Nd c s σ H xs e Q I r ⟨d,q⟩
theorem OZ (h:X.K=K:=by rfl):bP X (.type "list") (λxs H Q=>∃p ys,xs=[.ref p]/\(az K H p ys\/aG K H p ys)/\∀l,H l=none->Q (.ref l) (upd H l (.lst ys))):=h ▸ DV
theorem gM (h:X.K=K:=by rfl):bP X (.builtin "isinstance") (λxs H Q=>∃x c t b,xs=[x,c]/\((∃a,c=.ref a)\/∃n,c=.ty n)/\HK K H x t/\PySem.W.kitOne K t (yI c)=some b/\Q (.bl b) H):=h ▸ call_isinstance
theorem c_ (h:X.K=K:=by rfl):uL X (q4 K):=h ▸ HD
theorem eG (h:X.K=K:=by rfl):uL X (yF K):=h ▸ KH
theorem Np (h:X.K=K:=by rfl):Sd X (Jx K):=h ▸ QA
theorem O0 (h:X.K=K:=by rfl):rX X "str.join" (rJoin K):=h ▸ QI
theorem S0 (h:X.K=K:=by rfl):rX X "list.count" (Ea K):=h ▸ Nk
theorem S1 (h:X.K=K:=by rfl):rX X "list.index" (Eb K):=h ▸ Nl
variable {tg l:zAU}{tl ta te to:TE}{t:TA}
theorem cT (a:PE X l tl)(h:X.K=K:=by rfl):PI X tg l (tW K tl):=h ▸ Qq a
theorem qA (a:PE X l tl)(h:X.K=K:=by rfl):PI X tg l (DJ K tl):=h ▸ RZ a
theorem O1 (g:X.mg "zip"=none)(j:PA X [a,b] t)(h:X.K=K:=by rfl)(m:Gl X "zip":=by rfl)(i:zAG [a,b] X.env=[(false,zAP a X.env),(false,zAP b X.env)]:=by rfl)(f:zAG [b] X.env=[(false,zAP b X.env)]:=by rfl) : PI X (.Tuple c k d) (.Call (.Name "zip" p) [a,b] [] e) (Ng K t):=h ▸ SQ m g j i f
theorem Em (c:PE X a ta)(d:∀b,zEJ a X.env b=(do let v <-b; zDK a.pos; zCP [v] (truthy v)))(h:X.K=K:=by rfl) : PT X a (fun σ H Q=>ta σ H λx H'=>∃k,Jo K x H' k/\Q k H'):=h ▸ MN c d
theorem kG {k:Nat}{t:G7}{b:Pos}(c:Kr X es t)(h:X.K=K:=by rfl)(e:X.calm=true:=by rfl)(d:(zCL es X.env).length=n:=by rfl) (a:(zCL es X.env).findIdx? (·.1)=none:=by rfl):PG X (.Tuple es k b) (vq K n t):=h ▸ RW e c d a
theorem XI (c:PE X e te)(h:X.K=K:=by rfl):PE X (.Subscript e (.Slice none none (some (.UnaryOp .USub (.Constant (.int 1) j b) f)) d) a) (Na K te):=h ▸ SM c
theorem ou {c a:Pos}{T id:String}(k:zEG T)(i:Slot T name id)(j:typeOf (.builtin id)=pure (.type "method_descriptor"))(n:rX X id r)(m:PE X o to)(q:PA X (e::es) t)(h:X.K=K:=by rfl)(d:zBC o name X.env (zAP o X.env)=zAP o X.env:=by rfl)(g:((zAW a (zAG (e::es) X.env)).all (λx=>!x.1)&&(zCF a (zAZ [] X.env)).all (λx=>x.1.isSome) &&decide ((e::es).length+([]:List zEB).length+(if ([]:List zEB).isEmpty then 0 else 1) < 30))=true:=by rfl)(f:(c.endLine == a.line)=true:=by rfl) (p:zAG (e::es) X.env=(false,zAP e X.env)::zAG es X.env:=by rfl) (b:(zAW a (zAG es X.env)).any (·.1)=false:=by rfl) : PE X (.Call (.Attribute o name c) (e::es) [] a) (BX K T r to t):=h ▸ VE k i j n m q d g f p b
end
noncomputable def Gn (t:TE)(σ:St)(H:Hp)(xs:List V):Prop:=∀R:VK,(∀p a,H p=none->ah H a->a p=some (.lst xs)->R (.ref p) a)->t σ H R
section
variable {σ:St}{H:Hp}{ta tb te:TE}{tt:TA}{xs ys:List V}{K:zzA}{a:M1}{lo hi:Option Int}
theorem xD {R:VK}(h:Gn te σ H xs)(r:∀p H',H p=none->ah H H'->H' p=some (.lst xs)->R (.ref p) H'):te σ H R:=h R r
theorem t9 {r:List V->Hp->VK->Prop}{R:VK}(h:te σ H λx b=>r [x] b R):pA r (dj te fB) σ H R:=h
theorem O2 (h:Gn te σ H xs)(e:xs=ys):Gn te σ H ys:=e ▸ h
theorem jg (h:Ga tt σ H xs)(hz:xs.length<=PK):Gn (AR tt) σ H xs:=λR r=>h _ λc s=>⟨hz,λp b=>r p _ (s.free b) (s.trans (ah.new b _)) ao⟩
theorem S4 (g:Gv ta σ H (.ref a))(f:H a=some (.lst xs))(i:∀H',ah H H'->Gn tb σ H' ys)(hz:xs.length+ys.length<=PK):Gn (dz DW ta tb) σ H (xs++ys):= λR r=>g _ λh b=>i h b _ λp k j d c=>⟨a,p,xs,ys,rfl,rfl,d _ _ (b _ _ f),c,hz,λq e=>r q _ ((b.trans d).free e) ((b.trans d).trans (ah.new e _)) ao⟩
theorem xE (f:Gn ta σ H xs)(h:∀H',ah H H'->Gn tb σ H' ys)(hz:xs.length+ys.length<=PK):Gn (dz DW ta tb) σ H (xs++ys):= λR r=>f _ λa i f b g=>h i b _ λp k j d c=>⟨a,p,xs,ys,rfl,rfl,d _ _ g,c,hz,λq e=>r q _ ((b.trans d).free e) ((b.trans d).trans (ah.new e _)) ao⟩
theorem QM (g:Gv ta σ H (.ref a))(e:az K H a xs)(h:∀H',ah H H'->Gv tb σ H' (.int i)):Gn (Sf (Jx K) ta (Jw tb) AV) σ H (nW xs (some i) none):= λR r=>g _ λf c=>h f c _ λj d=>⟨i,rfl,a,xs,rfl,(c.trans d).seq e,λq b=>r q _ ((c.trans d).free b) ((c.trans d).trans (ah.new b _)) ao⟩
theorem QN (g:Gv ta σ H (.ref a))(e:az K H a xs)(h:∀H',ah H H'->Gv tb σ H' (.int i)):Gn (Sf (Jx K) ta AV (Jw tb)) σ H (nW xs none (some i)):= λR r=>g _ λf c=>h f c _ λj d=>⟨i,rfl,a,xs,rfl,(c.trans d).seq e,λq b=>r q _ ((c.trans d).free b) ((c.trans d).trans (ah.new b _)) ao⟩
theorem zU (b:Gv ta σ H (.int i)):Gv (ON (rU λi=>.int (-i)) ta) σ H (.int (-i)):=λR r=>b _ λd c=>⟨i,rfl,r d c⟩
theorem S9 (d:Gn ta σ H xs)(e:∀H',ah H H'->Gv tb σ H' (.int i))(hi:j4 xs i=some v):Gv (dz (q4 K) ta tb) σ H v:= λR r=>d _ λa f d c g=>e f c _ λh b=>⟨a,xs,i,v,rfl,rfl,az.of (b _ _ g),hi,r h (c.trans b)⟩
theorem QO (h:Ga tt σ H [.ref a,c])(g:(∃x,c=.ref x)\/∃n,c=.ty n)(e:H a=some (yH a (.ref C)))(F:jB K C)(f:PySem.W.kitOne K (.ref C) (yI c)=some b) : Gv (pA (λxs H Q=>∃x c t b,xs=[x,c]/\((∃a,c=.ref a)\/∃n,c=.ty n)/\HK K H x t/\PySem.W.kitOne K t (yI c)=some b/\Q (.bl b) H) tt) σ H (.bl b):=λR r=>h _ λd s=>⟨_,c,_,b,rfl,g,.exc (s _ _ e) F,f,r d s⟩
theorem Nq (i:Gv ta σ H (.ref a))(c:az K H a xs)(e:∀H',ah H H'->Ga tt σ H' [v])(h:xs.all iE=true)(f:iE v=true):Gv (BX K "list" (Ea K) ta tt) σ H (.int (xs.countP λy=>nI y v:Nat)):= λR r=>i _ λg b=>⟨.inl ⟨rfl,_,b.seq c⟩,e g b _ λj d=>⟨a,xs,v,rfl,rfl,(b.trans d).seq c,h,f,r j (b.trans d)⟩⟩
theorem Nr (i:Gv ta σ H (.ref a))(c:az K H a xs)(o:∀H',ah H H'->Ga tt σ H' [v])(l:xs.all iE=true)(g:iE v=true)(h:j < xs.length)(k:nI xs[j] v=true)(f:∀(m:Nat) (p:m < xs.length),m < j->nI xs[m] v=false) : Gv (BX K "list" (Eb K) ta tt) σ H (.int (j:Nat)):=λR r=>i _ λe b=>⟨.inl ⟨rfl,_,b.seq c⟩,o e b _ λn d=>⟨a,xs,v,rfl,rfl,(b.trans d).seq c,l,g,j,h,k,f,r n (b.trans d)⟩⟩
end
theorem t_:∀{ks:List Int} {us:List Value},Vals (ks.map V.int) us->ItemsAre (zAN prog w) ks us| [],_,.nil=>.nil| k::ks,u::us,.cons r t=>.cons (by obtain⟨a,rfl⟩:=(show ∃a,u=Value.int k a from r);exact intKind_is _ _ _ _) (t_ t)
theorem K3:TB.xj (zAN prog w):=λn k v h=>by obtain⟨t,rfl⟩:=TB.nK h;cases n <;> rfl
section
variable {X:Cx}{pins:zzC}{σ:St}{H:Hp}{s:SI}
theorem Inv.key (I:Inv X pins σ H s)(h:aG X.K H a (ks.map V.int)):zAJ (zAN X.prog X.w) s.heap ks a:=by obtain⟨b,r,⟨o,d,e,n,c⟩,_⟩:=I.tuple h;exact⟨o,b.toArray,n,d,e,c,t_ r⟩
noncomputable def En (prog:zAA)(w:zAD)(p:M1)(ps:zzD):HO:=.ext λh=>TB.gf (zAN prog w) h p ps
abbrev rv (p:M1 × List Int):V:=.ref p.1
theorem B6:∀{ps:zzD} {us:List Value},Vals (ps.map rv) us->us=ps.map λp=>Value.ref p.1| [],_,.nil=>rfl| p::ps,u::us,.cons r t=>by have e:=r;rw[e,B6 t];rfl
theorem qB:∀ps:zzD,Vals (ps.map rv) (ps.map TB.rf)| []=>.nil| p::ps=>.cons rfl (qB ps)
noncomputable def XJ (X:Cx)(K:zzA)(prog:zAA)(w:zAD):List V->Hp->VK->Prop:=λd H Q=>∃(l:M1) (a:zzD),d=[.ref l]/\az K H l (a.map rv)/\(∀p∈a,aG K H p.1 (p.2.map V.int))/\TB.GV a 300/\ ∀(S:M1) (b:zzD),H S=none->(∀p∈b,p∈a)->(∀p∈a,∃q∈b,q.2=p.2)->(b.map (·.2)).Nodup->Q (.ref S) (upd H S (En prog w S b))
theorem K4 (n:X.calm=true)(K:X.A.units+64 < zAT):bP X (.type "set") (XJ X X.K X.prog X.w):=by intro pins s σ H F J Q I r h;obtain⟨l,G,rfl,m,w,d,q⟩:=h;obtain⟨u,rfl,z⟩:=vals1 r;cases z;obtain⟨j,B,e,E⟩:=I.list m;rw[B6 B] at e;refine TB.MD (I.ok.hd n) e.isList (λp i=>I.key (w p i)) K3 (by lia) d λf C g c v A y=>?_;have b:=let ⟨_,_,_,_,_,_,_,_,_,b⟩:=c; b;have a:∃o,f.get? s.heap.objs.size=some o:=let ⟨o,_,_,t,_⟩:=c; ⟨o,t⟩;exact⟨.ref s.heap.objs.size,_,I.laid y (y8 _) (show a_ X.prog X.w _ f _ (En X.prog X.w s.heap.objs.size g) from ⟨c,a,λD M x k=>x.at_ k⟩),rfl,q _ g (I.hok.fresh (y8 _)) v A b⟩
noncomputable def HQ (K:zzA)(prog:zAA)(w:zAD):List V->Hp->VK->Prop:=λd H Q=>∃(S:M1) (a:zzD),d=[.ref S]/\H S=some (En prog w S a)/\(∀p∈a,aG K H p.1 (p.2.map V.int))/\(∀p∈a,p.2≠[])/\a.length < 100000/\ ∀(l:M1) (b:zzD),H l=none->b.Perm a->b.Pairwise (λp q=>HT.lexLt p.2 q.2=true)->Q (.ref l) (upd H l (.lst (b.map rv)))
theorem Eo (w:X.calm=true):bP X (.builtin "sorted") (HQ X.K X.prog X.w):=by
 intro pins s σ H B z Q I r h;obtain⟨S,C,rfl,o,i,f,d,q⟩:=h;obtain⟨u,rfl,t⟩:=vals1 r;cases t;obtain⟨e,_⟩:=(show a_ X.prog X.w H s.heap S _ from I.hok S _ o);refine TB.zH (I.ok.hd w) e (λp y=>I.key (i p y)) f d λk A l b c m a n g x=>?_;have j:(b.map rv).length<=PK:=by rw[yB,g.length_eq,kA];lia
 exact⟨.ref l,_,I.laid m a (show a_ X.prog X.w _ k _ (.lst _) from ⟨j,b.map TB.rf,c,qB b,n⟩),rfl,q _ b (I.hok.fresh a) g x⟩
end
mutual noncomputable def Dt.py:Dt->PyData| .aT=>.none| .bl b=>.bool b| .int i=>.int i| .str x=>.str x| .lst ds=>.list (Dt.iY ds)| .tup ds=>.tuple (Dt.iY ds) noncomputable def Dt.iY:List Dt->List PyData| []=>[]| d::ds=>Dt.py d::Dt.iY ds end
section
variable {X:Cx}{pins:zzC}{σ:St}{H:Hp}{s:SI}
mutual theorem pF (I:Inv X pins σ H s):∀(d:Dt) {x:V} {u:Value},Rep X.K H d x->RelV x u->∃as,Reads s.heap u d.py as| .aT,x,u,h,r=>by unfold Rep at h; subst h; cases r; exact⟨_,.none⟩| .bl b,x,u,h,r=>by unfold Rep at h; subst h; cases r; exact⟨_,.bool b⟩| .int i,x,u,h,r=>by unfold Rep at h; subst h; obtain⟨t,rfl⟩:=r; exact⟨_,.int i t⟩| .str z,x,u,h,r=>by unfold Rep at h; subst h; obtain⟨t,rfl⟩:=r; exact⟨_,.str z t⟩| .lst ds,x,u,h,r=>by unfold Rep at h;obtain⟨a,xs,rfl,q,rr⟩:=h;cases r;obtain⟨its,r1,p1,_⟩:=I.list q;obtain⟨o,ho,hc,n,hd⟩:=p1.isList;obtain⟨as,ra⟩:=vM I ds rr r1;exact⟨_,.list ho hc hd (by simpa using ra)⟩| .tup ds,x,u,h,r=>by unfold Rep at h;obtain⟨a,xs,rfl,q,rr⟩:=h;cases r;obtain⟨its,r1,⟨o,ho,hc,n,hd⟩,_⟩:=I.tuple q;obtain⟨as,ra⟩:=vM I ds rr r1;exact⟨_,.tuple ho hc hd (by simpa using ra)⟩;theorem vM (I:Inv X pins σ H s):∀(ds:List Dt) {xs:List V} {us:List Value},aK X.K H ds xs->Vals xs us->∃as,ReadsAll s.heap us (Dt.iY ds) as| [],xs,us,h,r=>by unfold aK at h; subst h; cases r; exact⟨_,.nil⟩| d::ds,xs,us,h,r=>by unfold aK at h;obtain⟨x,xr,rfl,q,t⟩:=h;cases r with| cons rx S_=> obtain⟨as,ra⟩:=pF I d q rx;obtain⟨bs,rb⟩:=vM I ds t S_;exact⟨_,.cons ra rb⟩;end
noncomputable def A3 (d e:Dt):Prop:=d.py.canLay0=true/\e.py.canLay0=true/\min d.py.depth e.py.depth<=60
noncomputable def Ep (K:zzA)(a:Bool):R2:=λx y H Q=>∃d e:Dt,A3 d e/\Rep K H d x/\Rep K H e y/\Q (.bl (a ^^ eqv d.py e.py)) H
theorem Tc (o:X.A.units+64 < zAT):eT X (zAO .Eq) (Ep X.K false):=by intro pins s σ H x y u v Q I k c h;obtain⟨d,e,⟨f,j,p⟩,b,g,q⟩:=h;obtain⟨m,i⟩:=pF I d b k;obtain⟨n,l⟩:=pF I e g c;rw[Bool.false_xor] at q;exact SeqAt.rcAt_reads i l f j (by lia) X.prog X.w X.xe _ ⟨.bl _,H,I,rfl,q⟩
theorem Td (o:X.A.units+64 < zAT):eT X (zAO .NotEq) (Ep X.K true):=by intro pins s σ H x y u v Q I k c h;obtain⟨d,e,⟨f,j,p⟩,b,g,q⟩:=h;obtain⟨m,i⟩:=pF I d b k;obtain⟨n,l⟩:=pF I e g c;rw[Bool.true_xor] at q;exact SeqAt.rcNeAt_reads i l f j (by lia) X.prog X.w X.xe _ ⟨.bl _,H,I,rfl,q⟩
theorem Nt:∀ns:List Int,Dt.iY (ns.map Dt.int)=ns.map PyData.int| []=>rfl| n::ns=>by rw[zA2,zA2,<-Nt ns]; rfl
theorem qC {K:zzA}:∀ns:List Int,aK K H (ns.map Dt.int) (ns.map V.int)| []=>by rfl| n::ns=>by exact⟨_,_,rfl,by rfl,qC ns⟩
end
section
variable {X:Cx}(K:zzA)
theorem Te (h:X.K=K:=by rfl):bP X (.type "tuple") (λxs H Q=>∃p ys,xs=[.ref p]/\((az K H p ys/\∀l,H l=none->Q (.ref l) (upd H l (.tup ys)))\/(aG K H p ys/\Q (.ref p) H))):=h ▸ CP
noncomputable def VG (K:zzA)(prog:zAA)(w:zAD):List V->Hp->VK->Prop:=λc H Q=>∃(l:M1) (a:zzD),c=[.ref l]/\az K H l (a.map rv)/\(∀p∈a,aG K H p.1 (p.2.map V.int))/\TB.GV a 300/\ ∀(S:M1) (b:zzD),H S=none->(∀p∈b,p∈a)->(∀p∈a,∃q∈b,q.2=p.2)->(b.map (·.2)).Nodup->Q (.ref S) (upd H S (En prog w S b))
theorem XM (P:zAA)(w:zAD)(a:X.A.units+64 < zAT)(h:X.K=K:=by rfl)(d:X.prog=P:=by rfl)(b:X.w=w:=by rfl)(c:X.calm=true:=by rfl):bP X (.type "set") (VG K P w):=by subst h; subst b;exact K4 c a
theorem QS (P:zAA)(w:zAD)(h:X.K=K:=by rfl)(c:X.prog=P:=by rfl)(b:X.w=w:=by rfl)(a:X.calm=true:=by rfl):bP X (.builtin "sorted") (HQ K P w):=by subst h; subst b;exact Eo a
theorem XN (a:X.A.units+64 < zAT)(h:X.K=K:=by rfl):eT X (zAO .Eq) (Ep K false):=h ▸ Tc a
theorem Tf (a:X.A.units+64 < zAT)(h:X.K=K:=by rfl):eT X (zAO .NotEq) (Ep K true):=h ▸ Td a
end
noncomputable def Hm (D:M1)(H:Hp):Hp:=λb=>if b=D then none else H b
theorem lI (h:b≠D):Hm D H b=H b:=by unfold Hm; ext
theorem C_ (D:M1)(H:Hp):Hm D H D=none:=by unfold Hm; simp
theorem ah.hm (s:ah H H'):ah (Hm D H) (Hm D H'):=λb o e=>by
 by_cases c:b=D;·rw[c,C_] at e; ext
 ·rw[lI c] at e ⊢; exact s b o e
theorem ah.zV (s:ah H H')(o:HO):ah (Hm D H) (Hm D (upd H' D o)):=λb u e=>by
 by_cases c:b=D;·rw[c,C_] at e; ext
 ·rw[lI c] at e ⊢; rw[aA c]; exact s b u e
theorem vN:ah (Hm D H) H:=λb u e=>by
 by_cases c:b=D;·rw[c,C_] at e; ext
 ·rwa [lI c] at e
theorem ah.into (s:ah a H)(h:a D=none):ah a (Hm D H):=λb u e=>by have c:=aQ e h;rw[lI c]; exact s b u e
theorem aK.snoc {K:zzA}(h:Rep K H d v):∀{b:List Dt} {vs:List V},aK K H b vs->aK K H (b++[d]) (vs++[v])| [],_,r=>by subst r;exact⟨v,[],rfl,h,by rfl⟩| e::b,_,r=>by obtain⟨x,c,rfl,q,t⟩:=r;exact⟨x,_,rfl,q,aK.snoc h t⟩
theorem aK.append {K:zzA}:∀{b es:List Dt} {vs ws:List V},aK K H b vs->aK K H es ws->aK K H (b++es) (vs++ws)| [],es,_,ws,r,c=>by subst r; symm| e::b,es,_,ws,r,c=>by obtain⟨x,d,rfl,q,t⟩:=r;exact⟨x,_,rfl,q,aK.append t c⟩
theorem aK.at_ {K:zzA}:∀{b:List Dt} {vs:List V},aK K H b vs->∀(i:Nat) (v:V),vs[i]?=some v->∃d,b[i]?=some d/\Rep K H d v| [],_,r,i,v,e=>by unfold aK at r; ext| d::b,_,r,i,v,e=>by obtain⟨x,c,rfl,q,t⟩:=r;cases i with| zero=>ext| succ i=>simpa using aK.at_ t i v ‹_›
theorem aK.get {K:zzA}(r:aK K H b vs)(i:Nat)(d:Dt)(e:b[i]?=some d):∃v,vs[i]?=some v/\Rep K H d v:=by
 have c:=r.length;have g:i < vs.length:=by grind
 obtain⟨h,f,q⟩:=r.at_ i vs[i] (by simp);grind
abbrev tupI (t:List Int):Dt:=.tup (t.map Dt.int)
abbrev dH (t:List Int):Dt:=.lst (t.map Dt.int)
theorem QT {K:zzA}(h:Rep K H (.int i) v):v=.int i:=by symm
theorem kH {K:zzA}:∀{t:List Int} {vs:List V},aK K H (t.map Dt.int) vs->vs=t.map V.int| [],_,r=>by symm| i::t,_,r=>by obtain⟨x,c,rfl,q,b⟩:=r;rw[QT q,kH b];rfl
theorem mY {K:zzA}:Rep K H (tupI t) v↔∃a,v=.ref a/\aG K H a (t.map V.int):=by
 constructor
 ·intro h;obtain⟨a,c,rfl,q,r⟩:=h;exact⟨a,rfl,kH r ▸ q⟩
 ·rintro⟨a,rfl,q⟩;exact⟨a,_,rfl,q,qC t⟩
theorem jh {K:zzA}:Rep K H (dH t) v↔∃a,v=.ref a/\az K H a (t.map V.int):=by
 constructor
 ·intro h;obtain⟨a,c,rfl,q,r⟩:=h;exact⟨a,rfl,kH r ▸ q⟩
 ·rintro⟨a,rfl,q⟩;exact⟨a,_,rfl,q,qC t⟩
theorem vO {K:zzA}:∀{ts:zzB} {vs:List V},aK K H (ts.map tupI) vs->∃ps:zzD,vs=ps.map rv/\ps.map (·.2)=ts/\∀p∈ps,aG K H p.1 (p.2.map V.int)
 | [],_,r=>by unfold aK at r; ext| t::ts,_,r=>by
  obtain⟨x,f,rfl,q,d⟩:=r;obtain⟨a,rfl,h⟩:=mY.mp q;obtain⟨ps,rfl,g,e⟩:=vO d;refine⟨(a,t)::ps,rfl,by ext,λp c=>?_⟩;rcases wS.mp c with rfl | c;·symm
  ·exact e p c
theorem B7 {K:zzA}:∀ps:zzD,(∀p∈ps,aG K H p.1 (p.2.map V.int))->aK K H ((ps.map (·.2)).map tupI) (ps.map rv)| [],_=>by rfl| p::ps,h=>by exact⟨_,_,rfl,mY.mpr (by ext),B7 ps λq b=>h q (by ext)⟩
section
variable {K:zzA}{ix:List (Option Nat)}{te:TE}{σ:St}{H1:Hp}{Q:M1->Hp->Prop}
theorem uP {a:M1}{xs:List V}{l:Nat}(f:Nat->Dt)(n:az K H1 a xs)(hz:xs.length<=PK)(s:∀(D:M1) (i:Nat) (x:V) (H:Hp) (R:VK),H1 D=none->(∃ys,H D=some (.lst ys))->xs[i]?=some x->ah H1 H->(∀v c,ah H c->Rep K (Hm D c) (f i) v->R v c)->te ((dw ix σ).set l (some x)) H R)(o:∀D H ys,H1 D=none->ah H1 H->H D=some (.lst ys)->aK K (Hm D H) ((range xs.length).map f) ys->Q D H):dF (pe K a) ix (cz l) lH te σ H1 Q:=by
 intro D g;refine⟨λi m ys H=>m=xs.length - i/\i<=xs.length/\ah H1 H/\aK K (Hm D H) ((range i).map f) ys,⟨xs.length,by simp,zAd _,ah.new g _,by rfl⟩,?_⟩;rintro i m ys H ⟨rfl,t,d,p⟩ b;have q:=d.seq n;by_cases k:i < xs.length
 ·refine .inr ⟨⟨xs,xs[i],q,by simp⟩,λx u y=>?_⟩;obtain⟨e,y⟩:=y;subst e;refine s D i x _ _ g ⟨ys,b⟩ (y xs q) d λv c j h=>?_;have r:ys.length=i:=by rw[p.length,yB,zBt]
  refine⟨j _ _ b,by lia,xs.length - (i+1),by grind,rfl,k,(d.trans j).put g _,?_⟩;rw[zBk,v3];exact aK.snoc (h.same ((ah.refl c).zV _)) (p.same (j.zV _))
 ·have e:i=xs.length:=by lia
  subst e;exact .inl ⟨⟨xs,q,y8 _⟩,o D H ys g d b p⟩
end
section
variable {X:Cx}(K:zzA)
theorem XO (a:X.A.units+64 < zAT)(h:X.K=K:=by rfl):eT X (zAO .Lt) (MV K):=h ▸ Sg (by lia)
end
section
variable {K:zzA}{ix:List (Option Nat)}{te ta tb:TE}{tt:TA}{g:TG}{tf:TT}{σ:St}{H H1:Hp}{Q:M1->Hp->Prop}{R:VK}
theorem Er {a:M1}{xs:List V}{l:Nat}(f:V->V)(r:aG K H1 a xs)(hz:xs.length<=PK)(s:∀(i:Nat) (x:V) (H:Hp) (R:VK),xs[i]?=some x->ah H1 H->(∀h,ah H h->R (f x) h)->te ((dw ix σ).set l (some x)) H R)(t:∀D H,H1 D=none->ah H1 H->H D=some (.lst (xs.map f))->Q D H):dF (zw K a) ix (cz l) lH te σ H1 Q:=by
 intro D d;refine⟨λi m k H=>m=xs.length - i/\i<=xs.length/\ah H1 H/\k=(xs.take i).map f,⟨xs.length,by simp,zAd _,ah.new d _,by rfl⟩,?_⟩;rintro i m k H ⟨rfl,v,c,p⟩ b;have q:=c.tup r;by_cases j:i < xs.length
 ·refine .inr ⟨⟨xs,xs[i],q,by simp⟩,λx u y=>?_⟩;obtain⟨e,y⟩:=y;subst e;have n:=y xs q;refine s i x _ _ n c λh o=>?_;refine⟨o _ _ b,?_,xs.length - (i+1),by grind,rfl,j,(c.trans o).put d _,?_⟩;·rw[p,yB,zCe]; lia
  ·rw[uN f xs i x n,p]
 ·have e:i=xs.length:=by lia
  subst e;refine .inl ⟨⟨xs,q,y8 _⟩,t D H d c ?_⟩;rw[b,p,zAj]
theorem vP {a:M1}{xs:List V}(h:Gv ta σ H (.ref a))(b:aG K H a xs)(k:∀H',ah H H'->aG K H' a xs->dF (zw K a) ix g tf te σ H' λd c=>R (.ref d) c):xB (DJ K ta) ix g tf te σ H R:=h _ λH' s=>⟨a,rfl,⟨xs,s.tup b⟩,k H' s (s.tup b)⟩
theorem QU {i j:Int}(h:Ga tt σ H [.int i,.int j])(a:-(2 ^ 62)<=i/\i < 2 ^ 62/\-(2 ^ 62)<=j/\j < 2 ^ 62)(k:∀H',ah H H'->dF (uI i (j - i).toNat) ix g tf te σ H' λb c=>R (.ref b) c):xB (Jj tt) ix g tf te σ H R:=h _ λH' s=>⟨i,j,rfl,a,k H' s⟩
theorem HR (h:Ga tt σ H [.ref a])(b:aG K H a xs):Gv (pA (λxs H Q=>∃x n,xs=[x]/\tY K x H n/\Q (.int n) H) tt) σ H (.int xs.length):=vL h λ_ s=>.inr ⟨xs,s.tup b,rfl⟩
theorem fV (h:Gv ta σ H (.ref a))(g:∀H',ah H H'->Gv tb σ H' (.int i))(e:aG K H a xs)(d:j4 xs i=some v):Gv (dz (yF K) ta tb) σ H v:=λR r=>h _ λH' s=>g H' s _ λc b=>⟨a,xs,i,v,rfl,rfl,(s.trans b).tup e,d,r c (s.trans b)⟩
theorem Tg (h:Gv ta σ H (.ref a))(g:∀H',ah H H'->Gv tb σ H' (.ref b))(e:aG K H a (x.map V.int))(f:aG K H b (y.map V.int)):Gv (dz (MV K) ta tb) σ H (.bl (HT.lexLt x y)):=λR r=>h _ λH1 c=>g H1 c _ λi d=>⟨a,b,x,y,rfl,rfl,(c.trans d).tup e,(c.trans d).tup f,r i (c.trans d)⟩
end
section
variable {prog:zAA}{w:zAD}{A:zAI}{E:zzE}{s:SI}
end
section
variable {X:Cx}
end
section
variable {K:zzA}{ix:List (Option Nat)}{te ta tb:TE}{tt:TA}{g:TG}{tf:TT}{σ:St}{H H1:Hp}{Q:M1->Hp->Prop}{R:VK}
end
section
variable {X:Cx}(K:zzA)
end
end L2
namespace TB
open PySem PySem.Spec
namespace SF
theorem B8:entryFor table "dict.update.loop"=some Builtin.«dict.update.loop»:=entryFor_of_tree (by kernel_rfl)
theorem qD:plainId "dict.update.loop"=true:=by decide +kernel
end SF
section
variable {prog:zAA}{w:zAD}{K:Type}[DecidableEq K]{knd:KeyKind prog w K}{A:zAI}{E:zzE}{s:SI}
variable {I:M1}{fp wr:List M1}{n:Nat}{P:Nat->Value->Prop}{St:Nat->Heap->Prop}{R:zED->SI->Prop}
end
end TB
namespace L2
open PySem PySem.Spec PyProof.Rows
section
variable {X:Cx}{pins:zzC}{σ:St}{H:Hp}{s:SI}
end
section
variable {X:Cx}(K:zzA)
end
end L2
namespace TB
open PySem PySem.Spec L2
mutual noncomputable def iC (h:Heap):Dt->Value->Prop| .int i,v=>∃t,v=.int i t| .str x,v=>PyData.strOk x=true/\∃t,v=.str x t| .tup ds,v=>∃a o items n,v=.ref a/\h.get? a=some o/\o.cls=.type "tuple"/\o.data=.seq items n/\fW h ds items.toList| _,_=>False noncomputable def fW (h:Heap):List Dt->List Value->Prop| [],vs=>vs=[]| d::ds,vs=>∃v r,vs=v::r/\iC h d v/\fW h ds r end
mutual noncomputable def pG:Dt->Nat| .tup ds=>gA ds+1| _=>0 noncomputable def gA:List Dt->Nat| []=>0| d::ds=>max (pG d) (gA ds) end
mutual noncomputable def JI (P:zAA)(w:zAD):Dt->Int| .int i=>(zAN P w).hash i| .str x=>(strKind P w).hash x| .tup ds=>reduceHash (Builtin.Tuple.tupleHashOf (r6 P w ds))| _=>0 noncomputable def r6 (P:zAA)(w:zAD):List Dt->List Int| []=>[]| d::ds=>JI P w d::r6 P w ds end
mutual noncomputable def Dc:Dt->Nat| .tup ds=>vQ ds+1| _=>1 noncomputable def vQ:List Dt->Nat| []=>0| d::ds=>Dc d+vQ ds end
mutual theorem iC.inj {h:Heap}:∀(d e:Dt) {v:Value},iC h d v->iC h e v->d=e
 | .int i,e,v,hd,he=>by obtain⟨t,rfl⟩:=hd;cases e with| int j=>obtain⟨_,z⟩:=he; cases z; rfl| str _=>obtain⟨_,_,z⟩:=he; cases z| tup _=>obtain⟨_,_,_,_,z,_⟩:=he; cases z| _=>exact he.elim
 | .str x,e,v,hd,he=>by obtain⟨_,t,rfl⟩:=hd;cases e with| int j=>obtain⟨_,z⟩:=he; cases z| str _=>obtain⟨_,_,z⟩:=he; cases z; rfl| tup _=>obtain⟨_,_,_,_,z,_⟩:=he; cases z| _=>exact he.elim
 | .tup ds,e,v,hd,he=>by obtain⟨a,o,items,n,rfl,ho,hc,hdat,hi⟩:=hd;cases e with| int j=>obtain⟨_,z⟩:=he; cases z| str _=>obtain⟨_,_,z⟩:=he; cases z| tup es=> obtain⟨a',o',items',n',z,ho',hc',O3,hi'⟩:=he;cases z;obtain rfl:o=o':=zA4 (ho.symm.trans ho');rw[hdat] at O3;injection O3 with h1 _;subst h1;rw[fW.inj ds es hi hi']| _=>exact he.elim
 | .aT,_,_,hd,_=>hd.elim| .bl _,_,_,hd,_=>hd.elim| .lst _,_,_,hd,_=>hd.elim theorem fW.inj {h:Heap}:∀(ds es:List Dt) {vs:List Value},fW h ds vs->fW h es vs->ds=es| [],[],_,_,_=>rfl| [],e::es,vs,hd,he=>by obtain⟨_,_,z,_⟩:=he; rw[show vs=[] from hd] at z; cases z| d::ds,[],vs,hd,he=>by obtain⟨_,_,z,_⟩:=hd; rw[show vs=[] from he] at z; cases z| d::ds,e::es,vs,hd,he=>by obtain⟨v,r,rfl,h1,h2⟩:=hd;obtain⟨v',r',z,g1,g2⟩:=he;cases z;rw[iC.inj d e h1 g1,fW.inj ds es h2 g2];end
mutual theorem iC.keep {h h':Heap}(k:∀b o items n,h.get? b=some o->o.cls=.type "tuple"->o.data=.seq items n->h'.get? b=some o):∀(d:Dt) {v:Value},iC h d v->iC h' d v| .int i,v,hd=>hd| .str x,v,hd=>hd| .tup ds,v,hd=>by obtain⟨a,o,items,n,rfl,ho,hc,hdat,hi⟩:=hd;exact⟨a,o,items,n,rfl,k _ _ _ _ ho hc hdat,hc,hdat,fW.keep k ds hi⟩| .aT,_,hd=>hd.elim| .bl _,_,hd=>hd.elim| .lst _,_,hd=>hd.elim theorem fW.keep {h h':Heap}(k:∀b o items n,h.get? b=some o->o.cls=.type "tuple"->o.data=.seq items n->h'.get? b=some o):∀(ds:List Dt) {vs:List Value},fW h ds vs->fW h' ds vs| [],_,hd=>hd| d::ds,vs,hd=>by obtain⟨v,r,rfl,h1,h2⟩:=hd;exact⟨v,r,rfl,iC.keep k d h1,fW.keep k ds h2⟩;end
mutual theorem iC.reads {h:Heap}:∀(d:Dt) {v:Value},iC h d v->∃as,Reads h v d.py as| .int i,v,hd=>by obtain⟨t,rfl⟩:=hd; exact⟨_,.int i t⟩| .str x,v,hd=>by obtain⟨_,t,rfl⟩:=hd; exact⟨_,.str x t⟩| .tup ds,v,hd=>by obtain⟨a,o,items,n,rfl,ho,hc,hdat,hi⟩:=hd;obtain⟨as,ra⟩:=fW.reads ds hi;exact⟨_,.tuple ho hc hdat ra⟩| .aT,_,hd=>hd.elim| .bl _,_,hd=>hd.elim| .lst _,_,hd=>hd.elim theorem fW.reads {h:Heap}:∀(ds:List Dt) {vs:List Value},fW h ds vs->∃as,ReadsAll h vs (Dt.iY ds) as| [],vs,hd=>by rw[show vs=[] from hd]; exact⟨_,.nil⟩| d::ds,vs,hd=>by obtain⟨v,r,rfl,h1,h2⟩:=hd;obtain⟨as,ra⟩:=iC.reads d h1;obtain⟨bs,rb⟩:=fW.reads ds h2;exact⟨_,.cons ra rb⟩;end
mutual noncomputable def iZ:Dt->Bool| .int _=>true| .str x=>PyData.strOk x| .tup ds=>gO ds| _=>false noncomputable def gO:List Dt->Bool| []=>true| d::ds=>iZ d&&gO ds end
mutual theorem iC.iZ {h:Heap}:∀(d:Dt) {v:Value},iC h d v->iZ d=true| .int i,v,hd=>rfl| .str x,v,hd=>hd.1| .tup ds,v,hd=>by obtain⟨a,o,items,n,rfl,ho,hc,hdat,hi⟩:=hd;exact fW.iZ ds hi| .aT,_,hd=>hd.elim| .bl _,_,hd=>hd.elim| .lst _,_,hd=>hd.elim theorem fW.iZ {h:Heap}:∀(ds:List Dt) {vs:List Value},fW h ds vs->gO ds=true| [],vs,hd=>rfl| d::ds,vs,hd=>by obtain⟨v,r,rfl,h1,h2⟩:=hd;show (TB.iZ d&&gO ds)=true;rw[iC.iZ d h1,fW.iZ ds h2];rfl;end
mutual theorem Dd:∀d:Dt,iZ d=true->d.py.canLay0=true| .int i,_=>rfl| .str x,h=>h| .tup ds,h=>K5 ds h| .aT,h=>nomatch h| .bl _,h=>nomatch h| .lst _,h=>nomatch h theorem K5:∀ds:List Dt,gO ds=true->PyData.canLayAll0 (Dt.iY ds)=true| [],_=>rfl| d::ds,h=>by have h':iZ d=true/\gO ds=true:=zBp.mp h;show (d.py.canLay0&&PyData.canLayAll0 (Dt.iY ds))=true;rw[Dd d h'.1,K5 ds h'.2];rfl;end
mutual theorem HS:∀d:Dt,iZ d=true->d.py.depth=pG d| .int i,_=>rfl| .str x,_=>rfl| .tup ds,h=>by show depthAll (Dt.iY ds)+1=gA ds+1; rw[Es ds h]| .aT,h=>nomatch h| .bl _,h=>nomatch h| .lst _,h=>nomatch h theorem Es:∀ds:List Dt,gO ds=true->depthAll (Dt.iY ds)=gA ds| [],_=>rfl| d::ds,h=>by have h':iZ d=true/\gO ds=true:=zBp.mp h;show max d.py.depth (depthAll (Dt.iY ds))=max (pG d) (gA ds);rw[HS d h'.1,Es ds h'.2];end
mutual theorem O4:∀d e:Dt,iZ d=true->iZ e=true->(eqv d.py e.py=true↔d=e)| .int i,.int j,_,_=>by show (i == j)=true↔_; simp| .int i,.str x,_,_=>by show false=true↔_; simp| .int i,.tup ds,_,_=>by show false=true↔_; simp| .str x,.int j,_,_=>by show false=true↔_; simp| .str x,.str y,_,_=>by show (x == y)=true↔_; simp| .str x,.tup ds,_,_=>by show false=true↔_; simp| .tup ds,.int j,_,_=>by show false=true↔_; simp| .tup ds,.str x,_,_=>by show false=true↔_; simp| .tup ds,.tup es,h1,h2=>by show eqvAll (Dt.iY ds) (Dt.iY es)=true↔_;rw[K6 ds es h1 h2];simp| .aT,_,h,_=>nomatch h| .bl _,_,h,_=>nomatch h| .lst _,_,h,_=>nomatch h| _,.aT,_,h=>nomatch h| _,.bl _,_,h=>nomatch h| _,.lst _,_,h=>nomatch h theorem K6:∀ds es:List Dt,gO ds=true->gO es=true->(eqvAll (Dt.iY ds) (Dt.iY es)=true↔ds=es)| [],[],_,_=>by simp [Dt.iY,eqvAll]| [],e::es,_,_=>by simp [Dt.iY,eqvAll]| d::ds,[],_,_=>by simp [Dt.iY,eqvAll]| d::ds,e::es,h1,h2=>by have V9:iZ d=true/\gO ds=true:=zBp.mp h1;have h2':iZ e=true/\gO es=true:=zBp.mp h2;show (eqv d.py e.py&&eqvAll (Dt.iY ds) (Dt.iY es))=true↔_;rw[zAw,O4 d e V9.1 h2'.1,K6 ds es V9.2 h2'.2];simp;end
section
variable {prog:zAA}{w:zAD}{E:zzE}
mutual theorem K7:∀(d:Dt) (v:Value) (A:zAI) (s:SI) (Q:Int->SI->Prop),iC s.heap d v->A.units+pG d < zAT->Q (JI prog w d) { s with toks:=s.toks+Dc d }->zAB (zAC prog w) A (pyHash v) Q E s| .int i,v,A,s,Q,hd,hu,q=>by obtain⟨t,rfl⟩:=hd;exact (zAN prog w).pyHash (k:=i) (by show (i == i)=true; simp) q| .str x,v,A,s,Q,hd,hu,q=>by obtain⟨_,t,rfl⟩:=hd;exact (strKind prog w).pyHash (k:=x) (by show (x == x)=true; simp) q| .tup ds,v,A,s,Q,hd,hu,q=>by obtain⟨a,o,items,n,rfl,ho,hc,hdat,hi⟩:=hd;have Y0:A.units+(gA ds+1) < zAT:=hu;refine PySem.W.pyHash_slot (T:="tuple") ⟨_,ho,hc⟩ F.slot_tuple_hash F.entry_tuple_hash (F.args_tuple_hash_1 _) (beq_builtin_none _) (.inr (by lia)) ?_;show zAB _ _ (Builtin.Tuple.tupleItemsOf (.ref a) >>= _) _ _ s;refine yA (wpAny_tupleItemsOf ho hdat ?_);refine yA ?_;rw[<-Array.forIn_toList];refine HU ds _ A.in1 s #[] _ hi (by rw[Around.in1_units]; lia) ?_;intro b hb;show zAB _ _ (retInt (Builtin.Tuple.tupleHashOf b.toList)) _ _ _;rw[hb];refine yA (wpAny_mkInt (y3 ⟨_,_,rfl,?_⟩));exact q| .aT,_,_,_,_,hd,_,_=>hd.elim| .bl _,_,_,_,_,hd,_,_=>hd.elim| .lst _,_,_,_,_,hd,_,_=>hd.elim theorem HU:∀(ds:List Dt) (vs:List Value) (A:zAI) (s:SI) (b:Array Int) (Q:Array Int->SI->Prop),fW s.heap ds vs->A.units+gA ds < zAT->(∀b',b'.toList=b.toList++r6 prog w ds->Q b' { s with toks:=s.toks+vQ ds })-> zAB (zAC prog w) A (forIn vs b λx r=>do let h <-pyHash x; pure PUnit.unit; pure (ForInStep.yield (r.push h))) Q E s| [],vs,A,s,b,Q,hd,hu,q=>by rw[show vs=[] from hd];exact y3 (q b (by simp [r6]))| d::ds,vs,A,s,b,Q,hd,hu,q=>by obtain⟨v,r,rfl,h1,h2⟩:=hd;have Y0:A.units+max (pG d) (gA ds) < zAT:=hu;rw[List.forIn_cons];refine yA (yA (K7 d _ A s _ h1 (by lia) ?_));refine yA (y3 (y3 ?_));refine HU ds _ A _ _ Q h2 (by lia) λb' hb=>?_;have:=q b' (by simp [hb,r6]);rw[show s.toks+vQ (d::ds)=s.toks+Dc d+vQ ds by rw[zCz]; rfl] at this;exact this;end
mutual theorem HV:∀(d:Dt) (k:Nat) (v:Value) (A:zAI) (s:SI) (Q:Bool->SI->Prop),iC s.heap d v->pG d<=k->Q true s->zAB (zAC prog w) A (eqIsQuiet k v) Q E s
 | .int i,k,v,A,s,Q,hd,hk,q=>by obtain⟨t,rfl⟩:=hd;rw[eqIsQuiet_byValue _ (by rfl)];exact y3 q| .str x,k,v,A,s,Q,hd,hk,q=>by obtain⟨_,t,rfl⟩:=hd;rw[eqIsQuiet_byValue _ (by rfl)];exact y3 q| .tup ds,k,v,A,s,Q,hd,hk,q=>by
  have hk0:gA ds+1<=k:=hk;obtain⟨k,rfl⟩:∃k',k=k'+1:=⟨k - 1,by lia⟩;obtain⟨a,o,items,n,rfl,ho,hc,hdat,hi⟩:=hd;have hT:s.TypeIs (.ref a) "tuple":=⟨o,ho,hc⟩;have hk':gA ds<=k:=Nat.le_of_succ_le_succ hk;unfold eqIsQuiet;refine yA (zCU hT F.slot_tuple_eq.lookup ?_);show zAB _ _ (isInstance (.ref a) (.type "tuple") >>= _) _ _ s;refine yA (zCK hT isSubtype_tuple_tuple ?_);simp only [Bool.not_true,zAx,zCf];refine yA (zDD ho hdat ?_);refine yA ?_;show zAB _ _ (forIn items _ _) _ _ s;rw[<-Array.forIn_toList];refine zBP _ (λrest r s'=>r.1=none/\s'=s/\∃es,fW s.heap es rest/\gA es<=k/\∀e∈es,e∈ds) _ ?_ ?_ _ _ ⟨rfl,rfl,ds,hi,hk',λe he=>he⟩
  ·rintro v rest r s' ⟨hr,rfl,es,hes,hke,hsub⟩;cases es with| nil=>cases (show v::rest=[] from hes)| cons e es=> obtain⟨v',r',z,h1,h2⟩:=hes;cases z;have acr:max (pG e) (gA es)<=k:=hke;refine yA (Et ds e (hsub e zAb) k _ _ _ _ h1 (by lia) ?_);simp only [Bool.not_true,zAx,zCf];exact y3 ⟨rfl,rfl,es,h2,by lia,λe' he'=>hsub e' (zBd _ he')⟩
  ·rintro⟨r1,r2⟩ s' ⟨hr,rfl,_⟩;simp only at hr;subst hr;exact y3 q| .aT,_,_,_,_,_,hd,_,_=>hd.elim| .bl _,_,_,_,_,_,hd,_,_=>hd.elim| .lst _,_,_,_,_,_,hd,_,_=>hd.elim theorem Et:∀(ds:List Dt) (d:Dt),d∈ds->∀(k:Nat) (v:Value) (A:zAI) (s:SI) (Q:Bool->SI->Prop),iC s.heap d v->pG d<=k->Q true s->zAB (zAC prog w) A (eqIsQuiet k v) Q E s
 | [],d,h=>nomatch h| e::es,d,h=>λk v A s Q hd hk q=>by
  by_cases z:e=d
  ·subst z;exact HV e k v A s Q hd hk q
  ·exact Et es d (by rcases wS.mp h with y | y; exact absurd y.symm z; exact y) k v A s Q hd hk q;end
end
noncomputable instance acj:DecidableEq Dt:=λ_ _=>Classical.propDecidable _
noncomputable def XQ (h:Heap)(d:Dt)(a:M1):Prop:=(∃b,d=.tup b)/\pG d<=8/\iC h d (.ref a)
noncomputable def De (prog:zAA) (w:zAD):HeapKind prog w Dt where
 is:=XQ;hash:=JI prog w;draws:=Dc;room:=λA=>A.units+8 < zAT;inj:=λg i=>iC.inj _ _ g.2.2 i.2.2;keeps:=λ{h K k a d o L J} x u v t=>⟨x.1,x.2.1,iC.keep (λb I j n e c q=>(t.2 b λz=>by subst z;rw[u] at e; cases e;rw[v] at q; cases q).trans e) _ x.2.2⟩;pyHash:=λD f h=>K7 _ _ _ _ _ f.2.2 (by have:=f.2.1; lia) h;eqBool:=λ{A E s x y a b Q} D g i h=>by obtain⟨F,G⟩:=iC.reads x g.2.2;obtain⟨r,B⟩:=iC.reads y i.2.2;have m:=iC.iZ x g.2.2;have p:=iC.iZ y i.2.2;have C:=HS x m;have H:=g.2.1;refine SeqAt.eqAt_reads x.py y.py A s _ _ F r G B (Dd x m) (Dd y p) (by rw[C]; lia) prog w E Q ?_;rw[show eqv x.py y.py=decide (x=y) by rw[Bool.eq_iff_iff,O4 x y m p,decide_eq_true_iff]];exact h
 quiet:=λf h=>HV _ 8 _ _ _ _ f.2.2 f.2.1 h
end TB
namespace L2
open PySem PySem.Spec PyProof.Rows
section
variable {κ:Type}[DecidableEq κ]
noncomputable def cU (kvs:List (κ × V))(k:κ):Option V:=(kvs.find? λa=>decide (a.1=k)).map (·.2)
noncomputable def putK (kvs:List (κ × V))(k:κ)(v:V):List (κ × V):= if (kvs.any λa=>decide (a.1=k))=true then kvs.map (λa=>if a.1=k then (a.1,v) else a) else kvs++[(k,v)]
theorem fk {k:κ}(e:p.1=k):cU (p::r) k=some p.2:=by simp [cU,zCb,e]
theorem fm {k:κ}(e:¬ p.1=k):cU (p::r) k=cU r k:=by simp [cU,zCb,e]
theorem pH (k:κ):∀kvs:List (κ × V),(kvs.any λa=>decide (a.1=k))=(cU kvs k).isSome
 | []=>rfl| p::r=>by
  rw[List.any_cons];by_cases e:p.1=k;·simp only [fk e,zAa e,Bool.true_or,Option.isSome_some]
  ·rw[fm e,zAp e]; exact pH k r
theorem Eu (k j:κ)(y:V):∀kvs:List (κ × V),cU (kvs.map λa=>if a.1=k then (a.1,y) else a) j=(cU kvs j).map λx=>if j=k then y else x
 | []=>rfl| p::r=>by
  have b:=Eu k j y r;rw[zA2];by_cases h:p.1=k
  ·rw[u1 h];by_cases e:p.1=j;·rw[fk (p:=(p.1,y)) e,fk e,map_some,u1 (e.symm.trans h)]
   ·rw[fm (p:=(p.1,y)) e,fm e,b]
  ·rw[xL h];by_cases e:p.1=j;·rw[fk e,fk e,map_some,xL (by ext)]
   ·rw[fm e,fm e,b]
theorem B9 (k j:κ)(y:V):∀kvs:List (κ × V),cU kvs k=none->cU (kvs++[(k,y)]) j=if j=k then some y else cU kvs j
 | [],_=>by
  by_cases e:k=j;·rw[u1 e.symm]; exact fk e
  ·rw[xL (by grind)]; exact fm e| p::r,a=>by
  rw[List.cons_append];have b:¬ p.1=k:=λz=>by rw[fk z] at a; ext
  rw[fm b] at a;have c:=B9 k j y r a;by_cases e:p.1=j;·rw[fk e,fk e,xL (by ext)]
  ·rw[fm e,fm e,c]
theorem yL (kvs:List (κ × V))(k j:κ)(y:V):cU (putK kvs k y) j=if j=k then some y else cU kvs j:=by
 unfold putK;by_cases a:(kvs.any λb=>decide (b.1=k))=true
 ·rw[u1 a,Eu];rw[pH] at a;by_cases e:j=k
  ·obtain⟨x,c⟩:=zBz.mp a;ext
  ext
 ·rw[xL a];refine B9 k j y kvs ?_;rw[pH] at a;ext
theorem q7 (kvs:List (κ × V))(k:κ)(v:V):(putK kvs k v).length<=kvs.length+1:=by
 unfold putK;split;·rw[yB]; simp
 ·rw[zAm,zCp,List.length_nil]; simp
theorem fU.qE (r:fU o u):o.isSome=u.isSome:=by cases o with
 | none=>cases u with| none=>rfl| some _=>exact (show False from r).elim
 | some _=>cases u with| none=>exact (show False from r).elim| some _=>rfl
theorem fU.getD (r:fU o u)(a:RelV d d'):RelV (o.getD d) (u.getD d'):=by cases o with
 | none=>cases u with| none=>symm| some _=>exact (show False from r).elim
 | some _=>cases u with| none=>exact (show False from r).elim| some _=>symm
theorem KV.val (r:KV kvs vs)(k:κ):fU (cU kvs k) (zEI vs k):=by induction r with| nil=>exact True.intro| @cons p q g a h t f=>
  obtain⟨d,i⟩:=h;by_cases e:p.1=k
  ·have c:=d.symm.trans e;have b:zEI (q::a) k=some q.2:=by simp [zEI,zCb,c]
   rw[fk e,b]; symm
  ·have c:¬ q.1=k:=λz=>e (d.trans z);have b:zEI (q::a) k=zEI a k:=by simp [zEI,zCb,c]
   rw[fm e,b]; symm
theorem KV.any (r:KV kvs vs)(k:κ):(kvs.any λa=>decide (a.1=k))=vs.any λa=>decide (a.1=k):=by induction r with| nil=>rfl| cons h t b=>ext
theorem KV.repl (r:KV kvs vs)(k:κ)(c:RelV y u) : KV (kvs.map λa=>if a.1=k then (a.1,y) else a) (vs.map λa=>if a.1=k then (a.1,u) else a):=by induction r with| nil=>exact .nil| @cons p q e d h t b=> refine .cons ?_ b;grind
theorem KV.put (r:KV kvs vs)(k:κ)(a:RelV y u):KV (putK kvs k y) (stored vs k u):=by
 unfold putK stored;rw[r.any k];by_cases e:(vs.any λb=>decide (b.1=k))=true;·rw[u1 e,u1 e]; exact r.repl k a
 ·rw[xL e,xL e]; exact Paired.snoc r ⟨rfl,a⟩
theorem KV.keys {vs:List (κ × Value)}(r:KV kvs vs):kvs.map (·.1)=vs.map (·.1):=by induction r with| nil=>rfl| cons h t a=>ext
theorem KV.length {vs:List (κ × Value)}(r:KV kvs vs):kvs.length=vs.length:=Paired.length r
end
theorem zW (r:RelV (kV k) u):(bN P w).is k u=true:=by cases k with| inl i=>obtain⟨t,e⟩:=(show ∃t,u=Value.int i t from r); subst e; exact xX P w i t| inr x=>obtain⟨t,e⟩:=(show ∃t,u=Value.str x t from r); subst e; exact Gr P w x t
theorem B_:∀{ks:List Key} {us:List Value},Vals (ks.map kV) us->ItemsAre (bN P w) ks us| [],_,r=>by cases r; exact .nil| k::ks,_,r=>by cases r with| cons h t=>exact .cons (zW h) (B_ t)
abbrev KT (H:Hp):List (List Key × V)->List (List Key × M1 × Value)->Prop:=Paired λp q=>p.1=q.1/\H q.2.1=some (.tup (p.1.map kV))/\RelV p.2 q.2.2
theorem KT.val (r:KT H kvs xs)(k:List Key):fU (cU kvs k) ((zAY xs k).map (·.2)):=by induction r with| nil=>exact True.intro| @cons p q g a h t f=>
  obtain⟨d,_,i⟩:=h;by_cases e:p.1=k
  ·have c:=d.symm.trans e;have b:zAY (q::a) k=some q.2:=by simp [zAY,zCb,c]
   rw[fk e,b]; symm
  ·have c:¬ q.1=k:=λz=>e (d.trans z);have b:zAY (q::a) k=zAY a k:=by simp [zAY,zCb,c]
   rw[fm e,b]; symm
theorem KT.repl (r:KT H kvs xs)(k:List Key)(d:RelV y u) : KT H (kvs.map λa=>if a.1=k then (a.1,y) else a) (xs.map (putAt k u)):=by induction r with| nil=>exact .nil| @cons p q e c h t b=> refine .cons ?_ b;unfold putAt;grind
theorem KT.put (r:KT H kvs xs)(k:List Key)(d:H b=some (.tup (k.map kV)))(a:RelV y u) : KT H (putK kvs k y) (zCR xs k b u):=by
 have e:(kvs.any λc=>decide (c.1=k))=(zAY xs k).isSome:=by rw[pH,(r.val k).qE,isSome_map]
 unfold putK zCR;rw[e];by_cases q:(zAY xs k).isSome=true;·rw[u1 q,u1 q]; exact r.repl k a
 ·rw[xL q,xL q]; exact Paired.snoc r (by ext)
theorem KT.keeps (r:KT H kvs xs)(a:∀b ys,H b=some (.tup ys)->H' b=some (.tup ys)):KT H' kvs xs:= Paired.MH r (by ext)
section
variable {P:zAA}{w:zAD}{H:Hp}{h:Heap}{a:M1}
theorem O5 (b:fO P w H h)(e:Rd H a u):a_ P w H h a u:=e.ok b
theorem xF (b:fO P w H h)(e:Rd H a (.dK kvs)):kvs.length<=PK/\(a == zAR)=false/\∃vs,KV kvs vs/\h.DictOf (bN P w) a vs:= show a_ P w H h a _ from O5 b e
theorem Df (b:fO P w H h)(e:H a=some (.dK kvs)):kvs.length<=PK/\(a == zAR)=false/\∃vs,KV kvs vs/\h.DictOf (bN P w) a vs:=xF b (.inl e)
theorem vR (c:fO P w H h)(e:H a=some (.tup (ks.map kV))):(zEA (bN P w)).is h ks a:=by obtain⟨_,b,r,o,f,g,n,d⟩:=(show a_ P w H h a _ from c a _ e);exact⟨o,b.toArray,n,f,g,d,by simpa using B_ r⟩
theorem xG (d:fO P w H h)(e:Rd H a (.dT kvs)):kvs.length<=PK/\(a == zAR)=false/\ ∃xs,KT H kvs xs/\h.DictOfH (zEA (bN P w)) a xs:=by
 obtain⟨z,y,xs,r,o,s,n,k,j,i,u,f⟩:=(show a_ P w H h a _ from O5 d e);refine⟨z,y,xs,r,o,s,n,k,j,i,u,λx b=>?_,f⟩;have c:∀{l:List _} {m:List _},KT H l m->∀x∈m,(zEA (bN P w)).is h x.1 x.2.1:=by intro l m q;induction q with| nil=>intro x b; exact nomatch b| @cons p q A B v t g=>
   intro x b;rcases wS.mp b with e | b;·exact vR d (by ext)
   ·exact g x b
 exact c r x b
theorem VH (b:fO P w H h)(e:H a=some (.dT kvs)):kvs.length<=PK/\(a == zAR)=false/\ ∃xs,KT H kvs xs/\h.DictOfH (zEA (bN P w)) a xs:=xG b (.inl e)
end
noncomputable def mZ (H:Hp)(a:M1)(y:V)(r:Option V):Prop:=(∃c k,Rd H a (.dK c)/\y=kV k/\r=cU c k)\/∃c k b,Rd H a (.dT c)/\y=.ref b/\H b=some (.tup (k.map kV))/\r=cU c k
noncomputable def A4 (H:Hp)(a:M1)(y v:V)(H':Hp):Prop:=(∃c k,H a=some (.dK c)/\y=kV k/\c.length < PK/\H'=upd H a (.dK (putK c k v)))\/ ∃c k b,H a=some (.dT c)/\y=.ref b/\H b=some (.tup (k.map kV))/\c.length < PK/\H'=upd H a (.dT (putK c k v))
theorem mZ.k {H:Hp}{a:M1}{kvs:List (Key × V)}{k:Key}(e:H a=some (.dK kvs)):mZ H a (kV k) (cU kvs k):=.inl ⟨kvs,k,.inl e,rfl,rfl⟩
theorem A4.k {H:Hp}{a:M1}{kvs:List (Key × V)}{k:Key}{v:V}(e:H a=some (.dK kvs))(b:kvs.length < PK):A4 H a (kV k) v (upd H a (.dK (putK kvs k v))):=.inl ⟨kvs,k,e,rfl,b,rfl⟩
section
variable {X:Cx}{pins:zzC}{σ:St}{H:Hp}{s:SI}{a:M1}{y v:V}{u r:Value}{o:Option V}{A:zAI}{E:zzE}
theorem Inv.big (I:Inv X pins σ H s):zAR < s.heap.objs.size:=by have h:=(I.mod.glob.keeps I.bk).lt;exact lt_trans (by decide) h
theorem K8 (C:A.units+1 < zAT)(I:Inv X pins σ H s)(g:mZ H a y (some v))(t:RelV y u)(h:∀f s',Inv X pins σ H s'->RelV v f->Q f s') : zAB (zAC X.prog X.w) A (zDX (.ref a) u) Q E s:=by
 rcases g with ⟨i,k,e,q,l⟩ | ⟨i,k,b,e,q,w,l⟩
 ·subst q;obtain⟨z,x,F,c,m⟩:=xF I.hok e;obtain⟨f,n,d⟩:=fU.some_of (by rw[l]; exact c.val k);exact wpAny_getItem_of (zW t) m.mapOf n (h f _ (I.tok _) d)
 ·subst q;cases (show u=Value.ref b from t);obtain⟨z,x,D,c,m⟩:=xG I.hok e;obtain⟨f,n,d⟩:=fU.some_of (by rw[l]; exact c.val k);obtain⟨p,B,j⟩:=u3.mp n;refine wpAny_getItem_heap (zBW C) (vR I.hok w) m B ?_;rw[j];exact h f _ (I.tok _) d
theorem QV {Q:zzE}(p:A.units+1 < zAT)(I:Inv X pins σ H s)(g:mZ H a y o)(m:RelV y u)(h:∀s',Inv X pins σ H s'->Q (.bool (!o.isSome)) s') : zAB (zAC X.prog X.w) A (zAO .NotIn u (.ref a)) Q E s:=by
 rcases g with ⟨i,k,e,j,l⟩ | ⟨i,k,b,e,j,n,l⟩
 ·subst j;obtain⟨z,d,w,c,f⟩:=xF I.hok e;refine wpAny_notIn_of (zW m) d f.mapOf ?_;rw[<-(c.val k).qE,<-l];exact h _ (I.tok _)
 ·subst j;cases (show u=Value.ref b from m);obtain⟨z,d,t,c,f⟩:=xG I.hok e;refine wpAny_notIn_heap (zBW p) (vR I.hok n) d f ?_;have q:=(c.val k).qE;rw[isSome_map] at q;rw[<-q,<-l];exact h _ (I.tok _)
theorem xH (I:Inv X pins σ H s)(h:eB (H a))(f:Heap.SameBut a s.heap h')(g:∃q,h'.get? a=some q)(d:a_ X.prog X.w (upd H a c) h' a c) : Inv X pins σ (upd H a c) { s with heap:=h',toks:=t' }:= I.write h (.inl rfl) (λb q e z=>(f.2 b e).trans z) g d
theorem K9 (z:kvs.length<=PK)(c:(a == zAR)=false)(b:KV kvs vs)(dd:h'.DictOf (bN P w) a vs) : a_ P w H' h' a (.dK kvs):=⟨z,c,vs,b,dd⟩
theorem K_ {H':Hp}{Q:Unit->SI->Prop}(S:A.units+1 < zAT)(I:Inv X pins σ H s)(g:A4 H a y v H')(B:RelV y u)(C:RelV v r)(h:∀s',Inv X pins σ H' s'->Q () s') : zAB (zAC X.prog X.w) A (setItem (.ref a) u r) Q E s:=by
 rcases g with ⟨d,k,e,n,l,m⟩ | ⟨d,k,b,e,n,F,l,m⟩
 ·subst n m;obtain⟨z,p,P,f,w⟩:=Df I.hok e;have K:P.length<=PK:=by rw[<-f.length]; symm
  have x:(putK d k v).length<=PK:=by have:=q7 d k v; lia
  refine wpAny_setItem_pairs (zW B) w λD i t=>h _ ?_;have T:∃q,D.get? a=some q:=let ⟨q,_,_,j,_⟩:=i; ⟨q,j⟩;exact xH I (by rw[e]; exact True.intro) t T (K9 x p (f.put k C) i)
 ·subst n m;cases (show u=Value.ref b from B);obtain⟨z,p,N,f,w⟩:=VH I.hok e;have K:N.length<=PK:=by rw[<-Paired.length f]; symm
  have x:(putK d k v).length<=PK:=by have:=q7 d k v; lia
  refine wpAny_setItem_heap (zBW S) (vR I.hok F) w λD i t=>h _ ?_;obtain⟨q,G,L,j,R,O,M,_,J⟩:=i;refine xH I (by rw[e]; exact True.intro) t ⟨q,j⟩ ⟨x,p,_,(f.put k F C).keeps λc W U=>?_,q,G,L,j,R,O,M,J⟩;rw[aA (by grind)];symm
end
section
variable {X:Cx}{pins:zzC}{σ:St}{H:Hp}{s:SI}{a:M1}{kvs:List (Key × V)}{k:Key}{u:Value}{A:zAI}{E:zzE}
end
noncomputable def Nu (i:zAU):Prop:=∀a b,zDu i false a b=operate [a,b] (zDX a b)
theorem HW {T id:String}(m:zDF (.type T) "__getitem__"=pure (some (.builtin id))) (l:Nu a)(h:zAB (zAC prog w) A (zAP b env) (λo g=>zAB (zAC prog w) A (zAP a env) (λi c=>c.TypeIs o T/\zAB (zAC prog w) A (zDX o i) Q E c) E g) E s) : zAB (zAC prog w) A (zAP (.Subscript b a e) env) Q E s:=by
 refine zEF (zB1 h (λo g n=>zB1 n (λi c d=>?_) λ_ _ x=>x) λ_ _ x=>x);obtain⟨p,d⟩:=d;refine yA ?_;refine yA (zCU p m ?_);have f:zAB (zAC prog w) A (zDu a false o i) (λr j=>zAB (zAC prog w) A (letTemporaryGo b o r >>= λ_=>pure r) Q E j) E c:=by rw[l o i];exact wpAny_operating (zB1 d (λr j k=>yA (wpAny_letTemporaryGo (y3 k))) λ_ _ x=>x)
 first| exact y3 (yA f)
theorem Gz (I:Inv X c σ H s)(g:mZ H a y o):s.TypeIs (.ref a) "dict":=by
 rcases g with ⟨d,k,e,_,_⟩ | ⟨d,k,b,e,_,_,_⟩
 ·obtain⟨_,_,i,_,f⟩:=xF I.hok e;exact f.typeIs
 ·obtain⟨_,_,h,_,f⟩:=xG I.hok e;exact f.typeIs
noncomputable def Dg (d e:TE):TE:=fun σ H Q=>d σ H λx c=>e σ c λy b=>∃a v,x=.ref a/\mZ b a y (some v)/\Q v b
noncomputable def A5 (d e:TE):TE:=fun σ H Q=>d σ H λy c=>e σ c λx b=>∃a o,x=.ref a/\mZ b a y o/\Q (.bl (!o.isSome)) b
noncomputable def O6 (d e c:TE):TS:=λD σ H=>c σ H λv g=>d σ g λx h=>e σ h λy f=>∃a b,x=.ref a/\A4 f a y v b/\D.nx σ b
section
variable {X:Cx}{o i e value:zAU}{pos pos' tpos:Pos}{td ty tv:TE}
theorem HX (D:X.A.units+1 < zAT)(k:PE X o td)(r:PE X i ty)(n:Nu i):PE X (.Subscript o i pos) (Dg td ty):=by intro b s σ H Q I h;refine HW PySem.F.slot_dict_getitem.lookup n (aM (k b s σ H _ I h) λu j ⟨x,l,B,p,m⟩=>aM (r b j σ l _ B m) λG J w=>?_);obtain⟨y,C,f,t,a,v,z,g,q⟩:=w;subst z;obtain rfl:u=Value.ref a:=p;exact⟨Gz f g,K8 D f g t λE F A c=>⟨v,C,A,c,q⟩⟩
theorem La (v:X.A.units+1 < zAT)(n:PE X i ty)(q:PE X o td):PC X .NotIn i o (A5 ty td):=by intro b s σ H Q I h;refine aM (n b s σ H _ I h) λA d ⟨y,r,m,c,j⟩=>aM (q b d σ r _ m j) λu B z=>?_;obtain⟨x,t,k,p,a,D,f,g,w⟩:=z;subst f;obtain rfl:u=Value.ref a:=p;exact QV v k g c λC l=>⟨.bl _,t,l,rfl,w⟩
theorem oW (K:X.A.units+1 < zAT)(k:PE X o td)(F:PE X i ty)(j:PE X value tv)(p:zBX value (some (.Subscript o i pos')) pos.line X.env=pure false) : PS X (.Assign [.Subscript o i pos'] value pos) (O6 td ty tv):=by intro b s σ H D I h;refine wpAny_Assign_Subscript (aM (j b s σ H _ I h) λr L ⟨v,l,B,n,m⟩=>aM (k b L σ l _ B m) λu J ⟨x,c,f,t,w⟩=>aM (F b J σ c _ f w) λN P d=>?_) p;obtain⟨y,O,z,A,a,G,C,g,E⟩:=d;subst C;obtain rfl:u=Value.ref a:=t;exact K_ K z g A n λM q=>⟨σ,G,q,E⟩
end
theorem Nv (h:Heap)(a:zAR < h.objs.size):a_ P w H (h.push { cls:=.type "dict",data:=.dict #[] }) h.objs.size (.dK []):=⟨zAd _,beq_eq_false_iff_ne.mpr (Ne.symm (zAe a)),[],.nil,Heap.DictOf.new h⟩
noncomputable def Lb:TE:=λ_ H Q=>∀p,H p=none->Q (.ref p) (upd H p (.dK []))
section
variable {X:Cx}{pos:Pos}
theorem pI:PE X (.Dict [] [] pos) Lb:=λa s σ H Q I h=> wpAny_Dict_empty ⟨.ref s.heap.objs.size,_,I.laid (λ_ _ q=>y4 _ q) (y8 _) (Nv s.heap I.big),rfl,h _ (I.hok.fresh (y8 _))⟩
end
structure M2 (X:Cx)(o:zAU)(m:Str)(apos:Pos)(e f:zAU)(cpos:Pos):Prop where
 base:zBC o m X.env (zAP o X.env)=zAP o X.env
 few:((zAW cpos (zAG [e,f] X.env)).all (λx=>!x.1)&&(zCF cpos (zAZ [] X.env)).all (λx=>x.1.isSome) &&decide (([e,f]:List zAU).length+([]:List zEB).length+(if ([]:List zEB).isEmpty then 0 else 1) < 30))=true
 line:(apos.endLine == cpos.line)=true
 trees:zAW cpos (zAG [e,f] X.env)=[(false,zAP e X.env),(false,zAP f X.env)]
noncomputable def V_ (H:Hp)(a:M1):Prop:=(∃b,Rd H a (.dK b))\/∃b,Rd H a (.dT b)
theorem Th (I:Inv X g σ H s)(d:V_ H a) : s.TypeIs (.ref a) "dict"/\(∀b,Value.ref a=.ref b->∃c,s.heap.get? b=some c/\c.dict=none)/\(a == zAR)=false:=by
 rcases d with ⟨k,e⟩ | ⟨k,e⟩
 ·obtain⟨_,h,m,_,f⟩:=xF I.hok e;refine⟨f.typeIs,λb q=>?_,h⟩;cases q;obtain⟨c,_,_,i,j,_⟩:=f;exact⟨c,i,j.2.1⟩
 ·obtain⟨_,h,l,_,f⟩:=xG I.hok e;refine⟨f.typeIs,λb q=>?_,h⟩;cases q;obtain⟨c,_,_,i,j,_⟩:=f;exact⟨c,i,j.2.1⟩
section
variable {X:Cx}{pins:zzC}{σ:St}{H:Hp}{s:SI}{a:M1}{y d:V}{u r:Value}{o:Option V}{A:zAI}{E:zzE}
theorem Ti (x:A.units+1 < zAT)(I:Inv X pins σ H s)(g:mZ H a y o)(p:RelV y u)(q:RelV d r)(h:∀t s',Inv X pins σ H s'->RelV (o.getD d) t->Q t s') : zAB (zAC X.prog X.w) A (call (.builtin "dict.get") [.ref a,u,r]) Q E s:=by
 rcases g with ⟨m,k,e,j,l⟩ | ⟨m,k,b,e,j,w,l⟩
 ·subst j;obtain⟨z,n,B,f,i⟩:=xF I.hok e;refine zDA zDd i.typeIs PySem.F.entry_dict_get (PySem.F.args_dict_get_3 _ _ _) (meets_dict_get_default _ a (zW p) n r) ⟨_,i.mapOf,h _ _ (I.tok _) ?_⟩;rw[l];exact (f.val k).getD q
 ·subst j;cases (show u=Value.ref b from p);obtain⟨z,n,v,f,i⟩:=xG I.hok e;refine zDA zDd i.typeIs PySem.F.entry_dict_get (PySem.F.args_dict_get_3 _ _ _) (meetsH_dict_get_default _ a b n r) ⟨zBW x,k,v,vR I.hok w,i,h _ _ (I.tok _) ?_⟩;rw[l];exact (f.val k).getD q
end
noncomputable def Lc (f e g:TE):TE:=fun σ H Q=>f σ H λx c=>∃a,x=.ref a/\V_ c a/\e σ c λy d=>g σ d λz b=>∃o,mZ b a y o/\Q (o.getD z) b
section
variable {X:Cx}{o e f:zAU}{apos cpos:Pos}{td ty tx:TE}
theorem m5 (O:X.A.units+1 < zAT)(N:PE X o td)(M:PE X e ty)(J:PE X f tx)(m:M2 X o "get" apos e f cpos):PE X (.Call (.Attribute o "get" apos) [e,f] [] cpos) (Lc td ty tx):=by intro i s σ H Q I h;refine zDM m.base m.few m.line zC1 zDd PySem.F.type_dict_get (aM (N i s σ H _ I h) λu l n=>?_);obtain⟨x,p,k,B,a,F,d,q⟩:=n;subst F;obtain rfl:u=Value.ref a:=B;obtain⟨A,r,_⟩:=Th k d;refine⟨A,r,?_⟩;rw[m.trees];refine zDb rfl (zDg (zCs (aM (M i l σ p _ k q) λT K ⟨y,P,v,E,C⟩=> zCs (aM (J i K σ P _ v C) λR V ⟨z,t,G,D,S,g,L⟩=>Calls.spliced_nil ?_))));exact Ti O G g E D λU W w j=>⟨_,t,w,j,L⟩
end
section
variable {X:Cx}{pins:zzC}{σ:St}{H:Hp}{s:SI}{a:M1}{kvs:List (Key × V)}{A:zAI}{E:zzE}
end
section
variable {X:Cx}{pins:zzC}{σ:St}{H:Hp}{s:SI}{a:M1}{y:V}{u:Value}{A:zAI}{E:zzE}
end
section
variable {κ:Type}[DecidableEq κ]
theorem Nx {k:κ}(h:cU kvs k=none):¬ k∈kvs.map (·.1):=by intro m;have q:(kvs.any λa=>decide (a.1=k))=true:=List.any_eq_true.mpr (by ext);rw[pH] at q;ext
end
open TB
theorem k_ {K:zzA}{H:Hp}{c q:M1}{xs:List V}{o:HO}(b:eB (H c))(h:aG K H q xs):aG K (upd H c o) q xs:=by
 rcases h with (h | ⟨u,h⟩) | h;·exact .inl (.inl (by rw[aA (λz=>by subst z; rw[h] at b; symm)]; symm))
 ·exact .inl (.inr ⟨u,by rw[aA (λz=>by subst z; rw[h] at b; symm)]; symm⟩)
 ·exact .inr h
mutual theorem Ew {K:zzA}{H H':Hp}(k:∀q xs,aG K H q xs->aG K H' q xs):∀(d:Dt) {v:V},iZ d=true->Rep K H d v->Rep K H' d v| .int i,v,_,h=>by unfold Rep at h ⊢; exact h| .str x,v,_,h=>by unfold Rep at h ⊢; exact h| .tup ds,v,n,h=>by unfold Rep at h ⊢;obtain⟨a,xs,rfl,q,r⟩:=h;exact⟨a,xs,rfl,k _ _ q,zX k ds n r⟩| .aT,_,n,_=>nomatch n| .bl _,_,n,_=>nomatch n| .lst _,_,n,_=>nomatch n theorem zX {K:zzA}{H H':Hp}(k:∀q xs,aG K H q xs->aG K H' q xs):∀(ds:List Dt) {vs:List V},gO ds=true->aK K H ds vs->aK K H' ds vs| [],vs,_,h=>by unfold aK at h ⊢; exact h| d::ds,vs,n,h=>by have n':iZ d=true/\gO ds=true:=zBp.mp n;unfold aK at h ⊢;obtain⟨v,r,rfl,h1,h2⟩:=h;exact⟨v,r,rfl,Ew k d n'.1 h1,zX k ds n'.2 h2⟩;end
section
variable {X:Cx}{pins:zzC}{σ:St}{H:Hp}{s:SI}
mutual theorem Ld (I:Inv X pins σ H s):∀(d:Dt) {x:V} {u:Value},iZ d=true->Rep X.K H d x->RelV x u->iC s.heap d u| .int i,x,u,_,h,r=>by unfold Rep at h; subst h; exact r| .str z,x,u,n,h,r=>by unfold Rep at h; subst h; exact⟨n,r⟩| .tup ds,x,u,n,h,r=>by unfold Rep at h;obtain⟨a,xs,rfl,q,rr⟩:=h;cases r;obtain⟨its,r1,⟨o,ho,hc,n',hd⟩,_⟩:=I.tuple q;exact⟨a,o,its.toArray,n',rfl,ho,hc,hd,by simpa using HY I ds n rr r1⟩| .aT,_,_,n,_,_=>nomatch n| .bl _,_,_,n,_,_=>nomatch n| .lst _,_,_,n,_,_=>nomatch n theorem HY (I:Inv X pins σ H s):∀(ds:List Dt) {xs:List V} {us:List Value},gO ds=true->aK X.K H ds xs->Vals xs us->fW s.heap ds us| [],xs,us,_,h,r=>by unfold aK at h; subst h; cases r; rfl| d::ds,xs,us,n,h,r=>by have n':iZ d=true/\gO ds=true:=zBp.mp n;unfold aK at h;obtain⟨x,xr,rfl,q,t⟩:=h;cases r with| cons rx S_=>exact⟨_,_,rfl,Ld I d n'.1 q rx,HY I ds n'.2 t S_⟩;end
end
noncomputable def NK (K:zzA)(H:Hp)(d:Dt)(a:M1):Prop:=(∃c,d=.tup c)/\pG d<=8/\iZ d=true/\Rep K H d (.ref a)
theorem NK.of {K:zzA}(h:aG K H a xs)(r:aK K H b xs)(d:gO b=true)(e:gA b<=7):NK K H (.tup b) a:=⟨⟨b,rfl⟩,zCh e,d,by unfold Rep; exact⟨a,xs,rfl,h,r⟩⟩
theorem NK.tups {K:zzA}(h:NK K H d a)(k:∀q xs,aG K H q xs->aG K H' q xs):NK K H' d a:=⟨h.1,h.2.1,h.2.2.1,Ew k _ h.2.2.1 h.2.2.2⟩
theorem NK.key (I:Inv X b σ H s)(h:NK X.K H d a):(De X.prog X.w).is s.heap d a:=⟨h.1,h.2.1,Ld I d h.2.2.1 h.2.2.2 rfl⟩
noncomputable def Ey (P:zAA)(w:zAD)(h:Heap)(S:M1)(b:List (Dt × M1 × Value)):Prop:=(S == zAR)=false/\∃o a c,h.get? S=some o/\o.ExactDict/\o.data=.dict a c/\a.toList=b.map (entryOfKey (De P w))/\(b.map (·.1)).Nodup
noncomputable def Dh (P:zAA)(w:zAD)(S:M1)(a:List (Dt × M1 × Value)):HO:=.ext λh=>Ey P w h S a
theorem yM (x:Ey P w h S d):a_ P w H h S (Dh P w S d):=by obtain⟨l,o,n,p,g,r⟩:=id x;refine⟨x,⟨o,g⟩,λj m y k=>?_⟩;obtain⟨e,i,b,a,c,f⟩:=y;exact⟨e,i,b,a,k _ c,f⟩
noncomputable def bG (K:zzA)(P:zAA)(w:zAD)(H:Hp)(a:M1)(m:Dt->Option V)(n:Nat):Prop:= ∃b:List (Dt × M1 × Value),H a=some (Dh P w a b)/\b.length<=n/\(∀x∈b,NK K H x.1 x.2.1)/\∀k,fU (m k) ((zAY b k).map (·.2))
section
variable {K:zzA}{P:zAA}{w:zAD}{H H':Hp}{a:M1}{m:Dt->Option V}{n:Nat}
theorem bG.mut (h:bG K P w H a m n):eB (H a):=by obtain⟨b,e,_⟩:=h;rw[e];exact True.intro
theorem bG.keep (h:bG K P w H a m n)(e:H' a=H a)(k:∀q xs,aG K H q xs->aG K H' q xs):bG K P w H' a m n:=by obtain⟨f,i,d,b,g⟩:=h;exact⟨f,by ext,d,λx c=>(b x c).tups k,g⟩
theorem bG.same (h:bG K P w H a m n)(s:ah H H'):bG K P w H' a m n:=by refine h.keep ?_ λq c h=>s.tup h;obtain⟨d,b,_⟩:=h;rw[b];exact s _ _ b
theorem bG.le (h:bG K P w H a m n)(c:n<=b):bG K P w H a m b:=by obtain⟨f,i,d,e,g⟩:=h;exact⟨f,i,zAu d c,e,g⟩
end
theorem A6 (d:List (Dt × M1 × Value))(k:Dt)(v:Value)(a:Dt):(zAY (d.map (putAt k v)) a).map (·.2)=if a=k then (zAY d a).map λ_=>v else (zAY d a).map (·.2):=by induction d with| nil=>simp [zAY]| cons x g e=>
  unfold zAY at e ⊢;rw[zA2,zCb,zCb];have f:(putAt k v x).1=x.1:=by unfold putAt; split <;> rfl
  rw[f];by_cases c:x.1=a
  ·rw[zAa c];by_cases b:a=k
   ·rw[u1 b];simp [putAt,c,b]
   ·rw[xL b];have:¬ x.1=k:=λz=>b (by rw[<-c,z]);simp [putAt,this]
  ·rw[zAp c];exact e
theorem Ca (c:List (Dt × M1 × Value))(k:Dt)(b:M1)(v:Value)(a:Dt):(zAY (zCR c k b v) a).map (·.2)=if a=k then some v else (zAY c a).map (·.2):=by
 unfold zCR;split
 ·rename_i h;rw[A6];split
  ·rename_i e;subst e;obtain⟨p,f⟩:=zBz.mp h;rw[f]; rfl
  ·rfl
 ·rename_i h;have d:zAY c k=none:=by cases e:zAY c k with| none=>rfl| some p=>rw[e] at h; exact absurd rfl h
  unfold zAY at d ⊢;rw[List.find?_append];by_cases e:a=k
  ·subst e;rw[Option.map_eq_none_iff.mp d];simp
  ·rw[xL e];have:¬ k=a:=λz=>e z.symm;simp [this]
noncomputable def yN (K:zzA)(P:zAA)(w:zAD)(H:Hp)(a:M1)(y:V)(r:Option V):Prop:=∃m n d b,bG K P w H a m n/\y=.ref b/\NK K H d b/\r=m d
section
variable {X:Cx}{pins:zzC}{σ:St}{H:Hp}{s:SI}{a:M1}{y v:V}{u r:Value}{o:Option V}{A:zAI}{E:zzE}{m:Dt->Option V}{n:Nat}
theorem m6 (I:Inv X pins σ H s)(h:bG X.K X.prog X.w H a m n):(a == zAR)=false/\∃b,s.heap.DictOfH (De X.prog X.w) a b/\H a=some (Dh X.prog X.w a b)/\b.length<=n/\(∀x∈b,NK X.K H x.1 x.2.1)/\∀k,fU (m k) ((zAY b k).map (·.2)):=by refine hold λt c=>?_;obtain⟨b,e,j,d,f⟩:=h;obtain⟨⟨B,o,C,z,l,g,q,w,i⟩,_⟩:=(show a_ X.prog X.w H s.heap a _ from I.hok a _ e);refine c ?_;exact⟨B,b,⟨o,C,z,l,g,q,w,λx p=>(d x p).key I,i⟩,e,j,d,f⟩
theorem zY (b:A.units+9 < zAT):(De X.prog X.w).room A.in1:=by symm
theorem Le (z:A.units+9 < zAT)(I:Inv X pins σ H s)(g:yN X.K X.prog X.w H a y (some v))(w:RelV y u)(h:∀c s',Inv X pins σ H s'->RelV v c->Q c s') : zAB (zAC X.prog X.w) A (zDX (.ref a) u) Q E s:=by obtain⟨m,n,d,b,t,rfl,x,e⟩:=g;cases (show u=Value.ref b from w);obtain⟨B,C,q,_,_,_,i⟩:=m6 I t;have:=i d;rw[<-e] at this;obtain⟨c,l,j⟩:=fU.some_of this;obtain⟨p,k,f⟩:=u3.mp l;refine wpAny_getItem_heap (zY z) (x.key I) q k ?_;rw[f];exact h c _ (I.tok _) j
theorem ua (b:∀k,fU (m k) ((zAY c k).map (·.2)))(d:Dt):(zAY c d).isSome=(m d).isSome:=by have q:=(b d).qE;ext
theorem QW {Q:zzE}(k:A.units+9 < zAT)(I:Inv X pins σ H s)(g:yN X.K X.prog X.w H a y o)(e:RelV y u)(h:∀s',Inv X pins σ H s'->Q (.bool (!o.isSome)) s') : zAB (zAC X.prog X.w) A (zAO .NotIn u (.ref a)) Q E s:=by obtain⟨m,n,d,b,l,rfl,i,rfl⟩:=g;cases (show u=Value.ref b from e);obtain⟨j,p,f,_,_,_,c⟩:=m6 I l;refine wpAny_notIn_heap (zY k) (i.key I) j f ?_;rw[ua c];exact h _ (I.tok _)
noncomputable def Tj (K:zzA)(P:zAA)(w:zAD)(H:Hp)(a:M1)(y v:V)(Q:Hp->Prop):Prop:=∃m n d b,bG K P w H a m n/\n < PK/\y=.ref b/\NK K H d b/\ ∀o,bG K P w (upd H a o) a (λk=>if k=d then some v else m k) (n+1)->Q (upd H a o)
theorem Lf {R:Hp->Prop}{Q:Unit->SI->Prop}(W:A.units+9 < zAT)(I:Inv X pins σ H s)(g:Tj X.K X.prog X.w H a y v R)(L:RelV y u)(rv:RelV v r)(h:∀H' s',Inv X pins σ H' s'->R H'->Q () s') : zAB (zAC X.prog X.w) A (setItem (.ref a) u r) Q E s:=by
 obtain⟨m,n,d,b,D,Z,rfl,C,k⟩:=g;cases (show u=Value.ref b from L);have i:=D.mut;obtain⟨K,N,M,eH,hl,f,p⟩:=m6 I D;refine wpAny_setItem_heap (zY W) (C.key I) M λU w F=>?_;obtain⟨q,G,S,c,Y,P,T,_,J⟩:=w;have t:Ey X.prog X.w U a _:=⟨K,q,G,S,c,Y,P,T,J⟩;refine h _ _ (xH I i F ⟨q,c⟩ (yM t)) (k _ ⟨zCR N d b r,ao,?_,λx j=>?_,λl=>?_⟩)
 ·unfold zCR;grind
 ·unfold zCR at j;split at j
  ·obtain⟨z,O,rfl⟩:=q0.mp j;have:=f z O;unfold putAt;split <;> exact this.tups λq B c=>k_ i c
  ·rcases w8.mp j with z | z;·exact (f x z).tups λq B c=>k_ i c
   ·rw[zAc.mp z];exact C.tups λq B c=>k_ i c
 ·rw[Ca];show fU (if l=d then some v else m l) _;by_cases e:l=d;·rw[u1 e,u1 e]; symm
  ·rw[xL e,xL e]; exact p l
end
noncomputable def JK (K:zzA)(P:zAA)(w:zAD)(f e:TE):TE:=fun σ H Q=>f σ H λx d=>e σ d λy c=>∃a v,x=.ref a/\yN K P w c a y (some v)/\Q v c
noncomputable def Tn (K:zzA)(P:zAA)(w:zAD)(c:Bool)(f g:TE):TE:=fun σ H Q=>f σ H λy e=>g σ e λx d=>∃a o,x=.ref a/\yN K P w d a y o/\Q (.bl (c ^^ o.isSome)) d
noncomputable def JL (K:zzA)(P:zAA)(w:zAD)(d e c:TE):TS:=λD σ H=>c σ H λv i=>d σ i λx h=>e σ h λy f=>∃a,x=.ref a/\Tj K P w f a y v λg=>D.nx σ g
noncomputable def Dj (K:zzA)(P:zAA)(w:zAD):TE:=λ_ H Q=>∀p o,H p=none->bG K P w (upd H p o) p (λ_=>none) 0->Q (.ref p) (upd H p o)
section
variable {X:Cx}{o i e value:zAU}{pos pos' tpos:Pos}{td ty tv:TE}(K:zzA)(P:zAA)(w:zAD)
theorem Ez {o:Option V}(I:Inv X c σ H s)(g:yN X.K X.prog X.w H a y o):s.TypeIs (.ref a) "dict":=by obtain⟨m,n,d,b,h,_⟩:=g;obtain⟨k,j,f,_⟩:=m6 I h;exact f.typeIs
theorem xJ (E:X.A.units+9 < zAT)(l:PE X o td)(B:PE X i ty)(p:Nu i)(q:X.K=K:=by rfl)(F:X.prog=P:=by rfl)(G:X.w=w:=by rfl):PE X (.Subscript o i pos) (JK K P w td ty):=by subst q; subst F; subst G;intro b s σ H Q I h;refine HW PySem.F.slot_dict_getitem.lookup p (aM (l b s σ H _ I h) λu k ⟨x,m,z,r,n⟩=>aM (B b k σ m _ z n) λM L j=>?_);obtain⟨y,f,d,A,a,v,C,g,t⟩:=j;subst C;obtain rfl:u=Value.ref a:=r;exact⟨Ez d g,Le E d g A λN J D c=>⟨v,f,D,c,t⟩⟩
theorem oX (B:X.A.units+9 < zAT)(C:PE X i ty)(k:PE X o td)(n:X.K=K:=by rfl)(t:X.prog=P:=by rfl)(q:X.w=w:=by rfl):PC X .NotIn i o (Tn K P w true ty td):=by subst n; subst t; subst q;intro b s σ H Q I h;refine aM (C b s σ H _ I h) λG D ⟨y,l,r,f,m⟩=>aM (k b D σ l _ r m) λu F v=>?_;obtain⟨x,d,j,p,a,E,z,g,c⟩:=v;subst z;obtain rfl:u=Value.ref a:=p;rw[Bool.true_xor] at c;exact QW B j g f λJ A=>⟨.bl _,d,A,rfl,c⟩
theorem uc (O:X.A.units+9 < zAT)(l:PE X o td)(C:PE X i ty)(k:PE X value tv)(q:zBX value (some (.Subscript o i pos')) pos.line X.env=pure false)(z:X.K=K:=by rfl)(E:X.prog=P:=by rfl)(Q:X.w=w:=by rfl) : PS X (.Assign [.Subscript o i pos'] value pos) (JL K P w td ty tv):=by subst z; subst E; subst Q;intro b s σ H D I h;refine wpAny_Assign_Subscript (aM (k b s σ H _ I h) λr d ⟨v,m,L,rv,n⟩=>aM (l b d σ m _ L n) λu N ⟨x,c,j,A,B⟩=>aM (C b N σ c _ j B) λR U F=>?_) q;obtain⟨y,T,J,f,a,G,g⟩:=F;subst G;obtain rfl:u=Value.ref a:=A;exact Lf O J g f rv λt S p M=>⟨σ,t,p,M⟩
theorem qF (f:X.K=K:=by rfl)(g:X.prog=P:=by rfl)(d:X.w=w:=by rfl):PE X (.Dict [] [] pos) (Dj K P w):=by intro b s σ H Q I h;have a:Ey X.prog X.w (s.heap.push { cls:=.type _,data:=.dict _ }) s.heap.objs.size []:=⟨beq_eq_false_iff_ne.mpr (Ne.symm (zAe I.big)),_,#[],0,wE _ rfl,⟨rfl,rfl,rfl⟩,rfl,rfl,nodup_nil⟩;exact wpAny_Dict_empty ⟨.ref s.heap.objs.size,_,I.laid (λ_ _ q=>y4 _ q) (y8 _) (yM a),rfl,h _ _ (I.hok.fresh (y8 _)) ⟨[],ao,y8 _,λx c=>absurd c (by simp),λk=>True.intro⟩⟩
end
end L2
namespace TB
open PySem PySem.Spec PySem.W PyProof.Rows
section
variable {prog:zAA}{w:zAD}{A:zAI}{E:zzE}{s:SI}
set_option maxHeartbeats 1000000 in theorem Cb {r:Value}{C:Heap->zzD->Prop}{Q:zzE}(S:A.handled=none)(col:∀(D:zAI) (G:zzE) (R:List Value->SI->Prop),D.handled=none->(∀(a:Heap) (t:Nat) (d:zzD),(∀b o,s.heap.get? b=some o->a.get? b=some o)->C a d->R (d.map rf) { s with heap:=a,toks:=t })->zAB (zAC prog w) D (collect r) R G s)(J:∀a d,C a d->(∀p∈d,zAJ (zAN prog w) a p.2 p.1)/\(∀p∈d,p.2≠[])/\(d.map (·.2)).Nodup/\d.length < 100000)(h:∀(a:Heap) (d:zzD) (h':Heap) (t:Nat) (l:M1) (f:zzD) (c:Nat),C a d->(∀b o,s.heap.get? b=some o->a.get? b=some o)->(∀b o,a.get? b=some o->h'.get? b=some o)->a.get? l=none->h'.get? l=some (zAS "list" (f.map rf).toArray c)->f.Perm d->f.Pairwise (λp q=>HT.lexLt p.2 q.2=true)->Q (.ref l) { s with heap:=h',toks:=t }) : zAB (zAC prog w) A (call (.builtin "sorted") [r]) Q E s:=by
 refine Calls.call_function_entry kind_sorted plain_sorted entry_sorted rfl ?_;refine yA (y3 ?_);refine yA (col _ _ _ ‹_› λa t d k F=>?_);obtain⟨n,x,I,B⟩:=J a d F;refine yA (zDO ?_ (by rw[yB,kA]; lia));have y:(a.push _).get? a.objs.size=some (zAS "list" (d.map rf).toArray 0):=wE _ rfl;have i:∀b o,a.get? b=some o->(a.push (zAS "list" (d.map rf).toArray 0)).get? b=some o:=λb o e=>y4 _ e;have j:a.get? a.objs.size=none:=by cases e:a.get? a.objs.size with| none=>rfl| some O=>exact absurd (v4 e) (zB5 _)
 have m:∀p∈d,zAJ _ (a.push (zAS "list" (d.map rf).toArray 0)) p.2 p.1:=λp M=>lC (n p M) (i (Prod.fst p));generalize a.push _=P at *;generalize a.objs.size=l at y j ⊢;refine yA (zBw (zBq slot_list_sort ⟨_,y,rfl⟩ entry_list_sort ?_ (zDv _)));refine uM y m x I B λL f c N v K H=>?_;refine⟨_,rfl,y3 ⟨_,rfl,h a d L t l f c F k (λb o e=>N b o (λz=>?_) (i b o e)) j v K H⟩⟩;rw[z,j] at e;cases e
end
end TB
namespace L2
open PySem PySem.Spec PyProof.Rows TB
section
variable {X:Cx}{pins:zzC}{σ:St}{H H':Hp}{s:SI}{h':Heap}
theorem Inv.more (I:Inv X pins σ H s)(k:∀b u,s.heap.get? b=some u->h'.get? b=some u)(a:∀b o,H b=some o->H' b=some o)(d:∀b o,H b=none->H' b=some o->s.heap.get? b=none/\a_ X.prog X.w H' h' b o):Inv X pins σ H' { s with heap:=h',toks:=t' }:=by
 have g:∀b u,s.heap.get? b=some u->H b=none->H' b=none:=λb u q n=>by cases e:H' b with| none=>rfl| some o=>have z:=(d b o n e).1; rw[q] at z; cases z
 refine I.un ⟨λb u q _ _ _=>k b u q,λb u q _ _ _=>⟨u.slots,k b u q⟩,λb u q n _=>g b u q n,λb u q _=>⟨u,k b u q⟩,λb f q=>a _ _ q,λb o u q=>a _ _ q,λb h q=>⟨#[],by rw[a _ _ q]; rfl⟩⟩ λb u e=>?_;cases q:H b with| none=>exact (d b u q e).2| some o=> have:=a b o q;rw[this] at e;cases e;exact (I.hok b _ q).stay (λc v _ z=>k c v z) (λc z=>a _ _ z) λc f z=>a _ _ z
theorem Inv.nM (I:Inv X pins σ H s)(e:s.heap.get? a=none):H a=none:=by cases q:H a with| none=>rfl| some o=> obtain⟨b,h⟩:=(I.hok a o q).obj;ext
end
open PySem.W
theorem HZ (h:(bN P w).is (.inl k) v=true):∃t,v=.int k t:=by have a:qu (.inl k) v=true:=h;cases v <;> simp [qu,Value.isInt] at a <;> first | ext
theorem vS {α β:Type}{f:α->β}{l:List α}(h:(l.map f).Nodup):l.Nodup:=(zAl.mp h).imp (by grind)
theorem Lg {α β:Type}{f:α->β}{l:List α}(a:∀x y,f x=f y->x=y)(h:l.Nodup):(l.map f).Nodup:=zAl.mpr (h.imp λb e=>b (a _ _ e))
section
variable {X:Cx}{pins:zzC}{σ:St}{H H':Hp}{s:SI}{h':Heap}
noncomputable def zZ (v d:M1):HO:=.ext λh=>h.IsItemsView v d
theorem Ny (x:h.IsItemsView v d):a_ P w H h v (zZ v d):=by obtain⟨o,a,b⟩:=id x;exact⟨x,⟨o,a⟩,λe c y k=>let ⟨o,a,r⟩:=y; ⟨o,k _ a,r⟩⟩
noncomputable def EA:V->List V->Hp->VK->Prop:=λx c H Q=>∃a b,x=.ref a/\c=[]/\H a=some (.dK b)/\∀p,H p=none->Q (.ref p) (upd H p (zZ p a))
theorem EB:rX X "dict.items" EA:=by intro pins s σ H x n v m Q I l c h;obtain⟨a,k,rfl,rfl,j,q⟩:=h;cases c;obtain rfl:v=Value.ref a:=l;obtain⟨z,f,g,i,d⟩:=Df I.hok j;refine zDA PySem.F.slot_dict_items d.typeIs PySem.F.entry_dict_items (PySem.F.args_dict_items_1 _) (meets_dict_items _ a f) ⟨⟨g,d⟩,?_⟩;refine⟨.ref s.heap.objs.size,_,I.laid (λ_ _ e=>y4 _ e) (y8 _) (Ny ⟨_,wE _ rfl,rfl,rfl⟩),rfl,q _ (I.hok.fresh (y8 _))⟩
abbrev z4 (a:Int × Int):List Int:=[a.1,a.2]
noncomputable def bO (ks:List (Int × Int)):List (Key × V):=ks.map λa=>(.inl a.1,.int a.2)
noncomputable def ud:List V->Hp->VK->Prop:=λd H Q=>∃(p a:M1) (c:List (Int × Int)),d=[.ref p]/\H p=some (zZ p a)/\H a=some (.dK (bO c))/\c.length < 64/\ ∀(l:M1) (b:zzD) (H':Hp),H l=none->ah H H'->H' l=some (.lst (b.map rv))->(∀q∈b,H q.1=none/\H' q.1=some (.tup (q.2.map V.int)))->(b.map (·.2)).Perm (c.map z4)->b.Pairwise (λp q=>HT.lexLt p.2 q.2=true)->Q (.ref l) H'
noncomputable def yO (H:Hp)(l:M1)(xs:List V)(a:zzD):Hp:=λb=>if b=l then some (.lst xs) else match a.find? λq=>decide (q.1=b) with| some q=>some (.tup (q.2.map V.int))| none=>H b
theorem yP {a:zzD}(h:(a.find? λq=>decide (q.1=b))=some q):q∈a/\q.1=b:=⟨List.mem_of_find?_eq_some h,by grind⟩
theorem QX {a:zzD}(b:(a.map (·.1)).Nodup)(h:q∈a):(a.find? λr=>decide (r.1=q.1))=some q:=by cases e:a.find? _ with| none=>grind| some r=> obtain⟨c,f⟩:=yP e;obtain⟨i,g,rfl⟩:=zBb.mp h;obtain⟨j,d,rfl⟩:=zBb.mp c;have:j=i:=(List.getElem_inj (h₀:=by ext) (h₁:=by ext) b).mp (by ext);ext
theorem To (r:KV kvs vs){j:Nat}{k:Key}(h:vs[j]?=some (k,x)):∃v,kvs[j]?=some (k,v)/\RelV v x:=by induction r generalizing j with| nil=>simp at h| @cons p q d e a _ b=> cases j with| zero=> simp at h;subst h;exact⟨p.2,by rw[List.getElem?_cons_zero]; exact zA7 some (Prod.ext a.1 rfl),a.2⟩| succ j=> simp at h;obtain⟨v,c,rv⟩:=b h;exact⟨v,by simpa using c,rv⟩
theorem EC (hc:X.calm=true):bP X (.builtin "sorted") ud:=by
 intro pins s σ H xs us Q I r h;obtain⟨p,a,m,rfl,hp,ha,h64,q⟩:=h;obtain⟨u,rfl,ru⟩:=vals1 r;cases ru;obtain⟨hv,_⟩:=(show a_ X.prog X.w H s.heap p (zZ p a) from I.hok p _ hp);obtain⟨z,hd,vs,L,dd⟩:=Df I.hok ha;obtain⟨ep,dat⟩:=dd.dictAt;have hlen:vs.length=m.length:=by rw[<-L.length]; simp [bO]
 have Y3:(m.map (·.1)).Nodup:=by
  have:=dat.nodup;rw[<-L.keys] at this;have e:(bO m).map (·.1)=(m.map (·.1)).map Sum.inl:=by simp [bO,zAf,Function.comp_def]
  rw[e] at this;exact vS this
 refine TB.Cb (C:=λN G=>G.map (·.2)=m.map z4/\(G.map (·.1)).Nodup/\(∀b o,s.heap.get? b=some o->N.get? b=some o)/\∀q∈G,s.heap.get? q.1=none/\∃i,Vals (q.2.map V.int) i/\IsTup N q.1 i.toArray) (I.ok.hd hc) (λA' E' R ha' k=>?_) ?_ λN G h2 tk l d c ⟨e,nd,S,F⟩ _ Y O hl T pw=>?_
 ·refine kdx_collect (knd:=bN X.prog X.w) ha' hv dat (by rw[hlen,kA]; lia) λN tk A S hl g=>?_;have eqs:A.map Value.ref=(A.zip (m.map z4)).map TB.rf:=by have:(A.zip (m.map z4)).map (·.1)=A:=List.map_fst_zip (by simp; ext);rw[show (TB.rf:M1 × List Int->Value)=Value.ref ∘ (·.1) from rfl,<-zAf,this]
  rw[eqs];refine k N tk _ S ⟨?_,?_,S,λq w=>?_⟩;·exact List.map_snd_zip (by simp; ext)
  ·have:(A.zip (m.map z4)).map (·.1)=A:=List.map_fst_zip (by simp; ext);rw[this];exact g.rise.imp λh=>zAe h
  ·obtain⟨j,hj,rfl⟩:=zBb.mp w;have hj1:j < A.length:=by simp at hj; ext
   have hj2:j < m.length:=by simp at hj; ext
   have e1:(A.zip (m.map z4))[j]=(A[j],z4 m[j]):=by simp
   rw[e1];obtain⟨key,k',x,hk1,hk2,Y4⟩:=g.pairs j A[j] (y2 hj1);obtain⟨v,hv1,hv2⟩:=To L hk1;have Z:(bO m)[j]?=some (.inl m[j].1,.int m[j].2):=by simp [bO,y2 hj2]
   rw[Z] at hv1;cases hv1;obtain⟨t1,rfl⟩:=HZ hk2;obtain⟨t2,rfl⟩:=(show ∃t,x=Value.int m[j].2 t from hv2);refine⟨?_,[.int m[j].1 t1,.int m[j].2 t2],.cons ⟨t1,rfl⟩ (.cons ⟨t2,rfl⟩ .nil),⟨_,Y4,rfl,0,rfl⟩⟩;have:=g.above A[j] (zB2 hj1);cases e:s.heap.get? A[j] with| none=>rfl| some o=>exact absurd (v4 e) (Nat.not_lt_of_le (zCd this))
 ·rintro N G ⟨e,nd,S,F⟩;refine⟨λq w=>?_,λq w=>?_,?_,?_⟩
  ·obtain⟨_,i,U,o,W,J,n,E⟩:=F q w;exact⟨o,i.toArray,n,W,J,E,t_ U⟩
  ·have:q.2∈G.map (·.2):=q0.mpr ⟨q,w,rfl⟩;rw[e] at this;obtain⟨kv,_,Z⟩:=q0.mp this;rw[<-Z];simp
  ·rw[e];refine Lg (λx y K=>?_) (vS Y3);simp [z4] at K;exact Prod.ext K.1 K.2
  ·have:G.length=m.length:=by have:=zA7 length e; simpa using this
   lia
 ·have hs0:∀b,N.get? b=none->s.heap.get? b=none:=λb e=>by cases B:s.heap.get? b with| none=>rfl| some o=>rw[S _ _ B] at e; cases e
  have hn:H l=none:=I.nM (hs0 _ O);have D:∀q∈d,s.heap.get? q.1=none/\∃i,Vals (q.2.map V.int) i/\IsTup h2 q.1 i.toArray:=λq w=>by obtain⟨w1,i,U,o,W,J,n,E⟩:=F q (T.mem_iff.mp w);exact⟨w1,i,U,o,Y _ _ W,J,n,E⟩
  have Y5:(d.map (·.1)).Nodup:=(T.map _).nodup_iff.mpr nd;have hne:∀q∈d,q.1≠l:=λq w z=>by obtain⟨_,i,U,o,W,_⟩:=F q (T.mem_iff.mp w);rw[z,O] at W;cases W
  have hq2:∀q∈d,q.2.length=2:=λq w=>by have:q.2∈G.map (·.2):=q0.mpr ⟨q,T.mem_iff.mp w,rfl⟩;rw[e] at this;obtain⟨kv,_,Z⟩:=q0.mp this;rw[<-Z]; rfl
  have ext:ah H (yO H l (d.map rv) d):=λb o hb=>by unfold yO;rw[xL (λz=>by rw[z,hn] at hb; cases hb)];cases B:d.find? λq=>decide (q.1=b) with| none=>exact hb| some q=> obtain⟨m1,m2⟩:=yP B;rw[<-m2,I.nM (D q m1).1] at hb;cases hb
  have M:∀q∈d,yO H l (d.map rv) d q.1=some (.tup (q.2.map V.int)):=λq w=>by unfold yO;rw[xL (hne q w),QX Y5 w]
  refine⟨.ref l,yO H l (d.map rv) d,I.more (t':=tk) (λb o e=>Y _ _ (S _ _ e)) ext (λb o n B=>?_),rfl,q l d _ hn ext (by unfold yO; rw[u1 rfl]) (λq w=>⟨I.nM (D q w).1,M q w⟩) ?_ pw⟩
  ·unfold yO at B;by_cases zl:b=l
   ·rw[u1 zl] at B;cases B;refine⟨by rw[zl]; exact hs0 _ O,?_,d.map TB.rf,c,qB d,by rw[zl]; exact hl⟩;rw[yB,T.length_eq,kA];have:G.length=m.length:=by have:=zA7 length e; simpa using this
    lia
   ·rw[xL zl] at B;cases f:d.find? λq=>decide (q.1=b) with| none=>rw[f,n] at B; cases B| some q=> rw[f] at B;cases B;obtain⟨m1,m2⟩:=yP f;obtain⟨w1,i,U,it⟩:=D q m1;rw[m2] at w1 it;exact⟨w1,by rw[yB,hq2 q m1,kA]; decide,i,U,it⟩
  ·rw[<-e];exact T.map _
end
section
variable {prog:zAA}{w:zAD}{A:zAI}{E:zzE}{s:SI}
theorem Cc:∀{vs:List Value} {ns:List Int},vs.length=ns.length->(∀(j:Nat) (v:Value),vs[j]?=some v->∃n t,ns[j]?=some n/\v=.int n t)->zBM vs ns| [],[],_,_=>.nil| v::vs,n::ns,a,h=>by obtain⟨b,t,e,rfl⟩:=h 0 v rfl;simp at e;subst e;exact .cons _ _ (Cc (by ext) λj u c=>h (j+1) u ‹_›)| [],_::_,a,_=>by simp at a| _::_,[],a,_=>by simp at a
set_option maxHeartbeats 1000000 in theorem GA {d:M1}{kvs:List (Key × Value)}{ks:List Int}{Q:zzE}(R:A.handled=none)(lo:(d == zAR)=false)(V:s.heap.DictOf (bN prog w) d kvs)(L:kvs.map (·.1)=ks.map Sum.inl)(O:ks.length < 64)(h:∀(h':Heap) (r:Nat) (l:M1) (ns:List Int) (its:List Value) (c:Nat),(∀b o,s.heap.get? b=some o->h'.get? b=some o)->s.heap.get? l=none->h'.get? l=some (zAS "list" its.toArray c)->zBM its ns->ns.Perm ks->ns.Pairwise (·<=·)->Q (.ref l) { s with heap:=h',toks:=r }) : zAB (zAC prog w) A (call (.builtin "sorted") [.ref d]) Q E s:=by
 obtain⟨ep,H⟩:=V.dictAt;have g:kvs.length=ks.length:=by have:=zA7 length L; simpa using this
 refine Calls.call_function_entry kind_sorted plain_sorted entry_sorted (args_sorted1 _) ?_;unfold Builtin.«sorted»;refine yA (m:=checkCount "sorted" 1 1 _) (y3 ?_);refine yA (kdu_collect (kdl_dict (knd:=bN prog w) (kvs:=kvs) (ep:=ep) lo) (by simp [R]) H (by rw[g,kA]; lia) λi r a G it=>?_);have X:zBM a.toList ks:=Cc (by rw[zAq,it.1,g]) λj v T=>by
  obtain⟨k,x,P,u⟩:=it.2 j v (by simpa using T);have K:(kvs.map (·.1))[j]?=some k:=by rw[vT,P]; rfl
  rw[L,vT] at K;obtain⟨n,S,U⟩:=u3.mp K;subst U;obtain⟨t,rfl⟩:=HZ u;exact⟨n,t,S,rfl⟩
 have F:a.toList.length=ks.length:=by rw[zAq,it.1,g]
 refine yA (zDO ?_ (by rw[F,kA]; lia));have y:(i.push (zAS "list" a.toList.toArray 0)).get? i.objs.size=some (zAS "list" a.toList.toArray 0):=wE _ rfl;have f:i.get? i.objs.size=none:=by cases e:i.get? i.objs.size with| none=>rfl| some Y=>exact absurd (v4 e) (zB5 _)
 have q:∀b o,i.get? b=some o->(i.push (zAS "list" a.toList.toArray 0)).get? b=some o:=λb o e=>y4 _ e;show zAB _ _ _ _ _ { s with heap:=i.push (zAS "list" a.toList.toArray 0),toks:=r };generalize i.push (zAS "list" a.toList.toArray 0)=J at *;generalize i.objs.size=l at y f ⊢;refine yA (zBw (zBq slot_list_sort ⟨_,y,rfl⟩ entry_list_sort (list_sort_tree (s:={ s with heap:=J,toks:=r }) y X (by ext) λout B M W N=>⟨_,rfl,?_⟩) (zDv _)));obtain⟨c,I⟩:∃c,(sortedHeap J l a.toList out).get? l=some (zAS "list" out c):=by have:=sortedHeap_at (out:=out) y;first | exact⟨_,this⟩ | exact this
 refine y3 ⟨_,rfl,h (sortedHeap J l a.toList out) _ l B out.toList c (λb o e=>?_) ?_ I M W N⟩
 ·have u:=q _ _ (G _ _ e);have C:b≠l:=λz=>by rw[z] at e; rw[G _ _ e] at f; cases f
  rw[sortedHeap_old C (v4 u)];exact u
 ·cases e:s.heap.get? l with| none=>rfl| some o=>rw[G _ _ e] at f; cases f
end
section
variable {X:Cx}
noncomputable def ED:List V->Hp->VK->Prop:=λe H Q=>∃(a:M1) (b:List (Key × V)) (d:List Int),e=[.ref a]/\H a=some (.dK b)/\b.map (·.1)=d.map Sum.inl/\d.length < 64/\ ∀(l:M1) (c:List Int),H l=none->c.Perm d->c.Pairwise (·<=·)->Q (.ref l) (upd H l (.lst (c.map V.int)))
theorem EE (D:X.calm=true):bP X (.builtin "sorted") ED:=by
 intro m s σ H J N Q I r h;obtain⟨a,y,L,rfl,w,O,f,q⟩:=h;obtain⟨u,rfl,B⟩:=vals1 r;cases B;obtain⟨z,F,K,g,v⟩:=Df I.hok w;refine GA (I.ok.hd D) F v (by rw[<-g.keys]; symm) f λM G l p d c E j i x t C=>?_;have k:=I.nM j;have A:(p.map V.int).length<=PK:=by rw[yB,t.length_eq,kA]; lia
 exact⟨.ref l,_,I.more E (ah.new k _) (λb o n e=>by
  by_cases z:b=l
  ·subst z;rw[ao] at e;cases e;exact⟨j,A,d,c,vD x,i⟩
  ·rw[aA z] at e;ext),rfl,q _ p k t C⟩
end
section
variable {X:Cx}(K:zzA)
theorem EF (a:X.calm=true:=by rfl):bP X (.builtin "sorted") ud:=EC a
theorem Nz (a:X.calm=true:=by rfl):bP X (.builtin "sorted") ED:=EE a
end
end L2
namespace TB
open PySem PySem.Spec
theorem SF.JM:zDF (.type "tuple") "keys"=pure none:=am_miss_of_fast (by rfl)
section
variable {prog:zAA}{w:zAD}{A:zAI}{E:zzE}{s:SI}
theorem QY {a:M1}{o:Obj}{xs:Array Value}{k:Nat}{Q:Option Value->SI->Prop}(n:s.heap.get? a=some o)(v:o.cls=.type "tuple")(i:o.data=.seq xs k)(x:o.dict=none)(y:A.handled=none)(h:∀h' p,(∀b m,s.heap.get? b=some m->h'.get? b=some m)->Q none { s with heap:=h',toks:=p }) : zAB (zAC prog w) A (getAttr? (.ref a) "keys") Q E s:=by
 obtain⟨c,r,u,t⟩:=o;subst v i x;obtain⟨q,g,d,p,os⟩:=s;have z:∀j,(⟨q,g,d,j,os⟩:SI).TypeIs (.ref a) _:=λ_=>⟨_,n,rfl⟩;have C:=sub_AttributeError;have B:=F.slot_tuple_getattribute.lookup;have K:=F.slot_tuple_getattribute.bind (.ref a);have G:=am_tuple_getattr_none;repeat (any_goals (first | ((with_reducible show zAB _ _ (call _ _ _) _ _ _); refine zCN F.slot_tuple_getattribute (z _) am_entry_tuple_getattribute (F.args_tuple_getattribute_2 _ _) (meets_getattribute_miss_tuple a xs k t _ _ SF.JM (by rfl) (by decide +kernel)) ⟨n,y,λh' j e f=>?_⟩) | wp_step))
 obtain⟨D,H,I⟩:=f.there;unfold getattributeRaised;repeat (any_goals (first | wp_step))
 all_goals first | exact h _ _ f.keeps
end
end TB
namespace L2
open PySem PySem.Spec PyProof.Rows TB PySem.W
section
variable {prog:zAA}{w:zAD}{A:zAI}{E:zzE}{s:SI}
theorem NB (x:zAJ (zAN prog w) h [k,v] c):∃o n t u,h.get? c=some o/\o.cls=.type "tuple"/\o.data=.seq #[.int k t,.int v u] n:=by obtain⟨o,a,n,f,i,j,d⟩:=x;obtain⟨l⟩:=a;cases d with| cons e m=> cases m with| cons b g=> cases g;obtain⟨t,rfl⟩:=TB.nK e;obtain⟨u,rfl⟩:=TB.nK b;exact⟨o,n,t,u,f,i,j⟩
theorem QZ (r:KV kvs vs){k:Key}(rv:RelV v u):KV (kvs++[(k,v)]) (vs++[(k,u)]):=by induction r with| nil=>exact .cons ⟨rfl,rv⟩ .nil| cons h _ a=>exact .cons h a
variable {I:M1}{fp wr:List M1}{n:Nat}{P:Nat->Value->Prop}{St:Nat->Heap->Prop}{R:zED->SI->Prop}
theorem Tp (W:Walks prog w A.in1 I fp wr n P St)(S:M1)(F:S∉fp){xs:List (M1 × Int × Int)}(hn:xs.length=n)(C:∀(i:Nat) (v:Value),P i v->∃p,xs[i]?=some p/\v=.ref p.1)(hw:∀p∈xs,p.1∉wr)(hz:xs.length<=2000) (nd:(xs.map (·.2.1)).Nodup) : ∀(k i:Nat) (s:SI) (vs:List (Key × Value)),n - i=k->i<=n->St i s.heap->s.heap.DictOf (bN prog w) S vs->(∀p∈xs,zAJ (zAN prog w) s.heap [p.2.1,p.2.2] p.1)->KV (bO ((xs.take i).map (·.2))) vs->(∀h' G O,(∀b o,b≠S->b∉wr->s.heap.get? b=some o->h'.get? b=some o)->h'.DictOf (bN prog w) S O->KV (bO (xs.map (·.2))) O->R (.ok (.ret .none)) { s with heap:=h',toks:=G })-> zBF (zAC prog w) A (.builtin "dict.update.loop" ⟨[.ref S,.ref I,zBQ i,.none],[]⟩) R s:=by have D:S∉wr:=λh=>F (W.sub _ h);intro k;induction k with
 | zero=>
  intro i s vs hk hi l hS g a Y;obtain rfl:i=n:=by lia
  refine zCl SF.B8 ?_;rw[zCi SF.qD _];show zAB _ A.in1 (zCB (.ref I) >>= _) _ _ s;refine yA (W.done s _ _ l λh' G m=>?_);show zAB _ A.in1 (Builtin.Dict.addKeywords S [] >>= λ_=>ret Value.none) _ _ _;refine yA (y3 (y3 (Y h' G vs (λb o _ H e=>m b o H e) ?_ ?_)))
  ·obtain⟨o,Z,ep,ho,r⟩:=hS;exact⟨o,Z,ep,m S o D ho,r⟩
  ·rw[<-hn,zAj] at a;exact a| succ k ih=>
  intro i s vs hk hi l hS g a Y;have N:i < n:=by lia
  refine zCl SF.B8 ?_;rw[zCi SF.qD _];show zAB _ A.in1 (zCB (.ref I) >>= _) _ _ s;refine yA (W.item i s _ _ N l λv h' G hP K m=>?_);obtain⟨p,X,rfl⟩:=C i v hP;have hpx:p∈xs:=u4 X;have B:h'.DictOf (bN prog w) S vs:=by obtain⟨o,Z,ep,ho,r⟩:=hS;exact⟨o,Z,ep,m S o D ho,r⟩
  have f:∀q∈xs,zAJ (zAN prog w) h' [q.2.1,q.2.2] q.1:=λq U=>lC (g q U) λo e=>m _ o (hw q U) e;obtain⟨oc,nc,t1,u,L,hcc,hdc⟩:=NB (f p hpx);dsimp only;refine yA (zBw ?_);refine yA (wpAny_tryCatch ?_);unfold Builtin.Dict.pairItems;refine yA (zCA (T:="tuple") ⟨oc,L,hcc⟩ ?_);rw[u1 (by decide)];refine yA (zDD L hdc (y3 ?_));show zAB _ A.in1 (zCP [Value.int p.2.1 t1,.int p.2.2 u] (dictSet S (.int p.2.1 t1) (.int p.2.2 u))) _ _ _;refine zBw ?_;have htk:xs.take (i+1)=xs.take i++[p]:=by rw[zAz,X]; rfl
  have hvl:vs.length<=2000:=by rw[<-a.length];simp [bO];lia
  refine wpAny_dictSet_pairs (s:={ s with heap:=h',toks:=G }) (knd:=bN prog w) (k:=.inl p.2.1) (xX _ _ _ _) B (λh2 M sb=>?_) (by rw[kA]; lia);have d:∀b o,b≠S->h'.get? b=some o->h2.get? b=some o:=λb o H e=>(sb.2 b H).trans e;have ne:∀{c:M1} {o:Obj},h'.get? c=some o->o.cls=.type "tuple"->c≠S:=λ{c o} e hc z=>by obtain⟨od,_,_,hod,ex,_⟩:=B;rw[z,hod] at e;cases e;rw[ex.1] at hc;exact absurd hc (by decide)
  have VT:stored vs (.inl p.2.1) (.int p.2.2 u)=vs++[(.inl p.2.1,.int p.2.2 u)]:=by
   unfold stored;rw[xL];intro t;obtain⟨x,hx,DZ⟩:=List.any_eq_true.mp t;have J:x.1=.inl p.2.1:=by simpa using DZ
   have:x.1∈vs.map (·.1):=q0.mpr ⟨x,hx,rfl⟩;rw[<-a.keys,J] at this;obtain⟨y,hy,vf⟩:=q0.mp this;obtain⟨z,hz1,rfl⟩:=q0.mp hy;obtain⟨q,hq1,rfl⟩:=q0.mp hz1;have e1:q.2.1=p.2.1:=by simpa using vf
   obtain⟨j,hj,rfl⟩:=zBb.mp hq1;have hj':j < i:=by simp at hj; lia
   have hi':=(xI.mp X);obtain⟨hi1,hi2⟩:=hi';have hjx:j < xs.length:=by lia
   have:j=i:=(List.getElem_inj (h₀:=by simpa using hjx) (h₁:=by simpa using hi1) nd).mp (by simp [hi2]; simpa using e1);lia
  rw[VT] at M;refine y3 ⟨zBR SF.qD _,ih (i+1) _ _ (by grind) N (W.frame _ _ _ K λb H o e=>d b o (λ(h:b=S)=>F (h ▸ H)) e) M (λq U=>?_) ?_ (λh3 tk3 Y6 kp Y7 r3=>?_)⟩
  ·obtain⟨o2,i2,n2,e2,c2,r2⟩:=f q U;exact⟨o2,i2,n2,d _ _ (ne e2 c2) e2,c2,r2⟩
  ·rw[htk];have:bO ((xs.take i++[p]).map (·.2))=bO ((xs.take i).map (·.2))++[(.inl p.2.1,.int p.2.2)]:=by simp [bO]
   rw[this];exact QZ a ⟨u,rfl⟩
  ·exact Y h3 tk3 Y6 (λb o h1 Q e=>kp b o h1 Q (d b o h1 (m b o Q e))) Y7 r3
theorem GB {l:M1}{m:Obj}{S:Nat}{xs:List (M1 × Int × Int)}{Q:zzE}(hh:A.handled=none)(y:s.heap.get? l=some m)(q:m.cls=.type "tuple")(u:m.data=.seq (xs.map λp=>Value.ref p.1).toArray S)(N:m.dict=none)(t:∀p∈xs,zAJ (zAN prog w) s.heap [p.2.1,p.2.2] p.1) (hz:xs.length<=2000) (nd:(xs.map (·.2.1)).Nodup)(h:∀(h':Heap) (O:Nat) (vs:List (Key × Value)),h'.DictOf (bN prog w) s.heap.objs.size vs->KV (bO (xs.map (·.2))) vs->(∀b o,s.heap.get? b=some o->h'.get? b=some o)->Q (.ref s.heap.objs.size) { s with heap:=h',toks:=O }) : zAB (zAC prog w) A (call (.type "dict") [.ref l]) Q E s:=by
 refine callType_codes (Q₁:=λD Z=>D=.ref s.heap.objs.size/\Z={ s with heap:=s.heap.push { cls:=.type "dict",data:=.dict #[] } }) F.kt_called_dict (F.kt_typeCall_dict_1 _) F.entry_dict_init (kt_code_dict_new _ ⟨rfl,rfl⟩) ?_;rintro D Z ⟨rfl,rfl⟩;have g:(s.heap.push { cls:=.type "dict",data:=.dict #[] }).DictOf (bN prog w) s.heap.objs.size []:=Heap.DictOf.new s.heap;have f:(s.heap.push { cls:=.type "dict",data:=.dict #[] }).get? l=some m:=y4 _ y;have L:l < s.heap.objs.size:=v4 y;refine⟨g.typeIs,F.args_dict_init_2 _ _,?_⟩;unfold Builtin.«dict.__init__»;refine yA ?_;unfold Builtin.Dict.selfAndRest;refine yA (zCI g.typeIs ?_);show zAB _ _ (pure (s.heap.objs.size,[Value.ref l])) _ _ _;refine y3 ?_;show zAB _ _ (Builtin.Dict.updateFrom "dict.__init__" s.heap.objs.size (.ref l) [] .none) _ _ _;unfold Builtin.Dict.updateFrom;refine yA (zCA (T:="tuple") ⟨m,f,q⟩ ?_);rw[u1 (by decide)];refine yA (QY f q u N (by simp [hh]) λd Y J=>?_);simp only [Option.isNone_none,if_true];have H:d.DictOf (bN prog w) s.heap.objs.size []:=by obtain⟨o,K,U,z,r⟩:=g;exact⟨o,K,U,J _ _ z,r⟩
 have x:d.get? l=some m:=J _ _ f;have X:d.IsTuple l (xs.map λp=>Value.ref p.1).toArray:=⟨m,x,q,S,u⟩;have k:∀b o,s.heap.get? b=some o->d.get? b=some o:=λb o e=>J b o (y4 _ e);have B:s.heap.objs.size < d.objs.size:=by obtain⟨o,_,_,z,_⟩:=H;exact v4 z
 have C:l < d.objs.size:=v4 x;refine yA (zC8 (yA (wpAny_pyIter_tuple (s:={ s with heap:=d,toks:=Y }) X ?_)));have j:∀b o,d.get? b=some o->(d.push { cls:=.type "tuple_iterator",data:=.fields #[.ref l,.int 0 0] }).get? b=some o:=λb o e=>y4 _ e;have V:(d.push { cls:=.type "tuple_iterator",data:=.fields #[.ref l,.int 0 0] }).get? d.objs.size=some { cls:=.type "tuple_iterator",data:=.fields #[.ref l,.int 0 0] }:=wE _ rfl;generalize d.push { cls:=.type "tuple_iterator",data:=.fields #[.ref l,.int 0 0] }=h2 at *;have W:=Walks.tuple (prog:=prog) (w:=w) (A:=A.in1.in1) (by simp [hh]) d.objs.size l (zAe C) (xs.map λp=>Value.ref p.1).toArray;refine y3 ⟨zBR SF.qD _,Tp W s.heap.objs.size ?_ (xs:=xs) (by simp) (λi v hv=>?_) (λp G=>?_) hz nd _ 0 _ [] rfl (zAd _) ⟨⟨_,V,rfl,rfl⟩,⟨m,j _ _ x,q,S,u⟩⟩ (by obtain⟨o,K,U,z,r⟩:=H; exact⟨o,K,U,j _ _ z,r⟩) (λp G=>lC (t p G) λo e=>j _ o (k _ o e)) .nil (λh' O vs kp M r=>?_)⟩
 ·simp only [wS,zC4,zB9,not_or];exact⟨zAe B,Nat.ne_of_gt L⟩
 ·simp at hv;obtain⟨a,⟨b,c,G⟩,rfl⟩:=hv;exact⟨(a,b,c),G,rfl⟩
 ·obtain⟨o2,_,_,e2,_⟩:=t p G;simp only [wS,zC4,zB9];exact zAe (v4 (k _ _ e2))
 ·refine⟨rfl,h h' O vs M r λb o e=>kp b o (zAe (v4 e)) ?_ (j _ _ (k _ _ e))⟩;simp only [wS,zC4,zB9];exact zAe (v4 (k _ _ e))
end
section
variable {X:Cx}
noncomputable def FT (H:Hp)(a:M1)(xs:List V):Prop:=∃o:Obj,o.dict=none/\H a=some (.iL o (.tup xs))
theorem FT.sq {K:zzA}(h:FT H a xs):aG K H a xs:=by obtain⟨o,_,h⟩:=h;exact .inl (.inr ⟨o,h⟩)
theorem FT.same (h:FT H a xs)(s:ah H H'):FT H' a xs:=by obtain⟨o,b,h⟩:=h;exact⟨o,b,s _ _ h⟩
noncomputable def O7 (K:zzA):List V->Hp->VK->Prop:=λd H Q=>∃p b,d=[.ref p]/\az K H p b/\∀l o,H l=none->FT (L2.upd H l o) l b->Q (.ref l) (L2.upd H l o)
theorem GC:bP X (.type "tuple") (O7 X.K):=by intro g s σ H x w Q I r h;obtain⟨p,n,rfl,i,q⟩:=h;obtain⟨u,rfl,v⟩:=vals1 r;cases v;obtain⟨a,c,j,t⟩:=I.list i;have f:=c.length;refine call_tuple_list j.isList (λk l=>?_) (by ext);have d:=I.kept (t':=s.toks) l;have m:= d.laid (t':=s.toks) (λb o e=>y4 _ e) (y8 _) (show a_ X.prog X.w _ _ _ (.iL _ (.tup n)) from ⟨wE _ rfl,t,a,c,IsTup.new _ _⟩);exact⟨.ref k.objs.size,_,m,rfl,q _ _ (d.hok.fresh (y8 _)) ⟨_,rfl,ao⟩⟩
noncomputable def Lh (K:zzA):List V->Hp->VK->Prop:=λc H Q=>∃(l:M1) (a:List (M1 × Int × Int)),c=[.ref l]/\FT H l (a.map λp=>.ref p.1)/\(∀p∈a,aG K H p.1 [.int p.2.1,.int p.2.2])/\a.length<=2000/\(a.map (·.2.1)).Nodup/\ ∀S:M1,H S=none->Q (.ref S) (L2.upd H S (.dK (bO (a.map (·.2)))))
theorem z5:∀{ps:List (M1 × Int × Int)} {us:List Value},Vals (ps.map λp=>V.ref p.1) us->us=ps.map λp=>Value.ref p.1| [],_,.nil=>rfl| p::ps,u::us,.cons r t=>by have e:=r;rw[e,z5 t];rfl
theorem JN (m:X.calm=true):bP X (.type "dict") (Lh X.K):=by intro g s σ H M G Q I r h;obtain⟨l,K,rfl,w,t,x,y,q⟩:=h;obtain⟨u,rfl,j⟩:=vals1 r;cases j;obtain⟨L,b,B⟩:=w;obtain⟨f,z,k,C,E,a,d,n,e⟩:=(show a_ X.prog X.w H s.heap l _ from I.hok l _ B);rw[f] at a;cases a;rw[z5 C] at e;have A:=I.big;refine GB (I.ok.hd m) f d e b (λp i=>I.key (t p i)) x y λF D J o c v=>?_;refine⟨.ref s.heap.objs.size,_,I.laid v (y8 _) (K9 ?_ (by grind) c o),rfl,q _ (I.hok.fresh (y8 _))⟩;rw[kA];simp [bO];lia
end
section
variable {X:Cx}(K:zzA)
theorem Q0 (h:X.K=K:=by rfl):bP X (.type "tuple") (O7 K):=h ▸ GC
theorem Li (h:X.K=K:=by rfl)(a:X.calm=true:=by rfl):bP X (.type "dict") (Lh K):=h ▸ JN a
end
noncomputable def Tq (n:Nat)(f:Nat->List V):It:=⟨λi _=>i < n,λi H v a=>∃t,v=.ref t/\H t=none/\a=upd H t (.tup (f i)),λi _=>i=n⟩
section
variable {X:Cx}
theorem Inv.moved {ch:List M1}(I:Inv X a σ H s)(j:∀c∈ch,lF X a H c)(f:∀c o,c∉ch->s.heap.get? c=some o->h'.get? c=some o) : Inv X a σ H { s with heap:=h',toks:=t' }:=by
 refine I.step (g':=s.gens) (d':=s.drawn) (t':=t') (ch:=ch) (λc b=>?_) (λc o _ _ b e _=>f c o b e) (λc o _ _ b e _=>⟨o.slots,f c o b e⟩) (λc o b e n=>n) (λc o b e=>⟨o,f c o b e⟩) (λc h e=>e) (λc o h e=>e) (λc h e=>⟨#[],by rw[e]; rfl⟩) (λm u=>?_) (λc h e=>?_) I.bare
 ·obtain⟨B,v,C,x,k,p⟩:=j c b;exact⟨x,v,k,p⟩
 ·obtain⟨o,l,w,z,r⟩:=u;exact⟨o,l,w,f _ o (λq=>(j _ q).2.1 rfl) z,r⟩
 ·refine (I.hok c h e).stay (λd y A q=>f d y (λt=>?_) q) (λd q=>q) λd D q=>q;have g:=(j d t).1;rcases A with i | i;·rw[i,e] at g; cases g
  ·rw[i] at g; cases g
theorem NC {K:zzA}{Pt:Nat->Array Value->Prop}{St:Nat->Heap->Prop}{Mid:Nat->M1->Heap->Prop}{f:Nat->List V}(W:∀A:zAI,A.handled=none->WalksT P w A C fp wr n Pt St Mid) (OW:∀i h h',St i h->(∀b∈fp,∀o,h.get? b=some o->h'.get? b=some o)->St i h') (O:C∈fp) (j:∀i h,St i h->∀b∈fp,∃o,h.get? b=some o/\∀v,o.data≠.cell v) (hv:∀i g,Pt i g->Vals (f i) g.toList) (hz:∀i,(f i).length<=1000)(self:∀(A:zAI) (i:Nat) (s:SI) (Q:zzE) (E:zzE),St i s.heap->Q (.ref C) s->zAB (zAC P w) A (zEE (.ref C)) Q E s) : Turn P w K (.Tuple D k pos) (Tq n f) fp C St where
 mem:=O;obj:=j;keep:=OW;item:=by
  intro X hP hw Z a i l s σ H E I G st N;subst hP hw Z;have t:=W X.A (I.ok.hd a);have p:=λc a=>G c (t.sub c a);refine t.item i s _ E N st λT g h1 tk hp hle hT x k1=>⟨_,rfl,t.go _ _ _ i T _ _ E x λh2 S k2=>?_⟩;have R:=t.apart i T h1 x;have U:=λc o a e=>k2 c o a (k1 c o a e);have B:∀c o,s.heap.get? c=some o->c≠T:=λc o e z=>absurd (v4 e) (by ext);have u:H T=none:=I.hok.fresh hle;obtain⟨o,Y,hcl,m,M⟩:=hT;have ho2:h2.get? T=some o:=k2 T o R Y;have I2:Inv X l σ (upd H T (.tup (f i))) { s with heap:=h2,toks:=tk }:=by
   refine I.step (g':=s.gens) (d':=s.drawn) (t':=tk) (ch:=wr) (λc a=>?_) (by ext) (λc o _ _ a e _=>⟨o.slots,U c o a e⟩) (λc o a e n=>?_) (by ext) (λc F e=>?_) (λc o F e=>?_) (λc F e=>⟨#[],?_⟩) (λm O=>?_) (λc F e=>?_) I.bare
   ·obtain⟨f0,f1,f2,f3,f4,f5⟩:=p c a;exact⟨f3,f1,f4,f5⟩
   ·rw[aA (B c o e)]; exact n
   ·rw[aA (aQ e u)]; exact e
   ·rw[aA (aQ e u)]; exact e
   ·rw[aA (aQ e u),e]; rfl
   ·obtain⟨o,es,ep,Y,r⟩:=O;exact⟨o,es,ep,U _ o (λq=>(p _ q).2.1 rfl) Y,r⟩
   ·by_cases y:c=T
    ·subst y;rw[ao] at e;cases e;exact⟨zAu (hz i) (by decide),g.toList,hv i g hp,o,ho2,hcl,m,by simpa using M⟩
    ·rw[aA y] at e;refine (I.hok c F e).stay (λd w' M q=>U d w' (λq2=>?_) q) (λd q=>?_) λd ws q=>?_
     ·have J:=(p d q2).1;rcases M with L | L;·rw[L,e] at J; cases J
      ·rw[L] at J; cases J
     ·rw[aA (aQ q u)]; exact q
     ·rw[aA (aQ q u)]; exact q
  refine⟨.ref T,_,I2,rfl,⟨T,rfl,u,rfl⟩,S,λc a=>?_⟩;obtain⟨oc,hoc,_⟩:=j i _ st c a;rw[aA (B c oc hoc)];exact (G c a).1
 done:=by intro X hP hw Z a i l s σ H E I G st N;subst hP hw Z;have hi:i=n:=N;subst hi;have t:=W X.A (I.ok.hd a);exact t.done s _ E st λh' tk kk=>⟨rfl,I.moved (λc a=>G c (t.sub c a)) λc o a e=>kk c o a e⟩
 self:=self
theorem CS (a:y.cps.all (· < 128)=true):strIterType y="str_ascii_iterator":=by unfold strIterType;ext
theorem JO {K:zzA}(e d:M1)(j:e≠d)(y:Str)(p:Tok) : Turn P w K (.Tuple f k g) (Tq y.cps.size λi=>[.int (i:Int),jd y i]) [e,d] e (λi h=>(∃a,IsEnum h e d i a)/\h.IsStrIter d "str_ascii_iterator" y p i):=by
 refine NC (λA C=>WalksT.enumerateD (Draws.strAscii ‹_› d y p) e j (by ext) (by simp)) (λi h G st H=>?_) (by simp) (λi h st b D=>?_) (λi n z=>?_) (λi=>(by simp)) λA i s Q E st q=>?_
 ·obtain⟨⟨a,l⟩,o,B,r⟩:=st;exact⟨(by grind),o,(by grind),r⟩
 ·obtain⟨⟨a,l⟩,o,B,v,F⟩:=st;grind
 ·obtain⟨t,x,⟨c,u,v,rfl⟩,rfl⟩:=z;refine .cons ⟨t,rfl⟩ (.cons ⟨u,?_⟩ .nil);ext
 ·obtain⟨⟨a,l⟩,_⟩:=st;exact wpAny_pyIter_enum l q
noncomputable def EG (c:TA):TI:=fun σ H R=>c σ H λa b=>∃y,a=[.str y]/\y.cps.all (· < 128)=true/\R (Tq y.cps.size λi=>[.int (i:Int),jd y i]) b
theorem ND (w:X.mg "enumerate"=none)(G:PA X [a] r)(C:Gl X "enumerate":=by rfl)(D:zAG [a] X.env=[(false,zAP a X.env)]:=by rfl) : PI X (.Tuple f k j) (.Call (.Name "enumerate" p) [a] [] i) (EG r):=by
 intro l s σ H R I h;refine Call_ (nF I C w boot_enumerate (zB0 (rest:=[]) (aM (G i l s σ H _ I h) λL d ⟨M,A,m,z,E⟩=>?_) (by rw[D]; rfl) rfl));obtain⟨y,e,g,q⟩:=E;subst e;obtain⟨u,rfl,v⟩:=vals1 z;obtain⟨J,rfl⟩:=v;refine call_enumerate_str λK t o B x=>wpAny_pyIter_enum t ?_;rw[CS g] at o;refine⟨d.heap.objs.size+1,[d.heap.objs.size+1,d.heap.objs.size],_,_,A,rfl,m.kept (t':=d.toks) x,JO _ _ (Nat.succ_ne_self _) y J,⟨⟨_,t⟩,o⟩,λb F=>?_,q⟩;have n:d.heap.objs.size<=b:=by
  rcases wS.mp F with h | h;·rw[h]; exact zC9 _
  ·rw[zAc.mp h]; exact y8 _
 exact m.yw n (m.hok.fresh n)
noncomputable def Wa (K:zzA)(a:M1)(n:Nat):It:=⟨λi H=>∃b,az K H a b/\b.length=n/\i < n,λi H v d=>d=H/\∀b,az K H a b->b[n - 1 - i]?=some v,λi _=>i=n⟩
theorem NG {K:zzA}(a j:M1)(n:Nat):Turn P w K W (Wa K a n) [j] j (λi h=>i<=n/\h.IsRevIter j a ((n:Int) - 1 - (i:Int))) where
 mem:=by simp
 obj:=λi h st b G=>by obtain⟨_,o,e,c,d⟩:=st;ext
 keep:=λi h O st k=>⟨st.1,st.2.at (by ext)⟩;item:=by
  intro X Q M L J i l s σ H E I A st v;subst Q M L;refine hold λO8 m=>?_;obtain⟨N,R,F,V⟩:=v;obtain⟨S,rv,p,hz⟩:=I.list R;have T:N[n - 1 - i]?=some _:=y2 (by grind);obtain⟨u,hu,ru⟩:=rv.get T;obtain⟨y,q,Y,t,B,C⟩:=A j (by simp);refine m ?_;have z:n - 1 - i=((n - 1 - i:Nat):Int):=by grind
  have f:=st.2;rw[z] at f;refine wpAny_pyNext_rev_item f p.isList (x:=u) (by ext) λO g Z=>?_;have U:=I.turned (t':=s.toks) (λb o G e=>(Z.2 b G).trans e) y q t B C;obtain⟨o,e,c,d⟩:=id g;have e2:((n - 1 - i:Nat):Int) - 1=n - 1 - ((i+1)):=by lia
  rw[e2] at g;exact⟨u,rfl,zv e c d (by decide) ⟨N[n - 1 - i],H,U,ru,⟨rfl,λys hy=>by rw[I.tU hy R]; symm⟩,⟨V,g⟩,(by ext)⟩⟩
 done:=by
  intro X Q M L J i l s σ H E I A st v;have r:=v;subst r;obtain⟨y,q,Y,t,B,C⟩:=A j (by simp);have z:i - 1 - (i:Int)=-1:=by lia
  have f:=st.2;rw[z] at f;exact wpAny_pyNext_rev_end (I.ok.hd J) f λO eb=>⟨rfl,I.turned ‹_› y q t B C⟩
 self:=λ_ _ _ _ _ st h=>wpAny_pyIter_revIter st.2 h
noncomputable def NH (K:zzA)(e:TA):TI:=fun σ H R=>e σ H λf d=>∃a c,f=[.ref a]/\az K d a c/\R (Wa K a c.length) d
theorem Tr (K:zzA)(A:X.mg "reversed"=none)(y:PA X [a] r)(x:X.K=K:=by rfl)(B:Gl X "reversed":=by rfl)(G:zAG [a] X.env=[(false,zAP a X.env)]:=by rfl) : PI X C (.Call (.Name "reversed" p) [a] [] g) (NH K r):=by subst x;intro f s σ H R I h;refine Call_ (nF I B A boot_reversed (zB0 (aM (y g f s σ H _ I h) λL d ⟨J,D,i,w,F⟩=>?_) ‹_› rfl));obtain⟨l,E,e,t,q⟩:=F;subst e;obtain⟨u,rfl,v⟩:=vals1 w;cases v;obtain⟨j,rv,z,N⟩:=i.list t;have n:=rv.length;refine call_reversed_list z.isList ?_;have k:(d.heap.push (revObj l (j.toArray.size - 1))).IsRevIter d.heap.objs.size l _:=⟨_,wE _ rfl,rfl,rfl⟩;refine wpAny_pyIter_revIter k ?_;exact⟨d.heap.objs.size,[d.heap.objs.size],_,_,D,rfl,i.kept (λb o e=>y4 _ e),NG l _ E.length,(by ext),λb M=>by
  have e:b=d.heap.objs.size:=by ext
  subst e;exact i.yw (y8 _) (i.hok.fresh (y8 _)),q⟩
end
end L2
namespace PySem
section
variable {prog:zAA}{w:zAD}{K:Type}[DecidableEq K]{knd:HeapKind prog w K}{A:zAI}{E:zzE}{s:SI}
theorem oK {d a:M1}{xs:List (K × M1 × Value)}{k:K}{v:Value}{Q:zzE}(u:knd.room A)(b:knd.is s.heap k a)(D:s.heap.DictOfH knd d xs)(f:∀p,zAY xs k=some p->Q p.2 { s with toks:=s.toks+knd.draws k })(m:zAY xs k=none->∀h',h'.DictOfH knd d (zCR xs k a v)->Heap.SameBut d s.heap h'->Q v { s with heap:=h',toks:=s.toks+knd.draws k })(C:xs.length<=PK) : zAB (zAC prog w) A (zDw d (.ref a) v) Q E s:=by
 obtain⟨o,G,B,i,F,h,q,n,r⟩:=D;unfold zDw;try with_reducible refine zBw ?_
 refine yA (knd.pyHash u b ?_);refine yA (wpAny_dictFind_heap (s:={ s with toks:=s.toks+knd.draws k }) u b i h q n r ?_ ?_)
 ·intro c;have l:k∉xs.map (·.1):=not_mem_keys_of_get c;refine yA (zC8 (yA (wpAny_updateDictKeys (hz:=by have e:=size_of_entries q; ext) (s:={ s with toks:=s.toks+knd.draws k }) i h (y3 (m (zCG c) _ ⟨_,_,B+1,zCc _ i (Obj.isFreed_of_dict (Obj.data_mapDictKeys h _)), F.mapDictKeys _,Obj.data_mapDictKeys h _,?_,?_,?_⟩ (zB8 ..))))))
  ·rw[zDx (zCG c)];simp [q,entryOfKey]
  ·rw[zDx (zCG c)];intro x g;rcases w8.mp g with g | g;·exact knd.keeps (n x g) i h (zB8 ..)
   ·simp only [zAc] at g;subst g;exact knd.keeps b i h (zB8 ..)
  ·rw[zDx (zCG c)];rw[v3,zBv];refine⟨r,by simp,?_⟩;intro x g y t;simp only [zA2,List.map_nil,zAc] at t;subst t;exact λe=>l (e ▸ g)
 ·intro j p z;refine yA (zCH (s:={ s with toks:=s.toks+knd.draws k }) i h ?_);rw[entry_at q j,z];exact yA (zC8 (y3 (f p (atKey_of_get r z))))
theorem q_ (knd:HeapKind prog w K)(d a:M1)(m:(d == zAR)=false)(b:Value) : MeetsIn prog w (Builtin.«dict.setdefault» ⟨[.ref d,.ref a,b],[]⟩) (λA R s=>knd.room A.in1/\∃k xs,knd.is s.heap k a/\s.heap.DictOfH knd d xs/\xs.length<=PK/\(∀p,zAY xs k=some p->R (.ok (.ret p.2)) { s with toks:=s.toks+knd.draws k })/\(zAY xs k=none->∀h',h'.DictOfH knd d (zCR xs k a b)->Heap.SameBut d s.heap h'->R (.ok (.ret b)) { s with heap:=h',toks:=s.toks+knd.draws k })):= .of_wp λA R s ⟨i,k,xs,c,e,h,j,n⟩=>by refine yA ?_;refine yA (zCI e.typeIs ?_);refine y3 ?_;show zAB _ _ (if (d == zAR)=true then _ else (zDw d _ b >>= _)) _ _ s;rw[xL (by ext)];exact yA (oK i c e (λp o=>y3 (by ext)) (λl h' f g=>y3 (by ext)) h)
end
end PySem
namespace L2
open PySem PySem.Spec PyProof.Rows TB
section
variable {X:Cx}{pins:zzC}{σ:St}{H:Hp}{s:SI}{a:M1}{y d:V}{u r:Value}{o:Option V}{A:zAI}{E:zzE}
theorem Tt (q:A.units+9 < zAT)(I:Inv X pins σ H s)(g:yN X.K X.prog X.w H a y o)(j:RelV y u)(p:RelV d r)(h:∀i s',Inv X pins σ H s'->RelV (o.getD d) i->Q i s') : zAB (zAC X.prog X.w) A (call (.builtin "dict.get") [.ref a,u,r]) Q E s:=by obtain⟨m,n,k,b,w,rfl,v,rfl⟩:=g;cases (show u=Value.ref b from j);obtain⟨t,l,f,_,_,_,e⟩:=m6 I w;refine zDA zDd f.typeIs PySem.F.entry_dict_get (PySem.F.args_dict_get_3 _ _ _) (meetsH_dict_get_default _ a b t r) ⟨zY q,k,l,v.key I,f,h _ _ (I.tok _) ?_⟩;exact (e k).getD p
noncomputable def NI (K:zzA)(P:zAA)(w:zAD)(H:Hp)(a:M1)(y v:V)(Q:V->Hp->Prop):Prop:=∃m n k b,bG K P w H a m n/\n < PK/\y=.ref b/\NK K H k b/\(∀z,m k=some z->Q z H)/\(m k=none->∀o,bG K P w (upd H a o) a (λj=>if j=k then some v else m j) (n+1)->Q v (upd H a o))
theorem NJ (hu:A.units+9 < zAT)(I:Inv X pins σ H s)(g:NI X.K X.prog X.w H a y v R)(ry:RelV y u)(rv:RelV v r)(h:∀z M H' s',Inv X pins σ H' s'->RelV z M->R z H'->Q M s') : zAB (zAC X.prog X.w) A (call (.builtin "dict.setdefault") [.ref a,u,r]) Q E s:=by
 obtain⟨m,n,k,b,K,hn,rfl,J,P,k2⟩:=g;cases (show u=Value.ref b from ry);have B:=K.mut;obtain⟨N,L,O,eH,hl,F,j⟩:=m6 I K;have c:=j k;refine zDA PySem.F.slot_dict_setdefault O.typeIs PySem.F.entry_dict_setdefault (PySem.F.args_dict_setdefault_3 _ _ _) (q_ _ a b N r) ⟨zY hu,k,L,J.key I,O,by lia,λp l=>?_,λl Y C hs=>?_⟩
 ·rw[l] at c;cases e:m k with| none=>rw[e] at c; exact c.elim| some z=> rw[e] at c;exact h z _ H _ (I.tok _) c (P z e)
 ·rw[l] at c;have e:m k=none:=by cases e:m k with| none=>rfl| some z=>rw[e] at c; exact c.elim
  obtain⟨q,es,U,i,h2,S,W,_,Z⟩:=C;have D:Ey X.prog X.w Y a _:=⟨N,q,es,U,i,h2,S,W,Z⟩;refine h v r _ _ (xH I B hs ⟨q,i⟩ (yM D)) rv (k2 e _ ⟨zCR L k b r,ao,?_,λx G=>?_,λw=>?_⟩)
  ·unfold zCR;ext
  ·rw[zDx l] at G;rcases w8.mp G with z | z;·exact (F x z).tups λq T i=>k_ B i
   ·rw[zAc.mp z];exact J.tups λq T i=>k_ B i
  ·rw[Ca];show fU (if w=k then some v else m w) _;by_cases t:w=k;·rw[u1 t,u1 t]; symm
   ·rw[xL t,xL t]; exact j w
noncomputable def Tu (K:zzA)(P:zAA)(w:zAD)(H:Hp)(a:M1):Prop:=∃m n,bG K P w H a m n
theorem Lj (I:Inv X pins σ H s)(d:Tu X.K X.prog X.w H a):s.TypeIs (.ref a) "dict"/\∀b,Value.ref a=.ref b->∃c,s.heap.get? b=some c/\c.dict=none:=by obtain⟨m,n,f⟩:=d;obtain⟨j,i,e,_⟩:=m6 I f;refine⟨e.typeIs,λb q=>?_⟩;cases q;obtain⟨c,_,_,h,g,_⟩:=e;exact⟨c,h,g.2.1⟩
end
noncomputable def Tv (K:zzA)(P:zAA)(w:zAD)(e f g:TE):TE:=fun σ H Q=>e σ H λx c=>∃a,x=.ref a/\Tu K P w c a/\f σ c λy h=>g σ h λz d=>∃o,yN K P w d a y o/\Q (o.getD z) d
noncomputable def VI (K:zzA)(P:zAA)(w:zAD)(d e g:TE):TE:=fun σ H Q=>d σ H λx c=>∃a,x=.ref a/\Tu K P w c a/\e σ c λy h=>g σ h λz f=>NI K P w f a y z Q
section
variable {X:Cx}{o e f:zAU}{apos cpos:Pos}{td ty tx:TE}(K:zzA)(P:zAA)(w:zAD)
theorem Tw (V:X.A.units+9 < zAT)(n:PE X o td)(O:PE X e ty)(U:PE X f tx)(m:M2 X o "get" apos e f cpos)(C:X.K=K:=by rfl)(G:X.prog=P:=by rfl)(J:X.w=w:=by rfl):PE X (.Call (.Attribute o "get" apos) [e,f] [] cpos) (Tv K P w td ty tx):=by subst C; subst G; subst J;intro c s σ H Q I h;refine zDM m.base m.few m.line zC1 zDd PySem.F.type_dict_get (aM (n c s σ H _ I h) λu p N=>?_);obtain⟨x,q,j,E,a,A,d,r⟩:=N;subst A;obtain rfl:u=Value.ref a:=E;obtain⟨D,t⟩:=Lj j d;refine⟨D,t,?_⟩;rw[m.trees];refine zDb rfl (zDg (zCs (aM (O c p σ q _ j r) λiv R ⟨y,k,l,M,F⟩=> zCs (aM (U c R σ k _ l F) λW Y ⟨z,v,S,L,Z,g,T⟩=>Calls.spliced_nil ?_))));exact Tt V S g M L λw' s4 B i=>⟨_,v,B,i,T⟩
theorem VJ (V:X.A.units+9 < zAT)(n:PE X o td)(U:PE X e ty)(T:PE X f tx)(m:M2 X o "setdefault" apos e f cpos)(C:X.K=K:=by rfl)(R:X.prog=P:=by rfl)(S:X.w=w:=by rfl):PE X (.Call (.Attribute o "setdefault" apos) [e,f] [] cpos) (VI K P w td ty tx):=by subst C; subst R; subst S;intro c s σ H Q I h;refine zDM m.base m.few m.line zC1 PySem.F.slot_dict_setdefault PySem.F.type_dict_setdefault (aM (n c s σ H _ I h) λu p L=>?_);obtain⟨x,r,j,E,a,M,d,t⟩:=L;subst M;obtain rfl:u=Value.ref a:=E;obtain⟨D,v⟩:=Lj j d;refine⟨D,v,?_⟩;rw[m.trees];refine zDb rfl (zDg (zCs (aM (U c p σ r _ j t) λiv N ⟨y,k,l,J,F⟩=> zCs (aM (T c N σ k _ l F) λfv s3 ⟨z,Z,O,G,g⟩=>Calls.spliced_nil ?_))));exact NJ V O g J G λW w' A Y B i q=>⟨W,A,B,i,q⟩
end
section
variable {X:Cx}{a b:zAU}{rest:List zAU}{pos:Pos}{ta tb:TE}(K:zzA)
end
noncomputable def Q2:V->List V->Hp->VK->Prop:=λx a H Q=>∃i,x=.int i/\a=[]/\Q (.int (((Builtin.Int.intBits i:Nat):Int))) H
theorem Lk:rX X "int.bit_length" Q2:=by intro c s σ H x e v f Q I d b h;obtain⟨i,rfl,rfl,q⟩:=h;cases b;obtain⟨t,rfl⟩:=d;exact call_gives F.slot_int_bit_length rfl F.entry_int_bit_length (F.args_int_bit_length_1 _) (AutoIntG2.int_bit_length_int_0 i t) (⟨.int _,H,I.tok _,⟨_,rfl⟩,q⟩)
theorem ri:∀(ns:List Int) (n:Nat),n<=ns.length->preSum (λi=>ns.getD i 0) n=(ns.take n).sum| ns,0,_=>by rfl| ns,n+1,h=>by have:=ri ns n (zCd h);show preSum _ n+ns.getD n 0=_;rw[this,zAz,List.sum_append,y6,y2 ‹_›];simp
theorem x_ {ns:List Int}(h:∀n∈ns,0<=n)(k:Nat):0<=(ns.take k).sum/\(ns.take k).sum<=ns.sum:=by induction ns generalizing k with| nil=>simp| cons a e c=> cases k with| zero=> have d:=h a zAb;have:=c (λn b=>h n (zBd _ b)) e.length;rw[zAj] at this;simp;lia| succ k=> have d:=h a zAb;have:=c (λn b=>h n (zBd _ b)) k;simp;lia
noncomputable def Tz (K:zzA):List V->Hp->VK->Prop:=λc H Q=>∃(l:M1) (a:List Int),c=[.ref l]/\az K H l (a.map V.int)/\(∀n∈a,0<=n)/\a.sum < 2 ^ 62/\Q (.int a.sum) H
theorem NL (D:X.calm=true):bP X (.builtin "sum") (Tz X.K):=by
 intro B s σ H M U Q I r h;obtain⟨l,a,rfl,E,d,K,q⟩:=h;obtain⟨u,rfl,w⟩:=vals1 r;cases w;obtain⟨c,rv,k,W⟩:=I.list E;have g:=rv.length;rw[yB] at g;refine call_sum_walk (zBK k.isList ⟨s.heap.objs.size,[s.heap.objs.size,l],[s.heap.objs.size],c.toArray.size,_,_,λi=>a.getD i 0,rfl,Walks.list (by simp [I.ok.hd D]) _ l ?_ c.toArray,⟨⟨_,wE _ rfl,rfl,rfl⟩,?_⟩,λb A=>?_,λi v T=>?_,λj L=>?_,λN J G C=>?_⟩)
 ·obtain⟨o,n,f,_⟩:=k;exact zAe (v4 f)
 ·obtain⟨o,f,r⟩:=k.isList;exact⟨o,y4 _ f,r⟩
 ·have R:l < s.heap.objs.size:=by obtain⟨o,n,f,_⟩:=k;exact v4 f
  rw[size_push];grind
 ·have y:c[i]?=some v:=by ext
  have P:i < a.length:=by grind
  obtain⟨u,F,w⟩:=rv.get (i:=i) (x:=.int a[i]) (by simp);rw[y] at F;obtain⟨t,rfl⟩:=w;grind
 ·have m:j < a.length:=by ext
  have O:=x_ d (j+1);have V:=x_ d j;have p:=ri a (j+1) ‹_›;have S:a.getD j 0∈a:=by ext
  have z:(a.take (j+1)).sum=(a.take j).sum+a.getD j 0:=by rw[zAz,List.sum_append,y6,y2 m]; simp
  show (-(2 ^ 63)<=a.getD j 0/\a.getD j 0 < 2 ^ 63)/\-(2 ^ 63)<=preSum _ _/\preSum _ _ < 2 ^ 63;refine⟨⟨?_,?_⟩,?_,?_⟩ <;> lia
 ·have p:=ri a a.length (y8 _);rw[zAj] at p;have z:c.toArray.size=a.length:=by simp; ext
  rw[z,p];exact⟨.int a.sum,H,I.kept (λb o e=>C b o (λA=>absurd (v4 e) (by rw[zAc.mp A]; exact zB5 _)) (y4 _ e)),⟨G,rfl⟩,q⟩
section
variable {X:Cx}(K:zzA)
theorem XR (h:X.K=K:=by rfl)(a:X.calm=true:=by rfl):bP X (.builtin "sum") (Tz K):=h ▸ NL a
end
theorem yQ:fillsNumberSlot (.type "tuple") "mul"=pure false:= PySem.fillsNumberSlot_seq F.slot_tuple_mul.lookup (by rfl) F.slot_tuple_rmul.lookup (by rfl)
theorem EH:seqRepeat? (.type "tuple")=pure (some (.builtin "tuple.__mul__")):=by rfl
section
variable {prog:zAA}{w:zAD}{A:zAI}{E:zzE}{s:SI}
theorem Ll (k:Int)(t:Tok)(a:M1):Meets (Builtin.«int.__rmul__» ⟨[.int k t,.ref a],[]⟩) (λ_ R s=>(∃o xs m,s.heap.get? a=some o/\o.cls=.type "tuple"/\o.data=.seq xs m)/\R (.ok (.ret Value.notImplemented)) s):= .of_wp λprog w A R s h=>by obtain⟨⟨o,xs,m,c,d,b⟩,h⟩:=h;wp_walk;rw[b];wp_walk;ext
theorem Q3 (v:Value):∀n:Nat,foldl (·++·) (#[]:Array Value) (replicate n #[v])=(replicate n v).toArray:=by
 have f:∀n a,foldl (·++·) a (replicate n #[v])=a++(replicate n v).toArray:=λn=>by induction n with| zero=>simp| succ n b=> grind
 ext
theorem Lm {a:M1}{o:Obj}{v:Value}{m n:Nat}{t:Tok}{P:PySem.Fin->SI->Prop}(c:s.heap.get? a=some o)(f:o.cls=.type "tuple")(g:o.data=.seq #[v] m)(q:1<=n)(r:n<=1000)(e:n=1->P (.done (.ret (.ref a))) s) (h:P (.done (.ret (.ref s.heap.objs.size))) { s with heap:=s.heap.push { cls:=.type "tuple",data:=.seq (replicate n v).toArray } }) : zAB (zAC prog w) A (Builtin.«tuple.__mul__» ⟨[.ref a,.int n t],[]⟩) P E s:=by
 refine yA (zDr rfl ?_);have p:¬ ((decide ((n:Int) < -(2 ^ 63))||decide ((n:Int) >= 2 ^ 63))=true):=by grind
 rw[xL p];refine yA (wpAny_tupleItemsOf c g ?_);have k:¬ ((decide ((n:Int)<=0)||(#[v]).isEmpty)=true):=by grind
 have d:¬ ((((#[v]).size:Int) * n) > (2 ^ 63 - 1) / 8):=by grind
 have i:¬ (Builtin.Tuple.tupleTooMany (((#[v]).size) * n)=true):=by unfold Builtin.Tuple.tupleTooMany;rw[kA];grind
 by_cases l:n=1
 ·subst l;refine yA (yA (zCA ⟨o,c,f⟩ (y3 ?_)));exact yA (zC8 (y3 (e rfl)))
 ·have j:¬ (((#[v]).isEmpty||(n:Int) == 1)=true):=by grind
  rw[xL j,xL k,xL d,xL i,Q3];exact yA (zCk (y3 h) (show (replicate n v).toArray.size<=PK by rw[zB7,List.length_replicate,kA]; lia))
end
noncomputable def JP (K:zzA):R2:=λx y H Q=>∃(a:M1) (v:V) (n:Nat),x=.ref a/\y=.int (n:Int)/\aG K H a [v]/\1<=n/\n<=1000/\∀p c,ah H c->aG K c p (replicate n v)->Q (.ref p) c
theorem EI (r:RelV v u):∀n:Nat,Vals (replicate n v) (replicate n u)| 0=>.nil| n+1=>.cons r (EI r n)
theorem Q4:eT X (zBI .Mult) (JP X.K):=by
 intro f s σ H x y u v Q I k p h;obtain⟨a,z,n,rfl,rfl,g,B,w,q⟩:=h;cases k;obtain⟨t,rfl⟩:=p;obtain⟨i,C,⟨o,d,c,m,j⟩,_⟩:=I.tuple g;obtain⟨l,rfl,r⟩:=vals1 C;refine zDI (by decide) ⟨_,d,c⟩ (λD=>typeIs_int D n t) yQ F.fills_int_mul F.slot_int_rmul EH F.slot_int_index.lookup (zCN F.slot_int_rmul rfl F.entry_int_rmul (F.args_int_rmul_2 _ _) (Ll n t a) ⟨(by ext),rfl,⟨_,d,c⟩,zBq F.slot_tuple_mul ⟨_,d,c⟩ F.entry_tuple_mul ?_ (F.args_tuple_mul_2 _ _)⟩);refine Lm d c j B w (λe=>⟨_,rfl,?_⟩) ⟨_,rfl,?_⟩
 ·subst e;exact⟨.ref a,H,I,rfl,q a H (ah.refl H) g⟩
 ·have A:=I.hok.fresh (y8 _);refine⟨.ref s.heap.objs.size,upd H s.heap.objs.size (.tup _),I.laid (λb o e=>y4 _ e) (y8 _) ⟨?_,replicate n l,EI r n,IsTup.new _ _⟩,rfl,q _ _ (ah.new A _) (aG.of ao)⟩;rw[List.length_replicate,kA];lia
theorem VL (K:zzA)(h:X.K=K:=by rfl):eT X (zBI .Mult) (JP K):=h ▸ Q4
structure i0 (K:zzA)(C:M1)(m q:Str)(st:zAM)(f:M1)(fd:zAE)(ps:List Str):Prop where
 fn:nJ K m q st f fd
 bd:Binds K fd ps []
 me:Meth K C m f
theorem cg.j6 (r:cg k A):A.units+9 < zAT:=by have:=r.un; lia
section
variable {X:Cx}{CX:uJ}{k:Nat}{f C:M1}{fd:zAE}{ps:List Str}{sp:Sp}{E:XK}{x m q:Str}{st:zAM}{p pos apos cpos tpos:Pos}{e o i value:zAU}{es:List zAU}{ta tv td ty:TE}{t:TA}(K:zzA)
theorem aZ (b:PE X e ta)(h:X.K=K:=by rfl)(a:zBC e y X.env (zAP e X.env)=zAP e X.env:=by rfl):PE X (.Attribute e y pos) (jV K ta y):=h ▸ R9 b a
theorem jE (c:PE X o ta)(a:PE X value tv)(h:X.K=K:=by rfl)(b:zBX value (some (.Attribute o y tpos)) pos.line X.env=pure false:=by rfl):PS X (.Assign [.Attribute o y tpos] value pos) (vB K ta tv y):=h ▸ R_ c a b
theorem NN {r:Sem Bool}(D:i0 X.K C m q st f fd ps)(c:gk X.K C)(F:aL X.prog X.w X.K X.mg X.base CX k f fd ps sp)(l:cg k X.A)(h:Passes CX X E)(s:PE X o ta)(j:PA X (e::es) t)(b:zAG (e::es) X.env=(false,zAP e X.env)::zAG es X.env:=by rfl) (d:(zAW pos (zAG es X.env)).any (·.1)=false:=by rfl)(n:zAP (.Call (.Attribute o m apos) (e::es) [] pos) X.env=(do let g <-zAP o X.env;zDK apos.atName;let (f,a) <-zCP [g] (zCM g m r);zDS pos f a (zAW pos (zAG (e::es) X.env)) (zCF pos (zAZ [] X.env))):=by rfl) : PE X (.Call (.Attribute o m apos) (e::es) [] pos) (t6 C m sp [] E ta t):=Qw s c D.me F l D.bd .nil h j b d n
theorem Ln (D:i0 X.K C m q st f fd ps)(c:gk X.K C)(F:aL X.prog X.w X.K X.mg X.base CX k f fd ps sp)(h:cg k X.A)(g:Passes CX X E)(j:PE X o ta)(d:zAP (.Call (.Attribute o m apos) [] [] pos) X.env=(do let b <-zAP o X.env;zDK apos.atName;let (f,a) <-zCP [b] (zCM b m l);zDS pos f a (zAW pos (zAG [] X.env)) (zCF pos (zAZ [] X.env))):=by rfl) : PE X (.Call (.Attribute o m apos) [] [] pos) (t6 C m sp [] E ta fB):=MR j c D.me F h D.bd .nil g d
theorem EJ (M:Mk X.K C f)(D:i0 X.K C m q st f fd ps)(F:aL X.prog X.w X.K X.mg X.base CX k f fd ps sp)(d:cg (k+1) X.A)(l:X.mg x=some (.ref C))(c:Passes CX X E)(j:PA X (e::es) t)(h:Gl X x:=by rfl)(a:(x == ("__debug__":Str))=false:=by decide) (g:zAG (e::es) X.env=(false,zAP e X.env)::zAG es X.env:=by rfl) (b:(zAW pos (zAG es X.env)).any (·.1)=false:=by rfl) : PE X (.Call (.Name x p) (e::es) [] pos) (zz C sp [] E t):=Qx M F d h l D.bd .nil c j a g b
theorem Lo (M:Mk X.K C f)(D:i0 X.K C m q st f fd ps)(F:aL X.prog X.w X.K X.mg X.base CX k f fd ps sp)(c:cg (k+1) X.A)(g:X.mg x=some (.ref C))(b:Passes CX X E)(d:Gl X x:=by rfl)(a:(x == ("__debug__":Str))=false:=by decide):PE X (.Call (.Name x p) [] [] pos) (zz C sp [] E fB):=MS M F c d g D.bd .nil b a
theorem NO {T id:String}(j:zEG T)(c:Slot T name id)(d:typeOf (.builtin id)=pure (.type "method_descriptor"))(g:rX X id r)(l:PE X o ta)(h:X.K=K:=by rfl)(b:zBC o name X.env (zAP o X.env)=zAP o X.env:=by rfl) (a:(apos.endLine == cpos.line)=true:=by rfl):PE X (.Call (.Attribute o name apos) [] [] cpos) (So K T r ta):=h ▸ Ss j c d g l b a
theorem O9 (a:X.calm=true:=by rfl):bP X (.builtin "min") (λxs H Q=>∃i j,xs=[.int i,.int j]/\Q (.int (if j < i then j else i)) H):=Kz a
theorem O_ (a:X.calm=true:=by rfl):bP X (.builtin "max") (λxs H Q=>∃i j,xs=[.int i,.int j]/\Q (.int (if j > i then j else i)) H):=Ky a
end
noncomputable def TF (N P:List Str)(a:zDE):Bool:= decide (a.kind=.function)&&!a.isCoroutine&&!a.isGenerator&&decide N.Nodup&&decide (N.take P.length=P)&&P.all (λx=>decide (a.names.lookup x=some .local\/a.names.lookup x=some .cell))&&a.names.all λy=>decide (y.2≠.free)
theorem cH (h:TF N P b=true:=by decide +kernel):aJ N P b:=by simp only [TF,zAw,zBn,Bool.not_eq_true',zAi] at h;obtain⟨⟨⟨⟨⟨⟨j,g⟩,e⟩,f⟩,c⟩,d⟩,i⟩:=h;exact⟨j,g,e,f,c,d,i⟩
section
variable {X:Cx}{x y:Str}{e:zAU}{te:TE}{pos pos' py spos:Pos}
theorem bE (i:Nat)(a:X.N.Nodup)(d:X.N[i]?=some x:=by rfl)(b:Loc X.env.scope x:=by first | exact Or.inl rfl | exact Or.inr rfl)(c:X.fn x=true\/X.env.scope.names.lookup x=some .local:=by first | exact .inl rfl | exact .inr rfl | symm):PG X (.Name x pos) (cz i):=Qp a d b c
theorem bF (i:Nat)(a:X.N.Nodup)(d:PE X e te)(b:X.N[i]?=some x:=by rfl)(c:Loc X.env.scope x:=by first | exact Or.inl rfl | exact Or.inr rfl)(g:zBX e (some (.Name x pos')) pos.line X.env=pure false:=by rfl)(f:X.fn x=true\/X.env.scope.names.lookup x=some .local:=by first | exact .inl rfl | exact .inr rfl | symm) : PS X (.Assign [.Name x pos'] e pos) (AO te (cz i)):=RX a b c d g f
variable {sc:zDE}{elt tg iter:zAU}{ifs:List zAU}{wi:TI}{g:TG}{tf:TT}
theorem iD (a:List Str)(d:List (Option Nat))(f:PI X tg iter wi)(h:∀C b c ex,a.Nodup->PG (cG X a sc C b c ex) tg g/\PF (cG X a sc C b c ex) ifs tf/\PE (cG X a sc C b c ex) elt te)(i:zM X.env.scope.names X.N a d sc=true:=by kernel_rfl) (k:X.calm=true:=by rfl)(j:∀x,zBL iter X.env x=pure x:=by intro _; rfl):PE X (.ListComp elt [⟨tg,iter,ifs,0⟩] sc pos) (xB wi d g tf te):= have S:=vI (X:=X) i;QH S k f (λC s H ex=>(h C s H ex S.nd).1) (λC s H ex=>(h C s H ex S.nd).2.1) (λC s H ex=>(h C s H ex S.nd).2.2) j
theorem Y8 (i:Nat)(k:X.N.Nodup)(a:List Str)(j:List (Option Nat))(n:PI X tg iter wi)(h:∀C c d ex,a.Nodup->PG (cG X a sc C c d ex) tg g/\PF (cG X a sc C c d ex) ifs tf/\PE (cG X a sc C c d ex) elt te)(o:zM X.env.scope.names X.N a j sc=true:=by kernel_rfl) (l:X.calm=true:=by rfl)(p:X.N[i]?=some y:=by rfl) (m:Loc X.env.scope y:=by first | exact Or.inl rfl | exact Or.inr rfl)(f:zBX (.ListComp elt [⟨tg,iter,ifs,0⟩] sc pos) (some (.Name y py)) spos.line X.env=pure true:=by rfl)(q:∀x,zBL iter X.env x=pure x:=by intro _; rfl)(b:X.fn y=true\/X.env.scope.names.lookup y=some .local:=by first | exact .inl rfl | exact .inr rfl | symm) : PS X (.Assign [.Name y py] (.ListComp elt [⟨tg,iter,ifs,0⟩] sc pos) spos) (t8 i wi j g tf te):= have S:=vI (X:=X) o;JE k p m S l n (λC s H ex=>(h C s H ex S.nd).1) (λC s H ex=>(h C s H ex S.nd).2.1) (λC s H ex=>(h C s H ex S.nd).2.2) f q b
end
section
variable {X:Cx}{CX:uJ}{j k:Nat}{f C:M1}{fd:zAE}{ps:List Str}{sp:Sp}{E:XK}{x m q:Str}{st:zAM}{p pos apos:Pos}{e o:zAU}{es:List zAU}{ta:TE}{t:TA}
theorem cD (D:Def X.K X.mg x st f fd ps)(F:aL X.prog X.w X.K X.mg X.base CX j f fd ps sp)(d:cg k X.A)(c:Passes CX X E)(i:PA X (e::es) t)(l:j<=k:=by first | decide | lia)(h:Gl X x:=by rfl)(a:(x == ("__debug__":Str))=false:=by decide) (g:zAG (e::es) X.env=(false,zAP e X.env)::zAG es X.env:=by rfl) (b:(zAW pos (zAG es X.env)).any (·.1)=false:=by rfl) : PE X (.Call (.Name x p) (e::es) [] pos) (qy sp [] E t):=Nn D F (d.mono l) c i h a g b
theorem cM {s:Sem Bool}(D:i0 X.K C m q st f fd ps)(c:gk X.K C)(F:aL X.prog X.w X.K X.mg X.base CX j f fd ps sp)(i:cg k X.A)(h:Passes CX X E)(u:PE X o ta)(l:PA X (e::es) t)(n:j<=k:=by first | decide | lia)(b:zAG (e::es) X.env=(false,zAP e X.env)::zAG es X.env:=by rfl) (d:(zAW pos (zAG es X.env)).any (·.1)=false:=by rfl)(r:zAP (.Call (.Attribute o m apos) (e::es) [] pos) X.env=(do let g <-zAP o X.env;zDK apos.atName;let (f,a) <-zCP [g] (zCM g m s);zDS pos f a (zAW pos (zAG (e::es) X.env)) (zCF pos (zAZ [] X.env))):=by rfl) : PE X (.Call (.Attribute o m apos) (e::es) [] pos) (t6 C m sp [] E ta t):=NN D c F (i.mono n) h u l b d r
end
end L2
namespace eK
open PySem PySem.Spec PyProof.Rows L2
def top (i:Nat):zAM:=PySem.Challenge.pw_quiltyard_k11_whole_of_pictures.main.body.getD i (.Pass ⟨0,0,0,0⟩)
abbrev xK:zAM:=top 0
abbrev iN:zAM:=top 12
abbrev ji:zAM:=top 13
abbrev g6:zAM:=top 14
abbrev j7:zAM:=top 15
abbrev jk:zAM:=top 16
abbrev jl:zAM:=top 21
abbrev r8:zAM:=top 22
abbrev j8:zAM:=top 23
abbrev iO:zAM:=top 24
abbrev lJ:zAM:=top 25
abbrev lK:zAM:=top 26
abbrev fX:zAM:=top 27
abbrev g7:zAM:=top 28
abbrev iP:zAM:=top 29
abbrev pJ:zAM:=top 31
abbrev iQ:zAM:=top 32
abbrev jn:zAM:=top 35
abbrev j9:zAM:=top 36
abbrev eL:zAM:=top 37
abbrev gB:zAM:=top 39
abbrev pK:zAM:=top 40
abbrev vU:zAM:=top 41
abbrev j_:zAM:=top 43
abbrev lM:zAM:=top 44
abbrev g8:zAM:=top 45
abbrev jo:zAM:=top 46
abbrev g9:zAM:=top 47
abbrev oM:zAM:=top 48
abbrev dg:zAM:=inClass (top 33) 0
abbrev cI:zAM:=inClass (top 33) 1
abbrev dZ:zAM:=inClass (top 33) 2
abbrev gi:zAM:=inClass (top 33) 3
abbrev ef:zAM:=inClass (top 33) 4
abbrev cV:zAM:=inClass (top 33) 5
abbrev dI:zAM:=inClass (top 33) 6
abbrev cJ:zAM:=inClass (top 33) 7
abbrev eN:zAM:=inClass (top 33) 8
abbrev fY:zAM:=inClass (top 34) 0
abbrev fq:zAM:=inClass (top 34) 1
abbrev fu:zAM:=inClass (top 34) 2
abbrev gC:zAM:=inClass (top 34) 3
abbrev g_:zAM:=inClass (top 34) 4
abbrev cX:zAM:=inClass (top 34) 5
abbrev dJ:zAM:=inClass (top 34) 6
abbrev h_:zAM:=inClass (top 34) 7
abbrev ic:zAM:=inClass (top 34) 8
abbrev ie:zAM:=inClass (top 34) 9
set_option genInjectivity false in
structure Ad where
 Q5:M1
 A7:zAE
 kI:M1
 gu:zAE
 pL:M1
 jq:zAE
 jF:M1
 fT:zAE
 rj:M1
 kg:zAE
 pM:M1
 jr:zAE
 pN:M1
 jt:zAE
 A8:M1
 r9:zAE
 rm:M1
 kh:zAE
 nZ:M1
 iR:zAE
 ue:M1
 lN:zAE
 uf:M1
 lO:zAE
 pO:M1
 iG:zAE
 m7:M1
 ig:zAE
 uQ:M1
 kJ:zAE
 EK:M1
 ug:zAE
 uR:M1
 kK:zAE
 vV:M1
 lP:zAE
 ya:M1
 nv:zAE
 nN:M1
 gD:zAE
 lQ:M1
 gE:zAE
 yR:M1
 pP:zAE
 Lp:M1
 z6:zAE
 rq:M1
 ki:zAE
 uh:M1
 lR:zAE
 r_:M1
 jG:zAE
 vW:M1
 lS:zAE
 sC:M1
 jH:zAE
 z7:M1
 um:zAE
 qG:Value
 nC:Value
 jI:Value
 uo:Value
 lT:Value
 kL:Value
 vX:M1
 aR:M1
 fQ:M1
 qH:M1
 uq:M1
 qI:M1
 aD:M1
 bq:M1
 ir:M1
 eY:zAE
 jR:M1
 dU:zAE
 mG:M1
 gj:zAE
 uZ:M1
 iW:zAE
 rz:M1
 gP:zAE
 ko:M1
 er:zAE
 lU:M1
 fE:zAE
 jS:M1
 dW:zAE
 nO:M1
 gF:zAE
 kR:M1
 iH:zAE
 ow:M1
 gS:zAE
 oz:M1
 gT:zAE
 qJ:M1
 i6:zAE
 sD:M1
 jJ:zAE
 kq:M1
 eu:zAE
 lV:M1
 fF:zAE
 sE:M1
 jK:zAE
 sG:M1
 jL:zAE
 sH:M1
 jM:zAE
structure Txt (K:zzA)(mg:Str->Option Value)(t:Ad):Prop where
 _wall:Def K mg "_wall" xK t.Q5 t.A7 ["k"]
 rA:Def K mg "are_letters" iN t.kI t.gu ["text"]
 z8:Def K mg "is_picture" ji t.pL t.jq ["rows"]
 pQ:Def K mg "look_picture" g6 t.jF t.fT ["picture"]
 Cd:Def K mg "column_at" j7 t.rj t.kg ["picture","place"]
 z9:Def K mg "columns_of" jk t.pM t.jr ["picture"]
 z_:Def K mg "are_fields" jl t.pN t.jt ["fields","many","marks"]
 Pa:Def K mg "rises" r8 t.A8 t.r9 ["tiles"]
 Ce:Def K mg "is_system" j8 t.rm t.kh ["system"]
 rB:Def K mg "look_system" iO t.nZ t.iR ["system"]
 EL:Def K mg "bordered" lJ t.ue t.lN ["rows"]
 EM:Def K mg "tiles_of" lK t.uf t.lO ["rows"]
 sI:Def K mg "mirrored_tiles" fX t.pO t.iG ["tiles"]
 vY:Def K mg "letter_marks" g7 t.m7 t.ig ["text"]
 rC:Def K mg "of_pictures" iP t.uQ t.kJ ["pictures"]
 sJ:Def K mg "bit_of" pJ t.EK t.ug ["field"]
 yb:Def K mg "least_field" iQ t.uR t.kK ["bits"]
 Aa:Def K mg "walk_right" jn t.vV t.lP ["sets","system","high"]
 Cf:Def K mg "walk_left" j9 t.ya t.nv ["sets","system","high"]
 pR:Def K mg "columns_that_end" eL t.nN t.gD ["sets","system","high","columns"]
 uS:Def K mg "least_columns" gB t.lQ t.gE ["system","columns"]
 Lq:Def K mg "row_at" pK t.yR t.pP ["columns","row"]
 lets:Def K mg "lets" vU t.Lp t.z6 ["system","picture"]
 _law_cell:Def K mg "_law_cell" j_ t.rq t.ki ["_law_script","_law_k"]
 _law_mix:Def K mg "_law_mix" lM t.uh t.lR ["_law_script","_law_k"]
 _law_picture:Def K mg "_law_picture" g8 t.r_ t.jG ["_law_script","_law_k","_law_high","_law_wide","_law_letters"]
 _law_tiles:Def K mg "_law_tiles" jo t.vW t.lS ["_law_rows"]
 _law_refusal:Def K mg "_law_refusal" g9 t.sC t.jH ["_law_kept"]
 law:Def K mg "law" oM t.z7 t.um ["_law_script"]
 vZ:mg "LETTERS"=some t.qG
 v5:RelV (.str "abcd") t.qG
 GD:mg "MOST_ROWS"=some t.nC
 GF:RelV (.int 4) t.nC
 A9:mg "MOST_COLUMNS"=some t.jI
 A_:RelV (.int 12) t.jI
 fZ:mg "BORDER"=some t.uo
 f6:RelV (.int (-1)) t.uo
 EN:mg "MOST_MARKS"=some t.lT
 EO:RelV (.int 16) t.lT
 CT:mg "TILE_FIELDS"=some t.kL
 CU:RelV (.int 4) t.kL
 ER:mg "QuiltError"=some (.ref t.vX)
 ES:mg "BadPicture"=some (.ref t.aR)
 GG:mg "BadSystem"=some (.ref t.fQ)
 Lr:mg "BadSize"=some (.ref t.qH)
 NP:mg "Unlike"=some (.ref t.uq)
 Ls:mg "BadText"=some (.ref t.qI)
 GH:mg "FieldSets"=some (.ref t.aD)
 Lu:mg "Walk"=some (.ref t.bq)
 aV:gk K t.aD
 eZ:aS K t.aD "branches"
 gG:aS K t.aD "known"
 dm:aS K t.aD "either_known"
 dX:aS K t.aD "both_known"
 dM:aS K t.aD "first_known"
 mH:i0 K t.aD "__init__" "FieldSets.__init__" dg t.ir t.eY ["self"]
 bu:i0 K t.aD "number_for" "FieldSets.number_for" cI t.jR t.dU ["self","depth","branches"]
 jX:i0 K t.aD "of_one" "FieldSets.of_one" dZ t.mG t.gj ["self","fields"]
 Mz:i0 K t.aD "of_all" "FieldSets.of_all" gi t.uZ t.iW ["self","depth","tuples"]
 JQ:i0 K t.aD "tuples_in" "FieldSets.tuples_in" ef t.rz t.gP ["self","depth","number"]
 fG:i0 K t.aD "in_either" "FieldSets.in_either" cV t.ko t.er ["self","depth","one","other"]
 gH:i0 K t.aD "in_both" "FieldSets.in_both" dI t.lU t.fE ["self","depth","one","other"]
 iu:i0 K t.aD "with_first" "FieldSets.with_first" cJ t.jS t.dW ["self","depth","number","bits"]
 pS:i0 K t.aD "least" "FieldSets.least" eN t.nO t.gF ["self","depth","number"]
 ET:Mk K t.aD t.ir
 d8:gk K t.bq
 lW:aS K t.bq "sets"
 i7:aS K t.bq "letters"
 lY:aS K t.bq "high"
 eO:aS K t.bq "lower_left"
 e_:aS K t.bq "closing"
 fc:aS K t.bq "choices_known"
 fH:aS K t.bq "placed_known"
 fJ:aS K t.bq "closed_known"
 m9:i0 K t.bq "__init__" "Walk.__init__" fY t.kR t.iH ["self","sets","letters","tiles","high"]
 qK:i0 K t.bq "take_tile" "Walk.take_tile" fq t.ow t.gS ["self","tile"]
 qL:i0 K t.bq "beginning" "Walk.beginning" fu t.oz t.gT ["self"]
 n9:i0 K t.bq "choices" "Walk.choices" gC t.qJ t.i6 ["self","left","right","letters"]
 v7:i0 K t.bq "placed" "Walk.placed" g_ t.sD t.jJ ["self","row","front","letters"]
 fL:i0 K t.bq "placed_beneath" "Walk.placed_beneath" cX t.kq t.eu ["self","row","above","front","letters"]
 nP:i0 K t.bq "placed_right" "Walk.placed_right" dJ t.lV t.fF ["self","depth","upper","front","letters"]
 lZ:i0 K t.bq "closed" "Walk.closed" h_ t.sE t.jK ["self","depth","front"]
 v8:i0 K t.bq "onward" "Walk.onward" ic t.sG t.jL ["self","row","front","letters"]
 pT:i0 K t.bq "behind" "Walk.behind" ie t.sH t.jM ["self","columns","choices"]
 H_:Mk K t.bq t.kR
 EU:C9 K mg "BadPicture" t.aR
 EV:jB K t.aR
 GI:C9 K mg "BadSystem" t.fQ
 Vx:jB K t.fQ
 qj:PySem.W.kitOne K (.ref t.aR) (.ref t.aR)=some true
 ur:PySem.W.kitOne K (.ref t.aR) (.ref t.qH)=some false
 rD:PySem.W.kitOne K (.ref t.aR) (.ref t.fQ)=some false
 uu:PySem.W.kitOne K (.ref t.aR) (.ref t.qI)=some false
 u5:PySem.W.kitOne K (.ref t.aR) (.ref t.uq)=some false
 qk:PySem.W.kitOne K (.ref t.aR) (.type "ValueError")=some true
 qm:PySem.W.exmOne K (.ref t.aR) (.ref t.vX)=some true
 ff:mg "len"=none
 xM:mg "all"=none
 VM:mg "any"=none
 gv:mg "range"=none
 Pb:mg "zip"=none
 Pc:mg "max"=none
 Pd:mg "min"=none
 Lv:mg "list"=none
 Ba:mg "tuple"=none
 VN:mg "set"=none
 pU:mg "sorted"=none
 Lw:mg "dict"=none
 VO:mg "sum"=none
 GJ:mg "enumerate"=none
 JR:mg "reversed"=none
 f7:mg "isinstance"=none
 EW:mg "ValueError"=none
theorem small (h:n<=1000):n<=PK:=zCd (KN h)
section
variable {P:zAA}{w:zAD}{K:zzA}{mg:Str->Option Value}{base:Heap}{t:Ad}
theorem Lx (h:Gv b σ H (.ref a))(c:az K H a xs):Gt (fun σ H Q=>b σ H λx H'=>∃k,Jo K x H' k/\Q k H') σ H (!xs.isEmpty):=λR r=>h _ λH' s=>⟨_,.inl ⟨xs,s.seq c,rfl⟩,r H' s⟩
noncomputable def cell (ns:List Int)(k:Int):Int:=if ns=[] then 0 else ns.getD (k % ns.length).toNat 0
inductive Bb (K:zzA)(vs:List V)(H:Hp)(Q:VK)(E_:XK):Prop| mk (a:M1) (ns:List Int) (k:Int):vs=[.ref a,.int k]->az K H a (ns.map V.int)->ns.length<=63->(∀H',ah H H'->Q (.int (cell ns k)) H')->Bb K vs H Q E_
theorem EX:aJ ["_law_script","_law_k"] ["_law_script","_law_k"] (aE j_):=cH
theorem EY (T:Txt K mg t):aL P w K mg base bI 1 t.rq t.ki ["_law_script","_law_k"] (Bb K):=by
 refine T._law_cell.fn.ok EX (λv H Q E h=>?_) (λu A g s H v Q E F h=>?_)
 ·obtain⟨a,b,k,rfl,_⟩:=h;rfl
 obtain⟨a,b,k,rfl,i,B,p⟩:=h;refine⟨_,(aj (bT (Em K (pv 0) (λ_=>rfl)) (au (aH (aO (c_ K) (pv 0) (aF jZ (pv 1) (aI (g5 K) (by rfl) T.ff zB3 (af (pv 0) ai))) (λ_ _=>rfl)))) bf) (au (aH av))),?_⟩;refine fC (Lx aa i) (λc n f=>?_) λc n f=>?_
 ·have m:b≠[]:=λz=>by rw[z] at c; simp at c
  have o:0 < b.length:=zDn.mpr m;have d:(k % (b.length:Int)).toNat < b.length:=by have C:=Int.emod_lt_of_pos k (show (0:Int) < b.length by lia);have y:=Int.emod_nonneg k (show (b.length:Int)≠0 by lia);lia
  have l:j4 (b.map V.int) (k % ((b.map V.int).length:Int))=some (.int (cell b k)):=by
   have y:=Int.emod_nonneg k (show (b.length:Int)≠0 by lia);rw[yB];have e:k % (b.length:Int)=((k % (b.length:Int)).toNat:Int):=by lia
   rw[e];refine cN ?_;unfold cell;rw[xL m,vT,y2 d,y6,y2 d];rfl
  refine b8 (iM aa (λq j=>dY aa (λD r=>jC (K:=K) (xs:=b.map V.int) (aC aa) ((f.trans (j.trans r)).seq i)) ?_) (f.seq i) l) λq j=>p q (f.trans j);rw[yB]; lia
 ·have e:b=[]:=by cases b with| nil=>rfl| cons x xs=>simp at c
  have:=p n f;rw[show cell b k=0 by unfold cell; rw[u1 e]] at this;exact this
noncomputable def TH (ns:List Int)(k:Int):Int:=(cell ns k+104729 * (k+1)) % 4294967291 * 48271 % 4294967279
noncomputable def mix (ns:List Int)(k:Int):Int:=(TH ns k / 64 * 69621+TH ns k) % 4294967231
inductive Ab (K:zzA)(vs:List V)(H:Hp)(Q:VK)(E_:XK):Prop| mk (a:M1) (ns:List Int) (k:Int):vs=[.ref a,.int k]->az K H a (ns.map V.int)->ns.length<=63->(∀H',ah H H'->Q (.int (mix ns k)) H')->Ab K vs H Q E_
theorem rE:aJ ["_law_script","_law_k","_law_number"] ["_law_script","_law_k"] (aE lM):=cH
theorem yd (T:Txt K mg t):aL P w K mg base bI 2 t.uh t.lR ["_law_script","_law_k"] (Ab K):=by
 have b:aL P w K mg base bI 1 t.rq t.ki ["_law_script","_law_k"] (Bb K):=EY T;refine T._law_mix.fn.ok rE (λp H Q E h=>?_) (λq A d s H p Q E n h=>?_)
 ·obtain⟨a,e,k,rfl,_⟩:=h;rfl
 obtain⟨a,e,k,rfl,m,o,l⟩:=h;refine⟨_,(aj (bF 2 rE.nd (aF jZ (aF cS (cD T._law_cell b n aN (af (pv 0) (af (pv 1) ai))) (aF vv av (aF cS (pv 1) av))) av)) (aj (bF 2 rE.nd (aF jZ (aF vv (pv 2) av) av)) (au (aH (aF jZ (aF cS (aF vv (aF G9 (pv 2) av) av) (pv 2)) av))))),?_⟩;refine gZ (dY (aW (gr (v:=.int (cell e k)) (ay aa λ_ _=>aC aa) λf R c r=>⟨a,e,k,rfl,c.seq m,o,r⟩) λf c=>dY aB (λu g=>aW aa λ_ _=>aB) (.inl ⟨by decide,by decide⟩)) (λ_ _=>aB) (by decide)) λf c=>?_;refine gZ (dY (dY aa (λ_ _=>aB) (.inr ⟨by decide,by decide⟩)) (λ_ _=>aB) (by decide)) λu g=>?_;refine b8 (dY (aW (dY (dY aa (λ_ _=>aB) ⟨by decide,by decide⟩) (λ_ _=>aB) (.inr ⟨by decide,by decide⟩)) λ_ _=>aa) (λ_ _=>aB) (by decide)) λi j=>?_;exact l i (c.trans (g.trans j))
noncomputable def Gd (K:zzA)(c:TE)(σ:L2.St)(H:Hp)(d:List Dt):Prop:=∀R:VK,(∀p a b,H p=none->ah H a->a p=some (.lst b)->aK K (Hm p a) d b->R (.ref p) a)->c σ H R
theorem Pe {a:TE}{σ:L2.St}{H:Hp}{b:List Dt}{R:VK}(h:Gd K a σ H b)(r:∀p H' vs,H p=none->ah H H'->H' p=some (.lst vs)->aK K (Hm p H') b vs->R (.ref p) H'):a σ H R:=h R r
theorem Ly (h:Gn d σ H (ns.map V.int)):Gd K (AR (dj d fB)) σ H [dH ns]:=λR r=> h _ λp g f c b=>⟨(by show 1<=PK; decide),λq a=>r q _ _ (c.free a) (c.trans (ah.new a _)) ao (by unfold aK;refine⟨_,_,rfl,jh.mpr ⟨p,rfl,az.of ?_⟩,by unfold aK; rfl⟩;have e:p≠q:=aQ b a;rw[lI e,aA e];exact b)⟩
theorem Ac (x:Gd K o σ H f)(s:∀H',ah H H'->Gd K i σ H' es)(hz:f.length+es.length<=PK):Gd K (dz DW o i) σ H (f++es):=λR r=> x _ λa u m y e g j=>s u e _ λb n p v c h l=>by refine⟨a,b,m,p,rfl,rfl,c _ _ g,h,by rw[j.length,l.length]; exact hz,λq d=>?_⟩;have k:ah n (Hm q (upd n q (.lst (m++p)))):=(ah.new d _).into d;exact r q _ _ ((e.trans c).free d) ((e.trans c).trans (ah.new d _)) ao (aK.append (j.same (vN.trans (c.trans k))) (l.same (vN.trans k)))
theorem EZ {k:Nat}(j:Gn g σ H xs)(h:∀H',ah H H'->Gv f σ H' (.int k))(m:k<=1000)(hz:xs.length * k<=1000):Gn (dz MY g f) σ H (replicate k xs).flatten:=λR r=> j _ λa i l b d=>h i b _ λn c=>⟨a,k,xs,rfl,rfl,c _ _ d,by simp,by lia,by rw[zA9]; exact small hz,λq e=>by have:=r q _ ((b.trans c).free e) ((b.trans c).trans (ah.new e _)) ao;rw[zA9];exact this⟩
theorem Q6 (h:Ga b σ H [.ref p])(d:az K H p ys):Gn (pA (λxs H Q=>∃p ys,xs=[.ref p]/\(az K H p ys\/aG K H p ys)/\∀l,H l=none->Q (.ref l) (upd H l (.lst ys))) b) σ H ys:=λR r=> h _ λe a=>⟨p,ys,rfl,.inl (a.seq d),λl c=>r l _ (a.free c) (a.trans (ah.new c _)) ao⟩
theorem v9 (k:Nat)(i:Int):(replicate k [V.int i]).flatten=(replicate k i).map V.int:=by induction k with| zero=>rfl| succ k a=>rw[List.replicate_succ,List.flatten_cons,a,List.replicate_succ]; rfl
theorem Bc {b:TA}{g:TG}{c:TS}{D:Ends}{σ:L2.St}{H:Hp}{n:Nat}(h:Ga b σ H [.int (n:Int)])(q:n<=1000)(a:Nat->L2.St->Hp->Prop)(l:∀H',ah H H'->a 0 σ H')(m:∀i σ H,i < n->a i σ H->g (.int (i:Int)) σ H λe j=>c { D with nx:=a (i+1),ct:=a (i+1),bk:=D.nx } e j) (o:∀σ H,a n σ H->D.nx σ H):mQ (C7 b) g c D σ H:= h _ λH' f=>⟨(n:Int),rfl,by simp,by lia,BQ (n:=(n:Int).toNat) a (l H' f) (λi σ H d p=>by rw[zA9] at d;rw[Int.zero_add];exact m i σ H d p) fun σ H p=>by rw[zA9] at p; exact o σ H p⟩
theorem sM {c:TA}{g:TG}{b us:TS}{D:Ends}{σ:L2.St}{H:Hp}{n:Nat}(h:Ga c σ H [.int (n:Int)])(f:n<=1000)(a:Nat->L2.St->Hp->Prop)(k:∀H',ah H H'->a 0 σ H')(l:∀i σ H,i < n->a i σ H->g (.int (i:Int)) σ H λe d=>b { D with nx:=a (i+1),ct:=a (i+1),bk:=us D } e d) (m:∀σ H,a n σ H->us D σ H):fj (mQ (C7 c) g b) us D σ H:= Bc (D:={ D with nx:=us D }) h f a k l m
noncomputable def gm (a:zzB):Nat:=(a.headD []).length
noncomputable def jY (a:zzB):List Int:=replicate (gm a+2) (-1)
noncomputable def aY (a:zzB):zzB:=[jY a]++a.map (λr=>[-1]++r++[-1])++[jY a]
noncomputable def gI (b:zzB)(y x:Nat):List Int:=[(b.getD y []).getD x 0,(b.getD y []).getD (x+1) 0,(b.getD (y+1) []).getD x 0,(b.getD (y+1) []).getD (x+1) 0]
noncomputable def gJ (a:zzB)(y:Nat):zzB:=(range (gm a+1)).map (gI (aY a) y)
noncomputable def dN (a:zzB):zzB:=(range (a.length+1)).flatMap (gJ a)
theorem pV (a:zzB):(aY a).length=a.length+2:=by unfold aY; simp
theorem pW (e:∀r∈a,r.length=gm a)(d:y < a.length+2):((aY a).getD y []).length=gm a+2:=by
 have b:(aY a).getD y []∈aY a:=by rw[y6,y2 (by rw[pV]; exact d)];exact zB2 _
 generalize (aY a).getD y []=z at b;unfold aY jY at b;simp only [w8,zAc,q0] at b;rcases b with (rfl | ⟨r,c,rfl⟩) | rfl;·simp
 ·have:=e r c;simp;symm
 ·simp
theorem yS (a:zzB):∀i,((range i).flatMap (gJ a)).length=i * (gm a+1)| 0=>by simp| i+1=>by rw[zBk,List.flatMap_append,zAm,yS a i,zBi];simp [gJ]
theorem E1 {b:TA}{σ:L2.St}{H:Hp}{vs:List V}{R:List V->Hp->Prop}(h:Ga b σ H vs)(hz:vs.length<=PK)(k:∀a p,ah H a->a p=none->R [.ref p] (upd a p (.tup vs))):dj (AQ b) fB σ H R:=h _ λa d=>⟨hz,λp c=>k a p d c⟩
inductive E2 (K:zzA)(vs:List V)(H:Hp)(Q:VK)(E_:XK):Prop| mk (a:M1) (rows:zzB):vs=[.ref a]->Rep K H (.lst (rows.map dH)) (.ref a)->rows≠[]->(∀r∈rows,r.length=gm rows)->rows.length<=20->gm rows<=20->(∀(F:M1) (H':Hp) (ws:List V),H F=none->ah H H'->H' F=some (.lst ws)->aK K (Hm F H') ((dN rows).map tupI) ws->Q (.ref F) H')->E2 K vs H Q E_
theorem yT {r:List Int}(h:x < r.length):j4 (r.map V.int) (x:Int)=some (.int (r.getD x 0)):=cN (by simp [y6,h])
theorem gw:aJ ["_law_rows","_law_wide","_law_some","_law_found","_law_y","_law_x"] ["_law_rows"] (aE jo):=cH
theorem CY (T:Txt K mg t):aL P w K mg base bI 1 t.vW t.lS ["_law_rows"] (E2 K):=by
 refine T._law_tiles.fn.ok gw (λvs H Q E h=>?_) (λcdv A outer s H vs Q E hr h=>?_)
 ·obtain⟨a,u,rfl,_⟩:=h;rfl
 obtain⟨a,u,rfl,U,hne,q,B,Be,kk⟩:=h;unfold Rep at U;obtain⟨a',xs,e,hq,o⟩:=U;cases e;have Y9:xs.length=u.length:=by rw[o.length,yB]
 refine⟨_,(aj (bF 1 gw.nd (aF cS (aI (g5 K) (by rfl) T.ff zB3 (af (aO (c_ K) (pv 0) av (λ_ _=>rfl)) ai)) av)) (aj (bF 2 gw.nd (aF gU (aF gU (bH (af (aF zB (bH (af (qw nH av) ai)) (pv 1)) ai)) (iD ["_law_row"] [none] (cT K (pv 0)) (λ_ _ _ _ nd=>⟨(bE 0 nd),cE,(aF gU (aF gU (bH (af (qw nH av) ai)) (jb (OZ K) (by rfl) T.Lv boot_list (af (pv 0) ai))) (bH (af (qw nH av) ai)))⟩))) (bH (af (aF zB (bH (af (qw nH av) ai)) (pv 1)) ai)))) (aj (bF 3 gw.nd (bH ai)) (aj (cQ zA3 rfl (fP rfl T.gv (af (aF dD (aI (g5 K) (by rfl) T.ff zB3 (af (pv 2) ai)) av) ai)) (bE 4 gw.nd) (au (cQ zA3 rfl (fP rfl T.gv (af (aF dD (pv 1) av) ai)) (bE 5 gw.nd) (au (dR (ou K zA0 zA5 zA6 eF (pv 3) (af (b7 (af (aO (c_ K) (aO (c_ K) (pv 2) (pv 4) (λ_ _=>rfl)) (pv 5) (λ_ _=>rfl)) (af (aO (c_ K) (aO (c_ K) (pv 2) (pv 4) (λ_ _=>rfl)) (aF cS (pv 5) av) (λ_ _=>rfl)) (af (aO (c_ K) (aO (c_ K) (pv 2) (aF cS (pv 4) av) (λ_ _=>rfl)) (pv 5) (λ_ _=>rfl)) (af (aO (c_ K) (aO (c_ K) (pv 2) (aF cS (pv 4) av) (λ_ _=>rfl)) (aF cS (pv 5) av) (λ_ _=>rfl)) ai))))) ai))))))) (au (aH (pv 3))))))),?_⟩;refine hold λP_2 k_2=>?_;obtain⟨g,f,rfl⟩:∃g f,u=g::f:=by cases u with| nil=>exact absurd rfl hne| cons g f=>exact⟨g,f,rfl⟩
 obtain⟨v0,hv0,hr0⟩:=o.get 0 (dH g) rfl;obtain⟨b0,rfl,hb0⟩:=jh.mp hr0;refine k_2 ?_;refine gZ (aU (aW (jC (K:=K) (aC (iM (K:=K) (aa (by rfl)) (λ_ _=>aB) hq (cN (j:=0) hv0))) hb0) λ_ _=>aB) (y:=.int ((gm (g::f)+2:Nat):Int)) (by rw[yB]; rfl)) λH1 s1=>?_;have M:∀{σ:L2.St} {k:Hp},Gv (ON (rU λi=>.int (-i)) (tC (.int 1))) σ k (.int (-1)):=zU aB;have L:∀{σ:L2.St} {k:Hp},σ[1]?=some (some (V.int ((gm (g::f)+2:Nat):Int)))->Gn (dz MY (AR (dj (ON (rU λi=>.int (-i)) (tC (.int 1))) fB)) (b_ 1)) σ k ((jY (g::f)).map V.int):=λh1=> O2 (EZ (jg (aC M) (by show 1<=PK; decide)) (λ_ _=>aa h1) (by lia) (by simp; lia)) (v9 _ _);have hmid:(g::f).map (λr=>dH ([-1]++r++[-1]))=(range xs.length).map λi=>dH ([-1]++(g::f).getD i []++[-1]):=by
  rw[Y9];refine zCq (by grind) λi h1 h2=>?_;have hi:i < (g::f).length:=by simpa using h1
  rw[List.getElem_map,List.getElem_map,List.getElem_range,y6,y2 hi];rfl
 refine aP (Pe (K:=K) (Ac (Ac (Ly (L (by rfl))) (λH2 s2=>(show Gd K _ _ H2 ((g::f).map λr=>dH ([-1]++r++[-1])) from λR r=>?_)) (small (by simp at B ⊢; lia))) (λH2 s2=>Ly (L (by rfl))) (small (by simp at B ⊢; lia))) λS H2 ws hS s2 Wb rS=>?_)
 ·refine rZ (K:=K) (aa (by rfl)) ((s1.trans s2).seq hq) λO C Lz=>?_;refine uP (λi=>dH ([-1]++(g::f).getD i []++[-1])) Lz (small (by lia)) (λD i x H5 R5 hD Y_ hx I k5=>?_) λD H5 ys hD I v_ rep=>r D H5 ys (C.free hD) (C.trans I) v_ (by rw[hmid]; exact rep);obtain⟨d,hd,hdx⟩:=o.at_ i x hx;obtain⟨X,hr',hrl⟩:∃X,(g::f)[i]?=some X/\d=dH X:=by rw[vT] at hd;cases e:(g::f)[i]? with| none=>rw[e] at hd; cases hd| some X=>rw[e] at hd; exact⟨X,rfl,(zA4 hd).symm⟩
  subst hrl;obtain⟨b,rfl,hb⟩:=jh.mp hdx;have hgd:(g::f).getD i []=X:=by rw[y6,hr']; rfl
  have hrw:X.length<=20:=by rw[q X (u4 hr')]; exact Be
  refine xD (xE (xE (jg (aC M) (by show 1<=PK; decide)) (λH6 Z=>Q6 (K:=K) (aC (aa (by rfl))) ((s1.trans (s2.trans (C.trans (I.trans Z)))).seq hb)) (small (by simp; lia))) (λH6 Z=>jg (aC M) (by show 1<=PK; decide)) (small (by simp; lia))) λp H6 hp Z hl=>?_;refine k5 _ H6 Z (jh.mpr ⟨p,rfl,az.of ?_⟩);have ne:p≠D:=λz=>by obtain⟨ys,hys⟩:=Y_;rw[z,hys] at hp;cases hp
  rw[lI ne,hl,hgd];simp
 have s02:=s1.trans s2;have l:∀{k:Hp},ah H2 k->∀y,y < f.length+3->∃c,ws[y]?=some (.ref c)/\az K k c (((aY (g::f)).getD y []).map V.int):=λ{k} sx y hy=>by
  have hy':y < (aY (g::f)).length:=by rw[pV]; simpa using hy
  have e:([dH (jY (g::f))]++(g::f).map (λr=>dH ([-1]++r++[-1]))++[dH (jY (g::f))])=(aY (g::f)).map dH:=by unfold aY;rw[v3,v3,zAf];rfl
  rw[e] at rS;obtain⟨v,hv,hr⟩:=rS.get y (dH ((aY (g::f)).getD y [])) (by rw[vT,y6,y2 hy']; rfl);obtain⟨c,rfl,hc⟩:=jh.mp hr;exact⟨c,hv,(vN.trans sx).seq hc⟩
 have hwl:ws.length=f.length+3:=by rw[rS.length];simp
 refine aP ⟨(by show 0<=PK; decide),λF hF=>?_⟩;refine sM (n:=f.length+2) (aC (aU (aW (jC (K:=K) (aC (aa (by rfl))) (az.of (ah.new hF _ _ _ Wb))) λ_ _=>aB) (by rw[hwl]; congr 1; lia))) (by simp at B; lia) (λi σ H3=>∃(e4 W:Option V) (G:List V),σ=[some (.ref a),some (.int ((gm (g::f)+2:Nat):Int)),some (.ref S),some (.ref F),e4,W]/\ah H2 H3/\H3 F=some (.lst G)/\aK K (Hm F H3) (((range i).flatMap (gJ (g::f))).map tupI) G) (λH3 s3=>⟨none,none,[],rfl,(ah.new hF _).trans s3,s3 _ _ ao,by show aK K _ [] []; unfold aK; rfl⟩) ?_ ?_
 ·rintro i σ H3 hi ⟨e4,W,G,rfl,s3,TJ,Y⟩;refine Bc (n:=gm (g::f)+1) (aC (aU (aW (aa (by rfl)) λ_ _=>aB) (by congr 1; lia))) (by lia) (λj σ O=>∃(W:Option V) (G:List V),σ=[some (.ref a),some (.int ((gm (g::f)+2:Nat):Int)),some (.ref S),some (.ref F),some (.int (i:Int)),W]/\ah H2 O/\O F=some (.lst G)/\aK K (Hm F O) ((((range i).flatMap (gJ (g::f)))++(range j).map (gI (aY (g::f)) i)).map tupI) G) (λO C=>⟨W,G,rfl,s3.trans C,C _ _ TJ,by simpa using Y.same C.hm⟩) ?_ ?_
  ·rintro j σ O hj ⟨W,G,rfl,C,J,N⟩;refine hold λYX SO=>?_;obtain⟨c1,hc1,q1⟩:=l C i (by lia);obtain⟨c2,hc2,q2⟩:=l C (i+1) (by ext);refine SO ?_;have l1:=pW q (y:=i) (by simp; lia);have l2:=pW q (y:=i+1) (by simp; symm);have it:∀{σ:L2.St} {k:Hp} {tb tc:TE} {y x:Nat} {c:M1},σ[2]?=some (some (V.ref S))->ah O k->ws[y]?=some (.ref c)->az K O c (((aY (g::f)).getD y []).map V.int)->x < ((aY (g::f)).getD y []).length->(∀m,ah k m->Gv tb σ m (.int (y:Int)))->(∀m,ah k m->Gv tc σ m (.int (x:Int)))-> Gv (dz (q4 K) (dz (q4 K) (b_ 2) tb) tc) σ k (.int (((aY (g::f)).getD y []).getD x 0)):=λh2 sx hw hc hx hb TM=> iM (K:=K) (iM (K:=K) (aa h2) hb (az.of ((C.trans sx) _ _ Wb)) (cN hw)) TM (sx.seq hc) (yT hx);have vy:∀{σ:L2.St} {k:Hp},σ[4]?=some (some (V.int (i:Int)))->∀m,ah k m->Gv (b_ 4) σ m (.int (i:Int)):=λh _ _=>aa h;have vx:∀{σ:L2.St} {k:Hp},σ[5]?=some (some (V.int (j:Int)))->∀m,ah k m->Gv (b_ 5) σ m (.int (j:Int)):=λh _ _=>aa h;have vy1:∀{σ:L2.St} {k:Hp},σ[4]?=some (some (V.int (i:Int)))->∀m,ah k m->Gv (dz (oq λi j=>.int (i+j)) (b_ 4) (tC (.int 1))) σ m (.int ((i+1:Nat):Int)):=λh _ _=>aU (aW (aa h) λ_ _=>aB) rfl;have vx1:∀{σ:L2.St} {k:Hp},σ[5]?=some (some (V.int (j:Int)))->∀m,ah k m->Gv (dz (oq λi j=>.int (i+j)) (b_ 5) (tC (.int 1))) σ m (.int ((j+1:Nat):Int)):=λh _ _=>aU (aW (aa h) λ_ _=>aB) rfl;refine⟨_,rfl,.inl ⟨rfl,_,az.of J⟩,?_⟩;refine E1 (ay (it (y:=i) (x:=j) rfl (ah.refl _) hc1 q1 (by lia) (vy rfl) (vx rfl)) λH5 I=>ay (it (y:=i) (x:=j+1) rfl I hc1 q1 (by lia) (vy rfl) (vx1 rfl)) λH6 Z=>ay (it (y:=i+1) (x:=j) rfl (I.trans Z) hc2 q2 (by lia) (vy1 rfl) (vx rfl)) λH7 s7=>aC (it (y:=i+1) (x:=j+1) rfl (I.trans (Z.trans s7)) hc2 q2 (by lia) (vy1 rfl) (vx1 rfl))) (by show 4<=PK; decide) λH5 p I hp=>?_;have sp:=ah.new hp (.tup [V.int (((aY (g::f)).getD i []).getD j 0),.int (((aY (g::f)).getD i []).getD (j+1) 0),.int (((aY (g::f)).getD (i+1) []).getD j 0),.int (((aY (g::f)).getD (i+1) []).getD (j+1) 0)]);have Za:=sp _ _ (I _ _ J);refine⟨F,G,_,rfl,rfl,Za,?_,?_⟩
   ·rw[N.length];refine zCt (show _<=1000 from ?_) (by decide);have hfl:=yS (g::f) i;simp only [yB,zAm,zBt];have:i * (gm (g::f)+1)<=22 * 21:=Nat.mul_le_mul (by simp at B; lia) (by lia);lia
   ·refine⟨_,G++[.ref p],rfl,(C.trans (I.trans sp)).put hF _,ao,?_⟩;have ne:p≠F:=λz=>by rw[z,I _ _ J] at hp; cases hp
    have e:(((range i).flatMap (gJ (g::f)))++(range (j+1)).map (gI (aY (g::f)) i)).map tupI=(((range i).flatMap (gJ (g::f)))++(range j).map (gI (aY (g::f)) i)).map tupI++[tupI (gI (aY (g::f)) i j)]:=by simp [zBk]
    rw[e];refine aK.snoc (mY.mpr ⟨p,rfl,aG.of ?_⟩) (N.same ((I.trans sp).zV _));rw[lI ne,aA ne,ao];rfl
  ·rintro σ O ⟨W,G,rfl,C,J,N⟩;refine⟨_,_,G,rfl,C,J,?_⟩;rw[zBk,List.flatMap_append];simpa [gJ] using N
 ·rintro σ H3 ⟨e4,W,G,rfl,s3,TJ,Y⟩;refine⟨_,rfl,kk F H3 G (s02.free hF) (s02.trans s3) TJ ?_⟩;unfold dN;exact Y
end
noncomputable def eS (n:Nat)(t:List Int):Prop:=t.length=4/\∀f∈t,-1<=f/\f < n
structure Pf (n:Nat)(rows:zzB):Prop where
 ne:rows≠[]
 high:rows.length<=4
 wide:1<=gm rows/\gm rows<=12
 XS:∀r∈rows,r.length=gm rows
 Zb:∀r∈rows,∀f∈r,0<=f/\f < n
theorem getD_mem {α:Type}{l:List α}{d:α}(h:i < l.length):l.getD i d∈l:=by rw[y6,y2 h];exact zB2 h
section
variable {n:Nat}{rows:zzB}
theorem Q7 (h:Pf n rows)(c:y < rows.length+2)(j:x < gm rows+2):-1<=((aY rows).getD y []).getD x 0/\((aY rows).getD y []).getD x 0 < n:=by
 have g:(0:Int)<=n:=by lia
 have b:(aY rows).getD y []∈aY rows:=getD_mem (by rw[pV]; exact c);have i:=pW h.XS c;have a:((aY rows).getD y []).getD x 0∈(aY rows).getD y []:=getD_mem (by lia);generalize ((aY rows).getD y []).getD x 0=f at *;generalize (aY rows).getD y []=z at *;unfold aY jY at b;simp only [w8,zAc,q0] at b;rcases b with (rfl | ⟨r,d,rfl⟩) | rfl;·have:=List.eq_of_mem_replicate a; lia
 ·simp only [w8,zAc] at a;rcases a with (e | e) | e;·lia
  ·have:=h.Zb r d f e; lia
  ·lia
 ·have:=List.eq_of_mem_replicate a; lia
theorem Q8 (h:Pf n rows):∀t∈dN rows,eS n t:=by intro t a;unfold dN at a;obtain⟨y,c,a⟩:=zC6.mp a;obtain⟨x,d,rfl⟩:=q0.mp a;have c:=zAk.mp c;have d:=zAk.mp d;refine⟨rfl,λf b=>?_⟩;unfold gI at b;simp only [wS,zC4,zB9] at b;rcases b with e | e | e | e <;> rw[e] <;> exact Q7 h (by lia) (by lia)
end
abbrev cj:Str:="abcd"
noncomputable def pX (c:Nat):Bool:=decide (c∈cj.cps.toList)
noncomputable def bK (x:Str):Bool:=x.cps.toList.all pX
inductive jN (vs:List V)(H:Hp)(Q:VK)(E_:XK):Prop| mk (x:Str):vs=[.str x]->x.length<=60->(∀H',ah H H'->Q (.bl (bK x)) H')->jN vs H Q E_
theorem zDG (x:Str):(range x.cps.size).map (λi=>x.cps.getD i 0)=x.cps.toList:=by refine zCq (by simp) λi a b=>?_;simp at a;simp [Array.getD,a]
section
variable {P:zAA}{w:zAD}{K:zzA}{mg:Str->Option Value}{base:Heap}{t:Ad}
theorem Bf:aJ ["text"] ["text"] (aE iN):=cH
theorem sO (T:Txt K mg t):aL P w K mg base bI 1 t.kI t.gu ["text"] jN:=by
 refine T.rA.fn.ok Bf (λj H Q E h=>?_) (λn A c s H j Q E r h=>?_)
 ·obtain⟨x,rfl,_⟩:=h;rfl
 obtain⟨x,rfl,p,k⟩:=h;refine⟨_,(au (aH (aI (A2 K) (by rfl) T.xM zDy (af (iD ["sign"] [none] (D7 (pv 0)) (λ_ _ _ _ m=>⟨(bE 0 m),cE,(rW BR (pv 0) (bQ rfl T.vZ T.v5) rfl)⟩)) ai)))),?_⟩;refine⟨_,rfl,x,rfl,?_⟩;refine pC (λi=>.bl (pX (x.cps.getD i 0))) (small (by show x.length<=1000; lia)) (λi l R q f g=>?_) λD l o f d=>?_
 ·refine⟨_,rfl,_,_,rfl,rfl,?_⟩;rw[StrLaws.found_one];exact g _ (ah.refl _)
 ·refine⟨D,(range x.cps.size).map (λi=>pX (x.cps.getD i 0)),rfl,az.of (by rw[d,zAf]; rfl),?_⟩;have e:(((range x.cps.size).map (λi=>pX (x.cps.getD i 0))).all λb=>b)=bK x:=by unfold bK;rw[<-zDG x,zDc,zDc];rfl
  rw[e];exact k _ f
def Sm (p:List Str):Prop:=p.length<=30/\∀r∈p,r.length<=40
noncomputable def bJ (p:List Str):Nat:=(p.headD ⟨#[]⟩).length
noncomputable def qM (n:Nat)(r:Str):Bool:=decide (V.int r.length=V.int n)&&bK r
noncomputable def cF (p:List Str):Bool:=(decide ((1:Int)<=p.length)&&decide ((p.length:Int)<=4))&&((decide ((1:Int)<=bJ p)&&decide ((bJ p:Int)<=12))&&p.all (qM (bJ p)))
inductive n_ (K:zzA)(vs:List V)(H:Hp)(Q:VK)(E_:XK):Prop| mk (a:M1) (p:List Str):vs=[.ref a]->az K H a (p.map V.str)->Sm p->(∀H',ah H H'->Q (.bl (cF p)) H')->n_ K vs H Q E_
theorem Ia {p:List Str}{i:Nat}(h:(p.map V.str)[i]?=some x):∃r,x=.str r/\r∈p/\p[i]?=some r:=by rw[vT] at h;cases e:p[i]? with| none=>rw[e] at h; cases h| some r=>rw[e] at h; exact⟨r,(zA4 h).symm,u4 e,rfl⟩
noncomputable def TN (f:Str->V):V->V| .str r=>f r| v=>v
theorem Ib (f:Str->V)(p:List Str):(p.map V.str).map (TN f)=p.map f:=by rw[zAf]; rfl
theorem uT:aJ ["rows","wide"] ["rows"] (aE ji):=cH
theorem CZ (T:Txt K mg t):aL P w K mg base bI 2 t.pL t.jq ["rows"] (n_ K):=by
 have d:aL P w K mg base bI 1 t.kI t.gu ["text"] jN:=sO T;refine T.z8.fn.ok uT (λvs H Q E h=>?_) (λZ A M s H vs Q E X h=>?_)
 ·obtain⟨a,p,rfl,_⟩:=h;rfl
 obtain⟨a,p,rfl,y,B,k⟩:=h;have n:∀G,ah H G->tY K (.ref a) G p.length:=λG s=>.inl ⟨_,s.seq y,by simp⟩;refine⟨_,(aj (bT (o_ (DM zx zx av (aI (g5 K) (by rfl) T.ff zB3 (af (pv 0) ai)) (bQ rfl T.GD T.GF))) (au (aH nu)) bf) (aj (bF 1 uT.nd (aI (g5 K) (by rfl) T.ff zB3 (af (aO (c_ K) (pv 0) av (λ_ _=>rfl)) ai))) (aj (bT (o_ (DM zx zx av (pv 1) (bQ rfl T.A9 T.A_))) (au (aH nu)) bf) (au (aH (aI (A2 K) (by rfl) T.xM zDy (af (iD ["row","wide"] [none,some 1] (cT K (pv 0)) (λ_ _ _ _ nd=>⟨(bE 0 nd),cE,(DF (rW d_ (aI (g5 K) (by rfl) T.ff zB3 (af (pv 0) ai)) (pv 1) (ja _)) (DE (cD T.rA d X aN (af (pv 0) ai))))⟩)) ai))))))),?_⟩;refine zT (je (pD (bA (yJ aB (λo j=>vL (aC (aa (by rfl))) λS v=>n S (j.trans v)) λo j=>aB))) (λc o j=>?_) λc o j=>HM ?_)
 ·have e:cF p=false:=by unfold cF;rw[Bool.not_eq_true'] at c;rw[c,Bool.false_and]
  have:=k o j;rw[e] at this;exact this
 have O:(decide ((1:Int)<=p.length)&&decide ((p.length:Int)<=4))=true:=by simpa using c
 cases p with| nil=>simp at O| cons f g=>
  have hr0:f.length<=40:=B.2 f zAb;refine zT (Ej (mW (aC (iM (aa (by rfl)) (λ_ _=>aB) (j.seq y) (Eh _ _))) (small (by lia))) λS v=>?_);refine zT (je (pD (bA (yJ aB (λq m=>aa (by rfl)) λq m=>aB))) (λu q m=>?_) λu q m=>HM ?_)
  ·have e:cF (f::g)=false:=by unfold cF;rw[Bool.not_eq_true'] at u;have c3:(decide ((1:Int)<=bJ (f::g))&&decide ((bJ (f::g):Int)<=12))=false:=u;rw[c3,Bool.false_and,Bool.and_false]
   have:=k q ((j.trans v).trans m);rw[e] at this;exact this
  have l:=(j.trans v).trans m;have I:(decide ((1:Int)<=bJ (f::g))&&decide ((bJ (f::g):Int)<=12))=true:=by
   have z:(decide ((1:Int)<=f.length)&&decide ((f.length:Int)<=12))=true:=by simpa using u
   exact z
  refine⟨_,rfl,a,rfl,⟨_,l.seq y⟩,?_⟩;refine uO (TN λr=>.bl (qM f.length r)) (l.seq y) (small (by have:=B.1; simp at this ⊢; lia)) (λi x Y R W U V=>?_) λD Y hD U N=>?_
  ·obtain⟨r,rfl,F,_⟩:=Ia W;have hrl:=B.2 r F;refine qz (Ef (dG (mW (aC (aa (by rfl))) (small (by lia))) (λL J=>aa (by rfl)) (by rfl)) (λ_ L J=>gr (aC (aa (by rfl))) λH6 R' s6 C=>⟨r,rfl,by lia,C⟩)) λL J=>?_;exact V L J
  ·refine⟨D,(f::g).map (qM f.length),rfl,az.of (by rw[N,Ib,zAf]; rfl),?_⟩;have e:(((f::g).map (qM f.length)).all λb=>b)=cF (f::g):=by unfold cF;rw[O,I,Bool.true_and,Bool.true_and,zDc];rfl
   rw[e];exact k _ (l.trans U)
inductive xN (K:zzA)(C:M1)(vs:List V)(H:Hp)(Q:VK)(E:XK):Prop| mk (a:M1) (p:List Str):vs=[.ref a]->az K H a (p.map V.str)->Sm p->(cF p=true->∀H',ah H H'->Q .aT H')->((cF p=false->∀H',ah H H'->E (.ref C) none H'))->xN K C vs H Q E
theorem Ae:aJ ["picture"] ["picture"] (aE g6):=cH
theorem qN (T:Txt K mg t):aL P w K mg base (nL P w) 3 t.jF t.fT ["picture"] (xN K t.aR):=by
 have b:aL P w K mg base bI 2 t.pL t.jq ["rows"] (n_ K):=CZ T;refine T.pQ.fn.OX Ae (λm H Q E h=>?_) (λn A f s H m Q E o h=>?_)
 ·obtain⟨a,p,rfl,_⟩:=h;rfl
 obtain⟨a,p,rfl,l,i,j,k⟩:=h;refine⟨_,(au (bT (o_ (o9 (cD T.z8 b o aN (af (pv 0) ai)))) (au (D_ zQ rfl rfl rfl rfl T.EU rfl (af dB ai))) bf)),?_⟩;refine je (pD (iX (gr (aC (aa (by rfl))) λe R d g=>⟨a,p,rfl,d.seq l,i,g⟩))) (λc e d=>?_) λc e d=>?_;·exact⟨(by show 1<=PK; decide),k (by simpa using c) e d⟩
 ·exact j (by simpa using c) e d
theorem kM {d:List (Option Nat)}{h:TE}{σ:L2.St}{c:Hp}{Q:M1->Hp->Prop}{a:M1}{xs:List V}{l:Nat}(f:Nat->V)(u:az K c a xs)(hz:xs.length<=PK)(o:∀(i:Nat) (x:V) (H:Hp) (R:VK),xs[i]?=some x->ah c H->(∀g,ah H g->R (f i) g)->h ((dw d σ).set l (some x)) H R)(r:∀D H,c D=none->ah c H->H D=some (.lst ((range xs.length).map f))->Q D H):dF (pe K a) d (cz l) lH h σ c Q:=by
 refine B3 u hz (λi k _=>k=(range i).map f) (λD e=>by rfl) (λD i x k H m A e n j b p s v=>?_) λD k H e j b y p=>?_
 ·show h ((dw d σ).set l (some x)) H m;exact o i x H m n j λg q=>s _ _ q (by rw[zBk,v3,p]; rfl)
 ·refine r D H e j ?_;rw[b,p]
noncomputable def l0 (n:Nat)(t:List Int):Bool:=decide (t.length=4)&&t.all λf=>decide (-1<=f)&&decide (f < n)
noncomputable def We (f:Int->V):V->V| .int r=>f r| v=>v
theorem Q9 (f:Int->V)(p:List Int):(p.map V.int).map (We f)=p.map f:=by rw[zAf]; rfl
theorem Q_ {p:List Int}{i:Nat}(h:(p.map V.int)[i]?=some x):∃r,x=.int r/\r∈p/\p[i]?=some r:=by rw[vT] at h;cases e:p[i]? with| none=>rw[e] at h; cases h| some r=>rw[e] at h; exact⟨r,(zA4 h).symm,u4 e,rfl⟩
inductive oh (K:zzA)(vs:List V)(H:Hp)(Q:VK)(E_:XK):Prop| mk (a:M1) (tl:List Int) (n:Nat):vs=[.ref a,.int 4,.int n]->aG K H a (tl.map V.int)->tl.length<=30->(∀H',ah H H'->Q (.bl (l0 n tl)) H')->oh K vs H Q E_
theorem C0:aJ ["fields","many","marks"] ["fields","many","marks"] (aE jl):=cH
theorem C1 (T:Txt K mg t):aL P w K mg base bI 1 t.pN t.jt ["fields","many","marks"] (oh K):=by
 refine T.z_.fn.ok C0 (λG H Q E h=>?_) (λv A e s H G Q E L h=>?_)
 ·obtain⟨a,b,n,rfl,_⟩:=h;rfl
 obtain⟨a,b,n,rfl,j,I,k⟩:=h;refine⟨_,(au (aH (DF (rW d_ (aI (g5 K) (by rfl) T.ff zB3 (af (pv 0) ai)) (pv 1) (ja _)) (DE (aI (A2 K) (by rfl) T.xM zDy (af (iD ["field","marks"] [none,some 2] (qA K (pv 0)) (λ_ _ _ _ C=>⟨(bE 0 C),cE,(MM zx OP (bQ rfl T.fZ T.f6) (pv 0) (pv 1))⟩)) ai)))))),?_⟩;refine b8 (aU (Ef (q:=b.all λf=>decide (-1<=f)&&decide (f < n)) (dG (HR (K:=K) (aC (aa (by rfl))) j) (λ_ _=>aa (by rfl)) (by rfl)) λ_ l c=>(λR r=>?_)) (y:=.bl (l0 n b)) ?_) λl c=>k l c
 ·refine t9 (vP (K:=K) (aa (by rfl)) (c.tup j) λJ u d=>?_);refine Er (We λf=>.bl (decide (-1<=f)&&decide (f < n))) d (small (by rw[yB]; lia)) (λi x z M p m o=>?_) λD z N m g=>?_
  ·obtain⟨f,rfl,_,_⟩:=Q_ p;exact qz (yJ aB (λ_ _=>aa (by rfl)) λ_ _=>aa (by rfl)) λF B=>o F B
  ·refine⟨D,b.map λ(f:Int)=>decide (-1<=f)&&decide (f < (n:Int)),rfl,az.of (by rw[g,Q9,zAf]; rfl),?_⟩;rw[zDc];exact r _ (u.trans m)
 ·unfold l0;rw[yB];congr 2;simp;lia
noncomputable def oN:zzB->Bool| a::b::r=>HT.lexLt a b&&oN (b::r)| _=>true
theorem Af:∀ts:zzB,((range (ts.length - 1)).all λi=>HT.lexLt (ts.getD i []) (ts.getD (i+1) []))=oN ts| []=>rfl| [a]=>rfl| a::b::r=>by have d:=Af (b::r);show ((range (r.length+1)).all _)=(HT.lexLt a b&&oN (b::r));rw[List.range_succ_eq_map,List.all_cons,zDc,<-d];rfl
inductive yU (K:zzA)(vs:List V)(H:Hp)(Q:VK)(E_:XK):Prop| mk (a:M1) (ts:zzB):vs=[.ref a]->Rep K H (.lst (ts.map tupI)) (.ref a)->ts.length<=900->(∀H',ah H H'->Q (.bl (oN ts)) H')->yU K vs H Q E_
theorem E3 (h:Rep K H (.lst b) (.ref a)):∃xs,az K H a xs/\aK K H b xs:=by unfold Rep at h;obtain⟨c,xs,e,q,r⟩:=h;cases e;exact⟨xs,q,r⟩
theorem NQ:aJ ["tiles"] ["tiles"] (aE r8):=cH
theorem NR (T:Txt K mg t):aL P w K mg base bI 1 t.A8 t.r9 ["tiles"] (yU K):=by
 refine T.Pa.fn.ok NQ (λY H Q E h=>?_) (λO A p s H Y Q E x h=>?_)
 ·obtain⟨a,e,rfl,_⟩:=h;rfl
 obtain⟨a,e,rfl,l,hl,k⟩:=h;obtain⟨C,o,g⟩:=E3 l;have r:C.length=e.length:=by rw[g.length,yB]
 have m:∀i,i < e.length->∃c,C[i]?=some (.ref c)/\aG K H c ((e.getD i []).map V.int):=λi I=>by obtain⟨v,X,x⟩:=g.get i (tupI (e.getD i [])) (by rw[vT,y6,y2 I]; rfl);obtain⟨c,rfl,u⟩:=mY.mp x;exact⟨c,X,u⟩
 refine⟨_,(au (aH (aI (A2 K) (by rfl) T.xM zDy (af (iD ["place","tiles"] [none,some 0] (BP rfl T.gv (af av (af (aI (g5 K) (by rfl) T.ff zB3 (af (pv 0) ai)) ai))) (λ_ _ _ _ S=>⟨(bE 0 S),cE,(rW (XO K x.units) (aO (c_ K) (pv 1) (aF dD (pv 0) av) (λ_ _=>rfl)) (aO (c_ K) (pv 1) (pv 0) (λ_ _=>rfl)) (ja _))⟩)) ai)))),?_⟩;refine eV (t9 (QU (i:=1) (j:=(e.length:Int)) (ay aB λL n=>aC (aU (jC (K:=K) (aC (aa (by rfl))) (n.seq o)) (by rw[r]))) ⟨by simp,by decide,by simp,by lia⟩ λL n=>?_));have N:((e.length:Int) - 1).toNat=e.length - 1:=by simp
 rw[N];refine mU (λi=>.bl (HT.lexLt (e.getD i []) (e.getD (i+1) []))) (small (by lia)) (λi J R I q U=>?_) λD J hD q B=>?_
 ·obtain⟨c,u,W⟩:=m i (by lia);obtain⟨d,Z,M⟩:=m (i+1) (by lia);have f:=n.trans q;refine qz (Tg (K:=K) (iM (K:=K) (aa (by rfl)) (λ_ _=>aU (aW (aa (by rfl)) λ_ _=>aB) (y:=.int (i:Int)) (by congr 1; lia)) (f.seq o) (cN u)) (λF z=>iM (K:=K) (aa (by rfl)) (λ_ _=>aU (aa (by rfl)) (y:=.int ((i+1:Nat):Int)) (by congr 1; lia)) ((f.trans z).seq o) (cN Z)) (f.tup W) (f.tup M)) λF z=>U F z
 ·refine⟨D,(range (e.length - 1)).map λi=>HT.lexLt (e.getD i []) (e.getD (i+1) []),rfl,az.of (by rw[B,zAf]; rfl),?_⟩;rw[zDc,show (range (e.length - 1)).all ((λb=>b) ∘ λi=>HT.lexLt (e.getD i []) (e.getD (i+1) []))=oN e from Af e];exact k _ (n.trans q)
noncomputable def oi (x:Str)(ts:zzB):Bool:=(decide (x.length<=16)&&bK x)&&(ts.all (l0 x.length)&&oN ts)
noncomputable def uv (K:zzA)(H:Hp)(a:M1)(x:Str)(ts:zzB):Prop:=∃T,aG K H a [.str x,.ref T]/\Rep K H (.lst (ts.map tupI)) (.ref T)
theorem uv.same (h:uv K H a x ts)(s:ah H H'):uv K H' a x ts:=by obtain⟨T,b,c⟩:=h;exact⟨T,s.tup b,c.same s⟩
structure JS (x:Str)(ts:zzB):Prop where
 short:x.length<=60
 few:ts.length<=900
 small:∀t∈ts,t.length<=30
inductive pY (K:zzA)(vs:List V)(H:Hp)(Q:VK)(E_:XK):Prop| mk (a:M1) (x:Str) (ts:zzB):vs=[.ref a]->uv K H a x ts->JS x ts->(∀H',ah H H'->Q (.bl (oi x ts)) H')->pY K vs H Q E_
theorem pZ:aJ ["system","letters","tiles"] ["system"] (aE j8):=cH
theorem E4 (T:Txt K mg t):aL P w K mg base bI 2 t.rm t.kh ["system"] (pY K):=by
 have d:aL P w K mg base bI 1 t.kI t.gu ["text"] jN:=sO T;have f:aL P w K mg base bI 1 t.pN t.jt ["fields","many","marks"] (oh K):=C1 T;have m:aL P w K mg base bI 1 t.A8 t.r9 ["tiles"] (yU K):=NR T;refine T.Ce.fn.ok pZ (λvs H Q E h=>?_) (λcdv A Y s H vs Q E u h=>?_)
 ·obtain⟨a,x,g,rfl,_⟩:=h;rfl
 obtain⟨a,x,g,rfl,⟨L,U,C⟩,N,k⟩:=h;have hsx:=N.short;have O:=N.few;refine⟨_,(aj (bT (bw C8 (aI (g5 K) (by rfl) T.ff zB3 (af (pv 0) ai)) av (ja _)) (au (aH nu)) bf) (aj (bF 1 pZ.nd (aO (eG K) (pv 0) av (λ_ _=>rfl))) (aj (bF 2 pZ.nd (aO (eG K) (pv 0) av (λ_ _=>rfl))) (aj (bT (PW.pt (qv (bw VC (aI (g5 K) (by rfl) T.ff zB3 (af (pv 1) ai)) (bQ rfl T.EN T.EO) (ja _)) (vo (o_ (o9 (cD T.rA d u aN (af (pv 1) ai))))))) (au (aH nu)) bf) (au (aH (DF (aI (A2 K) (by rfl) T.xM zDy (af (iD ["tile","letters"] [none,some 1] (cT K (pv 2)) (λ_ _ _ _ nd=>⟨(bE 0 nd),cE,(cD T.z_ f u aN (af (pv 0) (af (bQ rfl T.CT T.CU) (af (aI (g5 K) (by rfl) T.ff zB3 (af (pv 1) ai)) ai))))⟩)) ai)) (DE (cD T.Pa m u aN (af (pv 2) ai)))))))))),?_⟩;refine fC (b:=false) (cA (bA (zS (HR (K:=K) (aC (aa (by rfl))) U) (λ_ _=>aB) (by rfl))) (by rfl)) (λc=>absurd c (by decide)) λc H1 W=>?_;refine gZ (fV (K:=K) (aa (by rfl)) (λ_ _=>aB) (W.tup U) (cN (j:=0) rfl)) λH2 s2=>?_;refine gZ (fV (K:=K) (aa (by rfl)) (λ_ _=>aB) ((W.trans s2).tup U) (cN (j:=1) rfl)) λH3 s3=>?_;have z:=W.trans (s2.trans s3);refine fC (b:=!(decide (x.length<=16)&&bK x)) (cA (xC (bA (aW (mW (K:=K) (aC (aa (by rfl))) (small (by lia))) λ_ _=>aB)) λ_ M G=>pD (iX (gr (aC (aa (by rfl))) λI R' n k5=>⟨x,rfl,by symm,k5⟩))) ?_) (λc M G=>?_) λc M G=>?_
 ·rw[Bool.not_and];congr 1;by_cases c:x.length<=16;·rw[zAa c,zAp (by lia)]; rfl
  ·rw[zAp c,zAa (by lia)]; rfl
 ·have e:oi x g=false:=by unfold oi;rw[Bool.not_eq_true'] at c;rw[c,Bool.false_and]
  have:=k M (z.trans G);rw[e] at this;exact this
 have c':(decide (x.length<=16)&&bK x)=true:=by simpa using c
 have o:=z.trans G;have l:=C.same o;obtain⟨xs,hq,y⟩:=E3 l;have S:xs.length=g.length:=by rw[y.length,yB]
 refine b8 (v:=.bl (oi x g)) (aU (Ef (p:=g.all (l0 x.length)) (q:=oN g) (λR r=>?_) λ_ I n=>gr (aC (aa (by rfl))) λH6 R' F J=>⟨L,g,rfl,l.same (n.trans F),O,J⟩) (by unfold oi; rw[c',Bool.true_and])) λI n=>k I (o.trans n);refine t9 (rZ (K:=K) (aa (by rfl)) hq λI n V=>?_);refine kM (λi=>.bl (l0 x.length (g.getD i []))) V (small (by lia)) (λi v H6 R6 hv F J=>?_) λD H6 hD F Z=>?_
 ·have hi:i < g.length:=by have:=(xI.mp hv).1; ext
  obtain⟨v',B,u⟩:=y.get i (tupI (g.getD i [])) (by rw[vT,y6,y2 hi]; rfl);rw[hv] at B;cases B;obtain⟨c,rfl,hc⟩:=mY.mp u;have hm:g.getD i []∈g:=getD_mem hi;exact qz (gr (ay (aa (by rfl)) λ_ _=>ay aB λ_ _=>aC (mW (K:=K) (aC (aa (by rfl))) (small (by lia)))) λH7 R7 X k7=>⟨c,g.getD i [],x.length,rfl,(n.trans (F.trans X)).tup hc,N.small _ hm,k7⟩) λH7 X=>J H7 X
 ·refine⟨D,(range xs.length).map λi=>l0 x.length (g.getD i []),rfl,az.of (by rw[Z,zAf]; rfl),?_⟩;have e:(((range xs.length).map λi=>l0 x.length (g.getD i [])).all λb=>b)=g.all (l0 x.length):=by
   rw[S];have:(range g.length).map (λi=>g.getD i [])=g:=by refine zCq (by simp) λi h1 h2=>?_;simp [h2]
   conv=>rhs; rw[<-this]
   rw[zDc,zDc];rfl
  rw[e];exact r _ (n.trans F)
inductive yV (K:zzA)(C:M1)(vs:List V)(H:Hp)(Q:VK)(E:XK):Prop| mk (a:M1) (x:Str) (ts:zzB):vs=[.ref a]->uv K H a x ts->JS x ts->(oi x ts=true->∀H',ah H H'->Q .aT H')->((oi x ts=false->∀H',ah H H'->E (.ref C) none H'))->yV K C vs H Q E
theorem Bg:aJ ["system"] ["system"] (aE iO):=cH
theorem sP (T:Txt K mg t):aL P w K mg base (nL P w) 3 t.nZ t.iR ["system"] (yV K t.fQ):=by
 have b:aL P w K mg base bI 2 t.rm t.kh ["system"] (pY K):=E4 T;refine T.rB.fn.OX Bg (λn H Q E h=>?_) (λp A f s H n Q E i h=>?_)
 ·obtain⟨a,x,g,rfl,_⟩:=h;rfl
 obtain⟨a,x,g,rfl,o,m,l,j⟩:=h;refine⟨_,(au (bT (o_ (o9 (cD T.Ce b i aN (af (pv 0) ai)))) (au (D_ zQ rfl rfl rfl rfl T.GI rfl (af dB ai))) bf)),?_⟩;refine je (pD (iX (gr (aC (aa (by rfl))) λe R d k=>⟨a,x,g,rfl,o.same d,m,k⟩))) (λc e d=>?_) λc e d=>?_;·exact⟨(by show 1<=PK; decide),j (by simpa using c) e d⟩
 ·exact l (by simpa using c) e d
theorem wc {α β:Type}(g:α->β)(l:List α)(d:α):l.map g=(range l.length).map λi=>g (l.getD i d):=by
 refine zCq (by simp) λi a c=>?_;have b:i < l.length:=by simpa using a
 simp [y6,b]
theorem Cg (xs:List V)(k:Nat):nW xs (some (k:Int)) none=xs.drop k:=by
 unfold nW;rw[HT.DR,HT.Hz];by_cases h:k<=xs.length;·rw[Nat.min_eq_left h,zB6 (by simp)]
 ·rw[Nat.min_eq_right (by lia),zDk,List.take_zero,List.drop_eq_nil_of_le (by lia)]
theorem Ic {a b:M1}{xs ys:List V}{u:TS}{D:Ends}{σ:L2.St}{H:Hp}{A s n:Nat}(F:n<=xs.length/\n<=ys.length/\(xs.length<=n\/ys.length<=n))(c:Nat->L2.St->Hp->Prop)(G:c 0 σ H)(L:∀i σ H,c i σ H->az K H a xs/\az K H b ys)(J:∀i x y σ H g,i < n->xs[i]?=some x->ys[i]?=some y->c i σ H->H g=none->u { D with nx:=c (i+1),ct:=c (i+1),bk:=D.nx } ((σ.set A (some x)).set s (some y)) (upd H g (.tup [x,y]))) (O:∀σ H,c n σ H->D.nx σ H) : ∃W:Nat->Nat->L2.St->Hp->Prop,(∃m,W 0 m σ H)/\∀i m σ H,W i m σ H->((KZ K a b).stop i H/\D.nx σ H)\/((KZ K a b).go i H/\∃N:L2.St->Hp->Prop,(∀r H',N r H'->∃z,z < m/\W (i+1) z r H')/\∀x H',(KZ K a b).DI i H x H'->vq K 2 (jz (cz A) (jz (cz s) yv)) x σ H' λE Q=>u { D with nx:=N,ct:=N,bk:=D.nx } E Q):=by
 refine⟨λi m σ H=>m=n - i/\i<=n/\c i σ H,⟨n,by simp,zAd _,G⟩,?_⟩;rintro i m σ H ⟨rfl,R,p⟩;obtain⟨q,o⟩:=L i σ H p;by_cases f:i < n
 ·have l:xs[i]?=some xs[i]:=y2 (by lia);have k:ys[i]?=some ys[i]:=y2 (by lia);refine .inr ⟨⟨xs,ys,xs[i],ys[i],q,o,l,k⟩,c (i+1),λr H' M=>⟨n - (i+1),by grind,rfl,f,M⟩,λv H' y=>?_⟩;obtain⟨g,rfl,I,S,T,rfl,C,B⟩:=y;have d:=C xs q;have h:=B ys o;rw[l] at d; rw[k] at h;cases d; cases h;exact⟨g,_,rfl,aG.of ao,rfl,xs[i],_,rfl,ys[i],_,rfl,rfl,J i _ _ σ H g f l k p I⟩
 ·have e:i=n:=by lia
  subst e;exact .inl ⟨⟨xs,ys,q,o,F.2.2⟩,O σ H p⟩
noncomputable def Ag (K:zzA)(H:Hp)(a:M1)(b:zzB):Prop:=∃c:zzD,az K H a (c.map rv)/\(∀p∈c,H p.1=some (.lst (p.2.map V.int)))/\c.map (·.2)=b
theorem Ag.same (h:Ag K H a b)(s:ah H H'):Ag K H' a b:=by obtain⟨e,f,d,g⟩:=h;exact⟨e,s.seq f,λp c=>s _ _ (d p c),g⟩
inductive kr (K:zzA)(f:zzB->List Dt)(vs:List V)(H:Hp)(Q:VK)(E_:XK):Prop| mk (a:M1) (rows:zzB):vs=[.ref a]->Ag K H a rows->rows≠[]->(∀r∈rows,r.length=gm rows)->rows.length<=20->gm rows<=20->(∀(F:M1) (H':Hp) (ws:List V),H F=none->ah H H'->H' F=some (.lst ws)->aK K (Hm F H') (f rows) ws->Q (.ref F) H')->kr K f vs H Q E_
theorem Ie (h:Gv c σ H (.ref p))(e:H p=some (.lst (ns.map V.int))):Gd K (AR (dj c fB)) σ H [dH ns]:=λR r=> h _ λg a=>⟨(by show 1<=PK; decide),λq b=>r q _ _ (a.free b) (a.trans (ah.new b _)) ao (by unfold aK;refine⟨_,_,rfl,jh.mpr ⟨p,rfl,az.of ?_⟩,by unfold aK; rfl⟩;have d:p≠q:=aQ (a _ _ e) b;rw[lI d,aA d];exact a _ _ e)⟩
theorem Ra (j:Gn i σ H xs)(e:∀H',ah H H'->Gv g σ H' (.ref b)/\H' b=some (.lst ys))(hz:xs.length+ys.length<=PK):Gn (dz DW i g) σ H (xs++ys):=λR r=> j _ λa f j d k=>(e f d).1 _ λm c=>⟨a,b,xs,ys,rfl,rfl,c _ _ k,c _ _ (e f d).2,hz,λq h=>r q _ ((d.trans c).free h) ((d.trans c).trans (ah.new h _)) ao⟩
theorem yf:aJ ["rows","edge"] ["rows"] (aE lJ):=cH
theorem GK (T:Txt K mg t):aL P w K mg base bI 1 t.ue t.lN ["rows"] (kr K λb=>(aY b).map dH):=by
 refine T.EL.fn.ok yf (λvs H Q E h=>?_) (λcdv A N s H vs Q E hr h=>?_)
 ·obtain⟨a,b,rfl,_⟩:=h;rfl
 obtain⟨a,b,rfl,⟨rs,hq,C,rfl⟩,hne,n,d,B,kk⟩:=h;rw[yB] at d;refine⟨_,(aj (bF 1 yf.nd (aF zB (bH (af (bQ rfl T.fZ T.f6) ai)) (aF cS (aI (g5 K) (by rfl) T.ff zB3 (af (aO (c_ K) (pv 0) av (λ_ _=>rfl)) ai)) av))) (au (aH (aF gU (aF gU (bH (af (pv 1) ai)) (iD ["row"] [none] (cT K (pv 0)) (λ_ _ _ _ nd=>⟨(bE 0 nd),cE,(aF gU (aF gU (bH (af (bQ rfl T.fZ T.f6) ai)) (pv 0)) (bH (af (bQ rfl T.fZ T.f6) ai)))⟩))) (bH (af (pv 1) ai)))))),?_⟩;obtain⟨g,l,rfl⟩:∃g l,rs=g::l:=by cases rs with| nil=>exact absurd rfl hne| cons g l=>exact⟨g,l,rfl⟩
 generalize c:(g::l).map (·.2)=b at *;have L:g.2.length=gm b:=by rw[<-c]; rfl
 refine aP (xD (O2 (EZ (k:=gm b+2) (jg (xs:=[.int (-1)]) (aC aB) (by show 1<=PK; decide)) (λH1 o=>aU (aW (jC (K:=K) (aC (iM (K:=K) (aa (by rfl)) (λ_ _=>aB) (o.seq hq) (cN (j:=0) rfl))) (az.of (o _ _ (C g zAb)))) λ_ _=>aB) (by rw[yB,L]; rfl)) (by lia) (by simp; lia)) (v9 _ _)) λea H1 hea o m=>?_);have y:b.map (λr=>dH ([-1]++r++[-1]))=(range ((g::l).map rv).length).map λi=>dH ([-1]++b.getD i []++[-1]):=by rw[show ((g::l).map rv).length=b.length by rw[<-c]; simp];exact wc (λr=>dH ([-1]++r++[-1])) b []
 have eb:(aY b).map dH=[dH (jY b)]++b.map (λr=>dH ([-1]++r++[-1]))++[dH (jY b)]:=by unfold aY;rw[v3,v3,zAf];rfl
 have hrl:b.length=l.length+1:=by rw[<-c]; simp
 refine eV (Pe (K:=K) (Ac (Ac (Ie (ns:=jY b) (aa (by rfl)) m) (λI q=>(show Gd K _ _ I (b.map λr=>dH ([-1]++r++[-1])) from λR r=>?_)) (small (by simp at d ⊢; lia))) (λI q=>Ie (ns:=jY b) (aa (by rfl)) (q _ _ m)) (small (by simp at d ⊢; lia))) λF I ws hF q O rF=>?_)
 ·refine rZ (K:=K) (aa (by rfl)) ((o.trans q).seq hq) λH4 X Lz=>?_;refine uP (λi=>dH ([-1]++b.getD i []++[-1])) Lz (small (by rw[yB]; lia)) (λD i x H5 R5 hD M v W k5=>?_) λD H5 ys hD W v_ U=>r D H5 ys (X.free hD) (X.trans W) v_ (by rw[y]; exact U);obtain⟨f,u,hpx⟩:∃f,(g::l)[i]?=some f/\x=.ref f.1:=by rw[vT] at v;cases e:(g::l)[i]? with| none=>rw[e] at v; cases v| some f=>rw[e] at v; exact⟨f,rfl,(zA4 v).symm⟩
  subst hpx;have hm:=u4 u;have Y:b.getD i []=f.2:=by rw[<-c,y6,vT,u]; rfl
  have hpl:f.2.length<=20:=by rw[n f.2 (by rw[<-c]; exact q0.mpr ⟨f,hm,rfl⟩)]; exact B
  have S:=o.trans (q.trans (X.trans W));refine xD (xE (xs:=[.int (-1)]++f.2.map V.int) (Ra (jg (aC aB) (by show 1<=PK; decide)) (λZ G=>⟨aa (by rfl),(S.trans G) _ _ (C f hm)⟩) (small (by simp; lia))) (λZ G=>jg (aC aB) (by show 1<=PK; decide)) (small (by simp; lia))) λp Z hp G hl=>?_;refine k5 _ Z G (jh.mpr ⟨p,rfl,az.of ?_⟩);have ne:p≠D:=λz=>by obtain⟨ys,J⟩:=M;rw[z,J] at hp;cases hp
  rw[lI ne,hl,Y];simp
 ·exact kk F I ws (o.free hF) (o.trans q) O (by show aK K _ ((aY b).map dH) ws; rw[eb]; exact rF)
theorem E5 {ws:List V}{f:Nat->List V}(h:∀{a:Hp},ah b a->∀y,y < n->∃c,ws[y]?=some (.ref c)/\az K a c (f y)){i:Nat}{a:Hp}{c:M1}(s:ah b a)(d:i < n)(g:ws[i]?=some (.ref c)):az K a c (f i):=by obtain⟨j,e,q⟩:=h s i d;rw[g] at e;cases e;exact q
theorem iT:aJ ["rows","fields","tiles","upper","lower","place"] ["rows"] (aE lK):=cH
theorem GL (T:Txt K mg t):aL P w K mg base bI 2 t.uf t.lO ["rows"] (kr K λb=>(dN b).map tupI):=by
 have f:aL P w K mg base bI 1 t.ue t.lN ["rows"] (kr K λb=>(aY b).map dH):=GK T;refine T.EM.fn.ok iT (λvs H Q E h=>?_) (λcdv A outer s H vs Q E hr h=>?_)
 ·obtain⟨a,b,rfl,_⟩:=h;rfl
 obtain⟨a,b,rfl,hR,hne,g,hlen,Be,kk⟩:=h;refine⟨_,(aj (bF 1 iT.nd (cD T.EL f hr aN (af (pv 0) ai))) (aj (bF 2 iT.nd (bH ai)) (aj (cQ zA3 rfl (O1 K T.Pb (af (pv 1) (af (yE (Np K) (pv 1) (AX av) AW) ai))) (kG K (n:=2) (bg (bE 3 iT.nd) (bg (bE 4 iT.nd) gn))) (au (cQ zA3 rfl (fP rfl T.gv (af (aF dD (aI (g5 K) (by rfl) T.ff zB3 (af (pv 3) ai)) av) ai)) (bE 5 iT.nd) (au (dR (ou K zA0 zA5 zA6 eF (pv 2) (af (b7 (af (aO (c_ K) (pv 3) (pv 5) (λ_ _=>rfl)) (af (aO (c_ K) (pv 3) (aF cS (pv 5) av) (λ_ _=>rfl)) (af (aO (c_ K) (pv 4) (pv 5) (λ_ _=>rfl)) (af (aO (c_ K) (pv 4) (aF cS (pv 5) av) (λ_ _=>rfl)) ai))))) ai))))))) (au (aH (pv 2)))))),?_⟩;refine aP (jD (aC (aa (by rfl))) λH1 s1=>⟨a,b,rfl,hR.same s1,hne,g,hlen,Be,λS H2 D hS s2 Y rS=>?_⟩);have s02:=s1.trans s2;have d:∀{I:Hp},ah H2 I->∀y,y < b.length+2->∃c,D[y]?=some (.ref c)/\az K I c (((aY b).getD y []).map V.int):=λ{I} sx y hy=>by
  have hy':y < (aY b).length:=by rw[pV]; exact hy
  obtain⟨v,hv,hr⟩:=aK.get rS y (dH ((aY b).getD y [])) (by rw[vT,y6,y2 hy']; rfl);obtain⟨c,rfl,hc⟩:=jh.mp hr;exact⟨c,hv,(vN.trans sx).seq hc⟩
 have hwl:D.length=b.length+2:=by rw[aK.length rS,yB,pV]
 refine aP ⟨(by show 0<=PK; decide),λF hF=>?_⟩;have sF:=ah.new hF (.lst []);refine⟨_,rfl,_,rfl,1,rfl,S,D,rfl,az.of (sF _ _ Y),λp hp=>⟨S,p,rfl,⟨_,az.of (ah.new hp _ _ _ (sF _ _ Y))⟩,⟨_,az.of ao⟩,?_⟩⟩;have XT:nW D (some 1) none=D.drop 1:=Cg D 1;have sp:=ah.new hp (.lst (nW D (some 1) none));have Zc:p≠F:=λz=>by rw[z,ao] at hp; cases hp
 refine Ic (K:=K) (xs:=D) (ys:=D.drop 1) (n:=b.length+1) ⟨by ext,by rw[zDi]; ext,.inr (by rw[zDi]; ext)⟩ (λi σ O=>∃(e3 e4 L:Option V) (l:List V),σ=[some (.ref a),some (.ref S),some (.ref F),e3,e4,L]/\ah H2 O/\O p=some (.lst (D.drop 1))/\O F=some (.lst l)/\aK K (Hm F O) (((range i).flatMap (gJ b)).map tupI) l) ⟨none,none,none,[],rfl,sF.trans sp,by rw[ao,XT],sp _ _ ao,by show aK K _ [] []; unfold aK; rfl⟩ (λi σ O hh=>by obtain⟨e3,e4,L,l,rfl,X,N,C,J⟩:=hh;exact⟨az.of (X _ _ Y),az.of N⟩) ?_ ?_
 ·rintro i x y σ O tp hi hx hy ⟨e3,e4,L,l,rfl,X,N,C,J⟩ G;obtain⟨c1,hc1,q1⟩:=d (X.trans (ah.new G (.tup [x,y]))) i (by lia);obtain⟨c2,hc2,q2⟩:=d (X.trans (ah.new G (.tup [x,y]))) (i+1) (by ext);rw[hx] at hc1;cases hc1;rw[List.getElem?_drop,show 1+i=i+1 by exact Nat.add_comm 1 i] at hy;rw[hy] at hc2;cases hc2;have l1:=pW g (y:=i) (by lia);have l2:=pW g (y:=i+1) (by ext);have st:=ah.new G (.tup [V.ref c1,V.ref c2]);have nTF:tp≠F:=λz=>by rw[z,C] at G; cases G
  refine Bc (n:=gm b+1) (aC (aU (aW (jC (K:=K) (aC (aa (by rfl))) q1) λ_ _=>aB) (by rw[yB,l1]; congr 1; lia))) (by lia) (λj σ r=>∃(L:Option V) (l:List V),σ=[some (.ref a),some (.ref S),some (.ref F),some (.ref c1),some (.ref c2),L]/\ah H2 r/\r p=some (.lst (D.drop 1))/\az K r c1 (((aY b).getD i []).map V.int)/\az K r c2 (((aY b).getD (i+1) []).map V.int)/\r F=some (.lst l)/\aK K (Hm F r) ((((range i).flatMap (gJ b))++(range j).map (gI (aY b) i)).map tupI) l) (λr u=>⟨L,l,rfl,X.trans (st.trans u),u _ _ (st _ _ N),u.seq q1,u.seq q2,u _ _ (st _ _ C),by simpa using J.same (st.trans u).hm⟩) ?_ ?_
  ·rintro j σ r hj ⟨L,l,rfl,u,Z,W,U,B,M⟩;have it:∀{σ:L2.St} {I:Hp} {k:Nat} {tc:TE} {y x:Nat} {c:M1},σ[k]?=some (some (V.ref c))->ah r I->az K r c (((aY b).getD y []).map V.int)->x < ((aY b).getD y []).length->(∀R,ah I R->Gv tc σ R (.int (x:Int)))->Gv (dz (q4 K) (b_ k) tc) σ I (.int (((aY b).getD y []).getD x 0)):=λh2 sx hc hx TM=> iM (K:=K) (aa h2) TM (sx.seq hc) (yT hx);have vx:∀{σ:L2.St} {I:Hp},σ[5]?=some (some (V.int (j:Int)))->∀R,ah I R->Gv (b_ 5) σ R (.int (j:Int)):=λh _ _=>aa h;have vx1:∀{σ:L2.St} {I:Hp},σ[5]?=some (some (V.int (j:Int)))->∀R,ah I R->Gv (dz (oq λi j=>.int (i+j)) (b_ 5) (tC (.int 1))) σ R (.int ((j+1:Nat):Int)):=λh _ _=>aU (aW (aa h) λ_ _=>aB) rfl;refine⟨_,rfl,.inl ⟨rfl,_,az.of B⟩,?_⟩;refine E1 (ay (it (y:=i) (x:=j) rfl (ah.refl _) W (by lia) (vx rfl)) λH5 s5=>ay (it (y:=i) (x:=j+1) rfl s5 W (by lia) (vx1 rfl)) λH6 s6=>ay (it (y:=i+1) (x:=j) rfl (s5.trans s6) U (by lia) (vx rfl)) λH7 s7=>aC (it (y:=i+1) (x:=j+1) rfl (s5.trans (s6.trans s7)) U (by lia) (vx1 rfl))) (by show 4<=PK; decide) λH5 q s5 hq=>?_;have sq:=ah.new hq (.tup [V.int (((aY b).getD i []).getD j 0),.int (((aY b).getD i []).getD (j+1) 0),.int (((aY b).getD (i+1) []).getD j 0),.int (((aY b).getD (i+1) []).getD (j+1) 0)]);have m:=s5.trans sq;have ne:q≠F:=λz=>by rw[z,s5 _ _ B] at hq; cases hq
   have hcF:∀{c:M1} {zs:List V} {o:HO},az K r c zs->az K r c zs:=λh=>h;refine⟨F,l,_,rfl,rfl,m _ _ B,?_,?_⟩
   ·rw[M.length];refine zCt (show _<=1000 from ?_) (by decide);have hfl:=yS b i;simp only [yB,zAm,zBt];have:i * (gm b+1)<=21 * 21:=Nat.mul_le_mul (by lia) (by lia);lia
   ·refine⟨_,l++[.ref q],rfl,(u.trans m).put hF _,?_,?_,?_,ao,?_⟩;·rw[aA Zc]; exact m _ _ Z
    ·exact (E5 d (i:=i) ((u.trans m).put hF _) (by lia) hx)
    ·exact (E5 d (i:=i+1) ((u.trans m).put hF _) (by lia) hy)
    ·have e:(((range i).flatMap (gJ b))++(range (j+1)).map (gI (aY b) i)).map tupI=(((range i).flatMap (gJ b))++(range j).map (gI (aY b) i)).map tupI++[tupI (gI (aY b) i j)]:=by simp [zBk]
     rw[e];refine aK.snoc (mY.mpr ⟨q,rfl,aG.of ?_⟩) (M.same (m.zV _));rw[lI ne,aA ne,ao];rfl
  ·rintro σ r ⟨L,l,rfl,u,Z,W,U,B,M⟩;refine⟨_,_,_,l,rfl,u,Z,B,?_⟩;rw[zBk,List.flatMap_append];simpa [gJ] using M
 ·rintro σ O ⟨e3,e4,L,l,rfl,X,N,C,J⟩;exact⟨_,rfl,kk F O l (s02.free hF) (s02.trans X) C J⟩
abbrev kT (c:Nat):Str:=⟨#[c]⟩
theorem E6:∀cs:List Nat,((cs.map kT).map (·.length)).sum=cs.length| []=>rfl| c::cs=>by rw[zA2,zA2,List.sum_cons,E6 cs,zCp];show 1+_=_;lia
theorem Ci:∀(cs:List Nat) (a:Array Nat),((cs.map kT).foldl (λa p=>a++("":Str).cps++p.cps) a).toList=a.toList++cs| [],a=>by simp| c::cs,a=>by rw[zA2,List.foldl_cons,Ci cs];show (a++#[]++#[c]).toList++cs=_;simp
theorem yW (cs:List Nat):(join "" (cs.map kT)).cps.toList=cs:=by cases cs with| nil=>rfl| cons c cs=> show ((cs.map kT).foldl (λa p=>a++("":Str).cps++p.cps) (kT c).cps).toList=c::cs;rw[Ci];rfl
theorem we (g:az K H a (ns.map V.int))(e:ns.length<=63)(h:ah H b)(f:Ga c σ b [.ref a,.int k]):Gv (qy (Ab K) [] E c) σ b (.int (mix ns k)):= gr f λj R s d=>⟨a,ns,_,rfl,(h.trans s).seq g,e,d⟩
theorem LA {x:Str}{m:Int}(b:0<=m)(a:m < x.length):j4 x.cps.toList m=some (x.cps.getD m.toNat 0):=by
 obtain⟨j,rfl⟩:=zBg b;have c:j < x.cps.size:=by have:(j:Int) < (x.cps.size:Int):=a;lia
 refine cN (j:=j) ?_;show x.cps.toList[j]?=some (x.cps.getD j 0);rw[zAh,zCm,zA1 c];rfl
theorem dh (h:cF p=true):p≠[]/\p.length<=4/\bJ p<=12/\1<=bJ p/\(∀r∈p,r.length=bJ p)/\∀r∈p,bK r=true:=by
 unfold cF at h;simp only [zAw,zBn,zAi] at h;obtain⟨⟨a,c⟩,⟨f,g⟩,d⟩:=h;refine⟨λe=>?_,by lia,by lia,by lia,λr b=>?_,λr b=>?_⟩;·rw[e] at a; simp at a
 ·have:=d r b;unfold qM at this;simp only [zAw,zBn] at this;have a:=this.1;injection a with c;exact Int.ofNat.inj c
 ·have:=d r b;unfold qM at this;simp only [zAw] at this;exact this.2
end
end eK
namespace ju
open PySem
abbrev fy:=List (Int × Int)
structure Gs where
 m:Nat
 B:List fy
 D:List Nat
noncomputable def aX (G:Gs)(n:Int):fy:=G.B.getD n.toNat []
def bit (n:Int)(f:Int):Prop:=0<=n/\-1<=f/\n.toNat.testBit (f+1).toNat=true
instance (n f:Int):Decidable (bit n f):=by unfold bit; infer_instance
noncomputable def Mem (G:Gs):Nat->Int->List Int->Prop| 0,n,a=>∃f,a=[f]/\bit n f| d+1,n,a=>∃f r p,a=f::r/\(f,p)∈aX G n/\Mem G d p r
noncomputable def Num (G:Gs):Nat->Int->Prop| 0,n=>0<=n/\n < 2 ^ (G.m+1)| d+1,n=>n=0\/(1<=n/\G.D[n.toNat]?=some (d+1))
structure mJ (G:Gs)(d:Nat)(ps:fy):Prop where
 rise:ps.Pairwise λp q=>p.1 < q.1
 fld:∀p∈ps,-1<=p.1/\p.1 < G.m
 num:∀p∈ps,Num G d p.2
structure WF (G:Gs):Prop where
 len:G.D.length=G.B.length
 zero:G.B[0]?=some []
 top:G.D[0]?=some 0
 ok:∀(i:Nat) (ps:fy),1<=i->G.B[i]?=some ps->∃d,G.D[i]?=some (d+1)/\ps≠[]/\mJ G d ps/\∀p∈ps,p.2≠0
 few:G.m<=16
structure Ext (G G':Gs):Prop where
 b:∀(i:Nat) (ps:fy),G.B[i]?=some ps->G'.B[i]?=some ps
 d:∀(i:Nat) (k:Nat),G.D[i]?=some k->G'.D[i]?=some k
 m:G'.m=G.m
 w:WF G
section
variable {G G':Gs}{d e:Nat}{n r:Int}{fs:List Int}{ps:fy}{S S':List Int->Prop}
theorem Num.nonneg (h:Num G d n):0<=n:=by cases d with| zero=>exact h.1| succ d=>rcases h with h | h <;> lia
theorem Num.zero:Num G d 0:=by cases d with| zero=>exact⟨by simp,Int.pow_pos (by decide)⟩| succ d=>exact .inl rfl
theorem Num.depth (h:Num G (d+1) n)(h':Num G (e+1) n)(a:n≠0):d=e:=by have:=(h.resolve_left a).2.symm.trans (h'.resolve_left a).2;ext
theorem WF.z (W:WF G):ju.aX G 0=[]:=by unfold ju.aX; rw[y6,show (0:Int).toNat=0 from rfl,W.zero]; rfl
theorem WF.aX (W:WF G)(h:Num G (d+1) n):mJ G d (ju.aX G n)/\(∀p∈ju.aX G n,p.2≠0)/\(n≠0->ju.aX G n≠[])/\n.toNat < G.B.length:=by
 rcases h with rfl | ⟨m,c⟩
 ·rw[W.z];exact⟨⟨.nil,by simp,by simp⟩,by simp,λh=>absurd rfl h,(xI.mp W.zero).1⟩
 ·have b:n.toNat < G.B.length:=by rw[<-W.len]; exact (xI.mp c).1
  obtain⟨g,f,j,l,i⟩:=W.ok n.toNat G.B[n.toNat] (by lia) (y2 b);obtain rfl:g=d:=by rw[c] at f; simpa using f.symm
  have k:ju.aX G n=G.B[n.toNat]:=by unfold ju.aX; rw[y6,y2 b]; rfl
  rw[k];exact⟨l,i,λ_=>j,b⟩
theorem bX (W:WF G):¬ Mem G d 0 fs:=by cases d with| zero=> rintro⟨f,_,_,_,h⟩;ext| succ d=> rintro⟨f,r,p,_,h,_⟩;rw[W.z] at h;ext
theorem Ext.refl (W:WF G):Ext G G:=⟨(by simp),(by simp),rfl,W⟩
theorem Ext.trans (a:Ext G G')(b:Ext G' c):Ext G c:=⟨λi ps h=>b.b i ps (a.b i ps h),λi k h=>b.d i k (a.d i k h),b.m.trans a.m,a.w⟩
theorem Ext.len (x:Ext G G'):G.B.length<=G'.B.length:=by have a:=(xI.mp x.w.zero).1;have:=(xI.mp (x.b (G.B.length - 1) _ (y2 (by lia)))).1;lia
theorem Num.ext (h:Num G d n)(x:Ext G G'):Num G' d n:=by cases d with| zero=>exact⟨h.1,by rw[x.m]; exact h.2⟩| succ d=>exact h.imp id λh=>⟨h.1,x.d _ _ h.2⟩
theorem Num.back (h:Num G' (d+1) n)(x:Ext G G')(a:n.toNat < G.B.length):Num G (d+1) n:=by rw[<-x.w.len] at a;refine h.imp id λh=>⟨h.1,?_⟩;have:=x.d n.toNat G.D[n.toNat] (by simp);ext
theorem Rb (h:Num G (d+1) n)(x:Ext G G'):aX G' n=aX G n:=by have a:=(x.w.aX h).2.2.2;unfold aX;rw[y6,y6,x.b _ _ (y2 a),y2 a]
theorem bR (x:Ext G G'):∀(d:Nat) (n:Int) (fs:List Int),Num G d n->(Mem G' d n fs↔Mem G d n fs)
 | 0,n,fs,h=>Iff.rfl| d+1,n,fs,h=>by
  have c:=(x.w.aX h).1;show (∃f r p,fs=f::r/\(f,p)∈aX G' n/\Mem G' d p r)↔∃f r p,fs=f::r/\(f,p)∈aX G n/\Mem G d p r;rw[Rb h x];constructor <;> rintro⟨f,r,p,e,a,b⟩;·exact⟨f,r,p,e,a,(bR x d p r (c.num _ a)).mp b⟩
  ·exact⟨f,r,p,e,a,(bR x d p r (c.num _ a)).mpr b⟩
theorem mJ.ext (h:mJ G d ps)(x:Ext G G'):mJ G' d ps:=⟨h.rise,by rw[x.m]; exact h.fld,λp a=>(h.num p a).ext x⟩
theorem sQ:∀(d:Nat) (n:Int) (fs:List Int),Mem G d n fs->fs.length=d+1| 0,n,fs,⟨f,e,_⟩=>by ext| d+1,n,fs,⟨f,r,p,e,_,h⟩=>by rw[e,zCp,sQ d p r h]
theorem mem_some (W:WF G):∀(d:Nat) (n:Int),Num G d n->n≠0->∃fs,Mem G d n fs| 0,n,h,f=>by obtain⟨i,k⟩:=Nat.exists_testBit_of_ne_zero (show n.toNat≠0 by have:=h.1; lia);exact⟨[i - 1],i - 1,rfl,h.1,by lia,by ext⟩| d+1,n,h,f=>by obtain⟨j,b,c,_⟩:=W.aX h;cases e:aX G n with| nil=>ext| cons p ps=>
   have a:p∈aX G n:=by ext
   obtain⟨r,g⟩:=mem_some W d _ (j.num p a) (b p a);exact⟨p.1::r,p.1,r,p.2,rfl,a,g⟩
noncomputable def live (ps:fy):fy:=ps.filter λp=>decide (p.2≠0)
theorem mJ.live (h:mJ G d ps):mJ G d (ju.live ps):=⟨h.rise.filter _,λp a=>h.fld p (zBf.mp a).1,λp a=>h.num p (zBf.mp a).1⟩
theorem Rc (h:p∈live ps):p∈ps/\p.2≠0:=by obtain⟨a,b⟩:=zBf.mp h;ext
noncomputable def Gs.new (G:Gs)(d:Nat)(ps:fy):Gs:=⟨G.m,G.B++[ps],G.D++[d]⟩
theorem Ig (W:WF G):Ext G (G.new e ps):=by
 refine⟨λi a h=>?_,λi k h=>?_,rfl,W⟩;·exact (zAo (xI.mp h).1).trans h
 ·exact (zAo (xI.mp h).1).trans h
theorem JT:(G.new e ps).B[G.B.length]?=some ps:=by show (G.B++[ps])[G.B.length]?=_; simp
theorem Pg (W:WF G):(G.new e ps).D[G.B.length]?=some e:=by show (G.D++[e])[G.B.length]?=_; rw[<-W.len]; simp
theorem WF.new (W:WF G)(h:mJ G d ps)(hz:∀p∈ps,p.2≠0)(b:ps≠[]):WF (G.new (d+1) ps):=by
 have x:Ext G (G.new (d+1) ps):=Ig W;refine⟨by simp [Gs.new,W.len],x.b _ _ W.zero,x.d _ _ W.top,λi j k a=>?_,W.few⟩;by_cases l:i < G.B.length
 ·rw[show (G.new _ ps).B=G.B++[ps] from rfl,zAo l] at a;obtain⟨m,f,o,c,g⟩:=W.ok i j k a;exact⟨m,x.d _ _ f,o,c.ext x,g⟩
 ·obtain rfl:i=G.B.length:=by have:=(xI.mp a).1;simp [Gs.new] at this;lia
  rw[JT] at a;cases a;exact⟨d,Pg W,b,h.ext x,hz⟩
noncomputable def Is (G:Gs)(d:Nat)(r:Int)(S:List Int->Prop):Prop:=Num G d r/\∀fs,Mem G d r fs↔S fs
noncomputable def Ah (G:Gs)(d:Nat)(ps:fy):List Int->Prop:=λfs=>∃f r p,fs=f::r/\(f,p)∈ps/\Mem G d p r
theorem Is.iff (h:Is G d r S)(e:∀fs,S fs↔S' fs):Is G d r S':=⟨h.1,λfs=>(h.2 fs).trans (e fs)⟩
theorem Rf (W:WF G)(h:live ps=[]):Is G (d+1) 0 (Ah G d ps):=by refine⟨.zero,λfs=>⟨λh=>absurd h (bX W),?_⟩⟩;rintro⟨f,r,p,e,b,a⟩;have:(f,p)∈live ps:=zBf.mpr ⟨b,zAa λz:p=0=>by rw[z] at a; exact bX W a⟩;rw[h] at this;cases this
theorem Ih (W:WF G){i:Nat}(h:1<=i)(j:G.B[i]?=some (live ps))(g:G.D[i]?=some (d+1)):Is G (d+1) (i:Int) (Ah G d ps):=by
 refine⟨.inr ⟨by lia,g⟩,λfs=>?_⟩;have c:aX G i=live ps:=by unfold aX; ext
 show (∃f r p,fs=f::r/\(f,p)∈aX G _/\Mem G d p r)↔_;rw[c];constructor <;> rintro⟨f,r,p,e,b,a⟩;·exact⟨f,r,p,e,(Rc b).1,a⟩
 ·exact⟨f,r,p,e,zBf.mpr ⟨b,zAa λz:p=0=>by rw[z] at a; exact bX W a⟩,a⟩
theorem Is.ext (h:Is G d r S)(x:Ext G G'):Is G' d r S:=⟨h.1.ext x,λfs=>(bR x d r fs h.1).trans (h.2 fs)⟩
theorem Ah.ext (x:Ext G G')(h:mJ G d ps)(fs:List Int):Ah G' d ps fs↔Ah G d ps fs:=by
 constructor <;> rintro⟨f,r,p,e,a,b⟩;·exact⟨f,r,p,e,a,(bR x d p r (h.num _ a)).mp b⟩
 ·exact⟨f,r,p,e,a,(bR x d p r (h.num _ a)).mpr b⟩
theorem is_none (W:WF G)(h:Is G d r S)(c:∀fs,¬ S fs):r=0:=by
 by_cases b:r=0;·symm
 ·obtain⟨fs,a⟩:=mem_some W d r h.1 b;exact absurd ((h.2 fs).mp a) (c fs)
theorem Cj:∀(n:Nat) (l:List Nat),l.Nodup->(∀x∈l,x < n)->l.length<=n
 | 0,l,_,h=>by cases l with| nil=>simp| cons x f=>exact absurd (h x zAb) (Nat.not_lt_zero _)
 | n+1,l,a,h=>by
  have b:=Cj n _ (a.erase n) λx c=>by grind
  grind
theorem kU {m:Nat}(a:(ps.map (·.1)).Nodup)(h:∀p∈ps,-1<=p.1/\p.1 < m):ps.length<=m+1:=by
 have b:=Cj (m+1) ((ps.map (·.1)).map λk=>(k+1).toNat) ?_ ?_;·ext
 ·rw[List.Nodup,zAl];refine List.Pairwise.imp_of_mem ?_ a;grind
 grind
theorem mJ.nd (h:mJ G d ps):(ps.map (·.1)).Nodup:=zAl.mpr (h.rise.imp λh=>Int.ne_of_lt h)
theorem mJ.len (h:mJ G d ps):ps.length<=G.m+1:=kU h.nd h.fld
noncomputable def b6 (ps:fy)(f:Int):Int:=((ps.find? λp=>decide (p.1=f)).map (·.2)).getD 0
theorem oY (h:(ps.map (·.1)).Nodup)(a:(f,p)∈ps):b6 ps f=p:=by induction ps with| nil=>ext| cons q c b=>
  rw[zA2,zDo] at h;unfold b6;rw[zCb];rcases wS.mp a with e | e;·grind
  ·rw[zAp (by grind)];exact b h.2 e
theorem sR (h:b6 ps f≠0):(f,b6 ps f)∈ps:=by unfold b6 at h ⊢;cases e:ps.find? _ with| none=>ext| some p=> grind
theorem E7 (h:mJ G d ps)(f:Int):Num G d (b6 ps f):=by
 by_cases a:b6 ps f=0;·rw[a]; exact .zero
 ·exact h.num _ (sR a)
noncomputable def l6 (ps:fy)(f r:Int):fy:=if ps.any (λp=>decide (p.1=f)) then ps.map (λp=>if p.1=f then (p.1,r) else p) else ps++[(f,r)]
theorem wg (f r:Int)(h:(ps.map (·.1)).Nodup):((l6 ps f r).map (·.1)).Nodup/\∀g,g∈(l6 ps f r).map (·.1)↔g=f\/g∈ps.map (·.1):=by
 unfold l6;split <;> rename_i a
 ·have e:(ps.map λp=>if p.1=f then (p.1,r) else p).map (·.1)=ps.map (·.1):=by rw[zAf];refine zC3 λp _=>?_;show (if p.1=f then (p.1,r) else p).1=p.1;split <;> rfl
  rw[e];refine⟨h,λg=>⟨.inr,λi=>?_⟩⟩;rcases i with rfl | i
  ·obtain⟨p,j,b⟩:=List.any_eq_true.mp a;exact q0.mpr ⟨p,j,zAr b⟩
  ·exact i
 ·rw[v3];refine⟨?_,λg=>by simp [or_comm]⟩;rw[zBv];refine⟨h,by simp,λx k y l z=>a ?_⟩;have c:y=f:=by simpa using l
  obtain⟨p,j,b⟩:=q0.mp k;exact List.any_eq_true.mpr ⟨p,j,zAa (by rw[b,z,c])⟩
noncomputable def ku (G:Gs)(d:Nat)(n b:Int):List Int->Prop:=λfs=>Mem G d n fs/\∃f g,fs=f::g/\bit b f
noncomputable def jO (G:Gs)(d:Nat)(a b:Int):List Int->Prop:=λfs=>Mem G d a fs/\Mem G d b fs
noncomputable def iU (G:Gs)(d:Nat)(a b:Int):List Int->Prop:=λfs=>Mem G d a fs\/Mem G d b fs
theorem LB (fs:List Int):Ah G d ((aX G n).filter λp=>decide (bit b p.1)) fs↔ku G (d+1) n b fs:=by
 constructor
 ·rintro⟨f,r,p,e,c,a⟩;obtain⟨g,h⟩:=zBf.mp c;exact⟨⟨f,r,p,e,g,a⟩,f,r,e,zAr h⟩
 ·rintro⟨⟨f,r,p,e,c,a⟩,j,i,k,l⟩;exact⟨f,r,p,e,(by ext),a⟩
theorem LC (a b:Int):((if b < a then b else a)=a/\(if b > a then b else a)=b)\/((if b < a then b else a)=b/\(if b > a then b else a)=a):=by lia
noncomputable def Ai (G:Gs)(a b r:Int):Prop:=0<=b/\b.toNat < G.B.length/\∀d,Num G (d+1) a->Num G (d+1) b->Is G (d+1) r (iU G (d+1) a b)
noncomputable def Aj (G:Gs)(a b r:Int):Prop:=0<=b/\b.toNat < G.B.length/\∀d,Num G (d+1) a->Num G (d+1) b->Is G (d+1) r (jO G (d+1) a b)
noncomputable def Ck (G:Gs)(a b r:Int):Prop:=∀d,Num G (d+1) a->Is G (d+1) r (ku G (d+1) a b)
variable {a b:Int}
theorem qO (x:Ext G G')(h:Num G d a)(fs:List Int):ku G d a b fs↔ku G' d a b fs:=by unfold ku; rw[bR x _ _ _ h]
theorem p9 (x:Ext G G')(f:Num G d a)(c:Num G d b)(fs:List Int):jO G d a b fs↔jO G' d a b fs:=by unfold jO; rw[bR x _ _ _ f,bR x _ _ _ c]
theorem oO (x:Ext G G')(f:Num G d a)(c:Num G d b)(fs:List Int):iU G d a b fs↔iU G' d a b fs:=by unfold iU; rw[bR x _ _ _ f,bR x _ _ _ c]
theorem Ai.ext (x:Ext G G')(f:a.toNat < G.B.length)(h:Ai G a b r):Ai G' a b r:=⟨h.1,wT h.2.1 x.len,λd c g=>((h.2.2 d (c.back x f) (g.back x h.2.1)).ext x).iff (oO x (c.back x f) (g.back x h.2.1))⟩
theorem Aj.ext (x:Ext G G')(f:a.toNat < G.B.length)(h:Aj G a b r):Aj G' a b r:=⟨h.1,wT h.2.1 x.len,λd c g=>((h.2.2 d (c.back x f) (g.back x h.2.1)).ext x).iff (p9 x (c.back x f) (g.back x h.2.1))⟩
theorem Ck.ext (x:Ext G G')(f:a.toNat < G.B.length)(h:Ck G a b r):Ck G' a b r:= λd c=>((h d (c.back x f)).ext x).iff (qO x (c.back x f))
theorem TQ (x:Ext G G')(c:WF G')(g:Num G (d+1) a)(h:Is G' (d+1) r (ku G (d+1) a b)):Ck G' a b r:=λe i=>by
 by_cases f:a=0
 ·subst f;obtain rfl:=is_none c h λfs j=>bX x.w j.1;exact⟨.zero,λfs=>⟨λq=>absurd q (bX c),λq=>absurd q.1 (bX c)⟩⟩
 ·obtain rfl:=(g.ext x).depth i f;exact h.iff (qO x g)
theorem TR (x:Ext G G')(p:WF G')(f:Num G (d+1) a)(g:Num G (d+1) b)(s:a≠0)(i:(lo=a/\j=b)\/(lo=b/\j=a))(h:Is G' (d+1) r (jO G (d+1) a b)):0<=lo/\lo.toNat < G'.B.length/\Aj G' lo j r:=by
 have o:=(p.aX (f.ext x)).2.2.2;have m:=(p.aX (g.ext x)).2.2.2;have c:∀e,Num G' (e+1) a->Is G' (e+1) r (jO G' (e+1) a b):=λe q=>by obtain rfl:=(f.ext x).depth q s;exact h.iff (p9 x f g)
 rcases i with ⟨rfl,rfl⟩ | ⟨rfl,rfl⟩;·exact⟨f.nonneg,o,g.nonneg,m,λe k l=>c e k⟩
 ·exact⟨g.nonneg,m,f.nonneg,o,λe k l=>(c e l).iff λfs=>And.comm⟩
theorem TU (x:Ext G G')(p:WF G')(f:Num G (d+1) a)(g:Num G (d+1) b)(s:a≠0)(i:(lo=a/\j=b)\/(lo=b/\j=a))(h:Is G' (d+1) r (iU G (d+1) a b)):0<=lo/\lo.toNat < G'.B.length/\Ai G' lo j r:=by
 have o:=(p.aX (f.ext x)).2.2.2;have m:=(p.aX (g.ext x)).2.2.2;have c:∀e,Num G' (e+1) a->Is G' (e+1) r (iU G' (e+1) a b):=λe q=>by obtain rfl:=(f.ext x).depth q s;exact h.iff (oO x f g)
 rcases i with ⟨rfl,rfl⟩ | ⟨rfl,rfl⟩;·exact⟨f.nonneg,o,g.nonneg,m,λe k l=>c e k⟩
 ·exact⟨g.nonneg,m,f.nonneg,o,λe k l=>(c e l).iff λfs=>Or.comm⟩
noncomputable def cB (m:Nat):Nat->Nat| 0=>0| d+1=>2+(m+1) * cB m d
end
theorem NS (a b:Nat):Builtin.bitAnd (a:Int) (b:Int)=((a&&& b:Nat):Int):=by rfl
theorem yX (a:Nat):Builtin.bitNot (Builtin.bitNot (a:Int))=(a:Int):=by unfold Builtin.bitNot;lia
theorem E8 (a:Nat):Builtin.bitNot (a:Int) < 0:=by unfold Builtin.bitNot;lia
theorem Rg (a b:Nat):Builtin.bitOr (a:Int) (b:Int)=((a||| b:Nat):Int):=by unfold Builtin.bitOr Builtin.bitAnd;have e:=E8 a;have f:=E8 b;rw[zAp (by ext),zAp (by ext)];have c:=yX a;have d:=yX b;rw[c,d];exact yX _
theorem xO (d:0<=x)(c:0<=y):0<=Builtin.bitAnd x y/\∀f,bit (Builtin.bitAnd x y) f↔bit x f/\bit y f:=by obtain⟨a,rfl⟩:=zBg d;obtain⟨b,rfl⟩:=zBg c;rw[NS];simp [bit];intros;exact and_and_left
theorem E9 (d:0<=x)(c:0<=y):0<=Builtin.bitOr x y/\∀f,bit (Builtin.bitOr x y) f↔bit x f\/bit y f:=by obtain⟨a,rfl⟩:=zBg d;obtain⟨b,rfl⟩:=zBg c;rw[Rg];simp [bit,and_or_left]
noncomputable def cY (f:Int):Int:=2 ^ (f+1).toNat
theorem Cm (f:Int):cY f=((2 ^ (f+1).toNat:Nat):Int):=by rfl
theorem lg (f:Int):0 < cY f:=Int.pow_pos (by decide)
theorem kW (a:-1<=f)(g:Int):bit (cY f) g↔g=f:=by unfold bit;rw[Cm,zA9,Nat.testBit_two_pow,decide_eq_true_iff];exact⟨λh=>by lia,λh=>⟨Int.natCast_nonneg _,h ▸ a,h ▸ rfl⟩⟩
theorem wh {m:Nat}(c:n < 2 ^ (m+1))(h:bit n f):f < m:=by
 obtain⟨d,i,b⟩:=h;obtain⟨a,rfl⟩:=zBg d;rw[zA9] at b;have e:a < 2 ^ (m+1):=by
  have:(a:Int) < ((2 ^ (m+1):Nat)):=by simpa using c
  lia
 by_cases g:(f+1).toNat < m+1;·ext
 ·have:a < 2 ^ (f+1).toNat:=wT e (Nat.pow_le_pow_right (by decide) (by lia));rw[Nat.testBit_lt_two_pow this] at b;cases b
theorem nQ {m:Nat}(b:0<=n)(h:∀f,bit n f->f < m):n < 2 ^ (m+1):=by
 obtain⟨a,rfl⟩:=zBg b;have:a < 2 ^ (m+1):=by refine Nat.lt_pow_two_of_testBit a λi c=>?_;cases e:a.testBit i with| false=>rfl| true=> have:=h (i - 1) ⟨by symm,by lia,by ext⟩;lia
 grind
theorem sU (h:bit n f):n≠0:=by rintro rfl;obtain⟨_,_,h⟩:=h;ext
theorem TV (a:0<=n)(h:n≠0):∃f,bit n f:=by
 have:n.toNat≠0:=by lia
 obtain⟨i,b⟩:=Nat.exists_testBit_of_ne_zero this;exact⟨i - 1,a,by lia,by ext⟩
theorem NT (c:-1<=f)(i:0<=y):(Builtin.bitAnd (cY f) y != 0)=decide (bit y f):=by
 obtain⟨d,a⟩:=xO (zDj (lg f)) i;rw[Bool.eq_iff_iff,decide_eq_true_iff,bne_iff_ne];constructor
 ·intro h;obtain⟨g,e⟩:=TV d h;obtain⟨b,j⟩:=(a g).mp e;rw[kW c] at b;rw[<-b];symm
 ·intro h;exact sU ((a f).mpr ⟨(kW c f).mpr rfl,h⟩)
noncomputable def iS (n:Int):Int:=(Builtin.Int.intBits (Builtin.bitAnd n (-n)):Int) - 2
theorem GN:∀a:Fin 64,a.1≠0->bit (a.1:Int) (iS (a.1:Int))/\∀j:Fin 7,((j.1:Int) - 1) < iS (a.1:Int)->¬ bit (a.1:Int) ((j.1:Int) - 1):=by decide +kernel
theorem NU (l:m<=5)(d:0<=n)(i:n < 2 ^ (m+1))(h:n≠0):bit n (iS n)/\∀f,bit n f->iS n<=f:=by
 obtain⟨a,rfl⟩:=zBg d;have p:(2:Int) ^ (m+1)<=64:=by have:(2) ^ (m+1)<=2 ^ 6:=Nat.pow_le_pow_right (by decide) (by ext);grind
 have c:a < 64:=by lia
 obtain⟨k,g⟩:=GN ⟨a,c⟩ (by ext);refine⟨k,λf b=>?_⟩;have e:=wh i b;have j:=b.2.1;by_cases o:iS a<=f;·symm
 ·have:=g ⟨(f+1).toNat,by lia⟩ (by grind);grind
end ju
namespace L2
open PySem PySem.Spec PyProof.Rows
section
variable {K:zzA}{ix:List (Option Nat)}{te:TE}{g:TG}{tf:TT}{σ:St}{H1:Hp}{Q:M1->Hp->Prop}
noncomputable def Wf (g:TG)(tf:TT)(te:TE)(σ:St)(x:V)(H:Hp)(R:VK)(d:Hp->Prop):Prop:=g x σ H λa e=>tf a e λb c=>if b=true then te a c R else d c
theorem oQ (hz:xs.length < PK)(b:M1->Nat->List V->Hp->Prop)(n:∀D i ys H,b D i ys H->az K H a xs/\ys.length<=i)(A:∀D,H1 D=none->b D 0 [] (upd H1 D (.lst [])))(t:∀D i ys H x (R:VK) (k:Hp->Prop),H1 D=none->b D i ys H->H D=some (.lst ys)->xs[i]?=some x->(∀v f,f D=some (.lst ys)->b D (i+1) (ys++[v]) (upd f D (.lst (ys++[v])))->R v f)->(∀h,h D=some (.lst ys)->b D (i+1) ys h->k h)->Wf g tf te (dw ix σ) x H R k)(r:∀D ys H,H1 D=none->b D xs.length ys H->H D=some (.lst ys)->Q D H):dF (pe K a) ix g tf te σ H1 Q:=by
 intro D l;refine⟨λi m ys H=>m=xs.length - i/\i<=xs.length/\b D i ys H,(by ext),?_⟩;rintro i m ys H ⟨rfl,z,p⟩ d;obtain⟨j,u⟩:=n D i ys H p;by_cases c:i < xs.length
 ·have o:=y2 c;refine .inr ⟨⟨xs,xs[i],j,o⟩,λv w y=>?_⟩;obtain⟨rfl,s⟩:=y;exact t D i ys _ v _ _ l p d (s xs j) (λv f e q=>⟨e,by lia,xs.length - (i+1),by grind,rfl,c,q⟩) λh e q=>⟨e,xs.length - (i+1),by grind,rfl,c,q⟩
 ·have e:i=xs.length:=by lia
  subst e;exact .inl ⟨⟨xs,j,y8 _⟩,r D ys H l p d⟩
theorem wj (hz:xs.length < PK)(b:M1->Nat->List V->Hp->Prop)(n:∀D i ys H,b D i ys H->aG K H a xs/\ys.length<=i)(A:∀D,H1 D=none->b D 0 [] (upd H1 D (.lst [])))(t:∀D i ys H x (R:VK) (k:Hp->Prop),H1 D=none->b D i ys H->H D=some (.lst ys)->xs[i]?=some x->(∀v f,f D=some (.lst ys)->b D (i+1) (ys++[v]) (upd f D (.lst (ys++[v])))->R v f)->(∀h,h D=some (.lst ys)->b D (i+1) ys h->k h)->Wf g tf te (dw ix σ) x H R k)(r:∀D ys H,H1 D=none->b D xs.length ys H->H D=some (.lst ys)->Q D H):dF (zw K a) ix g tf te σ H1 Q:=by
 intro D l;refine⟨λi m ys H=>m=xs.length - i/\i<=xs.length/\b D i ys H,(by ext),?_⟩;rintro i m ys H ⟨rfl,z,p⟩ d;obtain⟨j,u⟩:=n D i ys H p;by_cases c:i < xs.length
 ·have o:=y2 c;refine .inr ⟨⟨xs,xs[i],j,o⟩,λv w y=>?_⟩;obtain⟨rfl,s⟩:=y;exact t D i ys _ v _ _ l p d (s xs j) (λv f e q=>⟨e,by lia,xs.length - (i+1),by grind,rfl,c,q⟩) λh e q=>⟨e,xs.length - (i+1),by grind,rfl,c,q⟩
 ·have e:i=xs.length:=by lia
  subst e;exact .inl ⟨⟨xs,j,y8 _⟩,r D ys H l p d⟩
end
end L2
namespace WD
open PySem PySem.Spec PyProof.Rows L2 ju TB
structure Tk (H H':Hp):Prop where
 tp:∀b xs,H b=some (.tup xs)->H' b=some (.tup xs)
 fz:∀b o u,H b=some (.iL o u)->H' b=some (.iL o u)
section
variable {P:zAA}{w:zAD}{K:zzA}{H H' H2:Hp}{a b c p:M1}{o:HO}{xs:List V}
theorem Tk.refl:Tk H H:=⟨λ_ _ h=>h,λ_ _ _ h=>h⟩
theorem Tk.trans (x:Tk H H')(y:Tk H' H2):Tk H H2:=⟨λb xs h=>y.tp b xs (x.tp b xs h),λb o u h=>y.fz b o u (x.fz b o u h)⟩
theorem Tk.same (s:ah H H'):Tk H H':=⟨λb xs h=>s _ _ h,λb o u h=>s _ _ h⟩
theorem Tk.put (d:eB (H c)):Tk H (upd H c o):=⟨λb xs h=>by rw[aA (λz=>by rw[<-z,h] at d; symm)]; symm,λb o u h=>by rw[aA (λz=>by rw[<-z,h] at d; symm)]; symm⟩
theorem Tk.tup (x:Tk H H')(h:aG K H a xs):aG K H' a xs:=by
 rcases h with (h | ⟨o,h⟩) | h;·exact .inl (.inl (x.tp _ _ h))
 ·exact .inl (.inr ⟨o,x.fz _ _ _ h⟩)
 ·exact .inr h
theorem Tk.ft (x:Tk H H')(h:FT H a xs):FT H' a xs:=h.imp λo h=>⟨h.1,x.fz _ _ _ h.2⟩
noncomputable def FL (H:Hp)(a:M1)(xs:List V):Prop:=∃o,H a=some (.iL o (.lst xs))
theorem FL.sq (h:FL H a xs):az K H a xs:=.inl (.inr h)
theorem Tk.fl (x:Tk H H')(h:FL H a xs):FL H' a xs:=h.imp λo h=>x.fz _ _ _ h
theorem cL (s:ah H H')(b:M1)(h:H b≠none):H' b≠none:=λz=>by cases e:H b with| none=>ext| some o=>rw[s _ _ e] at z; ext
theorem m_ (b:M1)(h:H b≠none):upd H c o b≠none:=λz=>by
 by_cases e:b=c;·rw[e,ao] at z; ext
 ·rw[aA e] at z; exact h z
abbrev Sm:=Gs->Hp->Dt->V->Prop
inductive Kd| br | mm (S:Sm) | dk (S:Gs->Int->V->Prop)
abbrev Mp:=M1->Option Kd
structure Kw (M:Mp)(H H':Hp):Prop where
 tk:Tk H H'
 keep:∀b o,H b=some o->M b=none->H' b=some o
 live:∀b,H b≠none->H' b≠none
abbrev q1 (q:M1 × Int × Int):V:=.ref q.1
noncomputable def kB (K:zzA)(H:Hp)(d:List (M1 × Int × Int)):Prop:=∀q∈d,aG K H q.1 [.int q.2.1,.int q.2.2]
theorem kB.tk (h:kB K H d)(x:Tk H H'):kB K H' d:=λq e=>x.tup (h q e)
noncomputable def Br (K:zzA)(H:Hp)(t:M1)(ps:fy):Prop:=∃d:List (M1 × Int × Int),d.map (·.2)=ps/\aG K H t (d.map q1)/\(ps≠[]->FT H t (d.map q1))/\kB K H d
theorem Br.tk (h:Br K H t ps)(x:Tk H H'):Br K H' t ps:=by obtain⟨i,e,d,g,f⟩:=h;exact⟨i,e,x.tup d,λz=>x.ft (g z),f.tk x⟩
noncomputable def yY (S:Sm):Prop:=∀G e H H' d v,S G H d v->Ext G e->Tk H H'->S e H' d v
noncomputable def rG (K:zzA)(P:zAA)(w:zAD)(G:Gs)(L:Nat)(H:Hp)(a:M1):Kd->Prop| .br=>∃f:List M1,H a=some (.lst (f.map V.ref))/\f.length=G.B.length/\∀(i:Nat) (t:M1) (h:fy),f[i]?=some t->G.B[i]?=some h->Br K H t h| .mm S=>yY S/\∃mm,bG K P w H a mm L/\∀d v,mm d=some v->S G H d v| .dk S=>(∀G g n v,S G n v->Ext G g->S g n v)/\∃e:List (Key × V),H a=some (.dK e)/\e.length<=L/\∀n v,cU e (.inl n)=some v->S G n v
structure Wd (K:zzA)(P:zAA)(w:zAD)(M:Mp)(G:Gs)(L:Nat)(H:Hp):Prop where
 kd:∀a k,M a=some k->rG K P w G L H a k
 wf:WF G
 few:G.B.length<=L+1
 ub:∀a b,M a=some .br->M b=some .br->a=b
variable {M M':Mp}{G G':Gs}{L L':Nat}{k:Kd}
theorem Kw.refl:Kw M H H:=⟨.refl,λ_ _ e _=>e,λ_ h=>h⟩
theorem Kw.same (s:ah H H'):Kw M H H':=⟨.same s,λb o e _=>s b o e,cL s⟩
theorem Kw.trans (x:Kw M H H')(y:Kw M H' H2):Kw M H H2:=⟨x.tk.trans y.tk,λb o e m=>y.keep b o (x.keep b o e m) m,λb h=>y.live b (x.live b h)⟩
theorem Kw.st (x:Kw M H H')(s:ah H' H2):Kw M H H2:=x.trans (.same s)
theorem Kw.put (f:M a=some k)(d:eB (H a)):Kw M H (upd H a o):=⟨.put d,λb u e m=>by rw[aA (λz=>by ext)]; symm,m_⟩
theorem Kw.free (x:Kw M H H')(h:H' b=none):H b=none:=by cases e:H b with| none=>rfl| some o=>exact absurd h (x.live b (by ext))
theorem Kw.TX (x:Kw M d H)(g:d p=none)(f:eB (H p)):Kw M d (upd H p o):=⟨x.tk.trans (.put f),λb u e m=>by rw[aA (aQ e g)]; exact x.keep b u e m,λb h=>m_ b (x.live b h)⟩
theorem bG.there (h:bG K P w H a d n):∃o,H a=some o:=by obtain⟨f,e,_⟩:=h;ext
theorem rG.mut (h:rG K P w G L H a k):eB (H a):=by cases k with| br=>obtain⟨f,e,_⟩:=h; rw[e]; exact True.intro| mm S=>exact h.2.choose_spec.1.mut| dk S=>obtain⟨_,d,e,_⟩:=h; rw[e]; exact True.intro
theorem rG.some (h:rG K P w G L H a k):∃o,H a=some o:=by cases k with| br=>obtain⟨f,e,_⟩:=h; ext| mm S=>exact bG.there h.2.choose_spec.1| dk S=>obtain⟨_,d,e,_⟩:=h; ext
theorem rG.keep (h:rG K P w G L H a k)(e:H' a=H a)(x:Ext G G')(m:k=.br->G'=G)(tk:Tk H H')(A:L<=L'):rG K P w G' L' H' a k:=by cases k with| br=> obtain⟨r,f,g,j⟩:=h;rw[m rfl];exact⟨r,e.trans f,g,λi t s y z=>(j i t s y z).tk tk⟩| mm S=> obtain⟨f,mm,g,j⟩:=h;exact⟨f,mm,(g.keep e λq xs h=>tk.tup h).le A,λd v z=>f _ _ _ _ d v (j d v z) x tk⟩| dk S=> obtain⟨f,l,g,j,u⟩:=h;exact⟨f,l,e.trans g,by lia,λn v z=>f _ _ n v (u n v z) x⟩
theorem Wd.chg (W:Wd K P w M G L H)(f:Tk H H')(e:∀a k,M a=some k->H' a=H a)(d:L<=L'):Wd K P w M G L' H':=⟨λa k m=>(W.kd a k m).keep (e a k m) (.refl W.wf) (by simp) f d,W.wf,by have:=W.few; lia,W.ub⟩
theorem Wd.same (W:Wd K P w M G L H)(s:ah H H'):Wd K P w M G L H':=W.chg (.same s) (λa k m=>by obtain⟨o,e⟩:=(W.kd a k m).some;rw[e]; exact s _ _ e) (y8 _)
theorem Wd.le (W:Wd K P w M G L H)(h:L<=L'):Wd K P w M G L' H:=W.chg .refl (by simp) h
theorem Wd.aside (W:Wd K P w M G L H)(m:M c=none)(d:eB (H c)):Wd K P w M G L (upd H c o):=W.chg (.put d) (λa k e=>aA λz=>by ext) (y8 _)
theorem Wd.put (W:Wd K P w M G L H)(m:M a=some k)(f:L<=L')(n:rG K P w G L' (upd H a o) a k):Wd K P w M G L' (upd H a o):=⟨λb j d=>by
 by_cases e:b=a
 ·subst e;rw[m] at d;cases d;symm
 ·exact (W.kd b j d).keep (aA e) (.refl W.wf) (by simp) (.put (W.kd a k m).mut) f,W.wf,by have:=W.few; lia,W.ub⟩
theorem Wd.off (W:Wd K P w M G L H)(h:H p=none):M p=none:=by cases e:M p with| none=>rfl| some k=> obtain⟨o,z⟩:=(W.kd p k e).some;ext
structure Go (K:zzA)(P:zAA)(w:zAD)(M:Mp)(G:Gs)(H:Hp)(L':Nat)(G':Gs)(H':Hp):Prop where
 wd:Wd K P w M G' L' H'
 ex:Ext G G'
 kw:Kw M H H'
theorem Wd.go (W:Wd K P w M G L H)(s:ah H H')(h:L<=L'):Go K P w M G H L' G H':=⟨(W.same s).le h,.refl W.wf,.same s⟩
theorem Go.pre (x:Go K P w M G H L' G' H')(s:ah d H):Go K P w M G d L' G' H':=⟨x.wd,x.ex,(Kw.same s).trans x.kw⟩
theorem Go.st (x:Go K P w M G H L' G' H')(s:ah H' H2):Go K P w M G H L' G' H2:=⟨x.wd.same s,x.ex,x.kw.st s⟩
theorem Go.trans (x:Go K P w M G H L' G' H')(y:Go K P w M G' H' e d H2):Go K P w M G H e d H2:=⟨y.wd,x.ex.trans y.ex,x.kw.trans y.kw⟩
theorem Go.le (x:Go K P w M G H L G' H')(h:L<=L'):Go K P w M G H L' G' H':=⟨x.wd.le h,x.ex,x.kw⟩
theorem Go.own (x:Go K P w M G H L G' H')(e:H p=none)(m:M p=none)(d:eB (H' p)):Go K P w M G H L G' (upd H' p o):=⟨x.wd.aside m d,x.ex,x.kw.TX e d⟩
structure Ex (M M':Mp)(H:Hp):Prop where
 old:∀a k,M a=some k->M' a=some k
 new:∀a,H a≠none->M a=none->M' a=none
theorem Ex.trans {M2:Mp}(x:Ex M M' H)(y:Ex M' M2 H')(d:∀b,H b≠none->H' b≠none):Ex M M2 H:=⟨λa k e=>y.old a k (x.old a k e),λa h e=>y.new a (d a h) (x.new a h e)⟩
theorem Kw.ex (x:Kw M H H')(e:∀a k,M a=some k->M' a=some k):Kw M' H H':=⟨x.tk,λb o h m=>x.keep b o h (by cases z:M b with| none=>rfl| some k=>ext),x.live⟩
noncomputable def iI (M:Mp)(p:M1)(k:Kd):Mp:=λa=>if a=p then some k else M a
theorem lq:iI M p k p=some k:=u1 rfl
theorem iV (h:a≠p):iI M p k a=M a:=xL h
theorem Ex.add (W:Wd K P w M G L H)(d:H p=none):Ex M (iI M p k) H:=⟨λa j e=>by rw[iV (λz=>by rw[z,W.off d] at e; ext)]; symm,λa h e=>by rw[iV (λz=>by ext)]; symm⟩
theorem Wd.add (W:Wd K P w M G L H)(n:rG K P w G L H p k)(d:k≠.br):Wd K P w (iI M p k) G L H:=by
 have br:∀a,iI M p k a=some .br->M a=some _:=λa e=>by
  by_cases c:a=p;·rw[c,lq] at e; ext
  ·rw[iV c] at e; symm
 refine⟨λa j m=>?_,W.wf,W.few,λa b x y=>W.ub a b (br a x) (br b y)⟩;by_cases c:a=p
 ·subst c;rw[lq] at m;cases m;symm
 ·rw[iV c] at m;exact W.kd a j m
structure Kx (p:M1)(H H':Hp):Prop where
 tk:Tk H H'
 keep:∀b o,H b=some o->b≠p->H' b=some o
 live:∀b,H b≠none->H' b≠none
theorem Kx.same (s:ah H H'):Kx p H H':=⟨.same s,λb o h _=>s b o h,cL s⟩
theorem Kx.trans (x:Kx p H H')(y:Kx p H' H2):Kx p H H2:=⟨x.tk.trans y.tk,λb o h n=>y.keep b o (x.keep b o h n) n,λb h=>y.live b (x.live b h)⟩
theorem Kx.put (d:eB (H p)):Kx p H (upd H p o):=⟨.put d,λb u h n=>by rw[aA n]; symm,m_⟩
theorem Rh (s:Gv m σ H v)(r:∀H',Gv l σ H' (.ref p))(e:H p=some (.ins C i h))(W:Wd K P w M G L H)(u:M p=none)(c:gk K C)(n:aS K C f)(t:h.length < 1000)(k:∀H2,Wd K P w M G L H2->Kx p H H2->H2 p=some (.ins C i (eE f v h))->D.nx σ H2):vB K l m f D σ H:=by
 refine s _ λx d=>r _ _ λq g=>⟨p,C,i,h,rfl,(d.trans g) _ _ e,c,n,t,?_⟩;have j:eB (q p):=by rw[(d.trans g) _ _ e]; exact True.intro
 exact k _ ((W.same (d.trans g)).aside u j) ((Kx.same (d.trans g)).trans (.put j)) ao
theorem Bh {h i:TE}{us:TS}{D:Ends}{σ:L2.St}{C g:M1}{d:List (Str × V)}{f:Str}{v:V}(l:Gv i σ H v)(m:∀H',Gv h σ H' (.ref p))(e:H p=some (.ins C g d))(W:Wd K P w M G L H)(q:M p=none)(c:gk K C)(n:aS K C f)(j:d.length < 1000)(k:∀H2,Wd K P w M G L H2->Kx p H H2->H2 p=some (.ins C g (eE f v d))->us D σ H2):fj (vB K h i f) us D σ H:=Rh l m e W q c n j k
theorem Ii {s:TE}{D:Ends}{σ:L2.St}{C j:M1}{i:List (Str × V)}{f:Str}(S:Sm)(y:yY S)(t:∀H',Gv s σ H' (.ref p))(e:H p=some (.ins C j i))(W:Wd K P w M G L H)(B:M p=none)(c:gk K C)(n:aS K C f)(u:i.length < 1000)(k:∀a M' H2,M' a=some (.mm S)->Ex M M' H->M' p=none->Wd K P w M' G L H2->Kx p H H2->H a=none->H2 p=some (.ins C j (eE f (.ref a) i))->D.nx σ H2):vB K s (Dj K P w) f D σ H:=by
 intro a o d x;have l:a≠p:=λz=>by ext
 refine t _ _ λq m=>⟨p,C,j,i,rfl,m _ _ ((ah.new d o) _ _ e),c,n,u,?_⟩;have g:=(ah.new d o).trans m;have r:eB (q p):=by rw[g _ _ e]; exact True.intro
 have h:iI M a (.mm S) p=none:=by rw[iV (Ne.symm l)]; symm
 have v:Wd K P w (iI M a (.mm S)) G L q:=(W.same g).add ⟨y,_,(x.same m).le (zAd _),λ_ _ z=>nomatch z⟩ nofun;exact k a _ _ lq (.add W d) h (v.aside h r) ((Kx.same g).trans (.put r)) d ao
theorem sV {h:TE}{us:TS}{D:Ends}{σ:L2.St}{C g:M1}{d:List (Str × V)}{f:Str}(S:Sm)(l:yY S)(j:∀H',Gv h σ H' (.ref p))(e:H p=some (.ins C g d))(W:Wd K P w M G L H)(m:M p=none)(c:gk K C)(n:aS K C f)(i:d.length < 1000)(k:∀a M' H2,M' a=some (.mm S)->Ex M M' H->M' p=none->Wd K P w M' G L H2->Kx p H H2->H a=none->H2 p=some (.ins C g (eE f (.ref a) d))->us D σ H2):fj (vB K h (Dj K P w) f) us D σ H:=Ii S l j e W m c n i k
theorem bG.kx (h:bG K P w H a d n)(k:Kx p H H')(e:a≠p):bG K P w H' a d n:=by obtain⟨o,z⟩:=bG.there h;exact h.keep (by rw[z]; exact k.keep _ _ z e) λq xs h=>k.tk.tup h
theorem NV {q:TE}{us:TS}{D:Ends}{σ:L2.St}{C l:M1}{h:List (Str × V)}{f:Str}(r:∀H',Gv q σ H' (.ref p))(e:H p=some (.ins C l h))(W:Wd K P w M G L H)(s:M p=none)(c:gk K C)(n:aS K C f)(t:h.length < 1000)(k:∀a H2,H a=none->bG K P w H2 a (λ_=>none) 0->Wd K P w M G L H2->Kx p H H2->H2 p=some (.ins C l (eE f (.ref a) h))->us D σ H2):fj (vB K q (Dj K P w) f) us D σ H:=by
 intro a o g v;have j:a≠p:=λz=>by ext
 refine r _ _ λu i=>⟨p,C,l,h,rfl,i _ _ ((ah.new g o) _ _ e),c,n,t,?_⟩;have d:=(ah.new g o).trans i;have m:eB (u p):=by rw[d _ _ e]; exact True.intro
 exact k a _ g (bG.kx (v.same i) (.put m) j) ((W.same d).aside s m) ((Kx.same d).trans (.put m)) ao
theorem Fb {m:TE}{us:TS}{D:Ends}{σ:L2.St}{C l:M1}{h:List (Str × V)}{f:Str}(v:∀H',Gv m σ H' (.ref p))(e:H p=some (.ins C l h))(W:Wd K P w M G L H)(t:M p=none)(c:gk K C)(n:aS K C f)(u:h.length < 1000)(k:∀a H2,H a=none->H2 a=some (.dK [])->Wd K P w M G L H2->Kx p H H2->H2 p=some (.ins C l (eE f (.ref a) h))->us D σ H2):fj (vB K m Lb f) us D σ H:=by
 intro a g;have j:a≠p:=λz=>by ext
 have q:ah H (upd H a (.dK [])):=ah.new g _;refine v _ _ λs i=>⟨p,C,l,h,rfl,i _ _ (q _ _ e),c,n,u,?_⟩;have d:=q.trans i;have r:eB (s p):=by rw[d _ _ e]; exact True.intro
 exact k a _ g (by rw[aA j]; exact i _ _ ao) ((W.same d).aside t r) ((Kx.same d).trans (.put r)) ao
theorem dO (h:Gv g σ H (.ref a))(e:H a=some (.ins C i d))(c:gk K C)(n:aS K C f)(l:d.lookup f=some v):Gv (jV K g f) σ H v:=λR r=>h _ λH' s=>⟨a,C,i,d,v,rfl,s _ _ e,c,n,l,r H' s⟩
theorem bL {C s h:M1}{m:Str}{sp:Sp}{E:XK}{i:TE}{f:TA}{σ:L2.St}{R:VK}{e:List (Str × V)}(j:Gv i σ H (.ref s))(n:H s=some (.ins C h e))(l:e.lookup m=none)(k:∀d,ah H d->f σ d λvs H2=>sp (.ref s::(vs++[])) H2 R E):t6 C m sp [] E i f σ H R:= j _ λd g=>⟨s,h,e,rfl,g _ _ n,l,k d g⟩
theorem Ij {d:TE}{σ:L2.St}{R:List V->Hp->Prop}(h:d σ H λv e=>R [v] e):dj d fB σ H R:=h
theorem Fc {d:TE}{σ:L2.St}{R:VK}(h:d σ H λv e=>1<=PK/\∀p,e p=none->R (.ref p) (upd e p (.lst [v]))):AR (dj d fB) σ H R:=h
theorem nR {e d:TE}{σ:L2.St}{R:VK}{v1:V}(h:Gv e σ H v1)(k:∀H',ah H H'->d σ H' λf H2=>2<=PK/\∀p,H2 p=none->R (.ref p) (upd H2 p (.tup [v1,f]))):AQ (dj e (dj d fB)) σ H R:=h _ ‹_›
theorem qP {d:TE}{e:TA}{σ:L2.St}{R:List V->Hp->Prop}{v:V}(h:Gv d σ H v)(k:∀H',ah H H'->e σ H' λvs H2=>R (v::vs) H2):dj d e σ H R:=h _ ‹_›
theorem Ri {f:TE}{g:TG}{e:TS}{D:Ends}{σ:L2.St}(h:Gv f σ H (.ref a))(j:aG K H a xs)(d:Nat->L2.St->Hp->Prop)(q:∀H',ah H H'->d 0 σ H')(n:∀i σ H,d i σ H->aG K H a xs)(r:∀i x σ H,xs[i]?=some x->d i σ H->g x σ H λt H2=>e { D with nx:=d (i+1),ct:=d (i+1),bk:=D.nx } t H2) (m:∀σ H,d xs.length σ H->D.nx σ H):mQ (DJ K f) g e D σ H:= h _ λH' s=>⟨a,rfl,⟨xs,s.tup j⟩,Qs d (q H' s) (λi σ H _ p=>n i σ H p) r m⟩
theorem Bj {f:TE}{g:TG}{e us:TS}{D:Ends}{σ:L2.St}(h:Gv f σ H (.ref a))(j:aG K H a xs)(d:Nat->L2.St->Hp->Prop)(q:∀H',ah H H'->d 0 σ H')(n:∀i σ H,d i σ H->aG K H a xs)(r:∀i x σ H,xs[i]?=some x->d i σ H->g x σ H λs H2=>e { D with nx:=d (i+1),ct:=d (i+1),bk:=us D } s H2) (m:∀σ H,d xs.length σ H->us D σ H):fj (mQ (DJ K f) g e) us D σ H:= Ri h j d q n r m
theorem Cn (j:Gv h σ H (.ref l))(g:H l=some (.lst xs))(m:∀H',ah H H'->Gv f σ H' y)(hz:xs.length < PK)(k:∀H',ah H H'->D.nx σ (upd H' l (.lst (xs++[y])))):zu (BX K "list" AZ h (dj f fB)) D σ H:= j _ λi d=>⟨.inl ⟨rfl,_,az.of (d _ _ g)⟩,m i d _ λH2 e=>⟨l,xs,y,rfl,rfl,(d.trans e) _ _ g,hz,k H2 (d.trans e)⟩⟩
theorem LD {d e:TE}{us:TS}{D:Ends}{σ:L2.St}{l:M1}{y:V}(h:Gv d σ H (.ref l))(g:H l=some (.lst xs))(f:∀H',ah H H'->Gv e σ H' y)(hz:xs.length < PK)(k:∀H',ah H H'->us D σ (upd H' l (.lst (xs++[y])))):fj (zu (BX K "list" AZ d (dj e fB))) us D σ H:= Cn h g f hz k
theorem ng (t:Gv j σ H (.ref a))(e:H a=some (.dK kvs))(n:∀H',ah H H'->Gv h σ H' (.int f))(m:∀H',ah H H'->Gv i σ H' z):Gv (Lc j h i) σ H ((cU kvs (.inl f)).getD z):= λR r=>t _ λs d=>⟨a,rfl,.inl ⟨kvs,.inl (d _ _ e)⟩,n s d _ λH2 g=>m H2 (d.trans g) _ λq l=>⟨_,mZ.k (k:=.inl f) ((d.trans (g.trans l)) _ _ e),r q (d.trans (g.trans l))⟩⟩
theorem Ik (h:Ga d σ H [.int i,.int j]):Gv (pA (λxs H Q=>∃i j,xs=[V.int i,V.int j]/\Q (V.int (if j < i then j else i)) H) d) σ H (.int (if j < i then j else i)):=λR r=>h _ λH' s=>⟨i,j,rfl,r H' s⟩
theorem Il (h:Ga d σ H [.int i,.int j]):Gv (pA (λxs H Q=>∃i j,xs=[V.int i,V.int j]/\Q (V.int (if j > i then j else i)) H) d) σ H (.int (if j > i then j else i)):=λR r=>h _ λH' s=>⟨i,j,rfl,r H' s⟩
theorem Rj {i m l:TE}{us:TS}{D:Ends}{σ:L2.St}{e:Dt->Option V}{n:Nat}{d:Dt}{v:V}(y:Gv i σ H v)(r:∀H',ah H H'->Gv l σ H' (.ref a))(t:∀H',ah H H'->Gv m σ H' (.ref b))(A:bG K P w H a e n)(B:n < PK)(C:NK K H d b)(k:∀H' o,ah H H'->bG K P w (upd H' a o) a (λj=>if j=d then some v else e j) (n+1)->us D σ (upd H' a o)):fj (JL K P w l m i) us D σ H:= y _ λu f=>r u f _ λH2 g=>t H2 (f.trans g) _ λx z=>by have s:=f.trans (g.trans z);exact⟨a,rfl,e,n,d,b,A.same s,B,rfl,C.tups λq xs h=>s.tup h,λo h=>k x o s h⟩
theorem Dk {d:Nat}:decide (V.int (d:Int)=V.int 0)=decide (d=0):=by simp
noncomputable def Post (K:zzA)(P:zAA)(w:zAD)(M:Mp)(G:Gs)(H:Hp)(p b a:M1)(i:Nat)(S:Sm)(d:Dt)(R:VK):L2.St->Hp->Prop:=λe H'=>∃G' L',Go K P w M G H L' G' H'/\e[0]?=some (some (.ref p))/\e[i]?=some (some (.ref b))/\(∃f v,bG K P w H' a f L'/\f d=some v/\S G' H' d v)/\∀v H2,ah H' H2->S G' H2 d v->R v H2
section
variable {i:Nat}{f:Str}{tb:TS}{te:TE}{D:Ends}{σ:L2.St}{C dx:M1}{fs:List (Str × V)}{S:Sm}{d:Dt}
theorem NK.same (h:NK K H d b)(x:Tk H H'):NK K H' d b:=h.tups λq xs h=>x.tup h
theorem oZ (c:gk K C)(n:aS K C f)(l:fs.lookup f=some (.ref a))(x:H p=some (.ins C dx fs))(J:σ[0]?=some (some (.ref p)))(N:σ[i]?=some (some (.ref b)))(E:NK K H d b)(W:Wd K P w M G L H)(F:M a=some (.mm S))(mp:M p=none)(U:∀v j,ah H j->S G j d v->D.rt v j) (h1:∀j nx,ah H j->(∀q H',Post K P w M G H p b a i S d D.rt q H'->nx q H')->tb { D with nx:=nx } σ j) : fj (vp (tB (Tn K P w true (b_ i) (jV K (b_ 0) f))) tb tV) (DH (JK K P w (jV K (b_ 0) f) (b_ i))) D σ H:=by
 obtain⟨hS,mm,I,k2⟩:=W.kd _ _ F;have m:∀{q:L2.St} {H':Hp} {s:Dt->Option V} {v:V} {Q:Nat} {u:M1},q[0]?=some _->q[i]?=some _->H' p=some (.ins C u fs)->bG K P w H' a s Q->NK K H' d b->s d=some v->Gv (JK K P w (jV K _ f) _) q H' v:= λt B eo hm y hv R r=>(dO (aa t) eo c n l) _ λj g=>(aa B) _ λH2 h=>⟨a,_,rfl,⟨_,_,d,b,hm.same (g.trans h),rfl,NK.same y (.same (g.trans h)),hv.symm⟩,r H2 (g.trans h)⟩;refine fC (iX λR r=>(aa N) _ λj g=>(dO (aa J) (g _ _ x) c n l) _ λH2 h=>⟨a,_,rfl,⟨mm,L,d,b,I.same (g.trans h),rfl,NK.same E (.same (g.trans h)),rfl⟩,r H2 (g.trans h)⟩) (λe j g=>?_) λe j g=>?_
 ·refine h1 j _ g λq H' hh=>?_;obtain⟨G',L',A,t,B,⟨s,v,X,T,Z⟩,Y⟩:=hh;have O:=m t B (A.kw.keep _ _ x mp) X (NK.same E A.kw.tk) T;exact b8 O λH2 h=>Y v H2 h ((W.kd _ _ F).1 _ _ _ _ d v Z (.refl A.wd.wf) (.same h))
 ·cases z:mm d with| none=>rw[z] at e; cases e| some v=>exact b8 (m J N (g _ _ x) (I.same g) (NK.same E (.same g)) z) λH2 h=>U v H2 (g.trans h) (hS _ _ _ _ d v (k2 d v z) (.refl W.wf) (.same (g.trans h)))
theorem sX {j:Hp}{x:Gs}{R:VK}{nx:L2.St->Hp->Prop}(c:gk K C)(n:aS K C f)(l:fs.lookup f=some (.ref a))(ob:j p=some (.ins C dx fs))(N:σ[0]?=some (some (.ref p)))(O:σ[i]?=some (some (.ref b)))(Y:NK K j d b)(E:M a=some (.mm S))(mp:M p=none)(hn:∀J H',Post K P w M x j p b a i S d R J H'->nx J H') (X:∀Q:VK,(∀v s G' L',Go K P w M x j L' G' s->L' < PK->S G' s d v->(∀h H2,Go K P w M x j (L'+1) G' H2->S G' H2 d h->R h H2)->Q v s)->te σ H Q) : JL K P w (jV K (b_ 0) f) (b_ i) te { D with nx:=nx } σ H:=by
 refine X _ λv s G' L' t hl hs hr=>(dO (aa N) (t.kw.keep _ _ ob mp) c n l) _ λH2 W=>(aa O) _ λr I=>?_;have g:=t.st (W.trans I);have y:=NK.same Y g.kw.tk;obtain⟨B,mm,T,k2⟩:=g.wd.kd _ _ E;have q:Tk s r:=.same (W.trans I);refine⟨a,rfl,mm,L',d,b,T,hl,rfl,y,λo U=>?_⟩;have A:eB (r a):=T.mut;have m:S G' (upd r a o) d v:=B _ _ _ _ d v hs (.refl t.wd.wf) (q.trans (.put A));have W4:Wd K P w M G' (L'+1) (upd r a o):=g.wd.put E (zC9 _) ⟨B,_,U,λF h z=>by
  by_cases e:F=d
  ·rw[u1 e] at z;rw[e,<-zA4 z]; exact m
  ·rw[xL e] at z;exact B _ _ _ _ F h (k2 F h z) (.refl t.wd.wf) (.put A)⟩;have u:Go K P w M x j (L'+1) G' (upd r a o):=⟨W4,t.ex,g.kw.trans (.put E A)⟩;exact hn σ _ ⟨G',L'+1,u,N,O,⟨_,v,U,u1 rfl,m⟩,λh H5 Z h5=>hr h H5 (u.st Z) h5⟩
end
inductive F2 {α β:Type}(R:α->β->Prop):List α->List β->Prop| nil:F2 R [] []| cons {x:α} {y:β} {xs:List α} {ys:List β}:R x y->F2 R xs ys->F2 R (x::xs) (y::ys)
section
variable {α β:Type}{R R':α->β->Prop}{xs:List α}{ys:List β}
theorem F2.len (h:F2 R xs ys):xs.length=ys.length:=by induction h with| nil=>rfl| cons _ _ d=>ext
theorem F2.snoc (h:F2 R xs ys)(r:R x y):F2 R (xs++[x]) (ys++[y]):=by induction h with| nil=>exact .cons r .nil| cons q _ d=>exact .cons q d
theorem F2.imp (h:F2 R xs ys)(f:∀x y,R x y->R' x y):F2 R' xs ys:=by induction h with| nil=>exact .nil| cons q _ d=>exact .cons (f _ _ q) d
theorem F2.left (h:F2 R xs ys)(e:x∈xs):∃y∈ys,R x y:=by induction h with| nil=>ext| cons q _ d=> grind
theorem F2.right (h:F2 R xs ys)(e:y∈ys):∃x∈xs,R x y:=by induction h with| nil=>ext| cons q _ d=> grind
theorem F2.map {γ:Type}{f:α->γ}{g:β->γ}(h:F2 R xs ys)(e:∀x y,R x y->f x=g y):xs.map f=ys.map g:=by induction h with| nil=>rfl| cons q _ d=>grind
end
variable {qs gs:List (M1 × Int × Int)}{e c:Nat}{S:Int × Int->List Int->Prop}
abbrev Z2 (G:Gs) (e:Nat) (S:Int × Int->List Int->Prop):List (M1 × Int × Int)->List (M1 × Int × Int)->Prop:=F2 λq g=>q.2.1=g.2.1/\Is G e g.2.2 (S q.2)
theorem Z2.ext (h:Z2 G e S qs gs)(x:Ext G G'):Z2 G' e S qs gs:=h.imp λ_ _ r=>⟨r.1,r.2.ext x⟩
theorem Z2.Ph (h:Z2 G e S qs gs)(t:List Int):Ah G e (gs.map (·.2)) t↔∃q∈qs.map (·.2),∃r,t=q.1::r/\S q r:=by
 constructor
 ·rintro⟨f,r,p,l,u,d⟩;obtain⟨⟨z,y,x⟩,i,v⟩:=q0.mp u;cases v;obtain⟨q,j,m,n⟩:=h.right i;exact⟨q.2,q0.mpr ⟨q,j,rfl⟩,r,by rw[l,m],(n.2 r).mp d⟩
 ·rintro⟨_,s,r,l,d⟩;obtain⟨q,j,rfl⟩:=q0.mp s;obtain⟨g,i,m,n⟩:=h.left j;exact⟨g.2.1,r,g.2.2,by rw[l,m],q0.mpr ⟨g,i,rfl⟩,(n.2 r).mpr d⟩
theorem Z2.uU (h:Z2 G e S qs gs)(d:(qs.map (·.2)).Pairwise λp q=>p.1 < q.1)(f:∀q∈qs.map (·.2),(-1:Int)<=q.1/\q.1 < (G.m:Int)):mJ G e (gs.map (·.2)):=by
 have n:qs.map (·.2.1)=gs.map (·.2.1):=h.map λ_ _ r=>r.1;have l:(gs.map (·.2.1)).Pairwise (· < ·):=by rw[<-n];have u:=zAl.mp d;exact zAl.mpr u
 refine⟨zAl.mpr (zAl.mp l),λp i=>?_,λp i=>?_⟩ <;> obtain⟨g,s,rfl⟩:=q0.mp i <;> obtain⟨q,j,m,t⟩:=h.right s;·rw[<-m]; exact f q.2 (q0.mpr ⟨q,j,rfl⟩)
 ·exact t.1
theorem gQ:aG K (upd H p (.tup [.int f,.int r])) p [.int f,.int r]:=aG.of ao
theorem Fd {U:List (Option Nat)}{t2:TE}{σ:L2.St}{Q:M1->Hp->Prop}{t A:Nat}(hz:qs.length<=1000)(B:aG K H a (qs.map q1))(hp:kB K H qs)(W:Wd K P w M G L H)(hv:∀x y:V,(((dw U σ).set t (some x)).set A (some y))[t]?=some (some x))(hs:∀i q G' H' (R:VK),qs[i]?=some q->Go K P w M G H (L+i * c) G' H'->(∀r G2 H2,Go K P w M G' H' (L+i * c+c) G2 H2->Is G2 e r (S q.2)->R (.int r) H2)->t2 (((dw U σ).set t (some (.int q.2.1))).set A (some (.int q.2.2))) H' R)(hd:∀Z gs G' H',H Z=none->Go K P w M G H (L+qs.length * c) G' H'->H' Z=some (.lst (gs.map q1))->kB K H' gs->Z2 G' e S qs gs->Q Z H') : dF (zw K a) U (vq K 2 (jz (cz t) (jz (cz A) yv))) lH (AQ (dj (b_ t) (dj t2 fB))) σ H Q:=by
 refine wj (xs:=qs.map q1) (by rw[yB,kA]; lia) (λZ i u H'=>i<=qs.length/\∃G' gs,Go K P w M G H (L+i * c) G' H'/\u=gs.map q1/\kB K H' gs/\Z2 G' e S (qs.take i) gs) (λZ i u H' h=>?_) (λZ n=>⟨zAd _,G,[],W.go (ah.new n _) (by simp),rfl,(λq B=>absurd B (by simp)),.nil⟩) (λZ i u H' x R R0 n E m hx k1 k2=>?_) λZ u H' n E m=>?_
 ·obtain⟨hi,G',gs,j,rfl,_,z⟩:=h;have:=z.len;rw[zCe] at this;exact⟨j.kw.tk.tup B,by ext⟩
 ·obtain⟨hi,G',gs,j,rfl,J,z⟩:=E;rw[vT] at hx;obtain⟨q,f,rfl⟩:=u3.mp hx;have N:i < qs.length:=(xI.mp f).1;refine⟨q.1,_,rfl,j.kw.tk.tup (hp q (u4 f)),rfl,.int q.2.1,_,rfl,.int q.2.2,_,rfl,rfl,?_⟩;dsimp only [lH];rw[u1 rfl];refine nR (aa (hv _ _)) λH2 v=>hs i q G' H2 _ f (j.st v) λr G3 F d C=>⟨(by show 2<=PK; decide),λI T=>?_⟩;have Y:M Z=none:=W.off n;have l:ah F (upd F I (.tup [.int q.2.1,.int r])):=ah.new T _;have s:=l _ _ (d.kw.keep _ _ (v _ _ m) Y);have O:=((j.st v).trans d).st l;have X:eB (upd F I (.tup [.int q.2.1,.int r]) Z):=by rw[s]; exact True.intro
  refine k1 _ _ s ⟨N,G3,gs++[(I,q.2.1,r)],?_,by simp,λg D=>(Tk.put X).tup ?_,?_⟩;·rw[zBi,<-zCz]; exact O.own n Y X
  ·rcases w8.mp D with h | h;·exact ((Tk.same v).trans (d.kw.tk.trans (.same l))).tup (J g h)
   ·rw[zAc.mp h]; exact gQ
  ·rw[zAz,f];exact (z.ext d.ex).snoc ⟨rfl,C⟩
 ·obtain⟨_,G',gs,j,rfl,J,z⟩:=E;rw[yB] at j z;rw[zAj] at z;exact hd Z gs G' H' n j m J z
theorem LF {U:List (Option Nat)}{t2:TE}{σ:L2.St}{Q:M1->Hp->Prop}{t A:Nat}(hz:qs.length<=1000)(B:FL H a (qs.map q1))(hp:kB K H qs)(W:Wd K P w M G L H)(hv:∀x y:V,(((dw U σ).set t (some x)).set A (some y))[t]?=some (some x))(hs:∀i q G' H' (R:VK),qs[i]?=some q->Go K P w M G H (L+i * c) G' H'->(∀r G2 H2,Go K P w M G' H' (L+i * c+c) G2 H2->Is G2 e r (S q.2)->R (.int r) H2)->t2 (((dw U σ).set t (some (.int q.2.1))).set A (some (.int q.2.2))) H' R)(hd:∀Z gs G' H',H Z=none->Go K P w M G H (L+qs.length * c) G' H'->H' Z=some (.lst (gs.map q1))->kB K H' gs->Z2 G' e S qs gs->Q Z H') : dF (pe K a) U (vq K 2 (jz (cz t) (jz (cz A) yv))) lH (AQ (dj (b_ t) (dj t2 fB))) σ H Q:=by
 refine oQ (xs:=qs.map q1) (by rw[yB,kA]; lia) (λZ i u H'=>i<=qs.length/\∃G' gs,Go K P w M G H (L+i * c) G' H'/\u=gs.map q1/\kB K H' gs/\Z2 G' e S (qs.take i) gs) (λZ i u H' h=>?_) (λZ n=>⟨zAd _,G,[],W.go (ah.new n _) (by lia),rfl,(λq B=>absurd B (by simp)),.nil⟩) (λZ i u H' x R R0 n E m hx k1 k2=>?_) λZ u H' n E m=>?_
 ·obtain⟨hi,G',gs,j,rfl,_,z⟩:=h;have:=z.len;rw[zCe] at this;exact⟨(j.kw.tk.fl B).sq,by rw[yB]; ext⟩
 ·obtain⟨hi,G',gs,j,rfl,J,z⟩:=E;rw[vT] at hx;obtain⟨q,f,rfl⟩:=u3.mp hx;have N:i < qs.length:=(xI.mp f).1;refine⟨q.1,_,rfl,j.kw.tk.tup (hp q (u4 f)),rfl,.int q.2.1,_,rfl,.int q.2.2,_,rfl,rfl,?_⟩;dsimp only [lH];rw[u1 rfl];refine nR (aa (hv _ _)) λH2 v=>hs i q G' H2 _ f (j.st v) λr G3 F d C=>⟨(by show 2<=PK; decide),λI T=>?_⟩;have Y:M Z=none:=W.off n;have l:ah F (upd F I (.tup [.int q.2.1,.int r])):=ah.new T _;have s:=l _ _ (d.kw.keep _ _ (v _ _ m) Y);have O:=((j.st v).trans d).st l;have X:eB (upd F I (.tup [.int q.2.1,.int r]) Z):=by rw[s]; exact True.intro
  refine k1 _ _ s ⟨N,G3,gs++[(I,q.2.1,r)],?_,by simp,λg D=>(Tk.put X).tup ?_,?_⟩;·rw[zBi,<-zCz]; exact O.own n Y X
  ·rcases w8.mp D with h | h;·exact ((Tk.same v).trans (d.kw.tk.trans (.same l))).tup (J g h)
   ·rw[zAc.mp h]; exact gQ
  ·rw[zAz,f];exact (z.ext d.ex).snoc ⟨rfl,C⟩
 ·obtain⟨_,G',gs,j,rfl,J,z⟩:=E;rw[yB] at j z;rw[zAj] at z;exact hd Z gs G' H' n j m J z
end
structure FA where
 b:M1
 k:M1
 e:M1
 o:M1
 f:M1
noncomputable def Wg (A:FA):List (Str × V):=[("branches",.ref A.b),("known",.ref A.k),("either_known",.ref A.e),("both_known",.ref A.o),("first_known",.ref A.f)]
noncomputable def qQ (p:Int × Int):Dt:=.tup [.int p.1,.int p.2]
noncomputable def wk (d:Nat)(ps:fy):Dt:=.tup [.int (d:Int),.tup (ps.map qQ)]
noncomputable def dc (a b:Int):Dt:=.tup [.int a,.int b]
noncomputable def LG:Sm:=λG _ d v=>∀e a,d=wk e a->∃i:Nat,v=.int (i:Int)/\1<=i/\G.B[i]?=some a/\G.D[i]?=some e
noncomputable def wm (S:Gs->Int->Int->Int->Prop):Sm:=λG _ d v=>∀a b,d=dc a b->0<=a/\a.toNat < G.B.length/\∃r:Int,v=.int r/\S G a b r
theorem yZ:yY LG:=λG j H k d v h x _ e c z=>by obtain⟨i,f,a,b,g⟩:=h e c z;exact⟨i,f,a,x.b _ _ b,x.d _ _ g⟩
theorem y9 (f:∀G c a b r,Ext G c->a.toNat < G.B.length->S G a b r->S c a b r):yY (wm S):=λG c H k d v h x _ a b z=>by obtain⟨i,e,r,j,g⟩:=h a b z;exact⟨i,wT e x.len,r,j,f _ _ _ _ _ x e g⟩
theorem uw (h:dc a b=dc c d):c=a/\d=b:=by unfold dc at h;ext
theorem Fe {S:Gs->Int->Int->Int->Prop}{G:Gs}{H:Hp}{a b r:Int}(h:0<=a/\a.toNat < G.B.length/\S G a b r):wm S G H (dc a b) (.int r):=λc d z=>by obtain⟨rfl,rfl⟩:=uw z;ext
structure Fo (K:zzA)(C:M1)(M:Mp)(H:Hp)(s:M1)(A:FA):Prop where
 ob:∃dx,H s=some (.ins C dx (Wg A))
 ms:M s=none
 mb:M A.b=some .br
 mn:M A.k=some (.mm LG)
 me:M A.e=some (.mm (wm Ai))
 mo:M A.o=some (.mm (wm Aj))
 mf:M A.f=some (.mm (wm Ck))
 cl:gk K C
 nb:aS K C "branches"
 nk:aS K C "known"
 ne:aS K C "either_known"
 no:aS K C "both_known"
 nf:aS K C "first_known"
section
variable {P:zAA}{w:zAD}{K:zzA}{H H':Hp}{M M':Mp}{G G':Gs}{L L' d:Nat}{s C:M1}{A:FA}{n:Int}{σ:L2.St}{ta tb:TE}
theorem Fo.kw (F:Fo K C M H s A)(k:Kw M H H'):Fo K C M H' s A:={ F with ob:=F.ob.imp λa e=>k.keep _ _ e F.ms }
theorem Fo.same (F:Fo K C M H s A)(k:ah H H'):Fo K C M H' s A:=F.kw (.same k)
theorem Fo.kx (F:Fo K C M H s A)(k:Kx p H H')(n:s≠p):Fo K C M H' s A:={ F with ob:=F.ob.imp λa e=>k.keep _ _ e n }
theorem Fo.ex (F:Fo K C M H s A)(x:Ex M M' H):Fo K C M' H s A:={ F with
 ms:=x.new s (by obtain⟨a,e⟩:=F.ob; ext) F.ms
 mb:=x.old _ _ F.mb
 mn:=x.old _ _ F.mn
 me:=x.old _ _ F.me
 mo:=x.old _ _ F.mo
 mf:=x.old _ _ F.mf }
theorem Fo.gb (F:Fo K C M H s A)(h:Gv ta σ H (.ref s)):Gv (jV K ta "branches") σ H (.ref A.b):=by obtain⟨a,e⟩:=F.ob;exact dO h e F.cl F.nb rfl
theorem Fo.at (F:Fo K C M H s A)(W:Wd K P w M G L H)(h:Num G (d+1) n) : ∃b a,(∀{ta tb:TE} {σ:L2.St},Gv ta σ H (.ref s)->(∀H',ah H H'->Gv tb σ H' (.int n))->Gv (dz (q4 K) (jV K ta "branches") tb) σ H (.ref b))/\a.map (·.2)=aX G n/\aG K H b (a.map q1)/\(aX G n≠[]->FT H b (a.map q1))/\kB K H a:=by
 obtain⟨c,o,r,q⟩:=W.kd _ _ F.mb;have p:=(W.wf.aX h).2.2.2;obtain⟨i,rfl⟩:=zBg h.nonneg;rw[zA9] at p;have e:aX G i=G.B[i]:=by unfold aX; ext
 obtain⟨a,f,l,k,m⟩:=q i c[i] G.B[i] (by simp) (by simp);rw[e];exact⟨c[i],a,λg j=>iM (F.gb g) j (az.of o) (cN (by simp)),f,l,k,m⟩
theorem o4 (h:aG K H nm [.int a,.int b]):NK K H (dc a b) nm:=by refine NK.of h ?_ rfl (by show max 0 (max 0 0)<=7; decide);refine⟨_,_,rfl,by rfl,?_⟩;exact⟨_,_,rfl,by rfl,by rfl⟩
theorem Bk:∀a:List (M1 × Int × Int),kB K H a->aK K H ((a.map (·.2)).map qQ) (a.map q1)| [],_=>by rfl| q::a,h=>by exact⟨_,_,rfl,(o4 (h q zAb)).2.2.2,Bk a λp b=>h p (by ext)⟩
theorem ux:∀ps:fy,gO (ps.map qQ)=true| []=>rfl| p::ps=>by show (iZ _&&gO _)=true; rw[ux ps]; rfl
theorem Ak:∀ps:fy,gA (ps.map qQ)<=1| []=>zAd _| p::ps=>by show max _ _<=1;have:=Ak ps;have e:pG (qQ p)=1:=rfl;ext
theorem Rm (h:aG K H nm [.int (d:Int),.ref l])(b:aG K H l (a.map q1))(c:kB K H a):NK K H (wk d (a.map (·.2))) nm:=by
 refine NK.of h ?_ ?_ ?_
 ·refine⟨_,_,rfl,by rfl,?_⟩;refine⟨_,_,rfl,?_,by rfl⟩;exact⟨l,_,rfl,b,Bk a c⟩
 ·show (true&&(gO _&&true))=true;rw[ux];rfl
 ·have:=Ak (a.map (·.2));show max 0 (max (gA _+1) 0)<=7;lia
theorem LH (ps:fy):A3 (.tup (ps.map qQ)) (.tup []):=⟨Dd _ (ux ps),rfl,by have:(Dt.tup []).py.depth=1:=rfl;rw[this];exact zAu (Nat.min_le_right _ _) (by decide)⟩
theorem NW (ps:fy):eqv (Dt.tup (ps.map qQ)).py (Dt.tup []).py=decide (ps=[]):=by cases ps <;> rfl
theorem NX (h:wk d ps=wk e g):e=d/\g=ps:=by injection h with h;injection h with f c;injection f with f;injection c with c;injection c with c;refine⟨by lia,((List.map_inj_right λa b h=>?_).mp c).symm⟩;obtain⟨i,f⟩:=uw h;grind
end
inductive wu (K:zzA)(P:zAA)(w:zAD)(C:M1)(vs:List V)(H:Hp)(Q:VK)(E_:XK):Prop| mk (s l:M1) (d:Nat) (A:FA) (M:Mp) (G:Gs) (L:Nat) (qs:List (M1 × Int × Int)):vs=[.ref s,.int ((d+1:Nat):Int),.ref l]->Fo K C M H s A->Wd K P w M G L H->az K H l (qs.map q1)->kB K H qs->mJ G d (qs.map (·.2))->L<=16000000->(∀r G' H',Go K P w M G H (L+1) G' H'->Is G' (d+1) r (Ah G d (qs.map (·.2)))->Q (.int r) H')->wu K P w C vs H Q E_
inductive y_ (vs:List V)(H:Hp)(Q:VK)(E_:XK):Prop| mk (f:Int):vs=[.int f]->-1<=f->f<=1000->(∀H',ah H H'->Q (.int (cY f)) H')->y_ vs H Q E_
inductive wz (K:zzA)(P:zAA)(w:zAD)(C:M1)(vs:List V)(H:Hp)(Q:VK)(E_:XK):Prop| mk (s:M1) (d:Nat) (n b:Int) (A:FA) (M:Mp) (G:Gs) (L:Nat):vs=[.ref s,.int (d:Int),.int n,.int b]->Fo K C M H s A->Wd K P w M G L H->Num G d n->0<=b->L<=15900000->(∀r G' H',Go K P w M G H (L+2) G' H'->Is G' d r (ku G d n b)->Q (.int r) H')->wz K P w C vs H Q E_
inductive Ff (K:zzA)(P:zAA)(w:zAD)(C:M1)(S:Gs->Nat->Int->Int->List Int->Prop)(N:Nat)(vs:List V)(H:Hp)(Q:VK)(E_:XK):Prop| mk (s:M1) (d:Nat) (a b:Int) (A:FA) (M:Mp) (G:Gs) (L:Nat):vs=[.ref s,.int (d:Int),.int a,.int b]->d < N->Fo K C M H s A->Wd K P w M G L H->Num G d a->Num G d b->L+cB G.m d<=15000000->(∀r G' H',Go K P w M G H (L+cB G.m d) G' H'->Is G' d r (S G d a b)->Q (.int r) H')->Ff K P w C S N vs H Q E_
theorem p_ (h:Ga a σ H [.int f])(b:-1<=f)(c:f<=1000):Gv (qy y_ [] E a) σ H (.int (cY f)):=gr h λd R s k=>⟨f,rfl,b,c,k⟩
end WD
namespace eK
open PySem PySem.Spec PyProof.Rows L2 ju TB WD
section
variable {P:zAA}{w:zAD}{K:zzA}{mg:Str->Option Value}{base:Heap}{t:Ad}
theorem LI:aJ ["field"] ["field"] (aE pJ):=cH
theorem qR (T:Txt K mg t):aL P w K mg base bI 1 t.EK t.ug ["field"] y_:=by
 refine T.sJ.fn.ok LI (λb H Q E h=>?_) (λc A a s H b Q E g h=>?_)
 ·obtain⟨f,rfl,_⟩:=h;rfl
 obtain⟨f,rfl,d,e,k⟩:=h;refine⟨_,(au (aH (aF R3 av (aF cS (pv 0) av)))),?_⟩;refine b8 (v:=.int (cY f)) (aU (dY aB (λ_ _=>aW aa λ_ _=>aB) ⟨by lia,by lia,by decide⟩) ?_) ‹_›;unfold cY;simp
theorem Zd (T:Txt K mg t){M:Mp}{H:Hp}{s:M1}{A:FA}(a:∃c,H s=some (.ins t.aD c (Wg A)))(ms:M s=none)(d:M A.b=some .br)(f:M A.k=some (.mm LG))(g:M A.e=some (.mm (wm Ai)))(b:M A.o=some (.mm (wm Aj)))(e:M A.f=some (.mm (wm Ck))):Fo K t.aD M H s A:=⟨a,ms,d,f,g,b,e,T.aV,T.eZ,T.gG,T.dm,T.dX,T.dM⟩
inductive Co (K:zzA)(P:zAA)(w:zAD)(C:M1)(m:Nat)(vs:List V)(H:Hp)(Q:VK)(E_:XK):Prop| mk (p dx:M1):vs=[.ref p]->H p=some (.ins C dx [])->m<=16->(∀A M H',Fo K C M H' p A->Wd K P w M ⟨m,[[]],[0]⟩ 0 H'->Kx p H H'->(∀a,H a≠none->M a=none)->Q .aT H')->Co K P w C m vs H Q E_
theorem NY (h:m<=16):WF ⟨m,[[]],[0]⟩:=⟨rfl,rfl,rfl,λi b a h=>by grind,h⟩
theorem rH:aJ ["self"] ["self"] (aE dg):=cH
theorem rJ (T:Txt K mg t)(m:Nat):aL P w K mg base bI 1 t.ir t.eY ["self"] (Co K P w t.aD m):=by
 refine T.mH.fn.ok rH (λvs H Q E h=>?_) (λcdv Ar J sh H vs Q E hr h=>?_)
 ·obtain⟨p,d,rfl,_⟩:=h;rfl
 obtain⟨p,d,rfl,hp,hm,kk⟩:=h;refine⟨_,(aj (jE K (pv 0) (bH (af (b7 ai) ai))) (aj (jE K (pv 0) (qF K P w)) (aj (jE K (pv 0) (qF K P w)) (aj (jE K (pv 0) (qF K P w)) (au (jE K (pv 0) (qF K P w))))))),?_⟩;refine zT (Fc ⟨(by simp),λy j=>⟨(by decide),λb B=>(aa (by rfl)) _ λg A=>?_⟩⟩);have l:=((ah.new j (.tup [])).trans (ah.new B (.lst [.ref y]))).trans A;have s:=l _ _ hp;have W:=A _ _ ao;have hbH:=(ah.new j (.tup [])).free B;have Z:p≠b:=λz=>by ext
 have G:aG K g y []:=(A.tup ((ah.new B (.lst [.ref y])).tup (aG.of ao)));have br:∀a,iI (λ_=>none) b .br a=some .br->a=b:=λa e=>by
  by_cases c:a=b;·symm
  ·rw[iV c] at e; ext
 have W1:Wd K P w (iI (λ_=>none) b .br) ⟨m,[[]],[0]⟩ 0 g:=by
  refine⟨λa k e=>?_,NY hm,y8 _,(by grind)⟩;by_cases c:a=b
  ·subst c;rw[lq] at e;cases e;refine⟨[y],W,rfl,λi tt ps S v=>?_⟩;cases i with| zero=> simp at S v;subst S; subst v;exact⟨[],rfl,G,λz=>absurd rfl z,λq hq=>absurd hq (by simp)⟩| succ i=>simp at S
  ·rw[iV c] at e; cases e
 have r:iI (λ_=>none) b .br p=none:=iV Z;have u:eB (g p):=by rw[s]; exact True.intro
 refine⟨p,_,d,[],rfl,s,T.aV,T.eZ,by decide,?_⟩;have x2:Kx p H (upd g p (.ins t.aD d (eE "branches" (.ref b) []))):=(Kx.same l).trans (.put u);have I:(upd g p (.ins t.aD d (eE "branches" (.ref b) []))) p=some (.ins t.aD d (eE "branches" (.ref b) [])):=ao;have W2:Wd K P w (iI (λ_=>none) b .br) ⟨m,[[]],[0]⟩ 0 (upd g p (.ins t.aD d (eE "branches" (.ref b) []))):=W1.aside r u;have L:∀a,H a≠none->iI (λ_=>none) b .br a=none:=λa h=>iV λz=>h (by ext);have Ze:iI (λ_=>none) b .br b=some .br:=lq;generalize upd g p (.ins t.aD d (eE "branches" (.ref b) []))=H2 at *;generalize iI (λ_=>none) b .br=M2 at *;have c:=T.aV;refine sV (K:=K) (P:=P) (w:=w) LG yZ (λR=>aa) I W2 r c T.gG (by show 1 < 1000; decide) λk M3 H3 N e3 M W3 x3 n3 V=>?_;refine sV (wm Ai) (y9 λ_ _ _ _ _=>Ai.ext) (λR=>aa) V W3 M c T.dm (by show 2 < 1000; decide) λe M4 H4 C e4 Zf W4 x4 n4 Zg=>?_;refine sV (wm Aj) (y9 λ_ _ _ _ _=>Aj.ext) (λR=>aa) Zg W4 Zf c T.dX (by show 3 < 1000; decide) λo M5 H5 U O D W5 x5 n5 Zh=>?_;refine Ii (wm Ck) (y9 λ_ _ _ _ _=>Ck.ext) (λR=>aa) Zh W5 D c T.dM (by show 4 < 1000; decide) λf M6 H6 F x X W6 x6 n6 Y=>?_;have n:=(e3.trans (e4.trans (O.trans x x5.live) x4.live) x3.live);refine kk ⟨b,k,e,o,f⟩ M6 H6 (Zd T ⟨d,Y⟩ X (n.old _ _ Ze) (x.old _ _ (O.old _ _ (e4.old _ _ N))) (x.old _ _ (O.old _ _ C)) (x.old _ _ U) F) W6 (x2.trans (x3.trans (x4.trans (x5.trans x6)))) λa h=>n.new a (x2.live a h) (L a h)
theorem f9:aJ ["self","depth","branches","found","name"] ["self","depth","branches"] (aE cI):=cH
theorem bh (T:Txt K mg t):aL P w K mg base bI 1 t.jR t.dU ["self","depth","branches"] (wu K P w t.aD):=by
 refine T.bu.fn.ok f9 (λvs H Q E h=>?_) (λcdv Ar outer sh H vs Q E hr h=>?_)
 ·obtain⟨s,l,d,A,M,G,L,Y,rfl,_⟩:=h;rfl
 obtain⟨s,l,d,A,M,G,L,Y,rfl,F,W,hl,hqs,hb,hL,kk⟩:=h;refine⟨_,(aj (bF 3 f9.nd (jb (Q0 K) (by rfl) T.Ba boot_tuple (af (iD ["branch"] [none] (cT K (pv 2)) (λ_ _ _ _ nd=>⟨(bE 0 nd),(zK (bw C8 (aO (eG K) (pv 0) av (λ_ _=>rfl)) av rfl)),(pv 0)⟩)) ai))) (aj (bT (bw (XN K hr.units) (pv 3) (b7 ai) rfl) (au (aH av)) bf) (aj (bF 4 f9.nd (b7 (af (pv 1) (af (pv 3) ai)))) (aj (bT (lE (oX K P w hr.j6 (pv 4) (aZ K (pv 0)))) (aj (uc K P w hr.j6 (aZ K (pv 0)) (pv 4) (aI (g5 K) (by rfl) T.ff zB3 (af (aZ K (pv 0)) ai)) rfl) (au (dR (ou K zA0 zA5 zA6 eF (aZ K (pv 0)) (af (pv 3) ai))))) bf) (au (aH (xJ K P w hr.j6 (aZ K (pv 0)) (pv 4) (λ_ _=>rfl)))))))),?_⟩;have hz:Y.length<=17:=by have:=hb.len; have:=W.wf.few; grind
 refine aP (t9 (rZ (K:=K) aa hl λH1 s1 hl1=>?_));refine oQ (xs:=Y.map q1) (by rw[yB,kA]; lia) (λD i ys H'=>ah H1 H'/\ys=((Y.take i).filter λq=>decide (q.2.2≠0)).map q1) (λD i ys H' h=>⟨h.1.seq hl1,?_⟩) (λD hD=>⟨ah.new hD _,by rfl⟩) (λD i ys H' x R R0 hD ⟨sm,ey⟩ I hx k1 k2=>?_) λZ ys H2 hD ⟨sm,ey⟩ I=>?_;·grind
 ·rw[vT] at hx;obtain⟨q,hq,rfl⟩:=u3.mp hx;have htk:Y.take (i+1)=Y.take i++[q]:=by rw[zAz,hq]; rfl
  show qx (dz R4 (dz (yF K) (b_ 0) (tC (V.int 1))) (tC (V.int 0))) _ H' _;refine (bA (zS (fV (K:=K) aa (λ_ _=>aB) ((s1.trans sm).tup (hqs q (u4 hq))) rfl) (λ_ _=>aB) (by rfl))) _ λH5 S=>?_;by_cases hz0:q.2.2=0
  ·rw[xL (by ext)];exact k2 H5 (S _ _ I) ⟨sm.trans S,by ext⟩
  ·rw[u1 (by ext)];exact (aa (by rfl)) _ λH6 s6=>k1 _ H6 ((S.trans s6) _ _ I) ⟨(sm.trans (S.trans s6)).put hD _,by ext⟩
 rw[yB,zAj] at ey;generalize hfs:(Y.filter λq=>decide (q.2.2≠0))=c at ey;subst ey;have f:c.map (·.2)=live (Y.map (·.2)):=by rw[<-hfs];unfold live;rw[List.filter_map];rfl
 have Wh:kB K H2 c:=λq hq=>by rw[<-hfs] at hq;exact (s1.trans sm).tup (hqs q (by grind))
 refine⟨Z,_,rfl,az.of I,λj o3 hl3 X=>?_⟩;have s03:ah H (upd H2 j o3):=(s1.trans sm).trans (ah.new hl3 _);have N:kB K (upd H2 j o3) c:=Wh.tk (.same (ah.new hl3 _));generalize upd H2 j o3=H3 at *;clear I hD sm s1 hl1 Wh;refine fC (b:=decide (c=[])) (cA (bA (b:=false ^^ eqv (Dt.tup ((c.map (·.2)).map qQ)).py (Dt.tup []).py) λR r=>(aa (by rfl)) _ λHN sN=>⟨(by simp),λq hq=>⟨_,_,LH (c.map (·.2)),?_,?_,r _ (sN.trans (ah.new hq _))⟩⟩) (by rw[NW,Bool.false_xor]; simp)) (λe H4 s4=>?_) λe H4 s4=>?_
 ·have sq:=sN.trans (ah.new hq (.tup []));unfold Rep;exact⟨j,_,rfl,sq.tup X.sq,Bk c (N.tk (.same sq))⟩
 ·unfold Rep;exact⟨q,[],rfl,aG.of ao,by rfl⟩
 ·have e':c=[]:=zAr e;exact b8 aB λH5 S=>kk 0 G H5 (W.go (s03.trans (s4.trans S)) (zC9 _)) (Rf W.wf (by ext))
 have hne:c≠[]:=of_decide_eq_false e;refine aP ((ay aa λ_ _=>aC aa) _ λH5 S=>⟨(by show 2<=PK; decide),λnm hnm=>?_⟩);have y:ah H3 (upd H5 nm (.tup [.int ((d+1:Nat):Int),.ref j])):=(s4.trans S).trans (ah.new hnm _);have hnk:NK K (upd H5 nm (.tup [.int ((d+1:Nat):Int),.ref j])) (wk (d+1) (c.map (·.2))) nm:=Rm (aG.of ao) (y.tup X.sq) (N.tk (.same y));generalize upd H5 nm (.tup [.int ((d+1:Nat):Int),.ref j])=H6 at *;clear hnm S s4 H5 H4 e;have O:=s03.trans y;have W6:=W.same O;obtain⟨dx,ob⟩:=(F.same O).ob;have Zi:mJ G d (c.map (·.2)):=by rw[f]; exact hb.live
 refine oZ F.cl F.nk rfl ob rfl rfl hnk W6 F.mn F.ms (λv H7 s7 hS=>?_) λH7 nx s7 oA=>?_
 ·obtain⟨i,rfl,h1,h2,h3⟩:=hS _ _ rfl;rw[f] at h2;exact kk _ G H7 (W.go (O.trans s7) (zC9 _)) (Ih W.wf h1 h2 h3)
 obtain⟨U,h1,h2,h3⟩:=W6.kd _ _ F.mb;obtain⟨_,mk,k1,k2⟩:=W6.kd _ _ F.mn;have Wi:A.b≠A.k:=λz=>by have:=F.mb; rw[z,F.mn] at this; ext
 have nsk:s≠A.k:=λz=>by have:=F.mn; rw[<-z,F.ms] at this; ext
 refine Rj (K:=K) (P:=P) (w:=w) (n:=L) (jC (K:=K) (aC (dO aa (s7 _ _ ob) F.cl F.nb rfl)) (az.of (s7 _ _ h1))) (λH8 s8=>dO aa ((s7.trans s8) _ _ ob) F.cl F.nk rfl) (λ_ _=>aa) (k1.same s7) (by rw[kA]; lia) (NK.same hnk (.same s7)) λHa o sa hN=>?_;have J:=s7.trans sa;have Wj:=k1.same J;rw[yB,h2] at hN;have Zj:Tk H6 (upd Ha A.k o):=(Tk.same J).trans (.put Wj.mut);have kw9:Kw M H6 (upd Ha A.k o):=(Kw.same J).trans (.put F.mn Wj.mut);have Wk:upd Ha A.k o A.b=some (.lst (U.map V.ref)):=by rw[aA Wi]; exact J _ _ h1
 have e9:∀a k,M a=some k->a≠A.k->upd Ha A.k o a=H6 a:=λa k m n=>by obtain⟨u,e⟩:=(W6.kd a k m).some;rw[aA n,e]; exact J _ _ e
 generalize upd Ha A.k o=Hb at *;refine Cn (dO aa (kw9.keep _ _ ob F.ms) F.cl F.nb rfl) Wk (λ_ _=>aa) (by rw[yB,h2,kA]; have:=W6.few; lia) λHc sc=>?_;have LJ:eB (Hc A.b):=by rw[sc _ _ Wk]; exact True.intro
 have C:Tk H6 (upd Hc A.b (.lst (U.map V.ref++[.ref j]))):=Zj.trans ((Tk.same sc).trans (.put LJ));have x:Ext G (G.new (d+1) (c.map (·.2))):=Ig W.wf;have hps:∀p∈c.map (·.2),p.2≠0:=λp hp=>by grind
 have hne':c.map (·.2)≠[]:=λz=>hne (by ext);have W':=W.wf.new Zi hps hne';have Zk:bG K P w (upd Hc A.b (.lst (U.map V.ref++[.ref j]))) A.k (λk=>if k=wk (d+1) (c.map (·.2)) then some (.int (G.B.length:Int)) else mk k) (L+1):=(hN.same sc).keep (aA (Ne.symm Wi)) λq xs h=>(Tk.put LJ).tup h;have b0:1<=G.B.length:=(xI.mp W.wf.zero).1;have acs:LG (G.new (d+1) (c.map (·.2))) (upd Hc A.b (.lst (U.map V.ref++[.ref j]))) (wk (d+1) (c.map (·.2))) (.int (G.B.length:Int)):=λe ps z=>by obtain⟨rfl,rfl⟩:=NX z;exact⟨_,rfl,b0,JT,Pg W.wf⟩
 have Wc:Wd K P w M (G.new (d+1) (c.map (·.2))) (L+1) (upd Hc A.b (.lst (U.map V.ref++[.ref j]))):=by
  refine⟨λa k m=>?_,W',by have:=W.few; simp [Gs.new]; symm,W.ub⟩;by_cases ab:a=A.b
  ·subst ab;rw[F.mb] at m;cases m;refine⟨U++[j],by rw[ao]; simp,by simp [Gs.new,h2],λi tt ps hi g=>?_⟩;by_cases hi':i < U.length
   ·rw[zAo hi'] at hi;rw[show (G.new (d+1) (c.map (·.2))).B=G.B++[c.map (·.2)] from rfl,zAo (by ext)] at g;exact (h3 i tt ps hi g).tk C
   ·obtain rfl:i=U.length:=by grind
    rw[zAy (y8 _)] at hi;rw[h2,JT] at g;simp at hi;cases g;subst hi;exact⟨c,rfl,C.tup ((X.same y).sq),λ_=>C.ft (X.same y),N.tk ((Tk.same y).trans C)⟩
  ·by_cases ak:a=A.k
   ·subst ak;rw[F.mn] at m;cases m;refine⟨yZ,_,Zk,λd' v z=>?_⟩;by_cases e:d'=wk (d+1) (c.map (·.2))
    ·rw[u1 e] at z;rw[e,<-zA4 z]; symm
    ·rw[xL e] at z;exact yZ _ _ _ _ d' v (k2 d' v z) x C
   ·refine (W6.kd a k m).keep ?_ x (λz=>?_) C (zC9 _)
    ·obtain⟨u,e⟩:=(W6.kd a k m).some;rw[aA ab,e];exact sc _ _ (by ext)
    ·rw[z] at m; exact absurd (W.ub a A.b m F.mb) ab
 have go:Go K P w M G H6 (L+1) (G.new (d+1) (c.map (·.2))) (upd Hc A.b (.lst (U.map V.ref++[.ref j]))):=⟨Wc,x,(kw9.st sc).trans (.put F.mb LJ)⟩;refine oA _ _ ⟨_,L+1,go,rfl,rfl,(by grind),λv H2 s2 hS=>?_⟩;obtain⟨i,rfl,i1,i2,i3⟩:=hS _ _ rfl;have Zl:=i2.trans (zA7 some f);exact kk _ _ H2 ((go.pre O).st s2) ((Ih W' i1 Zl i3).iff (Ah.ext x hb))
theorem jv:aJ ["self","depth","number","bits","name"] ["self","depth","number","bits"] (aE cJ):=cH
theorem jw (T:Txt K mg t):aL P w K mg base bI 2 t.jS t.dW ["self","depth","number","bits"] (wz K P w t.aD):=by
 have c:=qR (P:=P) (w:=w) (base:=base) T;have a:=bh (P:=P) (w:=w) (base:=base) T;refine T.iu.fn.ok jv (λvs H Q E h=>?_) (λcdv Ar outer sh H vs Q E y h=>?_)
 ·obtain⟨s,d,n,b,A,M,G,L,rfl,_⟩:=h;rfl
 obtain⟨s,d,n,b,A,M,G,L,rfl,F,W,l,hb,hL,kk⟩:=h;refine⟨_,(aj (bT (bw d_ (pv 1) av rfl) (au (aH (aF vz (pv 2) (pv 3)))) bf) (aj (bF 4 jv.nd (b7 (af (pv 2) (af (pv 3) ai)))) (aj (bT (lE (oX K P w y.j6 (pv 4) (aZ K (pv 0)))) (au (uc K P w y.j6 (aZ K (pv 0)) (pv 4) (cM T.bu T.aV a y aN (pv 0) (af (pv 1) (af (iD ["branch","bits"] [none,some 3] (qA K (aO (c_ K) (aZ K (pv 0)) (pv 2) (λ_ _=>rfl))) (λ_ _ _ _ nd=>⟨(bE 0 nd),(zK (Em K (aF vz (cD T.sJ c y aN (af (aO (eG K) (pv 0) av (λ_ _=>rfl)) ai)) (pv 1)) (λ_=>rfl))),(pv 0)⟩)) ai))) rfl)) bf) (au (aH (xJ K P w y.j6 (aZ K (pv 0)) (pv 4) (λ_ _=>rfl))))))),?_⟩;refine fC (b:=decide (d=0)) (cA (bA (dG aa (λ_ _=>aB) (by rfl))) Dk) (λe H1 s1=>?_) λe H1 s1=>?_
 ·obtain rfl:d=0:=zAr e;obtain⟨b0,b1⟩:=xO l.nonneg hb;refine b8 (aW aa λ_ _=>aa) λu s2=>kk _ G u (W.go (s1.trans s2) (by simp)) ⟨⟨b0,nQ b0 λf I=>wh l.2 ((b1 f).mp I).1⟩,λO=>⟨?_,?_⟩⟩
  ·rintro⟨f,rfl,I⟩;exact⟨⟨f,rfl,((b1 f).mp I).1⟩,f,[],rfl,((b1 f).mp I).2⟩
  ·rintro⟨⟨f,rfl,I⟩,f',g,e,hg⟩;cases e;exact⟨f,rfl,(b1 f).mpr ⟨I,hg⟩⟩
 obtain⟨d,rfl⟩:∃k,d=k+1:=⟨d - 1,by grind⟩;refine aP ((ay aa λ_ _=>aC aa) _ λu s2=>⟨(by show 2<=PK; decide),λnm U=>?_⟩);have m:ah H (upd u nm (.tup [.int n,.int b])):=(s1.trans s2).trans (ah.new U _);have J:NK K (upd u nm (.tup [.int n,.int b])) (dc n b) nm:=o4 gQ;generalize upd u nm (.tup [.int n,.int b])=H3 at *;clear U s2 s1 u H1 e;have W3:=W.same m;have F3:=F.same m;obtain⟨dx,ob⟩:=F3.ob;refine oZ F.cl F.nf rfl ob rfl rfl J W3 F.mf F.ms (λv H4 s4 hS=>?_) λH4 nx s4 oA=>?_
 ·obtain⟨_,_,r,rfl,y⟩:=hS _ _ rfl;exact kk r G H4 (W.go (m.trans s4) (by simp)) (y d l)
 refine sX F.cl F.nf rfl ob rfl rfl J F.mf F.ms oA λR q=>?_;refine bL aa (s4 _ _ ob) rfl λH5 s5=>qP aa λH6 s6=>Ij ?_;have z:=s4.trans (s5.trans s6);refine hold λP_2 k_2=>?_;obtain⟨tt,D,hat,eqs,i8,_,X⟩:=(F3.same z).at (W3.same z) l;obtain⟨j,bz,_,_⟩:=W.wf.aX l;refine k_2 ?_;have nD:D.length<=17:=by have:=j.len; have:=W.wf.few; grind
 refine vP (K:=K) (hat aa λ_ _=>aa) i8 λH7 s7 Zm=>?_;refine wj (xs:=D.map q1) (by rw[yB,kA]; lia) (λZ i ys H'=>ah H7 H'/\ys=((D.take i).filter λq=>decide (bit b q.2.1)).map q1) (λZ i ys H' h=>⟨h.1.tup Zm,?_⟩) (λZ hZ=>⟨ah.new hZ _,by rfl⟩) (λZ i ys H' x R R0 hZ ⟨V,ey⟩ o hx k1 k2=>?_) λZ ys H8 hZ ⟨V,ey⟩ o=>?_;·grind
 ·rw[vT] at hx;obtain⟨q,hq,rfl⟩:=u3.mp hx;have sY:q∈D:=u4 hq;have htk:D.take (i+1)=D.take i++[q]:=by rw[zAz,hq]; rfl
  obtain⟨f1,f2⟩:=j.fld q.2 (by grind);have:=W.wf.few;refine (aW (p_ (aC (fV (K:=K) aa (λ_ _=>aB) ((s7.trans V).tup (X q sY)) rfl)) f1 (by lia)) λ_ _=>aa) _ λH9 s9=>⟨_,rfl,?_⟩;rw[NT f1 hb];dsimp only;by_cases N:bit b q.2.1
  ·rw[u1 (zAa N)];exact (aa (by rfl)) _ λHa sa=>k1 _ Ha ((s9.trans sa) _ _ o) ⟨(V.trans (s9.trans sa)).put hZ _,by ext⟩
  ·rw[xL (by ext)];exact k2 H9 (s9 _ _ o) ⟨V.trans s9,by ext⟩
 rw[yB,zAj] at ey;generalize hfs:(D.filter λq=>decide (bit b q.2.1))=O at ey;subst ey;have S:O.map (·.2)=(aX G n).filter λp=>decide (bit b p.1):=by rw[<-hfs,<-eqs,List.filter_map];rfl
 have Y:=s7.trans V;have C:=z.trans Y;refine⟨s,Z,d,A,M,G,L,O,rfl,F3.same C,W3.same C,az.of o,λq hq=>Y.tup (X q (by grind)),?_,by lia,λr G' H9 Pj TY=>?_⟩
 ·rw[S];exact⟨j.rise.filter _,λp hp=>j.fld p (zBf.mp hp).1,λp hp=>j.num p (zBf.mp hp).1⟩
 have Zn:Is G' (d+1) r (ku G (d+1) n b):=TY.iff λfs'=>by rw[S]; exact LB fs'
 have go:=Pj.pre C;refine q _ _ _ _ go (by rw[kA]; lia) (Fe ⟨l.nonneg,wT (W.wf.aX l).2.2.2 go.ex.len,TQ go.ex go.wd.wf l Zn⟩) λv' u B hS=>?_;obtain⟨_,_,r',rfl,hr'⟩:=hS _ _ rfl;exact kk r' G' u (B.pre m) ((hr' d (l.ext B.ex)).iff λO=>(qO B.ex l O).symm)
end
end eK
namespace WD
open PySem PySem.Spec PyProof.Rows L2 ju TB
theorem iJ (ps:fy)(f:Int):(cU (bO ps) (.inl f)).getD (.int 0)=.int (b6 ps f):=by unfold b6;induction ps with| nil=>rfl| cons q a b=>
  rw[zCb];by_cases e:q.1=f
  ·rw[zAa e,show cU (bO (q::a)) _=some _ from fk (by ext)];rfl
  ·rw[zAp e,show cU (bO (q::a)) _=cU _ _ from fm (by ext)];symm
theorem sZ (ps:fy)(f r:Int):putK (bO ps) (.inl f) (.int r)=bO (l6 ps f r):=by
 unfold putK l6 bO;have e:(ps.map λa=>((Sum.inl a.1:Key),V.int a.2)).any (λa=>decide (a.1=.inl f))=ps.any λp=>decide (p.1=f):=by rw[List.any_map];congr 1;funext p;simp
 rw[e];split
 ·rw[zAf,zAf];refine zC3 λp _=>?_;by_cases h:p.1=f <;> simp [h]
 ·simp
theorem qb (ps:fy)(f r g:Int):b6 (l6 ps f r) g=if g=f then r else b6 ps g:=by have a:=iJ (l6 ps f r) g;have b:=iJ ps g;rw[<-sZ,yL] at a;grind
structure Dn (G:Gs)(d:Nat)(ks:fy)(S:Int->List Int->Prop):Prop where
 nd:(ks.map (·.1)).Nodup
 fld:∀p∈ks,-1<=p.1/\p.1 < G.m
 is:∀g,Is G d (b6 ks g) (S g)
section
variable {P:zAA}{w:zAD}{K:zzA}{H:Hp}{M:Mp}{G G':Gs}{L d:Nat}{s C:M1}{A:FA}{σ:L2.St}{ks:fy}{S S':Int->List Int->Prop}
theorem Dn.put {f r:Int}(h:Dn G d ks S)(x:Ext G G')(i:Is G' d r (S' f))(j:-1<=f/\f < G.m)(e:∀g a,g≠f->(S g a↔S' g a)):Dn G' d (l6 ks f r) S':=by
 obtain⟨l,c⟩:=wg f r h.nd;refine⟨l,λp n=>?_,λg=>?_⟩
 ·rw[x.m];rcases (c p.1).mp (q0.mpr ⟨p,n,rfl⟩) with e | e;·rw[e]; exact j
  ·obtain⟨k,b,m⟩:=q0.mp e;rw[<-m]; exact h.fld k b
 ·rw[qb];split;·rename_i z; rw[z]; exact i
  ·rename_i z; exact ((h.is g).ext x).iff λa=>e g a z
theorem Dn.iff (h:Dn G d ks S)(e:∀g a,S g a↔S' g a):Dn G d ks S':=⟨h.nd,h.fld,λg=>(h.is g).iff (e g)⟩
theorem Rn {I:TE}{R:VK}{j:M1}(U:Gv I σ H (.ref j))(e:H j=some (.dK (bO ks)))(u:ks.length < 64)(k:∀l n H',H l=none->ah H H'->H' l=some (.lst (n.map q1))->kB K H' n->(n.map (·.2)).Perm ks->(n.map (·.2)).Pairwise (λp q=>HT.lexLt [p.1,p.2] [q.1,q.2]=true)->R (.ref l) H') : pA ud (dj (BX K "dict" EA I fB) fB) σ H R:=by
 refine t9 (U _ λJ B=>?_);have a:=B _ _ e;refine⟨.inr (.inr (.inl ⟨rfl,.inl ⟨_,a⟩⟩)),j,bO ks,rfl,rfl,a,λz v=>?_⟩;have c:ah J (upd J z (zZ z j)):=ah.new v _;refine⟨z,j,ks,rfl,ao,c _ _ a,u,λl m X u Q T i b D=>?_⟩;have f:∀q∈m,∃r∈ks,q.2=z4 r:=λq t=>by obtain⟨r,o,Z⟩:=q0.mp (b.mem_iff.mp (q0.mpr ⟨q,t,rfl⟩));grind
 refine k l (m.map λq=>(q.1,q.2.getD 0 0,q.2.getD 1 0)) X (B.free (c.free u)) (B.trans (c.trans Q)) (by ext) (λg V=>?_) ?_ ?_
 ·obtain⟨q,t,rfl⟩:=q0.mp V;obtain⟨r,_,e⟩:=f q t;have:=(i q t).2;rw[e] at this;rw[e];exact aG.of this
 ·have o:=b.map λl:List Int=>(l.getD 0 0,l.getD 1 0);rw[zAf] at o ⊢;rw[zAf] at o;exact o.trans (List.Perm.of_eq ((zC3 λr _=>rfl).trans (List.map_id _)))
 ·rw[zAf];refine zAl.mpr (List.Pairwise.imp_of_mem (λ{x y} W N h=>?_) D);obtain⟨kx,_,F⟩:=f x W;obtain⟨Y,_,E⟩:=f y N;rw[F,E] at h;show HT.lexLt [x.2.getD 0 0,x.2.getD 1 0] [y.2.getD 0 0,y.2.getD 1 0]=true;rw[F,E];exact h
theorem LK {E:XK}{u n o:TE}{R:VK}{t:M1}(F:Fo K C M H s A)(W:Wd K P w M G L H)(ha:Gv u σ H (.ref s))(Z:∀H',ah H H'->Gv n σ H' (.int ((d+1:Nat):Int)))(x:∀H',ah H H'->Gv o σ H' (.ref t))(e:H t=some (.dK (bO ks)))(D:Dn G d ks S)(hL:L<=16000000)(k:∀r G' H',Go K P w M G H (L+1) G' H'->Is G' (d+1) r (λv=>∃f g,v=f::g/\S f g)->R (.int r) H') : t6 C "number_for" (wu K P w C) [] E u (dj n (dj (pA ud (dj (BX K "dict" EA o fB) fB)) fB)) σ H R:=by
 obtain⟨dx,ob⟩:=F.ob;have B:=kU D.nd D.fld;have:=W.wf.few;refine bL ha ob rfl λH1 i=>qP (Z H1 i) λU j=>Ij (Rn (x U (i.trans j)) ((i.trans j) _ _ e) (by lia) λl V H3 hl Y m T b J=>?_);have a:=i.trans (j.trans Y);refine⟨s,l,d,A,M,G,L,V,rfl,F.same a,W.same a,az.of m,T,⟨?_,λp h=>D.fld p (b.mem_iff.mp h),λp h=>?_⟩,hL,λr G' H' y X=>k r G' H' (y.pre a) (X.iff λv=>?_)⟩
 ·have h1:=zAl.mp ((b.map _).nodup_iff.mpr D.nd);refine (h1.and J).imp λ{p q} h=>?_;have O:=h.2;rw[HT.ee] at O;ext
 ·have:=(D.is p.1).1;rw[oY D.nd (b.mem_iff.mp h)] at this;symm
 ·constructor
  ·rintro⟨f,r,p,e,c,I⟩;have N:=oY D.nd (b.mem_iff.mp c);exact⟨f,r,e,((D.is f).2 r).mp (by rw[N]; exact I)⟩
  ·rintro⟨f,r,e,Q⟩;have c:=((D.is f).2 r).mpr Q;exact⟨f,r,_,e,b.mem_iff.mpr (sR λz=>by rw[z] at c; exact bX W.wf c),c⟩
end
theorem wA {D:Ends}(o:Gv h σ H (.ref a))(j:∀H',ah H H'->Gv d σ H' (.int f))(e:H a=some (.dK kvs))(l:kvs.length < PK)(k:∀H',ah H H'->D.nx σ (upd H' a (.dK (putK kvs (.inl f) v)))) : h σ H λx b=>d σ b λy m=>∃a g,x=.ref a/\A4 m a y v g/\D.nx σ g:=o _ λn c=>j n c _ λb i=>⟨a,_,rfl,A4.k (k:=.inl f) ((c.trans i) _ _ e) l,k b (c.trans i)⟩
theorem Ro (W:WF G)(l:((aX G a).map (·.1)).Nodup)(i:List Int):(∃q∈aX G b,∃r,i=q.1::r/\jO G d (b6 (aX G a) q.1) q.2 r)↔jO G (d+1) a b i:=by
 constructor
 ·rintro⟨q,m,r,e,h,n⟩;exact⟨⟨q.1,r,_,e,sR λz=>by rw[z] at h; exact bX W h,h⟩,q.1,r,_,e,m,n⟩
 ·rintro⟨⟨f,r,p,e,k,o⟩,t,s,u,j,c,g⟩;rw[e] at j;cases j;exact⟨_,c,r,e,by rw[oY l k]; symm,g⟩
theorem LL (W:WF G)(l:((aX G a).map (·.1)).Nodup)(j:List Int):(∃f g,j=f::g/\(Mem G d (b6 (aX G a) f) g\/∃q∈aX G b,q.1=f/\Mem G d q.2 g))↔iU G (d+1) a b j:=by
 constructor
 ·rintro⟨f,g,e,h | ⟨q,k,rfl,h⟩⟩;·exact .inl ⟨f,g,_,e,sR λz=>by rw[z] at h; exact bX W h,h⟩
  ·exact .inr ⟨q.1,g,q.2,e,k,h⟩
 ·rintro (⟨f,r,p,e,c,i⟩ | ⟨f,r,p,e,c,i⟩);·exact⟨f,r,e,.inl (by rw[oY l c]; exact i)⟩
  ·exact⟨f,r,e,.inr ⟨_,c,rfl,i⟩⟩
end WD
namespace eK
open PySem PySem.Spec PyProof.Rows L2 ju TB WD
section
variable {P:zAA}{w:zAD}{K:zzA}{mg:Str->Option Value}{base:Heap}{t:Ad}
theorem LM (d:σ[2]?=some (some (.int a)))(c:σ[3]?=some (some (.int b))):Gt (OJ (qx (dz G_ (b_ 2) (tC (.int 0)))) (OJ (qx (dz G_ (b_ 3) (tC (.int 0)))) (qx (dz G_ (b_ 2) (b_ 3))))) σ H (decide (a=0)||(decide (b=0)||decide (a=b))):= cA (xC (bA (dG (aa d) (λ_ _=>aB) rfl)) λ_ _ _=>xC (bA (dG (aa c) (λ_ _=>aB) rfl)) λ_ _ _=>bA (dG (aa d) (λ_ _=>aa c) rfl)) (by simp)
theorem fh:aJ ["self","depth","one","other","name","found"] ["self","depth","one","other"] (aE dI):=cH
theorem s_ (T:Txt K mg t):∀N:Nat,aL P w K mg base bI (N+2) t.lU t.fE ["self","depth","one","other"] (Ff K P w t.aD jO N):=by have g:=bh (P:=P) (w:=w) (base:=base) T;intro N;induction N with
 | zero=>
  refine T.gH.fn.ok fh (λvs H Q E h=>?_) (λcdv Ar outer sh H vs Q E B h=>?_)
  ·obtain⟨s,d,a,b,A,M,G,L,rfl,_⟩:=h;rfl
  ·obtain⟨s,d,a,b,A,M,G,L,rfl,hd,_⟩:=h;ext| succ N j=>
 refine T.gH.fn.ok fh (λvs H Q E h=>?_) (λcdv Ar outer sh H vs Q E B h=>?_)
 ·obtain⟨s,d,a,b,A,M,G,L,rfl,_⟩:=h;rfl
 obtain⟨s,d,a,b,A,M,G,L,rfl,hd,F,W,D,hb,hL,kk⟩:=h;refine⟨_,(aj (bT (PW.pt (qv (bw d_ (pv 2) av rfl) (qv (bw d_ (pv 3) av rfl) (vo (bw d_ (pv 2) (pv 3) rfl))))) (au (aH (yu (bw d_ (pv 3) av rfl) av (pv 2)))) bf) (aj (bT (bw d_ (pv 1) av rfl) (au (aH (aF vz (pv 2) (pv 3)))) bf) (aj (bF 4 fh.nd (b7 (af (aI O9 (by rfl) T.Pd boot_min (af (pv 2) (af (pv 3) ai))) (af (aI O_ (by rfl) T.Pc boot_max (af (pv 2) (af (pv 3) ai))) ai)))) (aj (bT (lE (oX K P w B.j6 (pv 4) (aZ K (pv 0)))) (aj (bF 5 fh.nd (jb (Li K) (by rfl) T.Lw boot_dict (af (aO (c_ K) (aZ K (pv 0)) (pv 2) (λ_ _=>rfl)) ai))) (au (uc K P w B.j6 (aZ K (pv 0)) (pv 4) (cM T.bu T.aV g B aN (pv 0) (af (pv 1) (af (iD ["field","part","self","depth","found"] [none,none,some 0,some 1,some 5] (qA K (aO (c_ K) (aZ K (pv 0)) (pv 3) (λ_ _=>rfl))) (λ_ _ _ _ nd=>⟨(kG K (n:=2) (bg (bE 0 nd) (bg (bE 1 nd) gn))),cE,(b7 (af (pv 0) (af (cM T.gH T.aV j B aN (pv 2) (af (aF dD (pv 3) av) (af (m5 (iF B) (pv 4) (pv 0) av ⟨rfl,rfl,rfl,rfl⟩) (af (pv 1) ai)))) ai)))⟩)) ai))) rfl))) bf) (au (aH (xJ K P w B.j6 (aZ K (pv 0)) (pv 4) (λ_ _=>rfl)))))))),?_⟩;refine fC (LM rfl rfl) (λe H1 s1=>?_) λe H1 s1=>?_
 ·refine b8 (v:=.int (if b=0 then 0 else a)) (OY (p:=decide (b=0)) (cA (bA (dG aa (λ_ _=>aB) (by rfl))) (by simp)) (λc _ _=>aU aB (by ext)) λc _ _=>aU aa (by ext)) λH2 s2=>?_;refine kk _ G H2 (W.go (s1.trans s2) (by simp)) ?_;have z:∀{o},¬ Mem G d 0 o:=bX W.wf;by_cases hb0:b=0
  ·rw[u1 hb0,hb0];exact⟨.zero,λo=>⟨λq=>absurd q z,λq=>absurd q.2 z⟩⟩
  ·rw[xL hb0];by_cases ha0:a=0
   ·rw[ha0];exact⟨.zero,λo=>⟨λq=>absurd q z,λq=>absurd q.1 z⟩⟩
   ·obtain rfl:a=b:=by ext
    exact⟨D,λo=>⟨λq=>⟨q,q⟩,λq=>q.1⟩⟩
 obtain⟨a0,b0⟩:a≠0/\b≠0:=by ext
 refine fC (b:=decide (d=0)) (cA (bA (dG aa (λ_ _=>aB) (by rfl))) Dk) (λe H2 s2=>?_) λe H2 s2=>?_
 ·obtain rfl:d=0:=zAr e;obtain⟨c0,c1⟩:=xO D.nonneg hb.nonneg;refine b8 (aW aa λ_ _=>aa) λH3 s3=>kk _ G H3 (W.go (s1.trans (s2.trans s3)) (by simp)) ⟨⟨c0,nQ c0 λf hf=>wh D.2 ((c1 f).mp hf).1⟩,λo=>⟨?_,?_⟩⟩
  ·rintro⟨f,rfl,hf⟩;exact⟨⟨f,rfl,((c1 f).mp hf).1⟩,f,rfl,((c1 f).mp hf).2⟩
  ·rintro⟨⟨f,rfl,hf⟩,f',e,hg⟩;cases e;exact⟨f,rfl,(c1 f).mpr ⟨hf,hg⟩⟩
 obtain⟨d,rfl⟩:∃k,d=k+1:=⟨d - 1,by grind⟩;have U:=LC a b;generalize hlo:(if b < a then b else a)=lo at U;generalize hhi:(if b > a then b else a)=hi at U;refine aP ((ay (aU (Ik (ay aa λ_ _=>aC aa)) (zA7 V.int hlo)) λ_ _=>aC (aU (Il (ay aa λ_ _=>aC aa)) (zA7 V.int hhi))) _ λH3 s3=>⟨(by show 2<=PK; decide),λnm hnm=>?_⟩);have O:ah H (upd H3 nm (.tup [.int lo,.int hi])):=(s1.trans (s2.trans s3)).trans (ah.new hnm _);have hnk:NK K (upd H3 nm (.tup [.int lo,.int hi])) (dc lo hi) nm:=o4 gQ;generalize upd H3 nm (.tup [.int lo,.int hi])=H4 at *;clear hnm s3 s2 s1 H3 H2 H1 e;have F4:=F.same O;have W4:=W.same O;obtain⟨dx,ob⟩:=F4.ob;have hL':L+(2+(G.m+1) * cB G.m d)<=15000000:=hL;have fin:∀{G':Gs} {r:Int},Ext G G'->Aj G' lo hi r->Is G' (d+1) r (jO G (d+1) a b):=λx B=>by
  rcases U with ⟨rfl,rfl⟩ | ⟨rfl,rfl⟩;·exact (B.2.2 d (D.ext x) (hb.ext x)).iff λo=>(p9 x D hb o).symm
  ·exact (B.2.2 d (hb.ext x) (D.ext x)).iff λo=>And.comm.trans (p9 x D hb o).symm
 refine oZ F.cl F.no rfl ob rfl rfl hnk W4 F.mo F.ms (λv H5 s5 hS=>?_) λH5 nx s5 oA=>?_
 ·obtain⟨_,_,r,rfl,B⟩:=hS _ _ rfl;exact kk r G H5 (W.go (O.trans s5) (by simp)) (fin (.refl W.wf) B)
 refine hold λTZ Fg=>?_;obtain⟨tt,qs,I,u,i8,hft,X⟩:=(F4.same s5).at (W4.same s5) D;obtain⟨m,_,bneA,_⟩:=W.wf.aX D;obtain⟨l,_,_,_⟩:=W.wf.aX hb;refine Fg ?_;have:=W.wf.few;have T3:qs.length<=17:=by have:=m.len; grind
 refine aP (t9 (I aa (λ_ _=>aa) _ λH6 s6=>⟨tt,qs,rfl,(hft (bneA a0)).same s6,λq hq=>s6.tup (X q hq),by lia,by have:=m.nd; grind,λfo hfo=>?_⟩));rw[u];have s47:ah H4 (upd H6 fo (.dK (bO (aX G a)))):=(s5.trans s6).trans (ah.new hfo _);have NZ:(upd H6 fo (.dK (bO (aX G a)))) fo=some (.dK (bO (aX G a))):=ao;have Am:M fo=none:=W4.off (s5.free (s6.free hfo));generalize upd H6 fo (.dK (bO (aX G a)))=H7 at *;clear hfo s6 H6 I i8 hft X u T3 qs tt;refine sX F.cl F.no rfl ob rfl rfl hnk F.mo F.ms oA λR q=>?_;refine bL aa (s47 _ _ ob) rfl λH8 s8=>qP aa λH9 s9=>Ij ?_;have s79:=s8.trans s9;have T4:=s47.trans s79;refine hold λZo T5=>?_;obtain⟨tt,qs,I,u,i8,_,X⟩:=(F4.same T4).at (W4.same T4) hb;refine T5 ?_;have nD:qs.length<=G.m+1:=by have:=l.len; grind
 have C:∀i,i<=G.m+1->i * cB G.m d<=(G.m+1) * cB G.m d:=λi hi=>zB4 _ hi;refine vP (K:=K) (I aa λ_ _=>aa) i8 λHa sa Zp=>?_;have Y:=T4.trans sa;refine Fd (S:=λq=>jO G d (b6 (aX G a) q.1) q.2) (e:=d) (c:=cB G.m d) (by lia) Zp (λq hq=>sa.tup (X q hq)) (W4.same Y) (λ_ _=>rfl) (λi q G' H' R hq y k=>?_) λZ gs G' H' hZ y wB hg z=>?_
 ·have hc1:=C (i+1) (by grind);rw[zBi] at hc1;have sY:q.2∈aX G b:=by grind
  have Fi:=(F4.same Y).kw y.kw;obtain⟨Im,qS⟩:=Fi.ob;refine bL aa qS rfl λHc sc=>?_;refine (ay (v:=.int (d:Int)) (aU (aW aa λ_ _=>aB) (by simp)) λHd sd=>ay (aU (ng aa ((sc.trans sd) _ _ (y.kw.keep _ _ ((s79.trans sa) _ _ NZ) Am)) (λ_ _=>aa) λ_ _=>aB) (iJ (aX G a) q.2.1)) λ_ _=>aC aa) _ λHe se=>?_;have sce:=sc.trans se;have nA:=E7 m q.2.1;have nB:=l.num _ sY;refine⟨s,d,_,q.2.2,A,M,G',L+i * cB G.m d,rfl,by ext,Fi.same sce,y.wd.same sce,nA.ext y.ex,nB.ext y.ex,by rw[y.ex.m]; lia,λr G2 H2 J is2=>?_⟩;rw[y.ex.m] at J;exact k r G2 H2 (J.pre sce) (is2.iff λo=>(p9 y.ex nA nB o).symm)
 ·have hc0:=C qs.length nD;refine⟨s,Z,d,A,M,G',L+qs.length * cB G.m d,gs,rfl,(F4.same Y).kw y.kw,y.wd,az.of wB,hg,z.uU (by rw[u]; exact l.rise) (by rw[u,y.ex.m]; exact l.fld),by lia,λr G2 H2 J is2=>?_⟩;have go3:=(y.trans J).pre Y;have T6:Is G2 (d+1) r (jO G (d+1) a b):=is2.iff λo=>(z.Ph o).trans (by rw[u]; exact Ro W.wf m.nd o);refine q _ _ _ _ go3 (by rw[kA]; lia) (Fe (TR go3.ex go3.wd.wf D hb a0 U T6)) λv' H3 go4 hS=>?_;obtain⟨_,_,r',rfl,hr'⟩:=hS _ _ rfl;exact kk r' G2 H3 ((go4.pre O).le (by show _<=L+(2+(G.m+1) * cB G.m d); lia)) (fin go4.ex hr')
theorem bU:aJ ["self","depth","one","other","name","found","field","part"] ["self","depth","one","other"] (aE cV):=cH
theorem qo (T:Txt K mg t):∀N:Nat,aL P w K mg base bI (N+2) t.ko t.er ["self","depth","one","other"] (Ff K P w t.aD iU N):=by have j:=bh (P:=P) (w:=w) (base:=base) T;intro N;induction N with
 | zero=>
  refine T.fG.fn.ok bU (λvs H Q E h=>?_) (λcdv Ar outer sh H vs Q E I h=>?_)
  ·obtain⟨s,d,a,b,A,M,G,L,rfl,_⟩:=h;rfl
  ·obtain⟨s,d,a,b,A,M,G,L,rfl,hd,_⟩:=h;ext| succ N l=>
 refine T.fG.fn.ok bU (λvs H Q E h=>?_) (λcdv Ar outer sh H vs Q E I h=>?_)
 ·obtain⟨s,d,a,b,A,M,G,L,rfl,_⟩:=h;rfl
 obtain⟨s,d,a,b,A,M,G,L,rfl,hd,F,W,X,hb,hL,kk⟩:=h;refine⟨_,(aj (bT (PW.pt (qv (bw d_ (pv 2) av rfl) (qv (bw d_ (pv 3) av rfl) (vo (bw d_ (pv 2) (pv 3) rfl))))) (au (aH (yu (bw d_ (pv 3) av rfl) (pv 2) (pv 3)))) bf) (aj (bT (bw d_ (pv 1) av rfl) (au (aH (aF Jl (pv 2) (pv 3)))) bf) (aj (bF 4 bU.nd (b7 (af (aI O9 (by rfl) T.Pd boot_min (af (pv 2) (af (pv 3) ai))) (af (aI O_ (by rfl) T.Pc boot_max (af (pv 2) (af (pv 3) ai))) ai)))) (aj (bT (lE (oX K P w I.j6 (pv 4) (aZ K (pv 0)))) (aj (bF 5 bU.nd (jb (Li K) (by rfl) T.Lw boot_dict (af (aO (c_ K) (aZ K (pv 0)) (pv 2) (λ_ _=>rfl)) ai))) (aj (cQ zA3 rfl (qA K (aO (c_ K) (aZ K (pv 0)) (pv 3) (λ_ _=>rfl))) (kG K (n:=2) (bg (bE 6 bU.nd) (bg (bE 7 bU.nd) gn))) (au (oW (iF I) (pv 5) (pv 6) (cM T.fG T.aV l I aN (pv 0) (af (aF dD (pv 1) av) (af (m5 (iF I) (pv 5) (pv 6) av ⟨rfl,rfl,rfl,rfl⟩) (af (pv 7) ai)))) rfl))) (au (uc K P w I.j6 (aZ K (pv 0)) (pv 4) (cM T.bu T.aV j I aN (pv 0) (af (pv 1) (af (aI EF (by rfl) T.pU zDN (af (NO K zC1 PySem.F.slot_dict_items PySem.F.type_dict_items EB (pv 5)) ai)) ai))) rfl)))) bf) (au (aH (xJ K P w I.j6 (aZ K (pv 0)) (pv 4) (λ_ _=>rfl)))))))),?_⟩;refine fC (LM rfl rfl) (λe H1 s1=>?_) λe H1 s1=>?_
 ·refine b8 (v:=.int (if b=0 then a else b)) (OY (p:=decide (b=0)) (cA (bA (dG aa (λ_ _=>aB) (by rfl))) (by simp)) (λc _ _=>aU aa (by ext)) λc _ _=>aU aa (by ext)) λH2 s2=>?_;refine kk _ G H2 (W.go (s1.trans s2) (by simp)) ?_;have z:∀{o},¬ Mem G d 0 o:=bX W.wf;by_cases hb0:b=0
  ·rw[u1 hb0,hb0];exact⟨X,λo=>⟨.inl,λq=>q.elim id λq=>absurd q z⟩⟩
  ·rw[xL hb0];by_cases ha0:a=0
   ·rw[ha0];exact⟨hb,λo=>⟨.inr,λq=>q.elim (λq=>absurd q z) id⟩⟩
   ·obtain rfl:a=b:=by ext
    exact⟨X,λo=>⟨.inl,λq=>q.elim id id⟩⟩
 obtain⟨a0,b0⟩:a≠0/\b≠0:=by ext
 refine fC (b:=decide (d=0)) (cA (bA (dG aa (λ_ _=>aB) (by rfl))) Dk) (λe H2 s2=>?_) λe H2 s2=>?_
 ·obtain rfl:d=0:=zAr e;obtain⟨c0,c1⟩:=E9 X.nonneg hb.nonneg;refine b8 (aW aa λ_ _=>aa) λH3 s3=>kk _ G H3 (W.go (s1.trans (s2.trans s3)) (by simp)) ⟨⟨c0,nQ c0 λf hf=>((c1 f).mp hf).elim (wh X.2) (wh hb.2)⟩,λo=>⟨?_,?_⟩⟩
  ·rintro⟨f,rfl,hf⟩;exact ((c1 f).mp hf).elim (λq=>.inl ⟨f,rfl,q⟩) λq=>.inr ⟨f,rfl,q⟩
  ·rintro (⟨f,rfl,hf⟩ | ⟨f,rfl,hf⟩);·exact⟨f,rfl,(c1 f).mpr (.inl hf)⟩
   ·exact⟨f,rfl,(c1 f).mpr (.inr hf)⟩
 obtain⟨d,rfl⟩:∃k,d=k+1:=⟨d - 1,by grind⟩;have Pk:=LC a b;generalize hlo:(if b < a then b else a)=lo at Pk;generalize hhi:(if b > a then b else a)=hi at Pk;refine aP ((ay (aU (Ik (ay aa λ_ _=>aC aa)) (zA7 V.int hlo)) λ_ _=>aC (aU (Il (ay aa λ_ _=>aC aa)) (zA7 V.int hhi))) _ λH3 s3=>⟨(by show 2<=PK; decide),λnm hnm=>?_⟩);have s04:ah H (upd H3 nm (.tup [.int lo,.int hi])):=(s1.trans (s2.trans s3)).trans (ah.new hnm _);have hnk:NK K (upd H3 nm (.tup [.int lo,.int hi])) (dc lo hi) nm:=o4 gQ;generalize upd H3 nm (.tup [.int lo,.int hi])=H4 at *;clear hnm s3 s2 s1 H3 H2 H1 e;have F4:=F.same s04;have W4:=W.same s04;obtain⟨dx,ob⟩:=F4.ob;have hL':L+(2+(G.m+1) * cB G.m d)<=15000000:=hL;have fin:∀{O:Gs} {r:Int},Ext G O->Ai O lo hi r->Is O (d+1) r (iU G (d+1) a b):=λx I=>by
  rcases Pk with ⟨rfl,rfl⟩ | ⟨rfl,rfl⟩;·exact (I.2.2 d (X.ext x) (hb.ext x)).iff λo=>(oO x X hb o).symm
  ·exact (I.2.2 d (hb.ext x) (X.ext x)).iff λo=>Or.comm.trans (oO x X hb o).symm
 refine oZ F.cl F.ne rfl ob rfl rfl hnk W4 F.me F.ms (λv H5 s5 hS=>?_) λH5 nx s5 oA=>?_
 ·obtain⟨_,_,r,rfl,I⟩:=hS _ _ rfl;exact kk r G H5 (W.go (s04.trans s5) (by simp)) (fin (.refl W.wf) I)
 refine hold λTZ Fg=>?_;obtain⟨tt,Y,hat,eqs,i8,hft,hq2⟩:=(F4.same s5).at (W4.same s5) X;obtain⟨m,_,bneA,_⟩:=W.wf.aX X;obtain⟨Z,_,_,_⟩:=W.wf.aX hb;refine Fg ?_;have:=W.wf.few;have T3:Y.length<=17:=by have:=m.len; grind
 refine aP (t9 (hat aa (λ_ _=>aa) _ λH6 s6=>⟨tt,Y,rfl,(hft (bneA a0)).same s6,λq hq=>s6.tup (hq2 q hq),by lia,by have:=m.nd; grind,λfo hfo=>?_⟩));rw[eqs];have J:=s5.trans s6;have s67:ah H6 (upd H6 fo (.dK (bO (aX G a)))):=ah.new hfo _;have NZ:(upd H6 fo (.dK (bO (aX G a)))) fo=some (.dK (bO (aX G a))):=ao;have Am:M fo=none:=W4.off (J.free hfo);generalize upd H6 fo (.dK (bO (aX G a)))=H7 at *;clear hat i8 hft hq2 eqs T3 Y tt;have s47:=J.trans s67;refine hold λZo T5=>?_;obtain⟨tt,Y,hat,eqs,i8,_,hq2⟩:=(F4.same s47).at (W4.same s47) hb;refine T5 ?_;have nD:Y.length<=G.m+1:=by have:=Z.len; grind
 have S:∀i,i<=G.m+1->i * cB G.m d<=(G.m+1) * cB G.m d:=λi hi=>zB4 _ hi;refine Bj (K:=K) (hat aa λ_ _=>aa) i8 (λi σ H'=>i<=Y.length/\∃e6 e7 O ks,σ=[some (.ref s),some (.int ((d+1:Nat):Int)),some (.int a),some (.int b),some (.ref nm),some (.ref fo),e6,e7]/\Go K P w M G H6 (L+i * cB G.m d) O H'/\Tk H7 H'/\H' fo=some (.dK (bO ks))/\Dn O d ks λg o=>Mem G d (b6 (aX G a) g) o\/∃q∈(Y.take i).map (·.2),q.1=g/\Mem G d q.2 o) (λH8 s8=>⟨zAd _,none,none,G,aX G a,by rfl,(W4.same J).go (s67.trans s8) (by simp),.same s8,s8 _ _ NZ,m.nd,m.fld,λg=>⟨E7 m g,(by simp)⟩⟩) (λi σ H' h=>by obtain⟨_,e6,e7,O,ks,_,_,h,_⟩:=h; exact h.tup i8) (λi x σ H' hx hP=>?_) fun σ H8 hP=>?_
 ·refine hold λP_9 Zq=>?_;obtain⟨hi,e6,e7,O,ks,rfl,go,tk,C,D⟩:=hP;refine Zq ?_;rw[vT] at hx;obtain⟨q,hq,rfl⟩:=u3.mp hx;have hil:i < Y.length:=(xI.mp hq).1;have sY:q.2∈aX G b:=by grind
  have hc1:=S (i+1) (by lia);rw[zBi] at hc1;have htk:Y.take (i+1)=Y.take i++[q]:=by rw[zAz,hq]; rfl
  have Fi:=(F4.same J).kw go.kw;obtain⟨Im,qS⟩:=Fi.ob;refine⟨q.1,_,rfl,tk.tup (hq2 q (u4 hq)),rfl,.int q.2.1,_,rfl,.int q.2.2,_,rfl,rfl,?_⟩;refine bL aa qS rfl λHc sc=>?_;refine (ay (v:=.int (d:Int)) (aU (aW aa λ_ _=>aB) (by simp)) λHd sd=>ay (aU (ng aa ((sc.trans sd) _ _ C) (λ_ _=>aa) λ_ _=>aB) (iJ ks q.2.1)) λ_ _=>aC aa) _ λHe se=>?_;have sce:=sc.trans se;have nB:=Z.num _ sY;refine⟨s,d,_,q.2.2,A,M,O,L+i * cB G.m d,rfl,by ext,Fi.same sce,go.wd.same sce,(D.is _).1,nB.ext go.ex,by rw[go.ex.m]; lia,λr G2 H2 B is2=>?_⟩;rw[go.ex.m] at B;have T7:H2 fo=some (.dK (bO ks)):=B.kw.keep _ _ (sce _ _ C) Am;have T9:=kU D.nd D.fld;rw[go.ex.m] at T9;refine wA aa (λ_ _=>aa) T7 (by simp [bO]; rw[kA]; lia) λHg sg=>?_;rw[sZ];have Wl:eB (Hg fo):=by rw[sg _ _ T7]; exact True.intro
  have U:=(go.trans (B.pre sce)).st sg;refine⟨hil,_,_,G2,l6 ks q.2.1 r,rfl,?_,(tk.trans ((Tk.same sce).trans (B.kw.tk.trans (.same sg)))).trans (.put Wl),ao,D.put B.ex (is2.iff λo=>?_) (by rw[go.ex.m]; exact Z.fld _ sY) λg o z=>?_⟩
  ·rw[zBi,<-zCz];exact U.own hfo Am Wl
  ·show Mem O d (b6 ks q.2.1) o\/Mem O d q.2.2 o↔_;rw[(D.is q.2.1).2 o,bR go.ex _ _ _ nB,htk,v3];constructor
   ·rintro ((h | ⟨q',u,h1,h2⟩) | h);·exact .inl h
    ·exact .inr ⟨q',zBe _ u,h1,h2⟩
    ·exact .inr ⟨q.2,by simp,rfl,h⟩
   ·rintro (h | ⟨q',u,h1,h2⟩);·exact .inl (.inl h)
    ·rcases w8.mp u with z | z;·exact .inl (.inr ⟨q',z,h1,h2⟩)
     ·rw[show q'=q.2 by simpa using z] at h2;exact .inr h2
  ·rw[htk,v3];refine or_congr_right ⟨λ⟨q',u,h⟩=>⟨q',zBe _ u,h⟩,λ⟨q',u,h⟩=>⟨q',(w8.mp u).resolve_right λy=>z ?_,h⟩⟩;rw[<-h.1,show q'=q.2 by simpa using y]
 ·obtain⟨_,e6,e7,O,ks,rfl,go,tk,C,D⟩:=hP;rw[yB] at go D;rw[zAj,eqs] at D;have hc0:=S Y.length nD;refine sX F.cl F.ne rfl ob rfl rfl hnk F.me F.ms oA λR q=>?_;refine LK ((F4.same J).kw go.kw) go.wd aa (λ_ _=>aa) (λ_ _=>aa) C D (by lia) λr G2 H2 B is2=>?_;have U:=(go.trans B).pre J;have T6:Is G2 (d+1) r (iU G (d+1) a b):=is2.iff λo=>LL W.wf m.nd o;refine q _ _ _ _ U (by rw[kA]; lia) (Fe (TU U.ex U.wd.wf X hb a0 Pk T6)) λv' H3 go4 hS=>?_;obtain⟨_,_,r',rfl,hr'⟩:=hS _ _ rfl;exact kk r' G2 H3 ((go4.pre s04).le (by show _<=L+(2+(G.m+1) * cB G.m d); lia)) (fin go4.ex hr')
end
end eK
namespace WD
open PySem PySem.Spec PyProof.Rows L2 ju TB
structure WA where
 ll:M1
 cl:M1
 ck:M1
 pk:M1
 dk:M1
noncomputable def Zr (a:M1)(x:Str)(h:Nat)(W:WA):List (Str × V):=[("sets",.ref a),("letters",.str x),("high",.int (h:Int)),("lower_left",.ref W.ll),("closing",.ref W.cl),("choices_known",.ref W.ck),("placed_known",.ref W.pk),("closed_known",.ref W.dk)]
abbrev cZ:=zzB
structure jP (m:Nat)(ts:cZ)(u v:Int)(ps:fy):Prop where
 nd:(ps.map (·.1)).Nodup
 fld:∀p∈ps,0<=p.1/\p.1 < m
 nn:∀k,0<=b6 ps k
 is:∀k f,k≠-1->(bit (b6 ps k) f↔[u,v,f,k]∈ts)
structure l7 (m:Nat)(I:M1->Prop)(H:Hp)(ts:cZ)(mm:Dt->Option V):Prop where
 no:∀u v,mm (dc u v)=none->∀f k,k≠-1->[u,v,f,k]∉ts
 at_:∀u v x,mm (dc u v)=some x->∃d ps,x=.ref d/\I d/\H d=some (.dK (bO ps))/\jP m ts u v ps
 inj:∀u v u' v' d,mm (dc u v)=some (.ref d)->mm (dc u' v')=some (.ref d)->u=u'/\v=v'
structure rK (ts:cZ)(ps:fy):Prop where
 nd:(ps.map (·.1)).Nodup
 few:ps.length<=ts.length
 nn:∀k,0<=b6 ps k
 is:∀r f,bit (b6 ps r) f↔[f,r,-1,-1]∈ts
section
variable {P:zAA}{w:zAD}{K:zzA}{m n:Nat}{I I':M1->Prop}{H H' H0:Hp}{ll cl:M1}{ts:cZ}{mm:Dt->Option V}{ps:fy}{x0 x1 x2 x3:Int}
theorem l7.kp (h:l7 m I H ts mm)(e:∀d u,I d->H d=some u->I' d/\H' d=some u):l7 m I' H' ts mm:=by refine⟨h.no,λu v x g=>?_,h.inj⟩;obtain⟨d,ps,c,b,a,f⟩:=h.at_ u v x g;exact⟨d,ps,c,(e d _ b a).1,(e d _ b a).2,f⟩
theorem lu:[u,v,f,k]∈ts++[[x0,x1,x2,x3]]↔[u,v,f,k]∈ts\/(u=x0/\v=x1/\f=x2/\k=x3):=by simp
theorem N1 (ps:fy)(f r:Int):(l6 ps f r).length<=ps.length+1:=by
 unfold l6;split;·rw[yB]; simp
 ·simp
theorem rK.put (d:-1<=x0)(h:rK ts ps):rK (ts++[[x0,x1,-1,-1]]) (l6 ps x1 (Builtin.bitOr (b6 ps x1) (cY x0))):=by
 obtain⟨b,c⟩:=E9 (h.nn x1) (zDj (lg x0));refine⟨(wg x1 _ h.nd).1,by have:=N1 ps x1 (Builtin.bitOr (b6 ps x1) (cY x0)); have:=h.few; simp; lia,λk=>?_,λr f=>?_⟩
 ·rw[qb];split;·exact b
  ·exact h.nn k
 ·rw[qb,lu];by_cases a:r=x1
  ·rw[u1 a,c,kW d,a,h.is];exact or_congr_right ⟨λz=>⟨z,rfl,rfl,rfl⟩,λz=>z.1⟩
  ·rw[xL a,h.is];exact⟨.inl,λz=>z.elim id λz=>absurd z.2.1 a⟩
theorem rK.more (h:rK ts ps)(a:¬ (x2=-1/\x3=-1)):rK (ts++[[x0,x1,x2,x3]]) ps:=by refine⟨h.nd,by have:=h.few; simp; lia,h.nn,λr f=>?_⟩;rw[lu,h.is];exact⟨.inl,λz=>z.elim id λz=>absurd ⟨z.2.2.1.symm,z.2.2.2.symm⟩ a⟩
theorem jP.more (h:jP m ts u v ps)(q:∀f k,k≠-1->¬ (u=x0/\v=x1/\f=x2/\k=x3)):jP m (ts++[[x0,x1,x2,x3]]) u v ps:=⟨h.nd,h.fld,h.nn,λk f a=>by rw[h.is k f a,lu];exact⟨.inl,λz=>z.elim id λz=>absurd z (q f k a)⟩⟩
theorem l7.more (h:l7 m I H ts mm):l7 m I H (ts++[[x0,x1,x2,-1]]) mm:=by refine⟨λu v e f k a z=>(lu.mp z).elim (h.no u v e f k a) λz=>a z.2.2.2,λu v x e=>?_,h.inj⟩;obtain⟨d,ps,b,g,i,c⟩:=h.at_ u v x e;exact⟨d,ps,b,g,i,c.more λf k a z=>a z.2.2.2⟩
theorem l7.put (h:l7 m I H ts mm)(j:mm (dc x0 x1)=some (.ref d))(L:H d=some (.dK (bO ps)))(c:jP m ts x0 x1 ps)(q:-1<=x2)(i:0<=x3/\x3 < m) : l7 m I (upd H d (.dK (bO (l6 ps x3 (Builtin.bitOr (b6 ps x3) (cY x2)))))) (ts++[[x0,x1,x2,x3]]) mm:=by
 obtain⟨y,G⟩:=E9 (c.nn x3) (zDj (lg x2));refine⟨λu v e f k a z=>?_,λu v x e=>?_,h.inj⟩
 ·rcases lu.mp z with z | ⟨rfl,rfl,_⟩;·exact h.no u v e f k a z
  ·rw[j] at e; cases e
 ·obtain⟨s,l,rfl,r,D,C⟩:=h.at_ u v x e;by_cases b:u=x0/\v=x1
  ·obtain⟨rfl,rfl⟩:=b;rw[j] at e;cases e;obtain⟨E,A⟩:=wg x3 (Builtin.bitOr (b6 ps x3) (cY x2)) c.nd;refine⟨d,_,rfl,r,ao,E,λp t=>?_,λk=>?_,λk f a=>?_⟩
   ·rcases (A p.1).mp (q0.mpr ⟨p,t,rfl⟩) with z | z;·rw[z]; exact i
    ·obtain⟨F,o,J⟩:=q0.mp z;rw[<-J];exact c.fld F o
   ·rw[qb];split;·exact y
    ·exact c.nn k
   ·rw[qb,lu];by_cases g:k=x3
    ·rw[u1 g,G,kW q,g,c.is x3 f (by ext)];exact or_congr_right ⟨λz=>⟨rfl,rfl,z,rfl⟩,λz=>z.2.2.1⟩
    ·rw[xL g,c.is k f a];exact⟨.inl,λz=>z.elim id λz=>absurd z.2.2.2 g⟩
  ·have B:s≠d:=λz=>b (h.inj u v x0 x1 d (by rw[<-z]; exact e) j);exact⟨s,l,rfl,r,by rw[aA B]; exact D,C.more λf k a z=>b ⟨z.1,z.2.1⟩⟩
theorem Fj (k:Int):b6 [] k=0:=rfl
theorem jP.nil (h:∀f k,k≠-1->[u,v,f,k]∉ts):jP m ts u v []:=⟨nodup_nil,(by simp),λk=>(by rw[Fj]; simp),λk f a=>⟨λz=>absurd rfl (sU z),λz=>absurd z (h f k a)⟩⟩
theorem Rp {z E:M1}{R:V->Hp->Prop}(M:bG K P w H ll mm n)(r:l7 m I H ts mm)(S:n < PK)(hz:H z=none)(B:I z)(p:¬ I ll)(O:aG K H E [.int x0,.int x1])(k:∀d H' mm ps,bG K P w H' ll mm (n+1)->l7 m I H' ts mm->mm (dc x0 x1)=some (.ref d)->H' d=some (.dK (bO ps))->jP m ts x0 x1 ps->I d->Tk H H'->(∀b o,H b=some o->b≠ll->H' b=some o)->(∀b,H b≠none->H' b≠none)->R (.ref d) H'):NI K P w (upd H z (.dK [])) ll (.ref E) (.ref z) R:=by
 have c:ah H (upd H z (.dK [])):=ah.new hz _;have f:=r.kp λd u i e=>⟨i,c _ _ e⟩;have g:=M.same c;refine⟨mm,n,dc x0 x1,E,g,S,rfl,o4 (c.tup O),λv e=>?_,λe o D=>?_⟩
 ·obtain⟨d,ps,rfl,U,N,W⟩:=f.at_ _ _ _ e;exact k d _ mm ps (g.le (zC9 _)) f e N W U (.same c) (λb o e _=>c b o e) (cL c)
 ·have T:z≠ll:=λq=>p (q ▸ B);have L:upd (upd H z (.dK [])) ll o z=some (.dK (bO [])):=by rw[aA T]; exact ao
  have l:jP m ts x0 x1 []:=jP.nil (r.no _ _ e);have fresh:∀{u v:Int},mm (dc u v)≠some (.ref z):=λ{u v} q=>by obtain⟨d,ps,J,_,G,_⟩:=r.at_ _ _ _ q;ext
  refine k z _ _ [] D ⟨λu v a=>?_,λu v x a=>?_,λu v A C d t j=>?_⟩ (u1 rfl) L l B ((Tk.same c).trans (.put g.mut)) (λb o e Q=>by rw[aA Q]; exact c b o e) λb h=>m_ b (cL c b h)
  ·by_cases q:dc u v=dc x0 x1;·rw[u1 q] at a; cases a
   ·rw[xL q] at a; exact r.no u v a
  ·by_cases q:dc u v=dc x0 x1
   ·rw[u1 q] at a;obtain⟨rfl,rfl⟩:=uw q;exact⟨z,[],(zA4 a).symm,B,L,l⟩
   ·rw[xL q] at a;obtain⟨d,ps,J,F,G,X⟩:=f.at_ u v x a;exact⟨d,ps,J,F,(by rw[aA (λ(y:d=ll)=>p (y ▸ F))]; exact G),X⟩
  ·skip;by_cases q:dc u v=dc x0 x1
   ·rw[u1 q] at t;cases t;by_cases s:dc A C=dc x0 x1
    ·obtain⟨rfl,rfl⟩:=uw (q.trans s.symm);exact⟨rfl,rfl⟩
    ·rw[xL s] at j;exact absurd j fresh
   ·rw[xL q] at t;by_cases s:dc A C=dc x0 x1
    ·rw[u1 s] at j;cases j;exact absurd t fresh
    ·rw[xL s] at j;exact r.inj u v A C d t j
structure Tl (K:zzA)(P:zAA)(w:zAD)(H0 H:Hp)(ll cl:M1)(m:Nat)(ts:cZ):Prop where
 low:∃mm,bG K P w H ll mm ts.length/\l7 m (λa=>H0 a=none) H ts mm
 An:∃ps,H cl=some (.dK (bO ps))/\rK ts ps
 tk:Tk H0 H
 keep:∀b o,H0 b=some o->b≠ll->b≠cl->H b=some o
 live:∀b,H0 b≠none->H b≠none
 hl:H0 ll≠none
 hc:H0 cl≠none
 ne:ll≠cl
theorem Tl.same (h:Tl K P w H0 H ll cl m ts)(s:ah H H'):Tl K P w H0 H' ll cl m ts:=by obtain⟨⟨mm,k,q⟩,⟨ps,g,p⟩,l,a,live,c,j,f⟩:=h;exact⟨⟨mm,k.same s,q.kp λd u i e=>⟨i,s _ _ e⟩⟩,⟨ps,s _ _ g,p⟩,l.trans (.same s),λb o e x y=>s _ _ (a b o e x y),λb h=>cL s b (live b h),c,j,f⟩
end
noncomputable def uz (m:Nat)(t:List Int):Prop:=t.length=4/\∀f∈t,-1<=f/\f < m
inductive yg (K:zzA)(P:zAA)(w:zAD)(C:M1)(vs:List V)(H:Hp)(Q:VK)(E_:XK):Prop| mk (p c:M1) (tl:List Int) (H0:Hp) (m:Nat) (ts:cZ) (dx:M1) (fs:List (Str × V)) (ll cl:M1):vs=[.ref p,.ref c]->aG K H c (tl.map V.int)->uz m tl->m<=16->ts.length<=100000->H0 p=some (.ins C dx fs)->p≠ll->p≠cl->fs.lookup ("lower_left":Str)=some (.ref ll)->fs.lookup ("closing":Str)=some (.ref cl)->Tl K P w H0 H ll cl m ts->(∀H',Tl K P w H0 H' ll cl m (ts++[tl])->Q .aT H')->yg K P w C vs H Q E_
noncomputable def oR (x ls:Str)(k:Int):Prop:=0<=k/\k < x.length/\x.cps.getD k.toNat 0∈ls.cps.toList
noncomputable def wC (l r:Int)(ls:Str):Dt:=.tup [.int l,.int r,.str ls]
structure Fl (x:Str)(ts:cZ)(l r:Int)(ls:Str)(ps:fy):Prop where
 rise:ps.Pairwise λp q=>p.1 < q.1
 ok:∀p∈ps,oR x ls p.1/\0<=p.2/\∀f,bit p.2 f↔[l,r,f,p.1]∈ts
 all:∀f k,oR x ls k->[l,r,f,k]∈ts->∃p∈ps,p.1=k
noncomputable def Pl (x:Str)(ts:cZ)(ls:Str):Nat->List Int->List Int->Prop| 0,e,c=>∃u l d rest k,e=u::l::d::rest/\c=u::k::d::rest/\oR x ls k/\[l,u,d,k]∈ts| j+1,e,c=>∃u a b,e=u::a/\c=u::b/\Pl x ts ls j a b
noncomputable def LN (h:Nat)(x:Str)(ts:cZ)(ls:Str)(G:Gs)(a n r:Int):Prop:= ∀j e:Nat,((e+1:Nat):Int)+a=((h+1+j:Nat):Int)->Num G (e+1) n->Is G (e+1) r λc=>∃b,Mem G (e+1) n b/\Pl x ts ls j b c
noncomputable def LO (ts:cZ)(G:Gs)(n r:Int):Prop:= ∀d,Num G (d+1) n->Is G d r λa=>∃l,Mem G (d+1) n (a++[l])/\[l,a.getLastD 0,-1,-1]∈ts
noncomputable def Ch (K:zzA)(H:Hp)(q:M1)(ps:fy):Prop:=∃b:List (M1 × Int × Int),FL H q (b.map q1)/\b.map (·.2)=ps/\kB K H b
theorem Ch.tk {K:zzA}(c:Ch K H q ps)(k:Tk H H'):Ch K H' q ps:=by obtain⟨e,f,d,b⟩:=c;exact⟨e,k.fl f,d,b.tk k⟩
noncomputable def T_ (K:zzA)(x:Str)(ts:cZ):Sm:=λ_ H d v=>∀l r c,d=wC l r c->∃q b,v=.ref q/\Ch K H q b/\Fl x ts l r c b
noncomputable def Ua (h:Nat)(x:Str)(ts:cZ):Sm:=λG _ d v=>∀a n b,d=wC a n b->0<=n/\n.toNat < G.B.length/\∃r,v=.int r/\LN h x ts b G a n r
noncomputable def wD (ts:cZ)(G:Gs)(n:Int)(v:V):Prop:=0<=n/\n.toNat < G.B.length/\∃r,v=.int r/\LO ts G n r
theorem Fp (h:wC a b x=wC c d y):c=a/\d=b/\y=x:=by unfold wC at h;ext
section
variable {K:zzA}{h:Nat}{x ls:Str}{ts:cZ}{G G':Gs}{row n r:Int}
theorem LN.ext (X:Ext G G')(g:n.toNat < G.B.length)(q:LN h x ts ls G row n r):LN h x ts ls G' row n r:=λj e i f=>by
 have c:=f.back X g;refine ((q j e i c).ext X).iff λk=>⟨?_,?_⟩ <;> rintro⟨d,a,b⟩;·exact⟨d,(bR X _ _ _ c).mpr a,b⟩
 ·exact⟨d,(bR X _ _ _ c).mp a,b⟩
theorem LO.ext (X:Ext G G')(e:n.toNat < G.B.length)(q:LO ts G n r):LO ts G' n r:=λd f=>by
 have c:=f.back X e;refine ((q d c).ext X).iff λg=>⟨?_,?_⟩ <;> rintro⟨l,a,b⟩;·exact⟨l,(bR X _ _ _ c).mpr a,b⟩
 ·exact⟨l,(bR X _ _ _ c).mp a,b⟩
theorem N2:yY (T_ K x ts):=λG G' H g d v q _ k l r ls z=>by obtain⟨a,e,b,f,c⟩:=q l r ls z;exact⟨a,e,b,f.tk k,c⟩
theorem N3:yY (Ua h x ts):=λG G' H f d v q X _ row n ls z=>by obtain⟨b,a,r,e,c⟩:=q row n ls z;exact⟨b,wT a X.len,r,e,c.ext X a⟩
theorem N4 (G G':Gs)(n:Int)(v:V)(q:wD ts G n v)(X:Ext G G'):wD ts G' n v:=by obtain⟨b,a,r,d,c⟩:=q;exact⟨b,wT a X.len,r,d,c.ext X a⟩
theorem Io (h:aG K H nm [.int a,.int b,.str ls])(c:PyData.strOk ls=true):NK K H (wC a b ls) nm:=by refine NK.of h ?_ (by show (true&&(true&&(PyData.strOk ls&&true)))=true; ext) (by show max 0 (max 0 (max 0 0))<=7; decide);refine⟨_,_,rfl,by rfl,?_⟩;refine⟨_,_,rfl,by rfl,?_⟩;exact⟨_,_,rfl,by rfl,by rfl⟩
end
structure Wo (K:zzA)(P:zAA)(w:zAD)(C:M1)(M:Mp)(H:Hp)(p sa:M1)(W:WA)(x:Str)(h:Nat)(ts:cZ):Prop where
 ob:∃dx,H p=some (.ins C dx (Zr sa x h W))
 mp:M p=none
 ml:M W.ll=none
 mc:M W.cl=none
 low:∃mm n,bG K P w H W.ll mm n/\l7 x.length (λa=>M a=none) H ts mm
 An:∃ps,H W.cl=some (.dK (bO ps))/\rK ts ps
 ck:M W.ck=some (.mm (T_ K x ts))
 pk:M W.pk=some (.mm (Ua h x ts))
 dk:M W.dk=some (.dk (wD ts))
 mx:x.length<=16
 cl:gk K C
 n1:aS K C "sets"
 n2:aS K C "letters"
 n3:aS K C "high"
 n4:aS K C "lower_left"
 n5:aS K C "closing"
 n6:aS K C "choices_known"
 n7:aS K C "placed_known"
 n8:aS K C "closed_known"
structure Al (K:zzA)(P:zAA)(w:zAD)(CF CW:M1)(M:Mp)(G:Gs)(L:Nat)(H:Hp)(p sa:M1)(A:FA)(W:WA)(x:Str)(h:Nat)(ts:cZ):Prop where
 fo:Fo K CF M H sa A
 wo:Wo K P w CW M H p sa W x h ts
 wd:Wd K P w M G L H
 xm:x.length<=G.m
section
variable {P:zAA}{w:zAD}{K:zzA}{H H':Hp}{M M':Mp}{G G':Gs}{L L' h:Nat}{p sa C CF:M1}{A:FA}{W:WA}{x:Str}{ts:cZ}{σ:L2.St}{ta:TE}
theorem Wo.kw (F:Wo K P w C M H p sa W x h ts)(k:Kw M H H'):Wo K P w C M H' p sa W x h ts:={ F with
 ob:=F.ob.imp λg e=>k.keep _ _ e F.mp
 low:=by obtain⟨c,n,a,b⟩:=F.low;obtain⟨o,e⟩:=bG.there a;exact⟨c,n,a.keep (by rw[e]; exact k.keep _ _ e F.ml) λq f h=>k.tk.tup h,b.kp λd u i e=>⟨i,k.keep _ _ e i⟩⟩
 An:=F.An.imp λj h=>⟨k.keep _ _ h.1 F.mc,h.2⟩ }
theorem Wo.same (F:Wo K P w C M H p sa W x h ts)(k:ah H H'):Wo K P w C M H' p sa W x h ts:=F.kw (.same k)
theorem Al.go (S:Al K P w CF C M G L H p sa A W x h ts)(g:Go K P w M G H L' G' H'):Al K P w CF C M G' L' H' p sa A W x h ts:=⟨S.fo.kw g.kw,S.wo.kw g.kw,g.wd,by rw[g.ex.m]; exact S.xm⟩
theorem Al.same (S:Al K P w CF C M G L H p sa A W x h ts)(s:ah H H'):Al K P w CF C M G L H' p sa A W x h ts:=S.go (S.wd.go s (y8 _))
theorem Wo.gs (F:Wo K P w C M H p sa W x h ts)(q:Gv ta σ H (.ref p)):Gv (jV K ta "sets") σ H (.ref sa):=by obtain⟨a,e⟩:=F.ob; exact dO q e F.cl F.n1 rfl
theorem Wo.gl (F:Wo K P w C M H p sa W x h ts)(q:Gv ta σ H (.ref p)):Gv (jV K ta "letters") σ H (.str x):=by obtain⟨a,e⟩:=F.ob; exact dO q e F.cl F.n2 rfl
theorem Wo.gh (F:Wo K P w C M H p sa W x h ts)(q:Gv ta σ H (.ref p)):Gv (jV K ta "high") σ H (.int (h:Int)):=by obtain⟨a,e⟩:=F.ob; exact dO q e F.cl F.n3 rfl
end
noncomputable def cR (m d:Nat):Nat:=(m+1) * (1+(m+1) * (2+cB m d))+1
noncomputable def PR (x:Str)(ts:cZ)(ls:Str)(u l:Int)(b:List Int)(k:Int):Prop:=∃a rest,b=a::rest/\oR x ls k/\[l,u,a,k]∈ts
theorem Fl.len (h:Fl x ts l r ls ps):ps.length<=x.length+1:= kU (zAl.mpr (h.rise.imp (by lia))) λp a=>⟨by have:=(h.ok p a).1.1; exact zDj this,(h.ok p a).1.2.1⟩
noncomputable def cP (m a:Nat):Nat->Nat| 0=>(m+1) * cR m a+2| j+1=>(m+1) * cP m a j+2
section
variable {x ls:Str}{ts:cZ}{h j e:Nat}{f u row n r:Int}{fs gs:List Int}{G G':Gs}
theorem Rq (h:Pl x ts ls j (f::fs) gs):∃r,gs=f::r:=by cases j with| zero=> obtain⟨u,l,d,rest,k,e,c,_⟩:=h;ext| succ j=> obtain⟨u,a,b,e,c,_⟩:=h;ext
theorem Ip:Pl x ts ls 0 (u::fs) (u::gs)↔∃l a k,gs=k::a/\fs=l::a/\PR x ts ls u l a k:=by
 constructor
 ·rintro⟨i,l,b,rest,k,e,g,d,c⟩;cases e;cases g;exact⟨l,b::rest,k,rfl,rfl,b,rest,rfl,d,c⟩
 ·rintro⟨l,a,k,rfl,rfl,b,rest,rfl,d,c⟩;exact⟨u,l,b,rest,k,rfl,rfl,d,c⟩
theorem Iq:Pl x ts ls (j+1) (u::fs) (u::gs)↔Pl x ts ls j fs gs:=by
 constructor
 ·rintro⟨d,a,b,e,c,h⟩;cases e;cases c;symm
 ·exact λh=>⟨u,fs,gs,rfl,rfl,h⟩
noncomputable def Cp (G:Gs)(x:Str)(ts:cZ)(ls:Str)(j d:Nat)(n:Int):List Int->Prop:=λgs=>∃fs,Mem G d n fs/\Pl x ts ls j fs gs
theorem Ir (X:Ext G G')(h:Num G d n)(gs:List Int):Cp G' x ts ls j d n gs↔Cp G x ts ls j d n gs:=by
 constructor <;> rintro⟨fs,a,b⟩;·exact⟨fs,(bR X _ _ _ h).mp a,b⟩
 ·exact⟨fs,(bR X _ _ _ h).mpr a,b⟩
theorem Ub (c:WF G')(X:Ext G G')(o:((e+1:Nat):Int)+row=((h+1+j:Nat):Int))(g:Num G (e+1) n)(q:Is G' (e+1) r (Cp G x ts ls j (e+1) n)):LN h x ts ls G' row n r:=by
 intro i m k l;by_cases d:n=0
 ·subst d;obtain rfl:=is_none c q λfs ⟨b,a,_⟩=>bX X.w a;exact⟨.zero,λfs=>⟨λz=>absurd z (bX c),λ⟨b,a,_⟩=>absurd a (bX c)⟩⟩
 ·obtain rfl:=(g.ext X).depth l d;obtain rfl:j=i:=by lia
  exact q.iff λfs=>(Ir X g fs).symm
noncomputable def Uc (G:Gs)(x:Str)(ts:cZ)(ls:Str)(d:Nat)(n:Int):List Int->Prop:=λgs=>∃a k,gs=k::a/\Mem G d n a/\PR x ts ls (-1) (-1) a k
noncomputable def Pn (m h:Nat):Nat->Nat| 0=>2+(m+1) * 2| r+1=>cP m (h - (r+1) - 1) r
noncomputable def Po (h:Nat):Nat->Nat| 0=>h| _+1=>h+1
noncomputable def Pp (G:Gs)(x:Str)(ts:cZ)(ls:Str)(h:Nat):Nat->Int->List Int->Prop| 0,n=>Uc G x ts ls h n| r+1,n=>Cp G x ts ls r (h+1) n
end
end WD
namespace eK
open PySem PySem.Spec PyProof.Rows L2 ju TB WD
section
variable {P:zAA}{w:zAD}{K:zzA}{mg:Str->Option Value}{base:Heap}{t:Ad}
theorem Ud {f:TT}{ts us:TS}{D:Ends}{σ:L2.St}{H:Hp}{b:Bool}(R:L2.St->Hp->Prop)(h:Gt f σ H b)(k1:b=true->∀H',ah H H'->∀nx:L2.St->Hp->Prop,(∀σ H,R σ H->nx σ H)->ts { D with nx:=nx } σ H')(k0:b=false->∀H',ah H H'->R σ H') (k:∀σ H,R σ H->us D σ H):fj (vp f ts tV) us D σ H:=fC h (λc a d=>k1 c a d (us D) k) λc a d=>k _ _ (k0 c a d)
theorem jx:aJ ["self","tile","upper","found"] ["self","tile"] (aE fq):=cH
theorem wF (T:Txt K mg t):aL P w K mg base bI 2 t.ow t.gS ["self","tile"] (yg K P w t.bq):=by
 have g:=qR (P:=P) (w:=w) (base:=base) T;refine T.qK.fn.ok jx (λvs H Q E h=>?_) (λcdv Ar outer sh H vs Q E hr h=>?_)
 ·obtain⟨p,c,tl,R,m,ts,dx,fs,ll,Z,rfl,_⟩:=h;rfl
 obtain⟨p,c,tl,R,m,ts,dx,fs,ll,Z,rfl,hc,L,hm,hts,hp,Ue,Wm,Zs,Wn,TL,kk⟩:=h;refine⟨_,(aj (bF 2 jx.nd (b7 (af (aO (eG K) (pv 1) av (λ_ _=>rfl)) (af (aO (eG K) (pv 1) av (λ_ _=>rfl)) ai)))) (aj (bT (PW.pt (Kp (bw d_ (aO (eG K) (pv 1) av (λ_ _=>rfl)) (bQ rfl T.fZ T.f6) rfl) (G6 (bw d_ (aO (eG K) (pv 1) av (λ_ _=>rfl)) (bQ rfl T.fZ T.f6) rfl)))) (au (oW (iF hr) (aZ K (pv 0)) (aO (eG K) (pv 1) av (λ_ _=>rfl)) (aF Jl (m5 (iF hr) (aZ K (pv 0)) (aO (eG K) (pv 1) av (λ_ _=>rfl)) av ⟨rfl,rfl,rfl,rfl⟩) (cD T.sJ g hr aN (af (aO (eG K) (pv 1) av (λ_ _=>rfl)) ai))) rfl)) bf) (au (bT (bw C8 (aO (eG K) (pv 1) av (λ_ _=>rfl)) (bQ rfl T.fZ T.f6) rfl) (aj (bF 3 jx.nd (VJ K P w hr.j6 (aZ K (pv 0)) (pv 2) pI ⟨rfl,rfl,rfl,rfl⟩)) (au (oW (iF hr) (pv 3) (aO (eG K) (pv 1) av (λ_ _=>rfl)) (aF Jl (m5 (iF hr) (pv 3) (aO (eG K) (pv 1) av (λ_ _=>rfl)) av ⟨rfl,rfl,rfl,rfl⟩) (cD T.sJ g hr aN (af (aO (eG K) (pv 1) av (λ_ _=>rfl)) ai))) rfl))) bf)))),?_⟩;refine hold λO8 k_1=>?_;obtain⟨F,A,J,l,rfl⟩:∃F A J l,tl=[F,A,J,l]:=by match tl,L.1 with| [F,A,J,l],_=>lia
 refine k_1 ?_;have Wq:=L.2 F (by simp);have SA:=L.2 A (by simp);have DZ:=L.2 J (by simp);have Zt:=L.2 l (by simp);have I:∀{C:Hp} {σ:L2.St} {j:Nat} {v:Int},aG K C c ([F,A,J,l].map V.int)->σ[1]?=some (some (.ref c))->[F,A,J,l][j]?=some v->Gv (dz (yF K) (b_ 1) (tC (V.int (j:Int)))) σ C (.int v):=λ{C σ j v} hc h1 h2=>fV (K:=K) (aa h1) (λ_ _=>aB) hc (cN (by grind));have obj:∀{C:Hp} {ts':cZ},Tl K P w R C ll Z m ts'->C p=some (.ins t.bq dx fs):=λh=>h.keep _ _ hp Ue Wm;refine aP ((ay (I (j:=0) (v:=F) hc rfl rfl) λH1 s1=>aC (I (j:=1) (v:=A) (s1.tup hc) rfl rfl)) _ λH1 s1=>⟨(by show 2<=PK; decide),λup hup=>?_⟩);have s2:ah H (upd H1 up (.tup [.int F,.int A])):=s1.trans (ah.new hup _);have X:aG K (upd H1 up (.tup [.int F,.int A])) up [.int F,.int A]:=gQ;generalize upd H1 up (.tup [.int F,.int A])=H2 at s2 X;have cW:=T.d8;have N:=s2.tup hc;have M:=TL.same s2;clear TL hc;refine Ud (b:=decide (J=-1)&&decide (l=-1)) (fun σ' C=>σ'=[some (.ref p),some (.ref c),some (.ref up),none]/\Tk H2 C/\(∃mm,bG K P w C ll mm ts.length/\l7 m (λa=>R a=none) C ts mm)/\(∃W,C Z=some (.dK (bO W))/\rK (ts++[[F,A,J,l]]) W)/\Tk R C/\(∀b o,R b=some o->b≠ll->b≠Z->C b=some o)/\∀b,R b≠none->C b≠none) (K2 (cA (bA (dG (I (j:=2) (v:=J) N rfl rfl) (λ_ _=>aB) rfl)) (by simp)) λ_ H3 Y=>cA (bA (dG (I (j:=3) (v:=l) (Y.tup N) rfl rfl) (λ_ _=>aB) rfl)) (by simp)) (λcd H3 Y nx oA=>?_) (λcd H3 Y=>?_) fun σ' H3 hR=>?_
 ·obtain⟨rfl,rfl⟩:J=-1/\l=-1:=by ext
  have k:=M.same Y;obtain⟨W,ec,cm⟩:=k.An;have G:=Y.tup N;refine (aU (aW (aU (ng (dO aa (obj k) cW T.e_ Wn) ec (λH4 y=>I (j:=1) (v:=A) (y.tup G) rfl rfl) λ_ _=>aB) (iJ W A)) λH4 y=>p_ (aC (I (j:=0) (v:=F) (y.tup G) rfl rfl)) Wq.1 (by lia)) rfl) _ λH4 y=>?_;have Wr:=k.same y;refine wA (dO aa (obj Wr) cW T.e_ Wn) (λH5 U=>I (j:=1) (v:=A) ((y.trans U).tup G) rfl rfl) (y _ _ ec) (by have:=cm.few; simp [bO]; rw[kA]; lia) λH5 U=>?_;have D:=Wr.same U;rw[sZ];have mu:eB (H5 Z):=by rw[(y.trans U) _ _ ec]; exact True.intro
  obtain⟨mm,l1,l2⟩:=D.low;refine oA _ _ ⟨rfl,(Tk.same (Y.trans (y.trans U))).trans (.put mu),⟨mm,l1.keep (aA D.ne) λq xs h=>(Tk.put mu).tup h,l2.kp λd u i e=>⟨i,?_⟩⟩,⟨_,ao,cm.put Wq.1⟩,D.tk.trans (.put mu),λb o e n1 n2=>by rw[aA n2]; exact D.keep b o e n1 n2,λb h=>m_ b (D.live b h)⟩;rw[aA λ(z:d=Z)=>D.hc (z ▸ i)];symm
 ·have k:=M.same Y;obtain⟨W,ec,cm⟩:=k.An;exact⟨rfl,.same Y,k.low,⟨W,ec,cm.more (by simpa using cd)⟩,k.tk,k.keep,k.live⟩
 obtain⟨rfl,S,⟨Ws,n3,lm3⟩,⟨Wt,Wu,Wv⟩,tk3,r,s⟩:=hR;have G:=S.tup N;have hl:=M.hl;have hcl:=M.hc;have Ug:=M.ne;have hp3:=r _ _ hp Ue Wm;refine je (b:=!decide (l=-1)) (cA (bA (zS (I (j:=3) (v:=l) G rfl rfl) (λ_ _=>aB) rfl)) (by simp)) (λcd H4 y=>?_) λcd H4 y=>?_
 ·have acu:l≠-1:=by simpa using cd
  refine aP ((dO aa (y _ _ hp3) cW T.eO Zs) _ λH5 U=>⟨ll,rfl,⟨Ws,_,n3.same (y.trans U)⟩,(aa (by rfl)) _ λH6 s6=>λz hz=>?_⟩);have f:=y.trans (U.trans s6);have iz:R z=none:=by cases e:R z with| none=>rfl| some u=>exact absurd (f.free hz) (s z (by rw[e]; nofun))
  refine Rp (n3.same f) (lm3.kp λd u i e=>⟨i,f _ _ e⟩) (by rw[kA]; lia) hz iz hl ((S.trans (.same f)).tup X) λd H7 mm W hN7 hM7 Zu O B Uh tk7 x live7=>?_;have hp7:=x _ _ (f _ _ hp3) Ue;have Ui:=tk7.tup (f.tup G);refine (aU (aW (aU (ng aa O (λH8 s8=>I (j:=3) (v:=l) (s8.tup Ui) rfl rfl) λ_ _=>aB) (iJ W l)) λH8 s8=>p_ (aC (I (j:=2) (v:=J) (s8.tup Ui) rfl rfl)) DZ.1 (by lia)) rfl) _ λH8 s8=>?_;refine wA aa (λH9 s9=>I (j:=3) (v:=l) ((s8.trans s9).tup Ui) rfl rfl) (s8 _ _ O) (by have:=kU B.nd (λp hp=>⟨by have:=B.fld p hp; lia,(B.fld p hp).2⟩); simp [bO]; rw[kA]; lia) λH9 s9=>?_;rw[sZ];have n:=s8.trans s9;have mu:eB (H9 d):=by rw[n _ _ O]; exact True.intro
  have nd:∀{b o},R b=some o->b≠d:=λe z=>by rw[z,Uh] at e; cases e
  refine kk _ ⟨⟨mm,?_,(hM7.kp λd u i e=>⟨i,n _ _ e⟩).put Zu (n _ _ O) B DZ.1 ⟨by lia,Zt.2⟩⟩,⟨Wt,?_,Wv⟩,(tk3.trans ((Tk.same f).trans (tk7.trans (.same n)))).trans (.put mu),λb o e n1 n2=>?_,λb h=>m_ b (cL n b (live7 b (cL f b (s b h)))),hl,hcl,Ug⟩
  ·rw[zAm];exact (hN7.same n).keep (aA λ(z:ll=d)=>hl (z ▸ Uh)) λq xs h=>(Tk.put mu).tup h
  ·rw[aA λ(z:Z=d)=>hcl (z ▸ Uh)];exact n _ _ (x _ _ (f _ _ Wu) (Ne.symm Ug))
  ·rw[aA (nd e)];exact n _ _ (x _ _ (f _ _ (r b o e n1 n2)) n1)
 ·obtain rfl:l=-1:=by simpa using cd
  exact kk _ (Tl.same ⟨⟨Ws,by rw[zAm]; exact n3.le (zC9 _),lm3.more⟩,⟨Wt,Wu,Wv⟩,tk3,r,s,hl,hcl,Ug⟩ y)
theorem Iu {d:TE}{g:TG}{c:TS}{D:Ends}{σ:L2.St}{H:Hp}{a:M1}{xs:List V}(h:Gv d σ H (.ref a))(o:az K H a xs)(b:Nat->L2.St->Hp->Prop)(l:∀H',ah H H'->b 0 σ H')(k:∀i σ H,b i σ H->az K H a xs)(j:∀i x σ H,xs[i]?=some x->b i σ H->g x σ H λm e=>c { D with nx:=b (i+1),ct:=b (i+1),bk:=D.nx } m e) (n:∀σ H,b xs.length σ H->D.nx σ H):mQ (tW K d) g c D σ H:= h _ λH' s=>⟨a,rfl,(by grind),yz b (l H' s) (λi σ H _ p=>k i σ H p) j n⟩
theorem Bl {d:TE}{g:TG}{c us:TS}{D:Ends}{σ:L2.St}{H:Hp}{a:M1}{xs:List V}(h:Gv d σ H (.ref a))(j:az K H a xs)(b:Nat->L2.St->Hp->Prop)(l:∀H',ah H H'->b 0 σ H')(k:∀i σ H,b i σ H->az K H a xs)(m:∀i x σ H,xs[i]?=some x->b i σ H->g x σ H λn e=>c { D with nx:=b (i+1),ct:=b (i+1),bk:=us D } n e) (o:∀σ H,b xs.length σ H->us D σ H):fj (mQ (tW K d) g c) us D σ H:=Iu (D:={ D with nx:=us D }) h j b l k m o
theorem N5 (h:az K H a xs)(k:∀b o,H b=some o->(∃ys,o=.lst ys)\/(∃u ys,o=.iL u (.lst ys))->H' b=some o):az K H' a xs:=by
 rcases h with (h | ⟨o,h⟩) | h;·exact .inl (.inl (k _ _ h (.inl ⟨_,rfl⟩)))
 ·exact .inl (.inr ⟨o,k _ _ h (.inr ⟨_,_,rfl⟩)⟩)
 ·exact .inr h
inductive za (K:zzA)(P:zAA)(w:zAD)(CF C:M1)(vs:List V)(H:Hp)(Q:VK)(E_:XK):Prop| mk (p sa tl dx:M1) (x:Str) (h:Nat) (ps:zzD) (A:FA) (M:Mp) (G:Gs) (L:Nat):vs=[.ref p,.ref sa,.str x,.ref tl,.int (h:Int)]->H p=some (.ins C dx [])->M p=none->p≠sa->az K H tl (ps.map rv)->(∀q∈ps,aG K H q.1 (q.2.map V.int))->(∀q∈ps,uz x.length q.2)->x.length<=G.m->ps.length<=100000->Fo K CF M H sa A->Wd K P w M G L H->(∀W M' H',Ex M M' H->Al K P w CF C M' G L H' p sa A W x h (ps.map (·.2))->Kx p H H'->Q .aT H')->za K P w CF C vs H Q E_
theorem oB:aJ ["self","sets","letters","tiles","high","tile"] ["self","sets","letters","tiles","high"] (aE fY):=cH
theorem oE (T:Txt K mg t):aL P w K mg base bI 3 t.kR t.iH ["self","sets","letters","tiles","high"] (za K P w t.aD t.bq):=by
 have g:=wF (P:=P) (w:=w) (base:=base) T;refine T.m9.fn.ok oB (λvs H Q E h=>?_) (λcdv Ar outer sh H vs Q E hr h=>?_)
 ·obtain⟨p,sa,tl,dx,x,h,B,A,M,G,L,rfl,_⟩:=h;rfl
 obtain⟨p,sa,tl,dx,x,h,B,A,M,G,L,rfl,hp,Y,Zv,hq,hps,tu,hx,hlen,F,W,kk⟩:=h;refine⟨_,(aj (jE K (pv 0) (pv 1)) (aj (jE K (pv 0) (pv 2)) (aj (jE K (pv 0) (pv 4)) (aj (jE K (pv 0) (qF K P w)) (aj (jE K (pv 0) pI) (aj (jE K (pv 0) (qF K P w)) (aj (jE K (pv 0) (qF K P w)) (aj (jE K (pv 0) pI) (au (cQ zA3 rfl (cT K (pv 3)) (bE 5 oB.nd) (au (dR (cM T.qK T.d8 g hr aN (pv 0) (af (pv 5) ai)))))))))))))),?_⟩;have c:=T.d8;have R:∀{σ:L2.St} {J:Hp},σ[0]?=some (some (.ref p))->Gv (b_ 0) σ J (.ref p):=λh=>aa h;refine Bh aa (λJ=>R rfl) hp W Y c T.lW (by decide) λH1 W1 k1 p1=>?_;refine Bh aa (λJ=>R rfl) p1 W1 Y c T.i7 (by show 1 < 1000; decide) λH2 W2 k2 p2=>?_;refine Bh aa (λJ=>R rfl) p2 W2 Y c T.lY (by show 2 < 1000; decide) λH3 W3 k3 p3=>?_;refine NV (λJ=>R rfl) p3 W3 Y c T.eO (by show 3 < 1000; decide) λm H4 LP n4 W4 k4 p4=>?_;refine Fb (λJ=>R rfl) p4 W4 Y c T.e_ (by show 4 < 1000; decide) λs H5 U e5 W5 k5 p5=>?_;refine sV (T_ K x (B.map (·.2))) N2 (λJ=>R rfl) p5 W5 Y c T.fc (by show 5 < 1000; decide) λck M6 H6 Zw x6 Zx W6 k6 hck p6=>?_;refine sV (Ua h x (B.map (·.2))) N3 (λJ=>R rfl) p6 W6 Zx c T.fH (by show 6 < 1000; decide) λpk V H7 Zy x7 Zz W7 k7 hpk p7=>?_;refine Fb (λJ=>R rfl) p7 W7 Zz c T.fJ (by show 7 < 1000; decide) λdk X ZA e8 Ww k8 p8=>?_;have dp:dk≠p:=λz=>by ext
 have lp:m≠p:=λz=>by ext
 have cp:s≠p:=λz=>by ext
 have W8:Wd K P w (iI V dk (.dk (wD (B.map (·.2))))) G L X:=Ww.add ⟨N4,[],e8,zAd _,λ_ _ z=>nomatch z⟩ nofun;have x8:Ex V (iI V dk (.dk (wD (B.map (·.2))))) H7:=.add W7 ZA;have ZC:iI V dk (.dk (wD (B.map (·.2)))) p=none:=by rw[iV (Ne.symm dp)]; symm
 have mk8:iI V dk (.dk (wD (B.map (·.2)))) dk=some (.dk (wD (B.map (·.2)))):=lq;generalize iI V dk (.dk (wD (B.map (·.2))))=M8 at *;clear Ww;have N:Ex M M8 H5:=x6.trans (x7.trans x8 k7.live) k6.live;have C:=k1.trans (k2.trans k3);have k05:=C.trans (k4.trans k5);have O:=k6.trans (k7.trans k8);have j:=k05.trans O;have Wx:Ex M M8 H:=⟨N.old,λa z e=>N.new a (k05.live a z) e⟩;have Wy:=k5.live m (by obtain⟨o,z⟩:=bG.there n4; ext);have ZD:H5 s≠none:=by ext
 have ml:=N.new m Wy (W3.off LP);have mc:=N.new s ZD (W4.off U);have d1:m≠s:=λz=>by obtain⟨o,y⟩:=bG.there n4; ext
 have ZE:=bG.kx n4 (k5.trans O) lp;have Uj:=O.keep _ _ e5 cp;have T8:Tl K P w X X m s x.length []:=⟨⟨_,ZE,⟨(by simp),λu v z e=>(by ext),λu v u2 v2 d e=>(by simp)⟩⟩,⟨[],Uj,⟨nodup_nil,y8 _,λk=>by rw[Fj]; simp,λr f=>⟨λz=>absurd rfl (sU z),λz=>absurd z (by simp)⟩⟩⟩,.refl,(by lia),λ_ h=>h,O.live m Wy,(by ext),d1⟩;have D:∀{I:Hp} {ts:cZ},Tl K P w X I m s x.length ts->az K I tl (B.map rv):=λ{I ts} q=>N5 hq λb o e z=>by
  have bp:b≠p:=λy=>by grind
  exact q.keep b o (j.keep b o e bp) (λy=>by rw[y] at e; have:=C.live m (by ext); ext) λy=>by rw[y] at e; have:=(C.trans k4).live s (by ext); exact this U
 have hxm:=W.wf.few;refine Iu (K:=K) aa (D T8) (λi σ I=>∃e5,σ=[some (.ref p),some (.ref sa),some (.str x),some (.ref tl),some (.int (h:Int)),e5]/\Tl K P w X I m s x.length ((B.take i).map (·.2))) (λI s9=>⟨none,rfl,T8.same s9⟩) (λi σ I z=>by obtain⟨_,_,z⟩:=z; exact D z) (λi v σ I hv z=>?_) fun σ I z=>?_
 ·obtain⟨e5,rfl,l⟩:=z;rw[vT] at hv;obtain⟨q,Wz,rfl⟩:=u3.mp hv;have Z:=u4 Wz;refine jf (bL aa (l.keep _ _ p8 (Ne.symm lp) (Ne.symm cp)) rfl λHA sA=>(aC aa) _ λHB sB=>?_);have tB:=l.same (sA.trans sB);refine⟨p,q.1,q.2,X,x.length,_,dx,_,m,s,rfl,tB.tk.tup (j.tk.tup (hps q Z)),tu q Z,by lia,?_,p8,Ne.symm lp,Ne.symm cp,rfl,rfl,tB,λHC tC=>⟨_,rfl,?_⟩⟩;·rw[yB,zCe]; lia
  ·rw[zAz,Wz,v3];exact tC
 ·obtain⟨e5,rfl,l⟩:=z;rw[yB,zAj] at l;obtain⟨mm,l1,l2⟩:=l.low;have nm8:∀a k,M8 a=some k->a≠m/\a≠s:=λa k e=>⟨λz=>(by rw[z,ml] at e; cases e),λz=>(by rw[z,mc] at e; cases e)⟩;have W9:=W8.chg l.tk (λa k e=>by obtain⟨o,z⟩:=(W8.kd a k e).some;rw[z]; exact l.keep a o z (nm8 a k e).1 (nm8 a k e).2) (y8 _);have S:∀{b:M1},H b≠none->b≠m/\b≠s:=λ{b} z=>⟨λy=>C.live b z (by rw[y]; exact LP),λy=>(C.trans k4).live b z (by rw[y]; exact U)⟩;obtain⟨WB,LQ⟩:=F.ob;have Pq:H sa≠none:=by rw[LQ]; nofun
  have F8:=(F.ex Wx).kx j (Ne.symm Zv);obtain⟨ZF,ZG⟩:=F8.ob;refine kk ⟨m,s,ck,pk,dk⟩ M8 I Wx ⟨{ F8 with ob:=⟨ZF,l.keep _ _ ZG (S Pq).1 (S Pq).2⟩ },⟨⟨dx,l.keep _ _ p8 (Ne.symm lp) (Ne.symm cp)⟩,ZC,ml,mc,⟨mm,_,l1,l2.kp λd u i e=>⟨W8.off i,e⟩⟩,l.An,x8.old _ _ (x7.old _ _ Zw),x8.old _ _ Zy,mk8,by lia,c,T.lW,T.i7,T.lY,T.eO,T.e_,T.fc,T.fH,T.fJ⟩,W9,hx⟩ ⟨j.tk.trans l.tk,λb o e n=>?_,λb z=>l.live b (j.live b z)⟩;have:=S (b:=b) (by rw[e]; nofun);exact l.keep b o (j.keep b o e n) this.1 this.2
end
end eK
namespace L2
open PySem PySem.Spec PyProof.Rows
theorem Inv.freeze (I:Inv X d σ H s)(h:H p=some (.lst xs)):∃o,Inv X d σ (upd H p (.iL o (.lst xs))) s:=by
 have g:=I.hok p _ h;obtain⟨o,e⟩:=g.obj;have f:∀{b:M1} {u:HO},H b=some u->(∀i,u≠.lst i)->b≠p:=λq n z=>by grind
 refine⟨o,I.un ⟨(by lia),λb o e _ _ _=>⟨o.slots,e⟩,λb u q n _=>?_,(by grind),λb xs q=>?_,λb o u q=>?_,λb j q=>⟨#[],?_⟩⟩ λb u q=>?_⟩;·rw[aA λz=>by ext]; symm
 ·rw[aA (f q nofun)]; symm
 ·rw[aA (f q nofun)]; symm
 ·rw[aA (f q nofun)]; symm
 ·have st:∀{a:M1} {u:HO},a_ X.prog X.w H s.heap a u->a_ X.prog X.w (upd H p (.iL o (.lst xs))) s.heap a u:=λx=>x.stay (by simp) (λb q=>by rw[aA (f q nofun)]; symm) λb i q=>by rw[aA (f q nofun)]; symm
  by_cases c:b=p
  ·subst c;rw[ao] at q;cases q;exact⟨e,st g⟩
  ·rw[aA c] at q;exact st (I.hok b u q)
noncomputable def XU (c:TE):TE:=fun σ H R=>c σ H λv b=>∃p a,v=.ref p/\b p=some (.lst a)/\∀o,R v (upd b p (.iL o (.lst a)))
theorem XW (h:PE X e b):PE X e (XU b):=by intro a s σ H Q I q;refine aM (h a s σ H _ I q) λv l g=>?_;obtain⟨x,j,c,r,p,m,i,d,k⟩:=g;obtain⟨o,f⟩:=c.freeze d;exact⟨x,_,f,r,k o⟩
end L2
namespace eK
open PySem PySem.Spec PyProof.Rows L2 ju TB WD
section
variable {P:zAA}{w:zAD}{K:zzA}{mg:Str->Option Value}{base:Heap}{t:Ad}
theorem Uk (h:Gv d σ H (.str ⟨#[c]⟩))(g:∀H',ah H H'->Gv f σ H' (.str ls)):Gv (dz (λx y H Q=>∃i j,x=.str i/\y=.str j/\Q (.bl (!(Builtin.Str.occurrences j i 0 j.length 1).isEmpty)) H) d f) σ H (.bl (decide (c∈ls.cps.toList))):= λR r=>h _ λm b=>g m b _ λl k=>⟨_,_,rfl,rfl,by have e:=StrLaws.found_one ls c;first | (rw[e]; exact r l (b.trans k)) ⟩
theorem xP (m:Gv c σ H (.ref a))(l:∀H',ah H H'->Gv d σ H' (.int f))(e:H a=some (.dK kvs))(i:cU kvs (.inl f)=some v):Gv (Dg c d) σ H v:= λR r=>m _ λj b=>l j b _ λh g=>⟨a,v,rfl,(by have:=mZ.k (k:=.inl f) ((b.trans g) _ _ e); rw[i] at this; symm),r h (b.trans g)⟩
noncomputable def Iv (x ls:Str)(ps:fy)(ns:List Int):fy:=(ns.filter λk=>decide (x.cps.getD k.toNat 0∈ls.cps.toList)).map λk=>(k,b6 ps k)
theorem Ul (a:jP x.length ts l r ps)(d:ns.Perm (ps.map (·.1)))(i:ns.Pairwise (·<=·)):Fl x ts l r ls (Iv x ls ps ns):=by
 have h:=d.symm.nodup a.nd;have s:ns.Pairwise (· < ·):=(List.pairwise_and_iff.mpr ⟨i,h⟩).imp (by lia);refine⟨?_,λp g=>?_,λf k b o=>?_⟩
 ·unfold Iv;grind
 ·obtain⟨k,b,rfl⟩:=q0.mp g;obtain⟨j,n⟩:=zBf.mp b;obtain⟨q,m,e⟩:=q0.mp (d.mem_iff.mp j);have:=a.fld q m;exact⟨⟨by ext,by ext,zAr n⟩,a.nn k,λf=>a.is k f (by lia)⟩
 ·have c:=sR (sU ((a.is k f (by have:=b.1; lia)).mpr o));exact⟨(k,b6 ps k),q0.mpr ⟨k,zBf.mpr ⟨d.mem_iff.mpr (q0.mpr ⟨_,c,rfl⟩),zAa b.2.2⟩,rfl⟩,rfl⟩
inductive Ao (K:zzA)(P:zAA)(w:zAD)(CF C:M1)(vs:List V)(H:Hp)(Q:VK)(E_:XK):Prop| mk (p sa:M1) (l r:Int) (ls:Str) (A:FA) (W:WA) (M:Mp) (G:Gs) (L h:Nat) (x:Str) (ts:cZ):vs=[.ref p,.int l,.int r,.str ls]->Al K P w CF C M G L H p sa A W x h ts->PyData.strOk ls=true->L<=15900000->(∀q ps H',Go K P w M G H (L+1) G H'->Ch K H' q ps->Fl x ts l r ls ps->Q (.ref q) H')->Ao K P w CF C vs H Q E_
theorem kX:aJ ["self","left","right","letters","name","found"] ["self","left","right","letters"] (aE gC):=cH
theorem qc (T:Txt K mg t):aL P w K mg base bI 1 t.qJ t.i6 ["self","left","right","letters"] (Ao K P w t.aD t.bq):=by
 refine T.n9.fn.ok kX (λvs H Q E h=>?_) (λcdv Ar outer sh H vs Q E hr h=>?_)
 ·obtain⟨p,sa,l,r,u,A,W,M,G,L,h,x,ts,rfl,_⟩:=h;rfl
 obtain⟨p,sa,l,r,u,A,W,M,G,L,h,x,ts,rfl,S,hls,hL,kk⟩:=h;refine⟨_,(aj (bF 4 kX.nd (b7 (af (pv 1) (af (pv 2) (af (pv 3) ai))))) (aj (bT (lE (oX K P w hr.j6 (pv 4) (aZ K (pv 0)))) (aj (bF 5 kX.nd (Tw K P w hr.j6 (aZ K (pv 0)) (b7 (af (pv 1) (af (pv 2) ai))) pI ⟨rfl,rfl,rfl,rfl⟩)) (au (uc K P w hr.j6 (aZ K (pv 0)) (pv 4) (XW (iD ["mark","found","self","letters"] [none,some 5,some 0,some 3] (cT K (aI Nz (by rfl) T.pU zDN (af (pv 5) ai))) (λ_ _ _ _ nd=>⟨(bE 0 nd),(zK (bw BR (aO zA (aZ K (pv 2)) (pv 0) (λ_ _=>rfl)) (pv 3) rfl)),(b7 (af (pv 0) (af (HX (iF hr) (pv 1) (pv 0) (λ_ _=>rfl)) ai)))⟩))) rfl))) bf) (au (aH (xJ K P w hr.j6 (aZ K (pv 0)) (pv 4) (λ_ _=>rfl)))))),?_⟩;refine aP ((ay aa λ_ _=>ay aa λ_ _=>aC aa) _ λN s2=>⟨(by show 3<=PK; decide),λnm hnm=>?_⟩);have B:ah H (upd N nm (.tup [.int l,.int r,.str u])):=s2.trans (ah.new hnm _);have hnk:NK K (upd N nm (.tup [.int l,.int r,.str u])) (wC l r u) nm:=Io (aG.of ao) hls;generalize upd N nm (.tup [.int l,.int r,.str u])=H3 at *;clear hnm s2 N;have S3:=S.same B;have a:=S3.wo;obtain⟨dx,ob⟩:=a.ob;refine oZ a.cl a.n6 rfl ob rfl rfl hnk S3.wd a.ck a.mp (λv H4 s4 hS=>?_) λH4 nx s4 oA=>?_
 ·obtain⟨q,b,rfl,h1,h2⟩:=hS _ _ _ rfl;exact kk q b H4 (S.wd.go (B.trans s4) (zC9 _)) h1 h2
 obtain⟨ml,nl,n1,low⟩:=(a.same s4).low;refine aP ((dO aa (s4 _ _ ob) a.cl a.n4 rfl) _ λH5 s5=>⟨W.ll,rfl,⟨_,_,n1.same s5⟩,(ay aa λ_ _=>aC aa) _ λH6 s6=>⟨(by show 2<=PK; decide),λJ hup=>λz hz=>?_⟩⟩);have F:ah H4 (upd (upd H6 J (.tup [.int l,.int r])) z (.dK [])):=s5.trans (s6.trans ((ah.new hup _).trans (ah.new hz _)));have XX:aG K (upd (upd H6 J (.tup [.int l,.int r])) z (.dK [])) J [.int l,.int r]:=(ah.new hz _).tup gQ;have ZH:upd (upd H6 J (.tup [.int l,.int r])) z (.dK []) z=some (.dK []):=ao;generalize upd (upd H6 J (.tup [.int l,.int r])) z (.dK [])=H7 at *;refine⟨ml (dc l r),⟨ml,_,dc l r,J,n1.same F,rfl,o4 XX,rfl⟩,?_⟩;obtain⟨fd,b,hfd,y,f⟩:∃fd b,(ml (dc l r)).getD (.ref z)=.ref fd/\H7 fd=some (.dK (bO b))/\jP x.length ts l r b:=by cases e2:ml (dc l r) with| none=>exact⟨z,[],rfl,ZH,jP.nil (low.no l r e2)⟩| some v=> obtain⟨d,b,rfl,_,hd,f⟩:=low.at_ l r v e2;exact⟨d,b,rfl,F _ _ hd,f⟩
 rw[hfd];have C:=s4.trans F;have mx:=a.mx;have hpl:b.length<=x.length+1:=kU f.nd λp hp=>⟨by have:=f.fld p hp; lia,(f.fld p hp).2⟩;refine sX a.cl a.n6 rfl ob (by rfl) (by rfl) hnk a.ck a.mp oA λR q=>?_;refine ((aa (v:=.ref fd) (by rfl)) _ λH8 s8=>⟨fd,bO b,b.map (·.1),rfl,s8 _ _ y,by simp [bO],by grind,λsl j hsl pm pw=>⟨sl,rfl,⟨_,az.of ao⟩,?_⟩⟩);have ZI:ah H8 (upd H8 sl (.lst (j.map V.int))):=ah.new hsl _;have Y:upd H8 sl (.lst (j.map V.int)) sl=some (.lst (j.map V.int)):=ao;generalize upd H8 sl (.lst (j.map V.int))=H9 at *;have D:=s8.trans ZI;have hnl:j.length<=x.length+1:=by rw[pm.length_eq,yB]; symm
 have O:∀k∈j,0<=k/\k < x.length/\cU (bO b) (.inl k)=some (.int (b6 b k)):=λk hk=>by obtain⟨p,hp,rfl⟩:=q0.mp (pm.mem_iff.mp hk);refine⟨(f.fld p hp).1,(f.fld p hp).2,?_⟩;have h1:=iJ b p.1;cases e2:cU (bO b) (.inl p.1) with| none=>exact absurd (show (Sum.inl p.1:Key)∈(bO b).map (·.1) from q0.mpr ⟨(.inl p.1,.int p.2),by unfold bO; ext,rfl⟩) (Nx e2)| some v=>ext
 refine oQ (xs:=j.map V.int) (by rw[yB,kA]; lia) (λZ i I H'=>ah H9 H'/\∃s:List (M1 × Int × Int),I=s.map q1/\s.length<=i/\s.map (·.2)=Iv x u b (j.take i)/\kB K H' s) (λZ i I H' q=>⟨q.1.seq (az.of Y),?_⟩) (λZ hZ=>⟨ah.new hZ _,[],rfl,y8 _,rfl,λq hq=>absurd hq (by simp)⟩) (λZ i I H' v R R0 hZ ⟨sm,s,ey,Iw,eg,m⟩ g hv k1 k2=>?_) λZ I Ha hZ ⟨sm,s,ey,Iw,eg,m⟩ g=>?_;·grind
 ·rw[vT] at hv;obtain⟨k,hki,rfl⟩:=u3.mp hv;obtain⟨hk0,hkm,hkv⟩:=O k (by grind);have htk:j.take (i+1)=j.take i++[k]:=by rw[zAz,hki]; rfl
  have s7H:=D.trans sm;refine (bA (Uk (c:=x.cps.getD k.toNat 0) (Ei ((a.same (C.trans s7H)).gl aa) (λ_ _=>aa) (small (by lia)) (LA hk0 ‹_›)) λ_ _=>aa)) _ λHb U=>?_;by_cases hc:x.cps.getD k.toNat 0∈u.cps.toList
  ·rw[u1 (zAa hc)];refine nR aa λHc sc=>(xP aa (λ_ _=>aa) ((s7H.trans (U.trans sc)) _ _ y) hkv) _ λHd sd=>⟨(by show 2<=PK; decide),λnt hnt=>?_⟩;have n:=(U.trans (sc.trans sd)).trans (ah.new hnt (.tup [.int k,.int (b6 b k)]));have mu:eB (upd Hd nt (.tup [.int k,.int (b6 b k)]) Z):=by rw[n _ _ g]; exact True.intro
   refine k1 _ _ (n _ _ g) ⟨(sm.trans n).put hZ _,s++[(nt,k,b6 b k)],by rw[ey,v3]; rfl,by simp; symm,?_,λe he=>(Tk.put mu).tup ?_⟩
   ·rw[v3,eg,htk];unfold Iv;rw[List.filter_append,v3,List.filter_cons_of_pos (by simpa using hc)];rfl
   ·rcases w8.mp he with z | z;·exact n.tup (m e z)
    ·rw[zAc.mp z]; exact gQ
  ·rw[xL (by rw[zAp hc]; decide)];refine k2 Hb (U _ _ g) ⟨sm.trans U,s,ey,by lia,?_,m.tk (.same U)⟩;rw[eg,htk];unfold Iv;rw[List.filter_append,v3,List.filter_cons_of_neg (by simpa using hc)];simp
 rw[yB,zAj] at eg;refine⟨Z,I,rfl,g,λo=>?_⟩;have ZJ:=C.trans (D.trans sm);have mu:eB (Ha Z):=by rw[g]; exact True.intro
 have X:H3 Z=none:=(C.trans D).free hZ;have go:Go K P w M G H3 L G (upd Ha Z (.iL o (.lst I))):=(S3.wd.go ZJ (y8 _)).own X (S3.wd.off X) mu;have ch:Ch K (upd Ha Z (.iL o (.lst I))) Z (Iv x u b j):=⟨s,⟨o,by rw[ao,ey]⟩,eg,m.tk (.put mu)⟩;refine q _ _ G L go (by rw[kA]; lia) (λl' r' ls' z=>?_) λv' N go2 hS=>?_
 ·obtain⟨rfl,rfl,rfl⟩:=Fp z;exact⟨Z,_,rfl,ch,Ul f pm pw⟩
 ·obtain⟨q',ps',rfl,h1,h2⟩:=hS _ _ _ rfl;exact kk q' ps' N (go2.pre B) h1 h2
inductive Aq (K:zzA)(P:zAA)(w:zAD)(CF C:M1)(vs:List V)(H:Hp)(Q:VK)(E_:XK):Prop| mk (p sa:M1) (d:Nat) (u n:Int) (ls:Str) (A:FA) (W:WA) (M:Mp) (G:Gs) (L h:Nat) (x:Str) (ts:cZ):vs=[.ref p,.int ((d+1:Nat):Int),.int u,.int n,.str ls]->Al K P w CF C M G L H p sa A W x h ts->Num G (d+1) n->d < 10->PyData.strOk ls=true->L+cR G.m d<=15000000->(∀r G' H',Go K P w M G H (L+cR G.m d) G' H'->Is G' (d+1) r (λgs=>∃l rs k,gs=k::rs/\Mem G (d+1) n (l::rs)/\PR x ts ls u l rs k)->Q (.int r) H')->Aq K P w CF C vs H Q E_
theorem bS:aJ ["self","depth","upper","front","letters","found","left","part","mark","bits","fitting"] ["self","depth","upper","front","letters"] (aE dJ):=cH
theorem tw (T:Txt K mg t):aL P w K mg base bI 20 t.lV t.fF ["self","depth","upper","front","letters"] (Aq K P w t.aD t.bq):=by
 have o:=qc (P:=P) (w:=w) (base:=base) T;have b:=jw (P:=P) (w:=w) (base:=base) T;have m:=qo (P:=P) (w:=w) (base:=base) T 10;have a:=bh (P:=P) (w:=w) (base:=base) T;refine T.nP.fn.ok bS (λvs H Q E h=>?_) (λcdv Ar outer sh H vs Q E hr h=>?_)
 ·obtain⟨p,sa,d,u,n,ls,A,W,M,G,L,h,x,ts,rfl,_⟩:=h;rfl
 obtain⟨p,sa,d,u,n,ls,A,W,M,G,L,h,x,ts,rfl,S,hn,XY,hls,hL,kk⟩:=h;refine⟨_,(aj (bF 5 bS.nd pI) (aj (cQ zA3 rfl (qA K (aO (c_ K) (aZ K (aZ K (pv 0))) (pv 3) (λ_ _=>rfl))) (kG K (n:=2) (bg (bE 6 bS.nd) (bg (bE 7 bS.nd) gn))) (au (cQ zA3 rfl (cT K (cM T.n9 T.d8 o hr aN (pv 0) (af (pv 6) (af (pv 2) (af (pv 4) ai))))) (kG K (n:=2) (bg (bE 8 bS.nd) (bg (bE 9 bS.nd) gn))) (aj (bF 10 bS.nd (cM T.iu T.aV b hr aN (aZ K (pv 0)) (af (aF dD (pv 1) av) (af (pv 7) (af (pv 9) ai))))) (au (oW (iF hr) (pv 5) (pv 8) (cM T.fG T.aV m hr aN (aZ K (pv 0)) (af (aF dD (pv 1) av) (af (m5 (iF hr) (pv 5) (pv 8) av ⟨rfl,rfl,rfl,rfl⟩) (af (pv 10) ai)))) rfl)))))) (au (aH (cM T.bu T.aV a hr aN (aZ K (pv 0)) (af (pv 1) (af (aI EF (by rfl) T.pU zDN (af (NO K zC1 PySem.F.slot_dict_items PySem.F.type_dict_items EB (pv 5)) ai)) ai))))))),?_⟩;refine aP λY hfo=>?_;have s01:ah H (upd H Y (.dK [])):=ah.new hfo _;have XZ:upd H Y (.dK []) Y=some (.dK (bO [])):=ao;have Am:M Y=none:=S.wd.off hfo;generalize upd H Y (.dK [])=H1 at *;refine hold λO8 k_1=>?_;obtain⟨tt,qs,hat,eqs,i8,_,hq2⟩:=(S.fo.same s01).at (S.wd.same s01) hn;obtain⟨uU,_,_,_⟩:=S.wd.wf.aX hn;refine k_1 ?_;have few:=S.wd.wf.few;have xm:=S.xm;have nD:qs.length<=G.m+1:=by have:=uU.len; grind
 have hLL:L+((G.m+1) * (1+(G.m+1) * (2+cB G.m d))+1)<=15000000:=hL;have hone:∀i,i<=G.m+1->i * (1+(G.m+1) * (2+cB G.m d))<=(G.m+1) * (1+(G.m+1) * (2+cB G.m d)):=λi hi=>zB4 _ hi;have R:∀j,j<=G.m+1->j * (2+cB G.m d)<=(G.m+1) * (2+cB G.m d):=λj hj=>zB4 _ hj;refine Bj (K:=K) (hat ((S.wo.same s01).gs aa) λ_ _=>aa) i8 (λi σ H'=>i<=qs.length/\∃e6 e7 e8 e9 C G' ks,σ=[some (.ref p),some (.int ((d+1:Nat):Int)),some (.int u),some (.int n),some (.str ls),some (.ref Y),e6,e7,e8,e9,C]/\Go K P w M G H (L+i * (1+(G.m+1) * (2+cB G.m d))) G' H'/\Tk H1 H'/\H' Y=some (.dK (bO ks))/\Dn G' d ks λg B=>∃q∈(qs.take i).map (·.2),Mem G d q.2 B/\PR x ts ls u q.1 B g) (λH2 s2=>⟨zAd _,none,none,none,none,none,G,[],by rfl,S.wd.go (s01.trans s2) (by simp),.same s2,s2 _ _ XZ,nodup_nil,(by simp),λg=>⟨.zero,λB=>⟨λz=>absurd z (bX S.wd.wf),by simp⟩⟩⟩) (λi σ H' z=>by obtain⟨_,_,_,_,_,_,_,_,_,_,tk,_⟩:=z; exact tk.tup i8) (λi v σ H' hv hP=>?_) fun σ H' hP=>?_
 ·refine hold λTZ Fg=>?_;obtain⟨hi,e6,e7,e8,e9,C,Gi,ks,rfl,go,tk,V,Di⟩:=hP;refine Fg ?_;rw[vT] at hv;obtain⟨q,hq,rfl⟩:=u3.mp hv;have hil:i < qs.length:=(xI.mp hq).1;have sY:q.2∈aX G n:=by grind
  have hc1:=hone (i+1) (by lia);rw[zBi] at hc1;have htk:qs.take (i+1)=qs.take i++[q]:=by rw[zAz,hq]; rfl
  refine⟨q.1,_,rfl,tk.tup (hq2 q (u4 hq)),rfl,.int q.2.1,_,rfl,.int q.2.2,_,rfl,rfl,?_⟩;have Si:=S.go go;obtain⟨Im,qS⟩:=Si.wo.ob;refine (bL aa qS rfl λH2 s2=>(ay aa λ_ _=>ay aa λ_ _=>aC aa) _ λH3 s3=>?_);have s13:=s2.trans s3;refine⟨p,sa,q.2.1,u,ls,A,W,M,Gi,_,h,x,ts,rfl,Si.same s13,hls,by lia,λcq cs H4 go4 ZK U=>?_⟩;obtain⟨es,hes,ZL,hest⟩:=ZK;have csl:es.length<=G.m+1:=by have:=U.len; grind
  have hin:∀e∈es,e.2∈cs:=λe he=>by grind
  have O:=go4.pre s13;refine⟨cq,rfl,⟨_,hes.sq⟩,yz (xs:=es.map q1) (λj σ H5=>j<=es.length/\∃e8 e9 C Gj kj,σ=[some (.ref p),some (.int ((d+1:Nat):Int)),some (.int u),some (.int n),some (.str ls),some (.ref Y),some (.int q.2.1),some (.int q.2.2),e8,e9,C]/\Go K P w M G H (L+i * (1+(G.m+1) * (2+cB G.m d))+1+j * (2+cB G.m d)) Gj H5/\Tk H4 H5/\H5 Y=some (.dK (bO kj))/\ Dn Gj d kj λg B=>(∃q∈(qs.take i).map (·.2),Mem G d q.2 B/\PR x ts ls u q.1 B g)\/∃e∈(es.take j).map (·.2),e.1=g/\Mem G d q.2.2 B/\∃f r',B=f::r'/\bit e.2 f) ⟨zAd _,e8,e9,C,Gi,ks,rfl,(go.trans O).le (by simp),.refl,O.kw.keep _ _ V Am,Di.iff λg B=>by simp⟩ (λj σ H5 _ z=>by obtain⟨_,_,_,_,_,_,_,_,tk5,_⟩:=z; exact (tk5.fl hes).sq) (λj v σ H5 hv hP=>?_) fun σ H5 hP=>?_⟩
  ·refine hold λP_8 ZM=>?_;obtain⟨hj,e8,e9,C,Gj,kj,rfl,s,tkj,J,Z⟩:=hP;refine ZM ?_;rw[vT] at hv;obtain⟨e,he,rfl⟩:=u3.mp hv;have hem:e∈es:=u4 he;have hjl:j < es.length:=(xI.mp he).1;have hc2:=R (j+1) (by lia);rw[zBi] at hc2;have Um:es.take (j+1)=es.take j++[e]:=by rw[zAz,he]; rfl
   refine hold λacv X0=>?_;obtain⟨⟨hk0,hkx,_⟩,hb0,_⟩:=U.ok e.2 (hin e hem);refine X0 ?_;refine⟨e.1,_,rfl,tkj.tup (hest e hem),rfl,.int e.2.1,_,rfl,.int e.2.2,_,rfl,rfl,?_⟩;have Sj:=S.go s;obtain⟨WC,LR⟩:=Sj.fo.ob;refine aP (bL (Sj.wo.gs aa) LR rfl λH6 s6=>(ay (v:=.int (d:Int)) (aU (aW aa λ_ _=>aB) (by congr 1; simp)) λ_ _=>ay aa λ_ _=>aC aa) _ λH7 s7=>?_);have Uo:=s6.trans s7;have nq:=uU.num _ sY;refine⟨sa,d,q.2.2,e.2.2,A,M,Gj,_,rfl,Sj.fo.same Uo,Sj.wd.same Uo,nq.ext s.ex,hb0,by lia,λr G8 H8 go8 Iz=>?_⟩;have X:=go8.pre Uo;have S8:=Sj.go X;have X3:=X.kw.keep _ _ J Am;obtain⟨dxl,ZN⟩:=S8.fo.ob;refine bL (S8.wo.gs aa) ZN rfl λH9 s9=>(ay (v:=.int (d:Int)) (aU (aW aa λ_ _=>aB) (by congr 1; simp)) λHa sa'=>ay (aU (ng aa ((s9.trans sa') _ _ X3) (λ_ _=>aa) λ_ _=>aB) (iJ kj e.2.1)) λ_ _=>aC aa) _ λHb sb=>?_;have Uq:=s9.trans sb;have m8:G8.m=G.m:=go8.ex.m.trans s.ex.m;refine⟨sa,d,b6 kj e.2.1,r,A,M,G8,_,rfl,XY,S8.fo.same Uq,S8.wd.same Uq,(Z.is _).1.ext go8.ex,Iz.1,by rw[m8]; lia,λr2 Gc Hc goc isc=>?_⟩;rw[m8] at goc;have Ur:=X.trans (goc.pre Uq);have hfoc:=Ur.kw.keep _ _ J Am;have T9:=kU Z.nd Z.fld;rw[s.ex.m] at T9;refine wA aa (λ_ _=>aa) hfoc (by simp [bO]; rw[kA]; lia) λHd sd=>?_;rw[sZ];have WE:eB (Hd Y):=by rw[sd _ _ hfoc]; exact True.intro
   have N:=Ur.st sd;refine⟨hjl,_,_,_,Gc,l6 kj e.2.1 r2,rfl,(((s.trans N).own hfo Am WE).le (by rw[zBi j (2+cB G.m d)]; lia)),(tkj.trans N.kw.tk).trans (.put WE),ao,Z.put N.ex (isc.iff λB=>?_) (by rw[s.ex.m]; lia) λg B z=>?_⟩
   ·show Mem G8 d (b6 kj e.2.1) B\/Mem G8 d r B↔_;rw[bR go8.ex _ _ _ (Z.is _).1,(Z.is _).2 B,Iz.2 B,Um,v3];unfold ku;rw[bR s.ex _ _ _ nq];constructor
    ·rintro ((D | ⟨e',F,D⟩) | ⟨D,I⟩);·exact .inl D
     ·exact .inr ⟨e',zBe _ F,D⟩
     ·exact .inr ⟨e.2,by simp,rfl,D,I⟩
    ·rintro (D | ⟨e',F,D,I⟩);·exact .inl (.inl D)
     ·rcases w8.mp F with z | z;·exact .inl (.inr ⟨e',z,D,I⟩)
      ·rw[show e'=e.2 by simpa using z] at I;exact .inr I
   ·rw[Um,v3];refine or_congr_right ⟨λ⟨e',F,h⟩=>⟨e',zBe _ F,h⟩,λ⟨e',F,h⟩=>⟨e',(w8.mp F).resolve_right λy=>z ?_,h⟩⟩;rw[<-h.1,show e'=e.2 by simpa using y]
  ·refine hold λacw X4=>?_;obtain⟨_,e8,e9,C,Gj,kj,rfl,s,tkj,J,Z⟩:=hP;refine X4 ?_;rw[yB] at s Z;rw[zAj,ZL] at Z;have hc2:=R es.length ‹_›;refine⟨hil,_,_,e8,e9,C,Gj,kj,rfl,s.le (by rw[zBi i]; lia),tk.trans (O.kw.tk.trans tkj),J,Z.iff λg B=>?_⟩;rw[htk,v3];constructor
   ·rintro (⟨q',hq',D⟩ | ⟨e,he,rfl,D,f,r',rfl,I⟩);·exact⟨q',zBe _ hq',D⟩
    ·obtain⟨l1,l2,l3⟩:=U.ok e he;exact⟨q.2,by simp,D,f,r',rfl,l1,(l3 f).mp I⟩
   ·rintro⟨q',hq',D,I⟩;rcases w8.mp hq' with z | z;·exact .inl ⟨q',z,D,I⟩
    ·rw[show q'=q.2 by simpa using z] at D I;obtain⟨f,r',rfl,l1,l2⟩:=I;obtain⟨c,hc,hck⟩:=U.all f g l1 l2;exact .inr ⟨c,hc,hck,D,f,r',rfl,((U.ok c hc).2.2 f).mpr (by rw[hck]; exact l2)⟩
 ·obtain⟨_,e6,e7,e8,e9,C,Gi,ks,rfl,go,tk,V,Di⟩:=hP;rw[yB] at go Di;rw[zAj,eqs] at Di;have hc1:=hone qs.length nD;have Si:=S.go go;refine eV (LK Si.fo Si.wd (Si.wo.gs aa) (λ_ _=>aa) (λ_ _=>aa) V Di (by lia) λr G2 H2 go2 is2=>kk r G2 H2 ((go.trans go2).le (by unfold cR; lia)) (is2.iff λgs=>?_));constructor
  ·rintro⟨f,B,rfl,q,hq,D,I⟩;exact⟨q.1,B,f,rfl,⟨q.1,B,q.2,rfl,hq,D⟩,I⟩
  ·rintro⟨l,B,k,rfl,⟨f,r',pp,e,hm',hr'⟩,I⟩;cases e;exact⟨k,B,rfl,_,hm',hr',I⟩
inductive As (K:zzA)(P:zAA)(w:zAD)(CF C:M1)(N:Nat)(vs:List V)(H:Hp)(Q:VK)(E_:XK):Prop| mk (p sa:M1) (j e row above:Nat) (n:Int) (ls:Str) (A:FA) (W:WA) (M:Mp) (G:Gs) (L h:Nat) (x:Str) (ts:cZ):vs=[.ref p,.int (row:Int),.int (above:Int),.int n,.str ls]->j < N->above+j+1=row->row < h->h<=8->e+row=h+j->Al K P w CF C M G L H p sa A W x h ts->Num G (e+1) n->PyData.strOk ls=true->L+cP G.m (h - row - 1) j<=15000000->(∀r G' H',Go K P w M G H (L+cP G.m (h - row - 1) j) G' H'->Is G' (e+1) r (Cp G x ts ls j (e+1) n)->Q (.int r) H')->As K P w CF C N vs H Q E_
theorem bV:aJ ["self","row","above","front","letters","name","found","field","part"] ["self","row","above","front","letters"] (aE cX):=cH
theorem qp (T:Txt K mg t):∀N:Nat,aL P w K mg base bI (N+21) t.kq t.eu ["self","row","above","front","letters"] (As K P w t.aD t.bq N):=by intro N;induction N with| zero=> refine T.fL.fn.ok bV (λvs H Q E h=>?_) (λcdv Ar outer sh H vs Q E hr h=>?_) <;> obtain⟨p,sa,j,e,o,m,n,I,A,W,M,G,L,h,x,ts,rfl,hj,_⟩:=h <;> exact absurd hj (Nat.not_lt_zero _)| succ N c=>
 have d:=tw (P:=P) (w:=w) (base:=base) T;have a:=bh (P:=P) (w:=w) (base:=base) T;refine T.fL.fn.ok bV (λvs H Q E h=>?_) (λcdv Ar outer sh H vs Q E hr h=>?_)
 ·obtain⟨p,sa,j,e,o,m,n,I,A,W,M,G,L,h,x,ts,rfl,_⟩:=h;rfl
 obtain⟨p,sa,j,e,o,m,n,I,A,W,M,G,L,h,x,ts,rfl,hj,hab,rL,Au,her,S,hn,hls,hL,kk⟩:=h;generalize hdr:h - o - 1=dr at *;refine⟨_,(aj (bF 5 bV.nd (b7 (af (pv 1) (af (pv 3) (af (pv 4) ai))))) (aj (bT (lE (oX K P w hr.j6 (pv 5) (aZ K (pv 0)))) (aj (bF 6 bV.nd (bH ai)) (aj (cQ zA3 rfl (qA K (aO (c_ K) (aZ K (aZ K (pv 0))) (pv 3) (λ_ _=>rfl))) (kG K (n:=2) (bg (bE 7 bV.nd) (bg (bE 8 bV.nd) gn))) (au (bT (bw OP (pv 2) (aF dD (pv 1) av) rfl) (au (dR (ou K zA0 zA5 zA6 eF (pv 6) (af (b7 (af (pv 7) (af (cM T.fL T.d8 c hr aN (pv 0) (af (pv 1) (af (aF cS (pv 2) av) (af (pv 8) (af (pv 4) ai))))) ai))) ai)))) (au (dR (ou K zA0 zA5 zA6 eF (pv 6) (af (b7 (af (pv 7) (af (cM T.nP T.d8 d hr aN (pv 0) (af (aF dD (aZ K (pv 0)) (pv 1)) (af (pv 7) (af (pv 8) (af (pv 4) ai))))) ai))) ai))))))) (au (uc K P w hr.j6 (aZ K (pv 0)) (pv 5) (cM T.bu T.aV a hr aN (aZ K (pv 0)) (af (aF dD (aZ K (pv 0)) (pv 2)) (af (pv 6) ai))) rfl)))) bf) (au (aH (xJ K P w hr.j6 (aZ K (pv 0)) (pv 5) (λ_ _=>rfl)))))),?_⟩;have hkey:((e+1:Nat):Int)+(o:Int)=((h+1+j:Nat):Int):=by lia
 refine aP ((ay aa λ_ _=>ay aa λ_ _=>aC aa) _ λH2 s2=>⟨(by show 3<=PK; decide),λnm hnm=>?_⟩);have s03:ah H (upd H2 nm (.tup [.int (o:Int),.int n,.str I])):=s2.trans (ah.new hnm _);have hnk:NK K (upd H2 nm (.tup [.int (o:Int),.int n,.str I])) (wC o n I) nm:=Io (aG.of ao) hls;generalize upd H2 nm (.tup [.int (o:Int),.int n,.str I])=H3 at *;clear hnm s2 H2;have S3:=S.same s03;have B:=S3.wo;obtain⟨dx,ob⟩:=B.ob;refine oZ B.cl B.n7 rfl ob rfl rfl hnk S3.wd B.pk B.mp (λv H4 s4 hS=>?_) λH4 nx s4 oA=>?_
 ·obtain⟨_,_,r,rfl,hpl⟩:=hS _ _ _ rfl;exact kk r G H4 (S.wd.go (s03.trans s4) (by simp)) (hpl j e hkey hn)
 refine aP ⟨(by simp),λC hfl=>?_⟩;have s35:ah H3 (upd H4 C (.lst [])):=s4.trans (ah.new hfl _);have X5:upd H4 C (.lst []) C=some (.lst []):=ao;have Us:H3 C=none:=s4.free hfl;have WG:M C=none:=S3.wd.off Us;generalize upd H4 C (.lst [])=H5 at *;have S5:=S3.same s35;refine hold λO8 k_1=>?_;obtain⟨tt,qs,hat,eqs,i8,_,hq2⟩:=S5.fo.at S5.wd hn;obtain⟨uU,_,_,_⟩:=S.wd.wf.aX hn;have few:=S.wd.wf.few;have nD:qs.length<=G.m+1:=by have:=uU.len; grind
 obtain⟨c1,hc1,WH⟩:∃c1,cP G.m dr j=(G.m+1) * c1+2/\((j=0/\c1=cR G.m dr)\/∃j',j=j'+1/\c1=cP G.m dr j'):=by cases j with| zero=>exact⟨_,rfl,(by simp)⟩| succ j'=>exact⟨_,rfl,(by simp)⟩
 refine k_1 ?_;rw[hc1] at hL kk;have hone:∀i,i<=G.m+1->i * c1<=(G.m+1) * c1:=λi hi=>zB4 _ hi;refine Bj (K:=K) (hat (S5.wo.gs aa) λ_ _=>aa) i8 (λi σ H'=>i<=qs.length/\∃e7 e8 G' s,σ=[some (.ref p),some (.int (o:Int)),some (.int (m:Int)),some (.int n),some (.str I),some (.ref nm),some (.ref C),e7,e8]/\Go K P w M G H3 (L+i * c1) G' H'/\Tk H5 H'/\H' C=some (.lst (s.map q1))/\kB K H' s/\Z2 G' e (λq s=>∃D,Mem G e q.2 D/\Pl x ts I j (q.1::D) (q.1::s)) (qs.take i) s) (λH6 O=>⟨zAd _,none,none,G,[],by rfl,S3.wd.go (s35.trans O) (by simp),.same O,O _ _ X5,(λq hq=>absurd hq (by simp)),.nil⟩) (λi σ H' z=>by obtain⟨_,_,_,_,_,_,_,tk,_⟩:=z; exact tk.tup i8) (λi v σ H' hv hP=>?_) fun σ H' hP=>?_
 ·obtain⟨hi,e7,e8,Gi,s,rfl,U,tk,F,hgt,hz⟩:=hP;rw[vT] at hv;obtain⟨q,hq,rfl⟩:=u3.mp hv;have hil:i < qs.length:=(xI.mp hq).1;have sY:q.2∈aX G n:=by grind
  have hc2:=hone (i+1) (by lia);rw[zBi] at hc2;have nq:=uU.num _ sY;have Iw:s.length=i:=by have:=hz.len; ext
  have fin:∀(r:Int) (Z:Gs) (X:Hp) (J:M1),Go K P w M Gi H' (L+i * c1+c1) Z X->Is Z e r (λs=>∃D,Mem Gi e q.2.2 D/\Pl x ts I j (q.2.1::D) (q.2.1::s))->X J=none-> ∃l xs y,(V.ref C)=.ref l/\[V.ref J]=[y]/\upd X J (.tup [.int q.2.1,.int r]) l=some (.lst xs)/\xs.length < PK/\(λ(σ:L2.St) Pr=>i+1<=qs.length/\∃e7 e8 G' s,σ=[some (.ref p),some (.int (o:Int)),some (.int (m:Int)),some (.int n),some (.str I),some (.ref nm),some (.ref C),e7,e8]/\Go K P w M G H3 (L+(i+1) * c1) G' Pr/\Tk H5 Pr/\Pr C=some (.lst (s.map q1))/\kB K Pr s/\Z2 G' e (λq s=>∃D,Mem G e q.2 D/\Pl x ts I j (q.1::D) (q.1::s)) (qs.take (i+1)) s) [some (.ref p),some (.int (o:Int)),some (.int (m:Int)),some (.int n),some (.str I),some (.ref nm),some (.ref C),some (.int q.2.1),some (.int q.2.2)] (upd (upd X J (.tup [.int q.2.1,.int r])) l (.lst (xs++[y]))):=λr Z X J go8 Iz Y=>by
   have sn:ah X (upd X J (.tup [.int q.2.1,.int r])):=ah.new Y _;have acy:aG K (upd X J (.tup [.int q.2.1,.int r])) J [.int q.2.1,.int r]:=gQ;have Pu:=go8.st sn;generalize upd X J (.tup [.int q.2.1,.int r])=Hn at *;have Ut:Hn C=some (.lst (s.map q1)):=Pu.kw.keep _ _ F WG;have Uu:eB (Hn C):=by rw[Ut]; exact True.intro
   refine⟨C,_,_,rfl,rfl,Ut,by rw[yB,kA]; lia,hil,_,_,Z,s++[(J,q.2.1,r)],rfl,?_,(tk.trans Pu.kw.tk).trans (.put Uu),by rw[ao,v3]; rfl,λg hg=>(Tk.put Uu).tup ?_,?_⟩
   ·rw[zBi,<-zCz];exact (U.trans Pu).own Us WG Uu
   ·rcases w8.mp hg with z | z;·exact Pu.kw.tk.tup (hgt g z)
    ·rw[zAc.mp z];symm
   ·rw[zAz,hq];refine (hz.ext go8.ex).snoc ⟨rfl,Iz.iff λgs'=>⟨?_,?_⟩⟩ <;> rintro⟨D,h1,h2⟩;·exact⟨D,(bR U.ex _ _ _ nq).mp h1,h2⟩
    ·exact⟨D,(bR U.ex _ _ _ nq).mpr h1,h2⟩
  refine⟨q.1,_,rfl,tk.tup (hq2 q (u4 hq)),rfl,.int q.2.1,_,rfl,.int q.2.2,_,rfl,rfl,?_⟩;have Si:=S3.go U;obtain⟨Im,qS⟩:=Si.wo.ob;have mi:=U.ex.m;rcases WH with ⟨rfl,rfl⟩ | ⟨j',rfl,rfl⟩
  ·obtain rfl:e=dr+1:=by grind
   refine je (b:=false) (cA (bA (aW aa λ_ _=>aW aa λ_ _=>aB)) (by grind)) (λz=>absurd z (by decide)) λ_ H6 O=>?_;refine jf ((aa (v:=.ref C) (by rfl)) _ λH7 s7=>⟨.inl ⟨rfl,_,az.of ((O.trans s7) _ _ F)⟩,?_⟩);have u:=O.trans s7;refine nR aa λX s8=>bL aa ((u.trans s8) _ _ qS) rfl λH9 s9=>(ay (v:=.int ((dr+1:Nat):Int)) (aU (aW ((Si.wo.same (u.trans (s8.trans s9))).gh aa) λ_ _=>aa) (by grind)) λ_ _=>ay aa λ_ _=>ay aa λ_ _=>aC aa) _ λHa sa'=>?_;have LS:=u.trans (s8.trans (s9.trans sa'));refine⟨p,sa,dr,q.2.1,q.2.2,I,A,W,M,Gi,_,h,x,ts,rfl,Si.same LS,nq.ext U.ex,by lia,hls,by grind,λr Z Hb gob isb=>⟨(by show 2<=PK; decide),λJ Y=>?_⟩⟩;rw[mi] at gob;refine fin r Z Hb J (gob.pre LS) (isb.iff λgs'=>⟨?_,?_⟩) Y
   ·rintro⟨l,rs,k,e1,h1,h2⟩;exact⟨_,h1,Ip.mpr ⟨l,rs,k,e1,rfl,h2⟩⟩
   ·rintro⟨D,h1,h2⟩;obtain⟨l,rs,k,e1,e2,h3⟩:=Ip.mp h2;exact⟨l,rs,k,e1,by rw[<-e2]; exact h1,h3⟩
  ·obtain⟨e',rfl⟩:∃e',e=e'+1:=⟨e - 1,by lia⟩;refine je (b:=true) (cA (bA (aW aa λ_ _=>aW aa λ_ _=>aB)) (zAa (by lia))) (λ_ H6 O=>?_) λz=>absurd z (by decide);refine jf ((aa (v:=.ref C) (by rfl)) _ λH7 s7=>⟨.inl ⟨rfl,_,az.of ((O.trans s7) _ _ F)⟩,?_⟩);refine nR aa λX s8=>bL aa ((O.trans (s7.trans s8)) _ _ qS) rfl λH9 s9=>(ay aa λ_ _=>ay (v:=.int ((m+1:Nat):Int)) (aU (aW aa λ_ _=>aB) (by congr 1)) λ_ _=>ay aa λ_ _=>aC aa) _ λHa sa'=>?_;have LS:=O.trans (s7.trans (s8.trans (s9.trans sa')));refine⟨p,sa,j',e',o,m+1,q.2.2,I,A,W,M,Gi,_,h,x,ts,rfl,by lia,by lia,rL,Au,by lia,Si.same LS,nq.ext U.ex,hls,by rw[hdr,mi]; lia,λr Z Hb gob isb=>⟨(by show 2<=PK; decide),λJ Y=>?_⟩⟩;rw[hdr,mi] at gob;refine fin r Z Hb J (gob.pre LS) (isb.iff λgs'=>⟨?_,?_⟩) Y <;> rintro⟨D,h1,h2⟩;·exact⟨D,h1,Iq.mpr h2⟩
   ·exact⟨D,h1,Iq.mp h2⟩
 ·obtain⟨_,e7,e8,Gi,s,rfl,U,tk,F,hgt,hz⟩:=hP;rw[yB] at U hz;rw[zAj] at hz;have hc2:=hone qs.length nD;have Si:=S3.go U;obtain⟨WC,LR⟩:=Si.fo.ob;refine sX B.cl B.n7 rfl ob rfl rfl hnk B.pk B.mp oA λR q=>?_;refine bL (Si.wo.gs aa) LR rfl λH6 O=>(ay (v:=.int ((e+1:Nat):Int)) (aU (aW ((Si.wo.same O).gh aa) λ_ _=>aa) (by congr 1; lia)) λ_ _=>aC aa) _ λH7 s7=>?_;have u:=O.trans s7;refine⟨sa,C,e,A,M,Gi,_,s,rfl,Si.fo.same u,Si.wd.same u,az.of (u _ _ F),hgt.tk (.same u),hz.uU (by rw[eqs]; exact uU.rise) (by rw[eqs,U.ex.m]; exact uU.fld),by lia,λr Z X go8 Iz=>?_⟩;have go3:=U.trans (go8.pre u);have Cq:Is Z (e+1) r (Cp G x ts I j (e+1) n):=Iz.iff λD=>(hz.Ph D).trans (by
   rw[eqs];constructor
   ·rintro⟨q,hq,rr,rfl,fs',h3,h4⟩;exact⟨q.1::fs',⟨q.1,fs',q.2,rfl,hq,h3⟩,h4⟩
   ·rintro⟨fs',⟨f,rr,pp,rfl,hm',hr'⟩,h4⟩;obtain⟨r2,rfl⟩:=Rq h4;exact⟨_,hm',r2,rfl,rr,hr',h4⟩);refine q _ _ _ _ go3 (by rw[kA]; lia) (λacz n' ls' z=>?_) λv' H2 go2 hS=>?_
  ·obtain⟨rfl,rfl,rfl⟩:=Fp z;exact⟨hn.nonneg,wT (S.wd.wf.aX hn).2.2.2 go3.ex.len,r,rfl,Ub go3.wd.wf go3.ex hkey hn Cq⟩
  ·obtain⟨_,_,r',rfl,hpl⟩:=hS _ _ _ rfl;exact kk r' Z H2 ((go2.pre s03).le (by lia)) ((hpl j e hkey (hn.ext go2.ex)).iff λs=>Ir go2.ex hn s)
inductive Cr (K:zzA)(P:zAA)(w:zAD)(CF C:M1)(vs:List V)(H:Hp)(Q:VK)(E_:XK):Prop| mk (p sa:M1) (row:Nat) (n:Int) (ls:Str) (A:FA) (W:WA) (M:Mp) (G:Gs) (L h:Nat) (x:Str) (ts:cZ):vs=[.ref p,.int (row:Int),.int n,.str ls]->row < h+1->h+1<=8->Al K P w CF C M G L H p sa A W x (h+1) ts->Num G (Po h row) n->PyData.strOk ls=true->L+Pn G.m (h+1) row<=15000000->(∀r G' H',Go K P w M G H (L+Pn G.m (h+1) row) G' H'->Is G' (h+1) r (Pp G x ts ls h row n)->Q (.int r) H')->Cr K P w CF C vs H Q E_
theorem Av:aJ ["self","row","front","letters"] ["self","row","front","letters"] (aE g_):=cH
theorem Aw (T:Txt K mg t):aL P w K mg base bI 30 t.sD t.jJ ["self","row","front","letters"] (Cr K P w t.aD t.bq):=by
 have g:=qc (P:=P) (w:=w) (base:=base) T;have f:=qp (P:=P) (w:=w) (base:=base) T 8;have a:=jw (P:=P) (w:=w) (base:=base) T;have d:=bh (P:=P) (w:=w) (base:=base) T;refine T.v7.fn.ok Av (λvs H Q E h=>?_) (λcdv Ar outer sh H vs Q E hr h=>?_)
 ·obtain⟨p,V,j,n,ls,A,W,M,G,L,h,x,ts,rfl,_⟩:=h;rfl
 obtain⟨p,V,j,n,ls,A,W,M,G,L,h,x,ts,rfl,rL,Au,S,hn,J,hL,kk⟩:=h;refine⟨_,(aj (bT (bw d_ (pv 1) av rfl) (au (aH (cM T.bu T.aV d hr aN (aZ K (pv 0)) (af (aZ K (pv 0)) (af (iD ["mark","bits","self","front"] [none,none,some 0,some 2] (cT K (cM T.n9 T.d8 g hr aN (pv 0) (af (bQ rfl T.fZ T.f6) (af (bQ rfl T.fZ T.f6) (af (pv 3) ai))))) (λ_ _ _ _ nd=>⟨(kG K (n:=2) (bg (bE 0 nd) (bg (bE 1 nd) gn))),cE,(b7 (af (pv 0) (af (cM T.iu T.aV a hr aN (aZ K (pv 2)) (af (aF dD (aZ K (pv 2)) av) (af (pv 3) (af (pv 1) ai)))) ai)))⟩)) ai))))) bf) (au (aH (cM T.fL T.d8 f hr aN (pv 0) (af (pv 1) (af av (af (pv 2) (af (pv 3) ai)))))))),?_⟩;obtain⟨dx,ob⟩:=S.wo.ob;refine fC (b:=decide (j=0)) (cA (bA (dG aa (λ_ _=>aB) (by rfl))) Dk) (λe H1 y=>?_) λe H1 y=>?_
 ·obtain rfl:j=0:=zAr e;obtain⟨WB,LQ⟩:=S.fo.ob;have hL':=hL;refine eV (bL ((S.wo.same y).gs aa) (y _ _ LQ) rfl λF s2=>qP ((S.wo.same (y.trans s2)).gh aa) λH3 s3=>Ij ?_);have m:=y.trans (s2.trans s3);refine bL aa (m _ _ ob) rfl λH4 s4=>(ay aB λ_ _=>ay aB λ_ _=>aC aa) _ λH5 s5=>?_;have U:=m.trans (s4.trans s5);refine⟨p,V,-1,-1,ls,A,W,M,G,L,h+1,x,ts,rfl,S.same U,J,by lia,λcq cs H6 O ZO l=>?_⟩;obtain⟨es,I,B,X⟩:=ZO;have o:=O.pre U;have xm:=S.xm;have few:=S.wd.wf.few;have csl:es.length<=G.m+1:=by have:=l.len; grind
  have hin:∀e∈es,e.2∈cs:=λe he=>by grind
  have S6:=S.go o;have N:=hn;refine⟨cq,rfl,⟨_,I.sq⟩,LF (S:=λe=>ku G h n e.2) (e:=h) (c:=2) (by lia) I X O.wd (λ_ _=>rfl) (λi e Y H' R he s k=>?_) λZ gs Y H' hZ s wB hg z=>?_⟩
  ·have Si:=S6.go s;obtain⟨WC,LR⟩:=Si.fo.ob;have hil:=(xI.mp he).1;refine bL (Si.wo.gs aa) LR rfl λHc sc=>(ay (v:=.int (h:Int)) (aU (aW ((Si.wo.same sc).gh aa) λ_ _=>aB) (by simp)) λHd sd=>ay aa λ_ _=>aC aa) _ λHe se=>?_;have C:=sc.trans se;exact⟨V,h,n,e.2.2,A,M,Y,_,rfl,Si.fo.same C,Si.wd.same C,N.ext s.ex,(l.ok e.2 (by grind)).2.1,by lia,λr G2 F u D=>k r G2 F (u.pre C) (D.iff λfs=>(qO s.ex N fs).symm)⟩
  ·refine⟨V,Z,h,A,M,Y,_,gs,rfl,(S6.go s).fo,s.wd,az.of wB,hg,z.uU (by rw[B]; exact l.rise) (λq hq=>?_),by lia,λr G2 F u D=>kk r G2 F ((o.trans (s.trans u)).le (by show _<=L+(2+(G.m+1) * 2); lia)) (D.iff λfs=>(z.Ph fs).trans ?_)⟩
   ·rw[B] at hq;have h1:=(l.ok q hq).1;have:=h1.1;have:=h1.2.1;rw[s.ex.m];lia
   ·rw[B];constructor
    ·rintro⟨e,he,rr,rfl,h3,f0,g0,rfl,h4⟩;obtain⟨l1,l2,l3⟩:=l.ok e he;exact⟨_,e.1,rfl,h3,f0,g0,rfl,l1,(l3 f0).mp h4⟩
    ·rintro⟨rs,k,rfl,h3,l',rest,rfl,h4,h5⟩;obtain⟨c,hc,rfl⟩:=l.all l' k h4 h5;exact⟨c,hc,_,rfl,h3,l',rest,rfl,((l.ok c hc).2.2 l').mpr h5⟩
 ·obtain⟨j,rfl⟩:∃k,j=k+1:=⟨j - 1,by have:=of_decide_eq_false e; lia⟩;refine eV (bL aa (y _ _ ob) rfl λF s2=>(ay aa λ_ _=>ay aB λ_ _=>ay aa λ_ _=>aC aa) _ λH3 s3=>?_);have m:=y.trans (s2.trans s3);exact⟨p,V,j,h,j+1,0,n,ls,A,W,M,G,L,h+1,x,ts,rfl,by lia,by simp,by symm,Au,by lia,S.same m,hn,J,hL,λr Y H' go' is'=>kk r Y H' (go'.pre m) is'⟩
end
end eK
namespace ju
open PySem
theorem IA (b:0<=x)(c:0<=y):Builtin.bitAnd x y≠0↔∃f,bit x f/\bit y f:=by
 obtain⟨e,g⟩:=xO b c;constructor
 ·intro d;have:(Builtin.bitAnd x y).toNat≠0:=by lia
  obtain⟨i,j⟩:=Nat.exists_testBit_of_ne_zero this;have h:bit _ (i - 1):=⟨e,by lia,by ext⟩;grind
 ·rintro⟨f,a⟩;exact sU ((g f).mpr a)
theorem Fq:∀(d:List Int) (lo:Int),-1<=lo->d.Pairwise (· < ·)->(∀f∈d,lo<=f)->∃q:Nat,(d.map cY).sum=((2 ^ (lo+1).toNat * q:Nat):Int)/\∀g,bit ((d.map cY).sum) g↔g∈d
 | [],lo,_,_,_=>⟨0,by rfl,λg=>⟨λz=>absurd rfl (sU z),by simp⟩⟩| f::d,lo,n,i,r=>by
  obtain⟨u,t⟩:=zCr.mp i;have o:=r f zAb;obtain⟨q,e,v⟩:=Fq d (f+1) (by lia) t λg s=>by have:=u g s; symm
  have p:(f+1+1).toNat=(f+1).toNat+1:=by lia
  rw[p] at e;generalize j:(f+1).toNat=k at *;have h:((f::d).map cY).sum=((2 ^ (k+1) * q+2 ^ k:Nat):Int):=by rw[zA2,List.sum_cons,e,Cm,j];push_cast;lia
  have m:(lo+1).toNat<=k:=by lia
  refine⟨2 ^ (k - (lo+1).toNat) * (2 * q+1),?_,λg=>?_⟩
  ·rw[h];congr 1;rw[<-Nat.mul_assoc,<-Nat.pow_add,show (lo+1).toNat+(k - (lo+1).toNat)=k by ext,Nat.pow_succ,Nat.mul_add,Nat.mul_one,Nat.mul_assoc]
  ·rw[wS,<-v g,h,e];unfold bit;rw[zA9,zA9];have l:2 ^ k < 2 ^ (k+1):=Nat.pow_lt_pow_right (by decide) (by simp);rw[Nat.testBit_two_pow_mul_add _ l,Nat.testBit_two_pow_mul,Nat.testBit_two_pow];by_cases c:(g+1).toNat < k+1
   ·rw[u1 c];constructor
    ·rintro⟨_,b,a⟩;exact .inl (by have:=zAr a; grind)
    ·rintro (b | ⟨_,b,a⟩);·exact⟨by lia,by lia,zAa (by rw[b]; ext)⟩
     ·rw[zAp (by grind)] at a;exact absurd a (by simp)
   ·rw[xL c];constructor
    ·rintro⟨_,b,a⟩;exact .inr ⟨by lia,b,by rw[zAa (by grind),Bool.true_and]; exact a⟩
    ·rintro (b | ⟨_,b,a⟩);·exfalso; rw[b] at c; ext
     ·rw[zAa (by ext),Bool.true_and] at a;exact⟨by lia,b,a⟩
end ju
namespace WD
open PySem PySem.Spec PyProof.Rows L2 ju TB
section
variable {P:zAA}{w:zAD}{K:zzA}{H H':Hp}{M:Mp}{G G':Gs}{L:Nat}{a p:M1}{ts:cZ}{d:Nat}{n r:Int}
noncomputable def cC (m:Nat):Nat->Nat| 0=>1| d+1=>(m+1) * cC m d+2
noncomputable def wG (G:Gs)(ts:cZ)(d:Nat)(n:Int):List Int->Prop:=λb=>∃l,Mem G (d+1) n (b++[l])/\[l,b.getLastD 0,-1,-1]∈ts
theorem Bm (X:Ext G G')(h:Num G (d+1) n)(b:List Int):wG G' ts d n b↔wG G ts d n b:=by unfold wG;simp only [bR X _ _ _ h]
theorem Uv (b:WF G')(X:Ext G G')(h:Num G (d+1) n)(q:Is G' d r (wG G ts d n)):LO ts G' n r:=by
 intro e i;by_cases g:n=0
 ·subst g;obtain rfl:=is_none b q λf ⟨l,c,_⟩=>bX X.w c;exact⟨.zero,λf=>⟨λz=>absurd z (bX b),λ⟨l,c,_⟩=>absurd c (bX b)⟩⟩
 ·obtain rfl:=(h.ext X).depth i g;exact q.iff λf=>(Bm X h f).symm
theorem xP (o:Gv c σ H (.ref a))(m:∀H',ah H H'->Gv g σ H' (.int f))(e:H a=some (.dK kvs))(j:cU kvs (.inl f)=some v):Gv (Dg c g) σ H v:= λR r=>o _ λl b=>m l b _ λi h=>⟨a,v,rfl,(by have:=mZ.k (k:=.inl f) ((b.trans h) _ _ e); rw[j] at this; symm),r i (b.trans h)⟩
theorem Rr (i:Gv g σ H (.int f))(m:∀H',ah H H'->Gv h σ H' (.ref a))(e:H a=some (.dK kvs)):Gv (A5 g h) σ H (.bl (!(cU kvs (.inl f)).isSome)):= λR r=>i _ λl b=>m l b _ λj c=>⟨a,_,rfl,mZ.k (k:=.inl f) ((b.trans c) _ _ e),r j (b.trans c)⟩
noncomputable def Pw (K:zzA)(P:zAA)(w:zAD)(M:Mp)(G:Gs)(H:Hp)(p a:M1)(i:Nat)(S:Gs->Int->V->Prop)(n:Int)(R:VK):L2.St->Hp->Prop:=λc H'=>∃G' f,Go K P w M G H f G' H'/\c[0]?=some (some (.ref p))/\c[i]?=some (some (.int n))/\(∃b v,H' a=some (.dK b)/\cU b (.inl n)=some v)/\∀v e,ah H' e->S G' n v->R v e
variable {i:Nat}{f:Str}{tb:TS}{te:TE}{D:Ends}{σ:L2.St}{C dx:M1}{fs:List (Str × V)}{S:Gs->Int->V->Prop}
theorem N6 (c:gk K C)(h:aS K C f)(l:fs.lookup f=some (.ref a))(k:H p=some (.ins C dx fs))(y:σ[0]?=some (some (.ref p)))(z:σ[i]?=some (some (.int n)))(W:Wd K P w M G L H)(A:M a=some (.dk S))(O:M p=none)(T:∀v b,ah H b->S G n v->D.rt v b) (I:∀b nx,ah H b->(∀q H',Pw K P w M G H p a i S n D.rt q H'->nx q H')->tb { D with nx:=nx } σ b) : fj (vp (tB (A5 (b_ i) (jV K (b_ 0) f))) tb tV) (DH (Dg (jV K (b_ 0) f) (b_ i))) D σ H:=by
 obtain⟨hS,o,x,k2,U⟩:=W.kd _ _ A;refine fC (iX (Rr (aa z) (λZ F=>dO (aa y) (F _ _ k) c h l) x)) (λe b g=>?_) λe b g=>?_
 ·refine I b _ g λq H' E=>?_;obtain⟨G',Y,t,X,Q,⟨kv,v,B,u⟩,N⟩:=E;obtain⟨_,J,q1,q2,R⟩:=t.wd.kd _ _ A;rw[B] at q1;cases q1;exact b8 (xP (dO (aa X) (t.kw.keep _ _ k O) c h l) (λ_ _=>aa Q) B u) λs m=>N v s m (R n v u)
 ·cases j:cU o _ with| none=>rw[j] at e; cases e| some v=>exact b8 (xP (dO (aa y) (g _ _ k) c h l) (λ_ _=>aa z) (g _ _ x) j) λs m=>T v s (g.trans m) (U n v j)
theorem Ft {e:Hp}{k:Gs}{R:VK}{nx:L2.St->Hp->Prop}(c:gk K C)(W:aS K C f)(l:fs.lookup f=some (.ref a))(T:e p=some (.ins C dx fs))(B:σ[0]?=some (some (.ref p)))(F:σ[i]?=some (some (.int n)))(t:M a=some (.dk S))(Y:M p=none)(J:∀x H',Pw K P w M k e p a i S n R x H'->nx x H') (hv:∀Q:VK,(∀v s G' h,Go K P w M k e h G' s->h < PK->S G' n v->(∀b I,Go K P w M k e (h+1) G' I->S G' n b->R b I)->Q v s)->te σ H Q) : O6 (jV K (b_ 0) f) (b_ i) te { D with nx:=nx } σ H:=by
 refine hv _ λv s G' h j hl hs O=>?_;obtain⟨U,m,y,k2,X⟩:=j.wd.kd _ _ t;refine wA (dO (aa B) (j.kw.keep _ _ T Y) c W l) (λ_ _=>aa F) y (by lia) λE A=>J σ _ ⟨G',h+1,?_,B,F,⟨_,v,ao,by rw[yL,u1 rfl]⟩,?_⟩;all_goals
  have g:=j.st A;have mu:eB (E a):=by rw[A _ _ y]; exact True.intro
  have W4:Wd K P w M G' _ (upd E a (.dK (putK m _ v))):=g.wd.put t (zC9 _) ⟨U,_,ao,zAu (q7 _ _ _) (by ext),λu b z=>by
   rw[yL] at z;by_cases q:(Sum.inl u:Key)=.inl n
   ·rw[u1 q] at z;injection q with q;rw[q,<-zA4 z]; symm
   ·rw[xL q] at z;exact X u b z⟩;have o:Go K P w M k e _ G' _:=⟨W4,j.ex,g.kw.trans (.put t mu)⟩
 ·symm
 ·exact λb N s5 Z=>O b N (o.st s5) Z
theorem Uw (W:WF G)(R:Num G 1 n)(h:rK ts ps)(y:∀q,keep q=decide (Builtin.bitAnd q.2 (b6 ps q.1)≠0)):Is G 0 (((aX G n).filter keep).map λq=>cY q.1).sum (wG G ts 0 n)/\(∀k∈((aX G n).filter keep).map (λq=>cY q.1),0<=k)/\(((aX G n).filter keep).map λq=>cY q.1).sum < 2 ^ 17:=by
 obtain⟨g,_,_,_⟩:=W.aX R;have Q:=W.few;have j:(((aX G n).filter keep).map _).Pairwise _:=zAl.mpr (List.Pairwise.filter _ g.rise);have z:∀f:Int,f∈((aX G n).filter keep).map (λq=>q.1)->-1<=f/\f < G.m:=λf x=>by obtain⟨q,F,rfl⟩:=q0.mp x;exact g.fld q (by grind)
 obtain⟨_,_,c⟩:=Fq _ (-1) (by decide) j (by grind);have s:(((aX G n).filter keep).map λq=>q.1).map cY=((aX G n).filter keep).map λq=>cY q.1:=by simp
 rw[s] at c;have B:∀k∈((aX G n).filter keep).map (λq=>cY q.1),0<=k:=λk y=>by obtain⟨q,_,rfl⟩:=q0.mp y;exact zDj (lg _)
 have u:0<=(((aX G n).filter keep).map λq=>cY q.1).sum:=by ext
 have m:=nQ u λf x=>(z f ((c f).mp x)).2;have I:(2:Int) ^ (G.m+1)<=2 ^ 17:=by have:(2:Nat) ^ (G.m+1)<=2 ^ 17:=Nat.pow_le_pow_right (by decide) (by ext);exact_mod_cast this
 refine⟨⟨⟨u,m⟩,λfs=>⟨?_,?_⟩⟩,B,by grind⟩
 ·rintro⟨f,rfl,x⟩;obtain⟨q,F,rfl⟩:=q0.mp ((c f).mp x);obtain⟨t,e⟩:=zBf.mp F;rw[y] at e;obtain⟨l,N,E⟩:=(IA (g.num q t).nonneg (h.nn _)).mp (zAr e);exact⟨l,⟨q.1,[l],q.2,rfl,t,l,rfl,N⟩,(h.is _ l).mp E⟩
 ·rintro⟨l,⟨f,U,J,e,o,O,rfl,T⟩,E⟩;cases fs with| nil=>simp at e| cons f0 v=>
   simp at e;obtain⟨rfl,A⟩:=e;obtain⟨rfl,rfl⟩:v=[]/\l=O:=by cases v with| nil=>simp at A; exact⟨rfl,A⟩| cons a b=>simp at A
   exact⟨f0,rfl,(c f0).mpr (q0.mpr ⟨(f0,J),zBf.mpr ⟨o,by rw[y]; exact zAa ((IA (g.num _ o).nonneg (h.nn _)).mpr ⟨l,T,(h.is f0 l).mpr E⟩)⟩,rfl⟩)⟩
theorem Rt (fs:List Int):(∃q∈aX G n,∃r,fs=q.1::r/\wG G ts d q.2 r)↔wG G ts (d+1) n fs:=by
 constructor
 ·rintro⟨q,m,r,rfl,l,c,j⟩;have h:=sQ _ _ _ c;refine⟨l,⟨q.1,r++[l],q.2,rfl,m,c⟩,?_⟩;cases r with| nil=>simp at h| cons a b=>simpa using j
 ·rintro⟨l,⟨f,s,o,e,k,c⟩,j⟩;have h:=sQ _ _ _ c;cases fs with| nil=>simp at e; rw[e.2] at h; simp at h| cons f0 g=> simp at e;obtain⟨rfl,rfl⟩:=e;refine⟨(f0,o),k,g,rfl,l,c,?_⟩;cases g with| nil=>simp at h| cons a b=>simpa using j
end
end WD
namespace eK
open PySem PySem.Spec PyProof.Rows L2 ju TB WD
section
variable {P:zAA}{w:zAD}{K:zzA}{mg:Str->Option Value}{base:Heap}{t:Ad}
inductive Cs (K:zzA)(P:zAA)(w:zAD)(CF C:M1)(N:Nat)(vs:List V)(H:Hp)(Q:VK)(E_:XK):Prop| mk (p sa:M1) (d:Nat) (n:Int) (A:FA) (W:WA) (M:Mp) (G:Gs) (L h:Nat) (x:Str) (ts:cZ):vs=[.ref p,.int ((d+1:Nat):Int),.int n]->d < N->Al K P w CF C M G L H p sa A W x h ts->Num G (d+1) n->L+cC G.m d<=15000000->(∀r G' H',Go K P w M G H (L+cC G.m d) G' H'->Is G' d r (wG G ts d n)->Q (.int r) H')->Cs K P w CF C N vs H Q E_
theorem l8:aJ ["self","depth","front","branches"] ["self","depth","front"] (aE h_):=cH
theorem Ax (T:Txt K mg t):∀N:Nat,aL P w K mg base bI (N+2) t.sE t.jK ["self","depth","front"] (Cs K P w t.aD t.bq N):=by have o:=qR (P:=P) (w:=w) (base:=base) T;have a:=bh (P:=P) (w:=w) (base:=base) T;intro N;induction N with| zero=> refine T.lZ.fn.ok l8 (λvs H Q E h=>?_) (λcdv Ar Y sh H vs Q E B h=>?_) <;> obtain⟨p,sa,d,n,A,W,M,G,L,h,x,ts,rfl,hj,_⟩:=h <;> exact absurd hj (Nat.not_lt_zero _)| succ N f=>
 refine T.lZ.fn.ok l8 (λvs H Q E h=>?_) (λcdv Ar Y sh H vs Q E B h=>?_)
 ·obtain⟨p,sa,d,n,A,W,M,G,L,h,x,ts,rfl,_⟩:=h;rfl
 obtain⟨p,sa,d,n,A,W,M,G,L,h,x,ts,rfl,hdN,S,U,hL,kk⟩:=h;refine⟨_,(aj (bT (lE (La (iF B) (pv 2) (aZ K (pv 0)))) (aj (bF 3 l8.nd (aO (c_ K) (aZ K (aZ K (pv 0))) (pv 2) (λ_ _=>rfl))) (au (bT (bw d_ (pv 1) av rfl) (au (oW (iF B) (aZ K (pv 0)) (pv 2) (aI (XR K) (by rfl) T.VO boot_sum (af (iD ["field","lefts","self"] [none,none,some 0] (qA K (pv 3)) (λ_ _ _ _ nd=>⟨(kG K (n:=2) (bg (bE 0 nd) (bg (bE 1 nd) gn))),(zK (Em K (aF vz (pv 1) (m5 (iF B) (aZ K (pv 2)) (pv 0) av ⟨rfl,rfl,rfl,rfl⟩)) (λ_=>rfl))),(cD T.sJ o B aN (af (pv 0) ai))⟩)) ai)) rfl)) (au (oW (iF B) (aZ K (pv 0)) (pv 2) (cM T.bu T.aV a B aN (aZ K (pv 0)) (af (aF dD (pv 1) av) (af (iD ["field","part","self","depth"] [none,none,some 0,some 1] (qA K (pv 3)) (λ_ _ _ _ nd=>⟨(kG K (n:=2) (bg (bE 0 nd) (bg (bE 1 nd) gn))),cE,(b7 (af (pv 0) (af (cM T.lZ T.d8 f B aN (pv 2) (af (aF dD (pv 3) av) (af (pv 1) ai))) ai)))⟩)) ai))) rfl))))) bf) (au (aH (HX (iF B) (aZ K (pv 0)) (pv 2) (λ_ _=>rfl))))),?_⟩;obtain⟨dx,ob⟩:=S.wo.ob;obtain⟨s,_,_,hnl⟩:=S.wd.wf.aX U;have few:=S.wd.wf.few;refine N6 S.wo.cl S.wo.n8 rfl ob rfl rfl S.wd S.wo.dk S.wo.mp (λv H1 s1 ⟨_,_,r,hr',hS⟩=>?_) λH1 nx s1 oA=>?_
 ·rw[hr'];exact kk r G H1 (S.wd.go s1 (by simp)) (hS d U)
 have fin:∀(r:Int) (l:Gs) (I:Nat) (u:Hp) (Q':VK),Go K P w M G H I l u->I+1<=L+cC G.m d->Is l d r (wG G ts d n)->(∀v H1 l I,Go K P w M G H I l H1->I < PK->wD ts l n v->(∀v' D,Go K P w M G H (I+1) l D->wD ts l n v'->Q v' D)->Q' v H1)->Q' (.int r) u:=λr l I u Q' j hl is k=>by refine k _ u l I j (by rw[kA]; lia) ⟨U.nonneg,wT hnl j.ex.len,r,rfl,Uv j.wd.wf j.ex U is⟩ λv' D g hh=>?_;obtain⟨_,_,r',e',hS⟩:=hh;rw[e'];exact kk r' l D (g.le hl) ((hS d (U.ext g.ex)).iff λgs=>Bm g.ex U gs)
 refine hold λP_2 k_2=>?_;obtain⟨tt,F,hat,C,i8,_,hq2⟩:=(S.fo.same s1).at (S.wd.same s1) U;refine k_2 ?_;have nD:F.length<=G.m+1:=by have:=s.len; grind
 have hin:∀q∈F,q.2∈aX G n:=λq J=>by grind
 refine gZ (hat ((S.wo.same s1).gs aa) λ_ _=>aa) λD s2=>?_;have s02:=s1.trans s2;cases d with| zero=>
  refine je (b:=true) (cA (bA (dG aa (λ_ _=>aB) (by rfl))) (by rfl)) (λ_ H3 s3=>?_) λz=>absurd z (by decide);refine Ft S.wo.cl S.wo.n8 rfl ob rfl rfl S.wo.dk S.wo.mp oA λR q=>?_;have y:=s02.trans s3;obtain⟨Ux,c1,An⟩:=S.wo.An;refine t9 (vP (K:=K) aa ((s2.trans s3).tup i8) λH4 s4 Lz=>?_);have s04:=y.trans s4;let keep:Int × Int->Bool:=λq=>decide (Builtin.bitAnd q.2 (b6 Ux q.1)≠0);refine wj (xs:=F.map q1) (by rw[yB,kA]; lia) (λZ i ys u=>ah H4 u/\ys=(((F.take i).filter λq=>keep q.2).map λq=>cY q.2.1).map V.int) (λZ i ys u z=>⟨z.1.tup Lz,?_⟩) (λZ hZ=>⟨ah.new hZ _,by rfl⟩) (λZ i ys u v R R0 hZ ⟨sm,ey⟩ m hv ZP WI=>?_) λZ ys H8 hZ ⟨sm,ey⟩ m=>?_;·grind
  ·rw[vT] at hv;obtain⟨q,J,rfl⟩:=u3.mp hv;have sY:q∈F:=u4 J;have htk:F.take (i+1)=F.take i++[q]:=by rw[zAz,J]; rfl
   have hf:=s.fld _ (hin q sY);have s0H:=s04.trans sm;refine⟨q.1,_,rfl,(s2.trans (s3.trans (s4.trans sm))).tup (hq2 q sY),rfl,.int q.2.1,_,rfl,.int q.2.2,_,rfl,rfl,?_⟩;refine (aW aa λH9 s9=>aU (ng (dO aa ((s0H.trans s9) _ _ ob) S.wo.cl S.wo.n5 rfl) ((s0H.trans s9) _ _ c1) (λ_ _=>aa) λ_ _=>aB) (iJ Ux q.2.1)) _ λH9 s9=>⟨_,rfl,?_⟩;dsimp only;by_cases hz:Builtin.bitAnd q.2.2 (b6 Ux q.2.1)=0
   ·rw[xL (by simp [hz])];refine WI H9 (s9 _ _ m) ⟨sm.trans s9,?_⟩;rw[htk,List.filter_append,ey];simp [keep,hz]
   ·rw[u1 (by simp [hz])];refine (p_ (aC aa) hf.1 (by lia)) _ λHa sa'=>ZP _ Ha ((s9.trans sa') _ _ m) ⟨(sm.trans (s9.trans sa')).put hZ _,?_⟩;rw[htk,List.filter_append,ey];simp [keep,hz]
  rw[yB,zAj] at ey;obtain⟨is,hnn,ZQ⟩:=Uw (keep:=keep) S.wd.wf U An λ_=>rfl;have eb:((aX G n).filter keep).map (λq=>cY q.1)=(F.filter λq=>keep q.2).map λq=>cY q.2.1:=by rw[<-C,List.filter_map,zAf]; rfl
  rw[eb] at is hnn ZQ;exact⟨Z,_,rfl,az.of (by rw[m,ey]),hnn,by lia,fin _ G L H8 _ (S.wd.go (s04.trans sm) (y8 _)) (y8 _) is q⟩| succ d=>
  refine je (b:=false) (cA (bA (dG aa (λ_ _=>aB) (by rfl))) (zAp λz=>by injection z with z; lia)) (λz=>absurd z (by decide)) λ_ H3 s3=>?_;refine Ft S.wo.cl S.wo.n8 rfl ob rfl rfl S.wo.dk S.wo.mp oA λR q=>?_;have y:=s02.trans s3;have WH:L+((G.m+1) * cC G.m d+2)<=15000000:=hL;have O:∀i,i<=G.m+1->i * cC G.m d<=(G.m+1) * cC G.m d:=λi hi=>zB4 _ hi;obtain⟨WB,LQ⟩:=S.fo.ob;refine bL ((S.wo.same y).gs aa) (y _ _ LQ) rfl λH4 s4=>qP (v:=.int ((d+1:Nat):Int)) (aU (aW aa λ_ _=>aB) (by congr 1; simp)) λH5 s5=>Ij ?_;have X:=s2.trans (s3.trans (s4.trans s5));refine vP (K:=K) aa (X.tup i8) λH6 s6 ZR=>?_;have WJ:=s1.trans (X.trans s6);have S6:=S.same WJ;refine Fd (S:=λq=>wG G ts d q.2) (e:=d) (c:=cC G.m d) (by lia) ZR (λq J=>(X.trans s6).tup (hq2 q J)) S6.wd (λ_ _=>rfl) (λi q l u R J j k=>?_) λZ gs l u hZ j m hg z=>?_
  ·have hc1:=O (i+1) (by have:=(xI.mp J).1; lia);rw[zBi] at hc1;have nq:=s.num _ (hin q (u4 J));have Si:=S6.go j;obtain⟨Im,qS⟩:=Si.wo.ob;refine bL aa qS rfl λHc sc=>(ay (v:=.int ((d+1:Nat):Int)) (aU (aW aa λ_ _=>aB) (by congr 1; simp)) λHd sd=>aC aa) _ λHe se=>?_;have sce:=sc.trans se;refine⟨p,sa,d,q.2.2,A,W,M,l,_,h,x,ts,rfl,by ext,Si.same sce,nq.ext j.ex,by rw[j.ex.m]; lia,λr G2 D g is2=>?_⟩;rw[j.ex.m] at g;exact k r G2 D (g.pre sce) (is2.iff λfs=>Bm j.ex nq fs)
  ·have hc0:=O F.length nD;refine⟨sa,Z,d,A,M,l,_,gs,rfl,(S6.go j).fo,j.wd,az.of m,hg,z.uU (by rw[C]; exact s.rise) (by rw[C,j.ex.m]; exact s.fld),by lia,λr G2 D g is2=>?_⟩;exact fin r G2 _ D _ ((j.trans g).pre WJ) (by show _<=L+((G.m+1) * cC G.m d+2); lia) (is2.iff λfs=>(z.Ph fs).trans (by rw[C]; exact Rt fs)) q
theorem Uy (K:zzA)(h:X.K=K:=by rfl):uL X (Sh K):=h ▸ Sk
noncomputable def Sq (K:zzA)(H:Hp)(a:M1)(xs:List V):Prop:=az K H a xs\/aG K H a xs
theorem LU {K:zzA}(h:Gv l σ H (.ref a))(g:∀H',ah H H'->Gv f σ H' (.int i))(b:Sq K H a xs)(j:j4 xs i=some v):Gv (dz (Sh K) l f) σ H v:=λR r=>h _ λm c=>g m c _ λk d=>by
 rcases b with b | b;·exact .inl ⟨a,xs,i,v,rfl,rfl,(c.trans d).seq b,j,r k (c.trans d)⟩
 ·exact .inr (.inl ⟨a,xs,i,v,rfl,rfl,(c.trans d).tup b,j,r k (c.trans d)⟩)
theorem Ru {K:zzA}(h:Ga d σ H [.ref a])(b:Sq K H a xs):Gv (pA (λxs H Q=>∃x n,xs=[x]/\tY K x H n/\Q (.int n) H) d) σ H (.int xs.length):=vL h λ_ s=>by
 rcases b with b | b;·exact .inl ⟨xs,s.seq b,rfl⟩
 ·exact .inr ⟨xs,s.tup b,rfl⟩
theorem N7 {xs:List V}(h:k < xs.length):j4 xs (-1 - (k:Int))=xs[xs.length - 1 - k]?:=by unfold j4 DS;rw[xL (by lia),u1 (by lia)];show xs[_]?=_;congr 1;lia
theorem drop_one {l:List Int}(h:k < l.length):l.drop k=l.getD k 0::l.drop (k+1):=by ext
theorem Bo:∀(l a b:List Int),HT.lexLt (l++a) (l++b)=HT.lexLt a b| [],a,b=>rfl| x::l,a,b=>by rw[List.cons_append,List.cons_append,HT.ee,u1 rfl]; exact Bo l a b
theorem N8 {c:TA}{g:TG}{b us:TS}{D:Ends}{σ:L2.St}{H:Hp}{lo n:Nat}(h:Ga c σ H [.int (lo:Int),.int ((lo+n:Nat):Int)])(o:lo+n<=1000)(a:Nat->L2.St->Hp->Prop)(j:∀H',ah H H'->a 0 σ H')(l:∀i σ H,i < n->a i σ H->g (.int ((lo:Int)+(i:Int))) σ H λf d=>b { D with nx:=a (i+1),ct:=a (i+1),bk:=us D } f d) (m:∀σ H,a n σ H->us D σ H):fj (mQ (Jj c) g b) us D σ H:= h _ λH' s=>⟨(lo:Int),((lo+n:Nat):Int),rfl,(by lia),by
  have e:(((lo+n:Nat):Int) - (lo:Int)).toNat=n:=by lia
  rw[e];exact BQ (lo:=(lo:Int)) (n:=n) (D:={ D with nx:=us D }) a (j H' s) l m⟩
inductive wH (vs:List V)(H:Hp)(Q:VK)(E_:XK):Prop| mk (n:Int):vs=[.int n]->(∀H',ah H H'->Q (.int (iS n)) H')->wH vs H Q E_
theorem Bp:aJ ["bits"] ["bits"] (aE iQ):=cH
theorem Bq (T:Txt K mg t):aL P w K mg base bI 1 t.uR t.kK ["bits"] wH:=by
 refine T.yb.fn.ok Bp (λe H Q E h=>?_) (λb A a s H e Q E g h=>?_)
 ·obtain⟨f,rfl,_⟩:=h;rfl
 obtain⟨n,rfl,k⟩:=h;refine⟨_,(au (aH (aF dD (NO K PySem.F.plainAttrs_int PySem.F.slot_int_bit_length PySem.F.type_int_bit_length Lk (aF vz (pv 0) (qw nH (pv 0)))) av))),?_⟩;refine b8 (v:=.int (iS n)) (aW (λR r=>(aW aa λ_ _=>zU aa) _ λc d=>⟨rfl,_,rfl,rfl,r c d⟩) λ_ _=>aB) ‹_›
inductive Fv (K:zzA)(P:zAA)(w:zAD)(C:M1)(vs:List V)(H:Hp)(Q:VK)(E_:XK):Prop| mk (s fa:M1) (fl:List Int) (A:FA) (M:Mp) (G:Gs) (L:Nat):vs=[.ref s,.ref fa]->Fo K C M H s A->Wd K P w M G L H->(∀H',Kw M H H'->Sq K H' fa (fl.map V.int))->fl≠[]->fl.length<=10->(∀f∈fl,-1<=f/\f < G.m)->L<=15000000->(∀r G' H',Go K P w M G H (L+fl.length) G' H'->Is G' (fl.length - 1) r (λfs=>fs=fl)->Q (.int r) H')->Fv K P w C vs H Q E_
theorem fM:aJ ["self","fields","number","depth"] ["self","fields"] (aE dZ):=cH
theorem l9 (T:Txt K mg t):aL P w K mg base bI 2 t.mG t.gj ["self","fields"] (Fv K P w t.aD):=by
 have c:=qR (P:=P) (w:=w) (base:=base) T;have a:=bh (P:=P) (w:=w) (base:=base) T;refine T.jX.fn.ok fM (λvs H Q E h=>?_) (λcdv Ar outer sh H vs Q E hr h=>?_)
 ·obtain⟨s,fa,b,A,M,G,L,rfl,_⟩:=h;rfl
 obtain⟨s,fa,b,A,M,G,L,rfl,F,W,u,hne,hlen,hfl,hL,kk⟩:=h;refine⟨_,(aj (bF 2 fM.nd (cD T.sJ c hr aN (af (aO (Uy K) (pv 1) (qw nH av) (λ_ _=>rfl)) ai))) (aj (cQ zA3 rfl (BP rfl T.gv (af av (af (aI (g5 K) (by rfl) T.ff zB3 (af (pv 1) ai)) ai))) (bE 3 fM.nd) (au (bF 2 fM.nd (cM T.bu T.aV a hr aN (pv 0) (af (pv 3) (af (bH (af (b7 (af (aO (Uy K) (pv 1) (aF dD (qw nH av) (pv 3)) (λ_ _=>rfl)) (af (pv 2) ai))) ai)) ai)))))) (au (aH (pv 2))))),?_⟩;obtain⟨n,hn⟩:∃n,b.length=n+1:=⟨b.length - 1,by have:=zDn.mpr hne; lia⟩;have few:=W.wf.few;have y:∀k,k<=n->j4 (b.map V.int) (-1 - (k:Int))=some (.int (b.getD (n - k) 0))/\-1<=b.getD (n - k) 0/\b.getD (n - k) 0 < G.m:=λk hk=>by
  have N:n - k < b.length:=by grind
  have e1:b.getD (n - k) 0=b[n - k]:=by grind
  refine⟨?_,by ext,by ext⟩;rw[N7 (by grind),yB,show b.length - 1 - k=n - k by ext,vT,y2 N,e1];rfl
 obtain⟨z,e,ZS⟩:=y 0 (zAd _);rw[Nat.sub_zero] at z e ZS;refine gZ (p_ (aC (LU (K:=K) aa (λ_ _=>zU aB) (u H .refl) z)) e (by lia)) λH1 s1=>?_;refine N8 (lo:=1) (n:=n) (ay aB λv m=>aC (aU (Ru (K:=K) (aC aa) (u v (.same (s1.trans m)))) (by grind))) (by lia) (λi σ J=>∃e3 C r,σ=[some (.ref s),some (.ref fa),some (.int r),e3]/\Go K P w M G H (L+i) C J/\Is C i r λU=>U=b.drop (n - i)) (λv m=>⟨none,G,_,by first | rfl,W.go (s1.trans m) (y8 _),?_⟩) (λi σ J hi Z=>?_) fun σ J Z=>?_
 ·rw[Nat.sub_zero,drop_one (by ext),List.drop_eq_nil_of_le (by ext)];refine⟨⟨zDj (lg _),nQ (zDj (lg _)) λf hf=>?_⟩,λU=>⟨?_,?_⟩⟩;·rw[(kW e f).mp hf]; symm
  ·rintro⟨f,rfl,hf⟩;rw[(kW e f).mp hf]
  ·rintro rfl;exact⟨_,rfl,(kW e _).mpr rfl⟩
 ·obtain⟨e3,I,r,rfl,o,d⟩:=Z;obtain⟨D,O,Y⟩:=y (i+1) ‹_›;have Fi:=F.kw o.kw;obtain⟨Im,qS⟩:=Fi.ob;refine bL aa qS rfl λv m=>?_;refine (aa (by rfl)) _ λH3 s3=>?_;have x:=m.trans s3;refine Ij (Fc (nR (v1:=.int (b.getD (n - (i+1)) 0)) (LU (K:=K) (i:=-1 - ((i+1:Nat):Int)) aa (λ_ _=>aU (aW (zU aB) λ_ _=>aa) (by grind)) (u _ (o.kw.st x)) D) λH4 s4=>(aa (by rfl)) _ λH5 s5=>⟨(by decide),λnt R=>⟨(by decide),λl hl=>?_⟩⟩));have j:=(x.trans (s4.trans s5)).trans ((ah.new R (.tup [.int (b.getD (n - (i+1)) 0),.int r])).trans (ah.new hl (.lst [.ref nt])));refine⟨s,l,i,A,M,I,L+i,[(nt,b.getD (n - (i+1)) 0,r)],?_,Fi.same j,o.wd.same j,az.of ao,λq hq=>?_,⟨by simp,by rw[o.ex.m]; simpa using ⟨O,Y⟩,by simpa using d.1⟩,by lia,λr' C Hf X S=>?_⟩
  ·show [V.ref s,V.int (((1:Nat):Int)+(i:Int)),V.ref l]=_;congr 3;lia
  ·rw[zAc.mp hq];exact (ah.new hl (.lst [.ref nt])).tup gQ
  ·refine⟨_,C,r',rfl,o.trans (X.pre j),S.iff λU=>?_⟩;rw[drop_one (show n - (i+1) < b.length by grind),show n - (i+1)+1=n - i by lia];constructor
   ·rintro⟨f,g,p,rfl,B,hg⟩;simp at B;obtain⟨rfl,rfl⟩:=B;rw[(d.2 g).mp hg,y6]
   ·rintro rfl;exact⟨_,_,r,rfl,by simp,(d.2 _).mpr rfl⟩
 ·obtain⟨e3,I,r,rfl,o,d⟩:=Z;refine b8 aa λv m=>kk r I v ((o.st m).le (by ext)) ?_;rw[hn,zBj];rw[zDk,List.drop_zero] at d;exact d
inductive Fw (K:zzA)(P:zAA)(w:zAD)(C:M1)(vs:List V)(H:Hp)(Q:VK)(E_:XK):Prop| mk (s:M1) (d:Nat) (n:Int) (A:FA) (M:Mp) (G:Gs) (L:Nat):vs=[.ref s,.int (d:Int),.int n]->Fo K C M H s A->Wd K P w M G L H->Num G d n->n≠0->G.m<=5->d<=10->(∀p fl H',ah H H'->aG K H' p (fl.map V.int)->Mem G d n fl->(∀fs,Mem G d n fs->HT.lexLt fs fl=false)->Q (.ref p) H')->Fw K P w C vs H Q E_
theorem d7:aJ ["self","depth","number","found","left","first"] ["self","depth","number"] (aE eN):=cH
theorem u6 (T:Txt K mg t):aL P w K mg base bI 2 t.nO t.gF ["self","depth","number"] (Fw K P w t.aD):=by
 have a:=Bq (P:=P) (w:=w) (base:=base) T;refine T.pS.fn.ok d7 (λvs H Q E h=>?_) (λcdv Ar outer sh H vs Q E hr h=>?_)
 ·obtain⟨s,d,n,A,M,G,L,rfl,_⟩:=h;rfl
 obtain⟨s,d,n,A,M,G,L,rfl,F,W,hn,n0,hm,hd,kk⟩:=h;refine⟨_,(aj (bF 3 d7.nd (bH ai)) (aj (cQ zA3 rfl (fP rfl T.gv (af (pv 1) ai)) (bE 4 d7.nd) (aj (bF 5 d7.nd (aO (eG K) (aO (c_ K) (aZ K (pv 0)) (pv 2) (λ_ _=>rfl)) av (λ_ _=>rfl))) (aj (dR (ou K zA0 zA5 zA6 eF (pv 3) (af (aO (eG K) (pv 5) av (λ_ _=>rfl)) ai))) (au (bF 2 d7.nd (aO (eG K) (pv 5) av (λ_ _=>rfl))))))) (au (aH (jb (Te K) (by rfl) T.Ba boot_tuple (af (aF gU (pv 3) (bH (af (cD T.yb a hr aN (af (pv 2) ai)) ai))) ai)))))),?_⟩;obtain⟨dx,ob⟩:=F.ob;refine aP ⟨(by simp),λZ hZ=>?_⟩;refine sM (n:=d) (aC aa) (by lia) (λi σ O=>i<=d/\∃e4 e5 f o,σ=[some (.ref s),some (.int (d:Int)),some (.int f),some (.ref Z),e4,e5]/\ah H O/\O Z=some (.lst (o.map V.int))/\o.length=i/\Num G (d - i) f/\f≠0/\(∀g,Mem G (d - i) f g->Mem G d n (o++g))/\ ∀J,Mem G d n J->(∃g,J=o++g/\Mem G (d - i) f g)\/∀g,HT.lexLt J (o++g)=false) (λH1 N=>⟨zAd _,none,none,n,[],by rfl,(ah.new hZ _).trans N,N _ _ ao,rfl,hn,n0,λg h=>h,(by ext)⟩) (λi σ O hi hP=>?_) fun σ O hP=>?_
 ·refine hold λP_2 k_2=>?_;obtain⟨_,e4,e5,f,o,rfl,sm,u,hfl,c,Y,m,b⟩:=hP;obtain⟨k,hk⟩:∃k,d - i=k+1:=⟨d - i - 1,by grind⟩;refine k_2 ?_;have B:d - (i+1)=k:=by grind
  rw[hk] at c m b;have Fi:=F.same sm;refine hold λZT Uz=>?_;obtain⟨tt,qs,hat,eqs,i8,_,hq2⟩:=Fi.at (W.same sm) c;obtain⟨r,bz,bne,_⟩:=W.wf.aX c;obtain⟨q,qr,rfl⟩:∃q qr,qs=q::qr:=by cases qs with| nil=>ext| cons q qr=>simp
  refine Uz ?_;have x:q.2∈aX G f:=by grind
  refine gZ (v:=.ref q.1) (fV (K:=K) (hat aa λ_ _=>aa) (λ_ _=>aB) i8 (cN (j:=0) rfl)) λH2 C=>?_;have y:=C.tup (hq2 q zAb);refine LD aa (C _ _ u) (λH3 S=>fV (K:=K) aa (λ_ _=>aB) (S.tup y) rfl) (by rw[yB,kA]; lia) λH3 S=>?_;have ZU:eB (H3 Z):=by rw[(C.trans S) _ _ u]; exact True.intro
  refine Ej (v:=.int q.2.2) (fV (K:=K) aa (λ_ _=>aB) ((Tk.put ZU).tup (S.tup y)) rfl) λH4 s4=>?_;refine⟨by symm,_,_,q.2.2,o++[q.2.1],rfl,((sm.trans (C.trans S)).put hZ _).trans s4,s4 _ _ (by rw[ao,v3]; rfl),by ext,by rw[B]; exact r.num _ x,bz _ x,λg U=>?_,λJ I=>?_⟩
  ·rw[B] at U;rw[zAv];exact m _ ⟨q.2.1,g,q.2.2,rfl,x,U⟩
  ·rcases b J I with ⟨g,rfl,f',tl',p',e,D,X⟩ | h
   ·subst e;by_cases hf:f'=q.2.1
    ·left;subst hf;have e1:=oY r.nd D;have e2:=oY r.nd (show (q.2.1,q.2.2)∈aX G f from x);rw[e2] at e1;refine⟨tl',by simp,?_⟩;rw[B,e1];exact X
    ·right;intro g;rw[zAv,Bo,List.singleton_append,HT.ee,xL hf];refine zAp ?_;have:q.2.1 < f':=by
      rw[<-eqs] at D;have hr:=r.rise;rw[<-eqs] at hr;rcases wS.mp D with z | z;·exact absurd (zA7 Prod.fst z) hf
      ·exact (zCr.mp hr).1 _ z
     lia
   ·right;intro g;rw[zAv];exact h _
 ·refine hold λTZ Fg=>?_;obtain⟨_,e4,e5,f,o,rfl,sm,u,hfl,c,Y,m,b⟩:=hP;refine Fg ?_;rw[zDk] at c m b;obtain⟨l1,l2⟩:=NU hm c.1 c.2 Y;refine t9 ((aa (by rfl)) _ λH1 N=>Fc ((gr (sp:=wH) (v:=.int (iS f)) (aC aa) λO R s k=>⟨f,rfl,k⟩) _ λH2 C=>⟨(by show 1<=PK; decide),λl hl=>?_⟩));have WK:ah H2 (upd H2 l (.lst [.int (iS f)])):=ah.new hl _;refine⟨Z,l,o.map V.int,[.int (iS f)],rfl,rfl,(N.trans (C.trans WK)) _ _ u,ao,by rw[yB,kA]; simp; lia,λq hq=>⟨q,(o++[iS f]).map V.int,rfl,.inl ⟨az.of (by rw[ao,v3]; rfl),λp hp=>?_⟩⟩⟩;refine kk p (o++[iS f]) _ ((sm.trans (N.trans (C.trans WK))).trans ((ah.new hq _).trans (ah.new hp _))) (aG.of ao) (m _ ⟨_,rfl,l1⟩) λJ I=>?_;rcases b J I with ⟨g,rfl,f',rfl,hf'⟩ | h
  ·rw[Bo,HT.ee];have:=l2 f' hf';split;·rfl
   ·exact zAp (by ext)
  ·exact h _
end
end eK
namespace L2
open PySem PySem.Spec PyProof.Rows TB
section
variable {X:Cx}
end
section
variable {X:Cx}{pos:Pos}
end
section
variable {K:zzA}{ix:List (Option Nat)}{g:TG}{tf:TT}{te:TE}{σ:St}{H H1:Hp}{Q:M1->Hp->Prop}{a:M1}
theorem Rv {f:TA}{k:TS}{D:Ends}{y:Str}{l j:Nat}(h:Ga f σ H [.str y])(q:y.cps.all (· < 128)=true)(b:Nat->St->Hp->Prop)(x:∀H',ah H H'->b 0 σ H')(r:∀i σ H d,i < y.cps.size->b i σ H->H d=none->k { D with nx:=b (i+1),ct:=b (i+1),bk:=D.nx } ((σ.set l (some (.int (i:Int)))).set j (some (jd y i))) (upd H d (.tup [.int (i:Int),jd y i]))) (o:∀σ H,b y.cps.size σ H->D.nx σ H) : mQ (EG f) (vq K 2 (jz (cz l) (jz (cz j) yv))) k D σ H:=by
 refine h _ λH' s=>⟨y,rfl,q,?_⟩;refine⟨λi m σ H=>m=y.cps.size - i/\i<=y.cps.size/\b i σ H,(by ext),?_⟩;rintro i m σ H ⟨rfl,u,p⟩;by_cases c:i < y.cps.size
 ·refine .inr ⟨c,b _,λw H' n=>⟨y.cps.size - (i+1),by grind,rfl,c,n⟩,λv H' z=>?_⟩;obtain⟨d,rfl,t,rfl⟩:=z;exact⟨d,_,rfl,aG.of ao,rfl,_,_,rfl,_,_,rfl,rfl,r i σ H d c p t⟩
 ·have e:i=y.cps.size:=by lia
  subst e;exact .inl ⟨rfl,o σ H p⟩
theorem Rw {j:TA}{e us:TS}{D:Ends}{y:Str}{c d:Nat}(h:Ga j σ H [.str y])(k:y.cps.all (· < 128)=true)(b:Nat->St->Hp->Prop)(m:∀H',ah H H'->b 0 σ H')(l:∀i σ H f,i < y.cps.size->b i σ H->H f=none->e { D with nx:=b (i+1),ct:=b (i+1),bk:=us D } ((σ.set c (some (.int (i:Int)))).set d (some (jd y i))) (upd H f (.tup [.int (i:Int),jd y i]))) (n:∀σ H,b y.cps.size σ H->us D σ H) : fj (mQ (EG j) (vq K 2 (jz (cz c) (jz (cz d) yv))) e) us D σ H:=Rv h k b m l n
end
end L2
namespace eK
open PySem PySem.Spec PyProof.Rows L2 ju TB WD
noncomputable def nS (l:List Int)(i:Nat):Int:=if i=0 then -1 else l.getD (i - 1) 0
noncomputable def IB (x:Str)(ts:cZ)(w:Str)(l c:List Int)(i:Nat):Prop:=oR x w (c.getD i 0)/\[nS l i,nS c i,l.getD i 0,c.getD i 0]∈ts
noncomputable def LV (S:List Int->Prop)(x:Str)(ts:cZ)(ws:List Str):List Int->Prop:=λa=>∃l c,S l/\c.length=ws.length/\(∀i w,ws[i]?=some w->IB x ts w l c i)/\a=c++l.drop (ws.length - 1)
theorem Bs (a:List Int):LV S x ts [] a↔S a:=by
 constructor
 ·rintro⟨l,c,f,b,e,d⟩;have:=List.length_eq_zero_iff.mp b;subst this;rw[d];symm
 ·exact λh=>⟨a,[],h,rfl,by simp,rfl⟩
theorem Fx:∀(r:Nat) (c rest g:List Int),c.length=r+1->(Pl x ts ls r (c++rest) g↔∃b l1 a k,rest=b::l1::a/\g=c++k::l1::a/\oR x ls k/\[b,c.getD r 0,l1,k]∈ts)
 | 0,c,rest,g,d=>by match c,d with
  | [u],_=>
   constructor
   ·rintro⟨A,l,z,a,k,t,o,f,j⟩;injection t with p m;subst p;exact⟨l,z,a,k,m,o,f,j⟩
   ·rintro⟨b,l1,a,k,rfl,rfl,f,j⟩;exact⟨u,b,l1,a,k,rfl,rfl,f,j⟩
 | r+1,c,rest,g,d=>by match c,d with
  | u::h,d=>
   have e:=by simpa using d
   have y:=Fx (x:=x) (ls:=ls) (ts:=ts) r h rest;constructor
   ·rintro⟨A,n,i,t,o,f⟩;injection t with p m;subst p;obtain⟨b,l1,a,k,v,q,s,w⟩:=(y i e).mp (by rw[show h++rest=n from m]; exact f);exact⟨b,l1,a,k,v,by rw[o,q]; rfl,s,by simpa using w⟩
   ·rintro⟨b,l1,a,k,v,q,s,w⟩;exact⟨u,h++rest,h++k::l1::a,rfl,q,(y _ e).mpr ⟨b,l1,a,k,v,rfl,s,by simpa using w⟩⟩
theorem Fy {l:List Int}(h:l.drop r=a::l1::b):l.getD r 0=a/\l.getD (r+1) 0=l1/\l.drop (r+1)=l1::b:=by
 have d:l[r]?=some a:=by have:=zA7 (λz=>z[0]?) h;grind
 have c:l[r+1]?=some l1:=by have:=zA7 (λz=>z[1]?) h;grind
 refine⟨by ext,by ext,?_⟩;have:=zA7 (List.drop 1) h;simpa using this
theorem IC (e:i < c.length):IB x ts w l (c++a) i↔IB x ts w l c i:=by
 have d:(c++a).getD i 0=c.getD i 0:=by grind
 have b:nS (c++a) i=nS c i:=by unfold nS;grind
 unfold IB;ext
theorem N9 (W:∀l,S l->l.length=h+1)(hr:ws.length<=h)(q:∀E,Mem G (Po h ws.length) n E↔LV S x ts ws E)(I:List Int):Pp G x ts w h ws.length n I↔LV S x ts (ws++[w]) I:=by
 have d:∀{i:Nat} {v:Str},(ws++[w])[i]?=some v->(i < ws.length/\ws[i]?=some v)\/(i=ws.length/\v=w):=λ{i v} e=>by grind
 cases a:ws.length with
 | zero=>
  have L:=List.length_eq_zero_iff.mp a;subst L;show Uc G x ts w h n I↔_;unfold Uc;constructor
  ·rintro⟨f,k,rfl,t,D,rest,rfl,p,N⟩;refine⟨D::rest,[k],(Bs _).mp ((q _).mp t),rfl,λi v e=>?_,rfl⟩;rcases d e with ⟨z,_⟩ | ⟨V,u⟩;·exact absurd z (by simp)
   ·have:i=0:=by symm
    subst this;rw[u];exact⟨p,N⟩
  ·rintro⟨l,c,t,p,N,rfl⟩;have M:=W l t;match c,p with| [k],_=> match l,M with| D::rest,_=> obtain⟨s,B⟩:=N 0 w rfl;exact⟨D::rest,k,rfl,(q _).mpr ((Bs _).mpr t),D,rest,rfl,s,B⟩
 | succ r=>
  show Cp G x ts w r (h+1) n I↔_;unfold Cp;rw[a] at q;constructor
  ·rintro⟨E,t,p⟩;obtain⟨l,c,H,o,C,rfl⟩:=(q E).mp t;rw[a] at o;have X:ws.length - 1=r:=by ext
   rw[X] at p;obtain⟨g,m,f,k,s,rfl,a3,Y⟩:=(Fx r c _ _ o).mp p;obtain⟨J,R,O⟩:=Fy s;refine⟨l,c++[k],H,by simp [a,o],λi v e=>?_,?_⟩
   ·rcases d e with ⟨z,u⟩ | ⟨V,u⟩;·exact (IC (by ext)).mpr (C i v u)
    ·subst V; subst u;rw[a];have F:(c++[k]).getD (r+1) 0=k:=by rw[y6,zAy (by ext),o]; simp
     have P:nS (c++[k]) (r+1)=c.getD r 0:=by unfold nS;rw[xL (by lia),zBj,y6,y6,zAo (by ext)]
     have T:nS l (r+1)=g:=by unfold nS;rw[xL (by lia),zBj,J]
     unfold IB;rw[F,P,T,R];exact⟨a3,Y⟩
   ·rw[zAm,a];show c++k::m::f=(c++[k])++l.drop (r+1+1 - 1);rw[show r+1+1 - 1=r+1 by rfl,O];simp
  ·rintro⟨l,c,H,o,C,rfl⟩;have M:=W l H;rw[zAm,a] at o;have Q:=by simpa using o
   obtain⟨b,k,rfl⟩:∃b k,c=b++[k]:=⟨c.dropLast,c.getLast (λz=>by rw[z] at Q; simp at Q),(List.dropLast_concat_getLast _).symm⟩;have y:=by simpa using Q
   have j:∃g m f,l.drop r=g::m::f:=by
    have A:(l.drop r).length=h+1 - r:=by rw[zDi,M]
    match l.drop r,A with| g::m::f,_=>exact⟨g,m,f,rfl⟩| [],K=>simp at K; lia| [_],K=>simp at K; lia
   obtain⟨g,m,f,U⟩:=j;obtain⟨J,R,O⟩:=Fy U;refine⟨b++l.drop r,(q _).mpr ⟨l,b,H,by ext,λi v e=>?_,by rw[a,zBj]⟩,?_⟩
   ·have Z:=(xI.mp e).1;exact (IC (by ext)).mp (C i v (by rw[zAo Z]; exact e))
   ·obtain⟨s,B⟩:=C (r+1) w (by rw[zAy (by ext),a]; simp);have F:(b++[k]).getD (r+1) 0=k:=by rw[y6,zAy (by ext),y]; simp
    have P:nS (b++[k]) (r+1)=b.getD r 0:=by unfold nS;rw[xL (by lia),zBj,y6,y6,zAo (by ext)]
    have T:nS l (r+1)=g:=by unfold nS;rw[xL (by lia),zBj,J]
    rw[F] at s;rw[F,P,T,R] at B;refine (Fx r b _ _ y).mpr ⟨g,m,f,k,U,?_,s,B⟩;rw[zAm,a];show (b++[k])++l.drop (r+1+1 - 1)=_;rw[show r+1+1 - 1=r+1 by rfl,O];simp
noncomputable def rM (S:List Int->Prop)(x:Str)(ts:cZ)(ws:List Str)(h:Nat):List Int->Prop:=λc=>∃l,S l/\c.length=h+1/\(∀i w,ws[i]?=some w->IB x ts w l c i)/\[l.getD h 0,c.getD h 0,-1,-1]∈ts
theorem UA (p:∀l,S l->l.length=h+1)(o:ws.length=h+1)(i:List Int):(∃l,LV S x ts ws (i++[l])/\[l,i.getLastD 0,-1,-1]∈ts)↔rM S x ts ws h i:=by
 have b:∀c:List Int,c.length=h+1->c.getLastD 0=c.getD h 0:=λc t=>by grind
 have d:∀l:List Int,l.length=h+1->l.drop h=[l.getD h 0]:=λl k=>by
  have g:(l.drop h).length=1:=by ext
  match e:l.drop h,g with| [a],_=> grind
 constructor
 ·rintro⟨u,⟨l,c,f,q,n,m⟩,j⟩;have k:=p l f;rw[o,zBj,d l k] at m;have s:=List.append_inj_left' m rfl;have r:=(List.cons.inj (List.append_inj_right' m rfl)).1;subst s;rw[r,b _ (by ext)] at j;exact⟨l,f,by ext,n,j⟩
 ·rintro⟨l,f,q,n,j⟩;have k:=p l f;exact⟨l.getD h 0,⟨l,i,f,by lia,n,by rw[o,zBj,d l k]⟩,by rw[b _ q]; exact j⟩
noncomputable def jy (y:Str):List Str:=y.cps.toList.map λc=>⟨#[c]⟩
theorem uA (y:Str):(jy y).length=y.cps.size:=by unfold jy; simp
theorem xQ (a:i < y.cps.size):(jy y)[i]?=some ⟨#[y.cps.getD i 0]⟩:=by unfold jy;ext
theorem LW (h:pX c=true):PyData.strOk ⟨#[c]⟩=true:=by
 have d:=zAr h;have b:∀c∈cj.cps.toList,PyData.strOk ⟨#[c]⟩=true:=by decide +kernel
 exact b c d
theorem UB (h:pX c=true):c < 128:=by
 have d:=zAr h;have b:∀c∈cj.cps.toList,c < 128:=by decide +kernel
 exact b c d
section
variable {P:zAA}{w:zAD}{K:zzA}{mg:Str->Option Value}{base:Heap}{t:Ad}
noncomputable def Ct (m h a:Nat):Nat:=Pn m (h+1) a+cC m h
noncomputable def Py (h a:Nat):Nat:=if a=h then h else h+1
noncomputable def Pz (G:Gs)(x:Str)(ts:cZ)(ls:Str)(h a:Nat)(n:Int):List Int->Prop:=λb=>if a=h then ∃l,Pp G x ts ls h a n (b++[l])/\[l,b.getLastD 0,-1,-1]∈ts else Pp G x ts ls h a n b
inductive Cu (K:zzA)(P:zAA)(w:zAD)(CF C:M1)(vs:List V)(H:Hp)(Q:VK)(E_:XK):Prop| mk (p sa:M1) (row:Nat) (n:Int) (ls:Str) (A:FA) (W:WA) (M:Mp) (G:Gs) (L h:Nat) (x:Str) (ts:cZ):vs=[.ref p,.int (row:Int),.int n,.str ls]->row < h+1->h+1<=8->Al K P w CF C M G L H p sa A W x (h+1) ts->Num G (Po h row) n->PyData.strOk ls=true->L+Ct G.m h row<=15000000->(∀r G' H',Go K P w M G H (L+Ct G.m h row) G' H'->Is G' (Py h row) r (Pz G x ts ls h row n)->Q (.int r) H')->Cu K P w CF C vs H Q E_
theorem qT:aJ ["self","row","front","letters","found"] ["self","row","front","letters"] (aE ic):=cH
theorem Ay (T:Txt K mg t):aL P w K mg base bI 31 t.sG t.jL ["self","row","front","letters"] (Cu K P w t.aD t.bq):=by
 have b:=Aw (P:=P) (w:=w) (base:=base) T;have a:=Ax (P:=P) (w:=w) (base:=base) T 10;refine T.v8.fn.ok qT (λvs H Q E h=>?_) (λcdv Ar N sh H vs Q E R h=>?_)
 ·obtain⟨p,D,d,n,C,A,W,M,G,L,h,x,I,rfl,_⟩:=h;rfl
 obtain⟨p,D,d,n,C,A,W,M,G,L,h,x,I,rfl,l,z,S,hn,F,hL,O⟩:=h;refine⟨_,(aj (bF 4 qT.nd (cM T.v7 T.d8 b R aN (pv 0) (af (pv 1) (af (pv 2) (af (pv 3) ai))))) (au (aH (yu (bw d_ (pv 1) (aF dD (aZ K (pv 0)) av) rfl) (cM T.lZ T.d8 a R aN (pv 0) (af (aZ K (pv 0)) (af (pv 4) ai))) (pv 4))))),?_⟩;obtain⟨dx,Z⟩:=S.wo.ob;have hL':L+(Pn G.m (h+1) d+cC G.m h)<=15000000:=hL;refine aP (bL aa Z rfl λH2 s2=>(ay aa λ_ _=>ay aa λ_ _=>aC aa) _ λH3 s3=>?_);have q:=s2.trans s3;refine⟨p,D,d,n,C,A,W,M,G,L,h,x,I,rfl,l,z,S.same q,hn,F,by lia,λr V H4 f s=>?_⟩;have e:=f.pre q;have y:=S.go e;obtain⟨dx4,J⟩:=y.wo.ob;have g:Gt (qx (dz G_ (b_ 1) (dz (oq λi j=>.int (i - j)) (jV K (b_ 0) "high") (tC (.int 1))))) [some (.ref p),some (.int (d:Int)),some (.int n),some (.str C),some (.int r)] H4 (decide (d=h)):= cA (bA (dG aa (λH5 k=>aW ((y.wo.same k).gh aa) λ_ _=>aB) (by rfl))) (by lia);refine eV (g _ λH5 k=>?_);by_cases c:d=h
 ·rw[u1 (zAa c)];refine bL aa (k _ _ J) rfl λU u=>(ay (v:=.int ((h+1:Nat):Int)) ((y.wo.same (k.trans u)).gh aa) λ_ _=>aC aa) _ λH7 s7=>?_;have o:=k.trans (u.trans s7);refine⟨p,D,h,r,A,W,M,V,_,h+1,x,I,rfl,by lia,y.same o,s.1,by rw[f.ex.m]; lia,λX Y H8 m B=>?_⟩;rw[f.ex.m] at m;refine O X Y H8 ((e.trans (m.pre o)).le (by unfold Ct; lia)) ?_;unfold Py Pz;simp only [u1 c];refine B.iff λgs=>?_;unfold wG;simp only [s.2]
 ·rw[xL (by ext)];refine (aa (by rfl)) _ λU u=>O r V U ((e.st (k.trans u)).le (by unfold Ct; simp)) ?_;unfold Py Pz;simp only [xL c];symm
noncomputable def yh (m h:Nat):Nat:=((range (h+1)).map (Ct m h)).sum
theorem nh (f:Nat->Nat)(i:Nat):((range (i+1)).map f).sum=((range i).map f).sum+f i:=by rw[zBk,v3,List.sum_append];rfl
theorem wI (f:Nat->Nat):∀(k i:Nat),i<=k->((range i).map f).sum<=((range k).map f).sum
 | 0,i,h=>by ext| k+1,i,h=>by
  by_cases e:i=k+1;·ext
  ·have:=wI f k i (by lia);rw[nh];lia
inductive Cv (K:zzA)(P:zAA)(w:zAD)(CF C:M1)(vs:List V)(H:Hp)(Q:VK)(E_:XK):Prop| mk (p sa:M1) (n:Int) (y:Str) (A:FA) (W:WA) (M:Mp) (G:Gs) (L h:Nat) (x:Str) (ts:cZ):vs=[.ref p,.int n,.str y]->y.cps.size=h+1->bK y=true->h+1<=8->Al K P w CF C M G L H p sa A W x (h+1) ts->Num G h n->L+yh G.m h<=15000000->(∀r G' H',Go K P w M G H (L+yh G.m h) G' H'->Is G' h r (rM (Mem G h n) x ts (jy y) h)->Q (.int r) H')->Cv K P w CF C vs H Q E_
theorem gK:aJ ["self","columns","choices","front","row","letters"] ["self","columns","choices"] (aE ie):=cH
theorem qU (T:Txt K mg t):aL P w K mg base bI 32 t.sH t.jM ["self","columns","choices"] (Cv K P w t.aD t.bq):=by
 have a:=Ay (P:=P) (w:=w) (base:=base) T;refine T.pT.fn.ok gK (λvs H Q E h=>?_) (λcdv Ar C sh H vs Q E hr h=>?_)
 ·obtain⟨p,Y,n,y,A,W,M,G,L,h,x,ts,rfl,_⟩:=h;rfl
 obtain⟨p,Y,n,y,A,W,M,G,L,h,x,ts,rfl,hy,J,B,S,hn,hL,kk⟩:=h;refine⟨_,(aj (bF 3 gK.nd (pv 1)) (aj (cQ zA3 rfl (ND T.GJ (af (pv 2) ai)) (kG K (n:=2) (bg (bE 4 gK.nd) (bg (bE 5 gK.nd) gn))) (au (bF 3 gK.nd (cM T.v8 T.d8 a hr aN (pv 0) (af (pv 4) (af (pv 3) (af (pv 5) ai))))))) (au (aH (pv 3))))),?_⟩;have d:=J;unfold bK at d;rw[zAi] at d;have O:∀i,i < y.cps.size->pX (y.cps.getD i 0)=true:=λi X=>d _ (by ext);have k:y.cps.all (· < 128)=true:=by rw[<-Array.all_toList,zAi];exact λc hc=>zAa (UB (d c hc))
 have Z:∀l,Mem G h n l->l.length=h+1:=λl z=>sQ _ _ _ z;have hLs:L+((range (h+1)).map (Ct G.m h)).sum<=15000000:=hL;refine gZ aa λH1 s1=>?_;refine Rw (K:=K) (aC aa) k (λi σ s=>i<=h+1/\∃V R f j,σ=[some (.ref p),some (.int n),some (.str y),some (.int f),V,R]/\Go K P w M G H (L+((range i).map (Ct G.m h)).sum) j s/\(i < h+1->Is j (Po h i) f (LV (Mem G h n) x ts ((jy y).take i)))/\(i=h+1->Is j h f (rM (Mem G h n) x ts (jy y) h))) (λs s2=>⟨zAd _,none,none,n,G,rfl,S.wd.go (s1.trans s2) (by simp),λ_=>⟨hn,λfs=>(Bs fs).symm⟩,λz=>by ext⟩) ?_ ?_
 ·rintro i σ s tp X ⟨D,V,R,f,j,rfl,v,b,_⟩ U;have o:i < h+1:=by ext
  have b:=b o;have g:=v.st (ah.new U (.tup [.int (i:Int),jd y i]));generalize upd s tp (.tup [.int (i:Int),jd y i])=H3 at *;have S3:=S.go g;obtain⟨dx3,I⟩:=S3.wo.ob;have N:=wI (Ct G.m h) (h+1) (i+1) ‹_›;rw[nh] at N;refine HP (bL aa I rfl λH4 s4=>(ay aa λ_ _=>ay aa λ_ _=>aC aa) _ λH5 s5=>?_);have q:=s4.trans s5;refine⟨p,Y,i,f,⟨#[y.cps.getD i 0]⟩,A,W,M,j,_,h,x,ts,rfl,o,B,S3.same q,b.1,LW (O i X),by rw[g.ex.m]; lia,λr G' H6 m e=>?_⟩;rw[g.ex.m] at m;have u:((jy y).take i).length=i:=by rw[zCe,uA]; ext
  have F:(jy y).take (i+1)=(jy y).take i++[⟨#[y.cps.getD i 0]⟩]:=by rw[zAz,xQ X]; rfl
  have step:=N9 (G:=j) (x:=x) (w:=⟨#[y.cps.getD i 0]⟩) (ts:=ts) (ws:=(jy y).take i) (h:=h) (n:=f) (S:=Mem G h n) Z (by lia) (by rw[u]; exact b.2);rw[u,<-F] at step;refine⟨by symm,_,_,r,G',rfl,by rw[nh,<-zCz]; exact g.trans (m.pre q),λz=>?_,λz=>?_⟩ <;> unfold Py Pz at e
  ·have c:¬ i=h:=by lia
   simp only [xL c] at e;exact e.iff step
  ·have c:i=h:=by ext
   simp only [u1 c] at e;rw[show (jy y).take (i+1)=jy y from zB6 (by rw[uA]; ext)] at step;refine e.iff λgs=>Iff.trans ?_ (UA Z (by rw[uA]; exact hy) gs);simp only [step]
 ·rintro σ s ⟨D,V,R,f,j,rfl,v,_,b⟩;rw[hy] at v b;exact b8 aa λH3 s3=>kk f j H3 (v.st s3) (b rfl)
inductive Fz (K:zzA)(P:zAA)(w:zAD)(CF C:M1)(vs:List V)(H:Hp)(Q:VK)(E_:XK):Prop| mk (p sa:M1) (A:FA) (W:WA) (M:Mp) (G:Gs) (L h:Nat) (x:Str) (ts:cZ):vs=[.ref p]->h+1<=8->Al K P w CF C M G L H p sa A W x (h+1) ts->L<=14000000->(∀r G' H',Go K P w M G H (L+10) G' H'->Is G' h r (λfs=>fs=replicate (h+1) (-1))->Q (.int r) H')->Fz K P w CF C vs H Q E_
theorem wJ:aJ ["self"] ["self"] (aE fu):=cH
theorem wK (T:Txt K mg t):aL P w K mg base bI 3 t.oz t.gT ["self"] (Fz K P w t.aD t.bq):=by
 have a:=l9 (P:=P) (w:=w) (base:=base) T;refine T.qL.fn.ok wJ (λB H Q E h=>?_) (λC U g X H B Q E F h=>?_)
 ·obtain⟨p,q,A,W,M,G,L,h,x,z,rfl,_⟩:=h;rfl
 obtain⟨p,q,A,W,M,G,L,h,x,z,rfl,I,S,O,s⟩:=h;refine⟨_,(au (aH (cM T.jX T.aV a F aN (aZ K (pv 0)) (af (aF zB (bH (af (bQ rfl T.fZ T.f6) ai)) (aZ K (pv 0))) ai)))),?_⟩;obtain⟨J,n⟩:=S.fo.ob;refine eV (bL (S.wo.gs aa) n rfl λV m=>?_);refine (EZ (xs:=[.int (-1)]) (k:=h+1) (jg (aC aB) (by decide)) (λv o=>(S.wo.same (m.trans o)).gh aa) (by lia) (by grind)) _ λu v l o c=>?_;have b:=m.trans o;rw[v9] at c;have i:=S.wd.off (m.free l);refine⟨q,u,replicate (h+1) (-1),A,M,G,L,rfl,S.fo.same b,S.wd.same b,λN k=>.inl (az.of (k.keep _ _ c i)),by simp,by grind,λf R=>?_,by lia,λr D y j d=>?_⟩;·grind
 ·have e:(replicate (h+1) (-1:Int)).length - 1=h:=by simp
  rw[e] at d;exact s r D y ((j.pre b).le (by lia)) d
noncomputable def wL (x:Str)(a:cZ)(h:Nat):List Str->List Int->Prop| []=>λc=>c=replicate (h+1) (-1)| y::b=>rM (wL x a h b) x a (jy y) h
theorem Az (q:∀l,S l↔a l)(c:List Int):rM S x ts ws h c↔rM a x ts ws h c:=by unfold rM;ext
noncomputable def qV:List Int->List Int| [a,b,c,d]=>[b,a,d,c]| l=>l
theorem UC (h:uz m e):uz m (qV e):=by obtain⟨j,i⟩:=h;match e,j with| [a,b,c,d],_=> refine⟨rfl,λf g=>i f ?_⟩;simp [qV] at g ⊢;lia
theorem Ry {ts:cZ}(h:∀e∈ts,uz m e):[a,b,c,d]∈ts.map qV↔[b,a,d,c]∈ts:=by
 constructor
 ·intro z;obtain⟨e,i,f⟩:=q0.mp z;have g:=(h e i).1;match e,g with| [l,j,k,n],_=> simp [qV] at f;ext
 ·exact λz=>q0.mpr ⟨_,z,rfl⟩
noncomputable def tD (K:zzA)(H:Hp)(a T:M1)(x:Str)(ps:zzD):Prop:=aG K H a [.str x,.ref T]/\az K H T (ps.map rv)/\∀q∈ps,aG K H q.1 (q.2.map V.int)
theorem tD.same (h:tD K H a T x ps)(s:ah H H'):tD K H' a T x ps:=⟨s.tup h.1,s.seq h.2.1,λq b=>s.tup (h.2.2 q b)⟩
inductive ID (K:zzA)(vs:List V)(H:Hp)(Q:VK)(E_:XK):Prop| mk (T:M1) (ps:zzD):vs=[.ref T]->az K H T (ps.map rv)->(∀q∈ps,aG K H q.1 (q.2.map V.int))->(∀q∈ps,q.2.length=4)->ps.length<=1000->(∀(Z:M1) (qs:zzD) (H':Hp),H Z=none->ah H H'->H' Z=some (.lst (qs.map rv))->(∀q∈qs,aG K H' q.1 (q.2.map V.int))->qs.map (·.2)=(ps.map (·.2)).map qV->Q (.ref Z) H')->ID K vs H Q E_
theorem xT:aJ ["tiles"] ["tiles"] (aE fX):=cH
theorem xU (T:Txt K mg t):aL P w K mg base bI 1 t.pO t.iG ["tiles"] (ID K):=by
 refine T.sI.fn.ok xT (λvs H Q E h=>?_) (λcdv Ar C sh H vs Q E hr h=>?_)
 ·obtain⟨TT,o,rfl,_⟩:=h;rfl
 obtain⟨TT,o,rfl,Y,M,h4,S,W⟩:=h;refine⟨_,(au (aH (iD ["left","right","low_left","low_right"] [none,none,none,none] (cT K (pv 0)) (λ_ _ _ _ u=>⟨(kG K (n:=4) (bg (bE 0 u) (bg (bE 1 u) (bg (bE 2 u) (bg (bE 3 u) gn))))),cE,(b7 (af (pv 1) (af (pv 0) (af (pv 3) (af (pv 2) ai)))))⟩)))),?_⟩;refine eV (rZ (K:=K) aa Y λH1 y A=>?_);refine oQ (xs:=o.map rv) (by rw[yB,kA]; lia) (λZ i x s=>ah H1 s/\∃f:zzD,x=f.map rv/\f.length=i/\(∀q∈f,aG K s q.1 (q.2.map V.int))/\i<=o.length/\f.map (·.2)=((o.take i).map (·.2)).map qV) (λZ i x s z=>⟨z.1.seq A,?_⟩) (λZ l=>⟨ah.new l _,[],rfl,rfl,by simp,zAd _,by rfl⟩) (λZ i x s v R R0 l ⟨p,f,D,F,j,hi,k⟩ e N L WI=>?_) λZ x H2 l ⟨p,f,D,F,j,hi,k⟩ e=>?_;·grind
 ·rw[vT] at N;obtain⟨q,g,rfl⟩:=u3.mp N;have m:=u4 g;have hil:=(xI.mp g).1;have I:=h4 q m;have G:=(y.trans p).tup (M q m);obtain⟨qa,X⟩:=q;match X,I with
  | [a,b,c,d],_=>
   refine⟨qa,_,rfl,G,rfl,.int a,_,rfl,.int b,_,rfl,.int c,_,rfl,.int d,_,rfl,rfl,?_⟩;dsimp only [lH];rw[u1 rfl];refine (ay aa λ_ _=>ay aa λ_ _=>ay aa λ_ _=>aC aa) _ λH3 s3=>⟨(by show 4<=PK; decide),λU J=>?_⟩;have r:=s3.trans (ah.new J (.tup [.int b,.int a,.int d,.int c]));have O:eB (upd H3 U (.tup [.int b,.int a,.int d,.int c]) Z):=by rw[r _ _ e]; exact True.intro
   refine L _ _ (r _ _ e) ⟨(p.trans r).put l _,f++[(U,[b,a,d,c])],by rw[D,v3]; rfl,by simp [F],λq' B=>?_,by symm,?_⟩
   ·rcases w8.mp B with z | z;·exact k_ O (r.tup (j q' z))
    ·rw[zAc.mp z];exact k_ O (aG.of ao)
   ·rw[zAz,g,v3,v3,v3,k];rfl
 ·rw[yB] at k F;rw[zAj] at k;exact W Z f H2 (y.free l) (y.trans p) (by rw[e,D]) j k
section
variable {C:M1}{sp:Sp}{E:XK}{te:TE}{tt:TA}{σ:L2.St}{H:Hp}{v:V}
theorem LX {R:VK}(h:tt σ H λvs b=>∀x a,b x=none->b a=none->a≠x->sp (.ref x::(vs++[])) (upd (upd b a (.own x)) x (.ins C a [])) (λv c=>v=.aT/\R (.ref x) c) E):zz C sp [] E tt σ H R:=h
theorem wM {R:List V->Hp->Prop}(h:te σ H λv b=>tt σ b λvs a=>R (v::vs) a):dj te tt σ H R:=h
end
inductive Bt (K:zzA)(P:zAA)(w:zAD)(CF CW:M1)(f:cZ->cZ)(vs:List V)(H:Hp)(Q:VK)(E_:XK):Prop| mk (sa sys T:M1) (x:Str) (ps:zzD) (A:FA) (M:Mp) (G:Gs) (L h:Nat):vs=[.ref sa,.ref sys,.int ((h+1:Nat):Int)]->tD K H sys T x ps->Fo K CF M H sa A->Wd K P w M G L H->(∀q∈ps,uz x.length q.2)->x.length<=G.m->ps.length<=1000->(∀p W M' H',Ex M M' H->Al K P w CF CW M' G L H' p sa A W x (h+1) (f (ps.map (·.2)))->Kw M H H'->Q (.ref p) H')->Bt K P w CF CW f vs H Q E_
theorem Cw {J n p i y g:M1}{E:XK}{R:VK}{H f:Hp}{x:Str}{h:Nat}{ps:zzD}{A:FA}{M:Mp}{G:Gs}{L:Nat}(F:Fo K J M H i A)(W:Wd K P w M G L H)(s:ah H f)(U:f p=none)(B:f g=none)(nd:g≠p)(r:az K f y (ps.map rv))(I:∀q∈ps,aG K f q.1 (q.2.map V.int))(C:∀q∈ps,uz x.length q.2)(S:x.length<=G.m)(hl:ps.length<=1000)(k:∀W l H',Ex M l H->Al K P w J n l G L H' p i A W x h (ps.map (·.2))->Kw M H H'->R (.ref p) H'):za K P w J n [.ref p,.ref i,.str x,.ref y,.int (h:Int)] (upd (upd f g (.own p)) p (.ins n g [])) (λv Y=>v=.aT/\R (.ref p) Y) E:=by
 have N:upd f g (.own p) p=none:=by rw[aA (Ne.symm nd)]; symm
 have u:ah f (upd (upd f g (.own p)) p (.ins n g [])):=(ah.new B _).trans (ah.new N _);have c:=s.trans u;have j:=s.free U;have D:p≠i:=λz=>by obtain⟨d,e⟩:=F.ob; ext
 refine⟨p,i,y,g,x,h,ps,A,M,G,L,rfl,ao,W.off j,D,u.seq r,λq r=>u.tup (I q r),C,S,by lia,F.same c,W.same c,λW' l H' Q Z O=>⟨rfl,k W' l H' ⟨Q.old,λa X m=>Q.new a (cL c a X) m⟩ Z ?_⟩⟩;exact⟨(Tk.same c).trans O.tk,λb o e _=>O.keep b o (c _ _ e) (aQ e j),λb T=>O.live b (cL c b T)⟩
theorem C2:aJ ["sets","system","high"] ["sets","system","high"] (aE jn):=cH
theorem C3 (T:Txt K mg t):aL P w K mg base bI 5 t.vV t.lP ["sets","system","high"] (Bt K P w t.aD t.bq id):=by
 have a:=oE (P:=P) (w:=w) (base:=base) T;refine T.Aa.fn.ok C2 (λy H Q E h=>?_) (λu D d N H y Q E z h=>?_)
 ·obtain⟨r,g,TT,x,B,A,M,G,L,h,rfl,_⟩:=h;rfl
 obtain⟨r,g,TT,x,B,A,M,G,L,h,rfl,⟨i,m,s⟩,F,W,e,n,c,j⟩:=h;refine⟨_,(au (aH (EJ T.H_ T.m9 a (z.mono (by simp)) T.Lu aN (af (pv 0) (af (aO (eG K) (pv 1) av (λ_ _=>rfl)) (af (aO (eG K) (pv 1) av (λ_ _=>rfl)) (af (pv 2) ai))))))),?_⟩;exact eV ((ay aa λv b=>ay (fV (K:=K) aa (λ_ _=>aB) (b.tup i) rfl) λJ l=>ay (fV (K:=K) aa (λ_ _=>aB) ((b.trans l).tup i) rfl) λO I=>aC aa) _ λv b=>λp R C f k=>Cw F W b C f k (b.seq m) (λq o=>b.tup (s q o)) e n c (j p))
theorem FD:aJ ["sets","system","high"] ["sets","system","high"] (aE j9):=cH
theorem FE (T:Txt K mg t):aL P w K mg base bI 5 t.ya t.nv ["sets","system","high"] (Bt K P w t.aD t.bq (List.map qV)):=by
 have b:=oE (P:=P) (w:=w) (base:=base) T;have a:=xU (P:=P) (w:=w) (base:=base) T;refine T.Cf.fn.ok FD (λvs H Q E h=>?_) (λU Ar k sh H vs Q E u h=>?_)
 ·obtain⟨C,o,TT,x,i,A,M,G,L,h,rfl,_⟩:=h;rfl
 obtain⟨C,o,TT,x,i,A,M,G,L,h,rfl,⟨s,O,V⟩,F,W,d,z,f,y⟩:=h;refine⟨_,(au (aH (EJ T.H_ T.m9 b (u.mono (by simp)) T.Lu aN (af (pv 0) (af (aO (eG K) (pv 1) av (λ_ _=>rfl)) (af (cD T.sI a u aN (af (aO (eG K) (pv 1) av (λ_ _=>rfl)) ai)) (af (pv 2) ai))))))),?_⟩;refine eV (LX (qP aa λH1 e=>qP (fV (K:=K) aa (λ_ _=>aB) (e.tup s) rfl) λH2 g=>wM (jD (aC (fV (K:=K) aa (λ_ _=>aB) ((e.trans g).tup s) rfl)) λH3 r=>⟨TT,i,rfl,(e.trans (g.trans r)).seq O,λq c=>(e.trans (g.trans r)).tup (V q c),λq c=>(d q c).1,f,λZ qs H4 hZ S j n v=>(aC aa) _ λH5 m=>λp dx I l R=>?_⟩)));have J:=zA7 length v;simp at J;refine Cw F W (e.trans (g.trans (r.trans (S.trans m)))) I l R (az.of (m _ _ j)) (λq c=>m.tup (n q c)) (λq c=>?_) z (by ext) (by rw[v]; exact y p);have:q.2∈(i.map (·.2)).map qV:=by grind
 obtain⟨tl,Y,D⟩:=q0.mp this;obtain⟨X,B,N⟩:=q0.mp Y;rw[<-D,<-N];exact UC (d X B)
theorem LY {d:TA}{g:TG}{j:TS}{D:Ends}{σ:L2.St}{H:Hp}{a:M1}{xs:List V}(h:Ga d σ H [.ref a])(r:az K H a xs)(b:Nat->L2.St->Hp->Prop)(A:∀H',ah H H'->b 0 σ H')(f:∀i σ H,b i σ H->az K H a xs)(n:∀i x σ H,i < xs.length->xs[xs.length - 1 - i]?=some x->b i σ H->g x σ H λu k=>j { D with nx:=b (i+1),ct:=b (i+1),bk:=D.nx } u k) (o:∀σ H,b xs.length σ H->D.nx σ H):mQ (NH K d) g j D σ H:=by
 refine h _ λH' s=>⟨a,xs,rfl,s.seq r,?_⟩;refine⟨λi m σ H=>m=xs.length - i/\i<=xs.length/\b i σ H,(by ext),?_⟩;rintro i m σ H ⟨rfl,B,p⟩;by_cases c:i < xs.length
 ·refine .inr ⟨⟨xs,f i σ H p,rfl,c⟩,b (i+1),λC H' y=>⟨xs.length - (i+1),by grind,rfl,c,y⟩,λv H' z=>?_⟩;obtain⟨rfl,l⟩:=z;exact n i v σ _ c (l xs (f i σ _ p)) p
 ·have e:i=xs.length:=by lia
  subst e;exact .inl ⟨rfl,o σ H p⟩
theorem LZ {c:TA}{g:TG}{d us:TS}{D:Ends}{σ:L2.St}{H:Hp}{a:M1}{xs:List V}(h:Ga c σ H [.ref a])(e:az K H a xs)(b:Nat->L2.St->Hp->Prop)(m:∀H',ah H H'->b 0 σ H')(l:∀i σ H,b i σ H->az K H a xs)(n:∀i x σ H,i < xs.length->xs[xs.length - 1 - i]?=some x->b i σ H->g x σ H λj k=>d { D with nx:=b (i+1),ct:=b (i+1),bk:=us D } j k) (o:∀σ H,b xs.length σ H->us D σ H):fj (mQ (NH K c) g d) us D σ H:=LY (D:={ D with nx:=us D }) h e b m l n o
theorem UD (h:Gv d σ H (.ref a))(e:az K H a xs):Gn (Na K d) σ H xs.reverse:=λR r=>h _ λf b=>.inr ⟨a,xs,rfl,b.seq e,λp c=>r p _ (b.free c) (b.trans (ah.new c _)) ao⟩
noncomputable def FF (m h k:Nat):Nat:=10+k * yh m h
inductive IE (K:zzA)(P:zAA)(w:zAD)(CF:M1)(vs:List V)(H:Hp)(Q:VK)(E_:XK):Prop| mk (sa sys T C:M1) (x:Str) (ps:zzD) (A:FA) (M:Mp) (G:Gs) (L h:Nat) (ys:List Str):vs=[.ref sa,.ref sys,.int ((h+1:Nat):Int),.ref C]->tD K H sys T x ps->Fo K CF M H sa A->Wd K P w M G L H->(∀q∈ps,uz x.length q.2)->x.length<=G.m->ps.length<=1000->H C=some (.lst (ys.map V.str))->M C=none->(∀y∈ys,y.cps.size=h+1/\bK y=true)->ys.length<=12->h+1<=8->L+FF G.m h ys.length<=14000000->(∀(Z:M1) (rs:List Int) M' G' H',Ex M M' H->Go K P w M' G H (L+FF G.m h ys.length) G' H'->H' Z=some (.lst (rs.map V.int))->M' Z=none->rs.length=ys.length->(∀i r,rs[i]?=some r->Is G' h r (wL x ((ps.map (·.2)).map qV) h (ys.drop i)))->Q (.ref Z) H')->IE K P w CF vs H Q E_
theorem cO:aJ ["sets","system","high","columns","walk","behind","found","choices"] ["sets","system","high","columns"] (aE eL):=cH
theorem u7 (T:Txt K mg t):aL P w K mg base bI 33 t.nN t.gD ["sets","system","high","columns"] (IE K P w t.aD):=by
 have e:=FE (P:=P) (w:=w) (base:=base) T;have b:=wK (P:=P) (w:=w) (base:=base) T;have c:=qU (P:=P) (w:=w) (base:=base) T;refine T.pR.fn.ok cO (λvs H Q E h=>?_) (λcdv Ar outer sh H vs Q E hr h=>?_)
 ·obtain⟨sa,sys,TT,C,x,ps,A,M,G,L,h,d,rfl,_⟩:=h;rfl
 obtain⟨sa,sys,TT,C,x,ps,A,M,G,L,h,d,rfl,hS,F,ZV,tu,hx,hlen,hC,mC,hys,hyl,Au,hL,kk⟩:=h;refine⟨_,(aj (bF 4 cO.nd (cD T.Cf e hr aN (af (pv 0) (af (pv 1) (af (pv 2) ai))))) (aj (bF 5 cO.nd (Ln T.qL T.d8 b (hr.mono (by simp)) aN (pv 4))) (aj (bF 6 cO.nd (bH ai)) (aj (cQ zA3 rfl (Tr K T.JR (af (pv 3) ai)) (bE 7 cO.nd) (aj (bF 5 cO.nd (cM T.pT T.d8 c hr aN (pv 4) (af (pv 5) (af (pv 7) ai)))) (au (dR (ou K zA0 zA5 zA6 eF (pv 6) (af (pv 5) ai)))))) (au (aH (XI K (pv 6)))))))),?_⟩;have hL':L+(10+d.length * yh G.m h)<=14000000:=hL;refine aP (jD (ay aa λ_ _=>ay aa λ_ _=>aC aa) λH1 s1=>⟨sa,sys,TT,x,ps,A,M,G,L,h,rfl,hS.same s1,F.same s1,ZV.same s1,tu,hx,hlen,λp W M' H2 ex S2 ZW=>?_⟩);generalize (ps.map (·.2)).map qV=k at *;have J:Ex M M' H:=⟨ex.old,λa ha m=>ex.new a (cL s1 a ha) m⟩;have B:=((Kw.same s1).trans ZW).ex J.old;obtain⟨dx2,ZX⟩:=S2.wo.ob;refine aP (bL aa ZX rfl λH3 s3=>⟨p,sa,A,W,M',G,L,h,x,k,rfl,Au,S2.same s3,by lia,λn G4 H4 go4 ZY=>?_⟩);refine aP ⟨(by simp),λu Y=>?_⟩;have mF:=go4.wd.off Y;have tE:=(go4.pre s3).kw.free Y;have go5:=(go4.pre s3).st (ah.new Y (.lst []));have ZZ:upd H4 u (.lst []) u=some (.lst (([]:List Int).map V.int)):=ao;generalize upd H4 u (.lst [])=H5 at *;have S:=J.new C (by ext) mC;have WL:=B.keep _ _ hC S;have hone:∀i,i<=d.length->i * yh G.m h<=d.length * yh G.m h:=λi I=>zB4 _ I;refine LZ (K:=K) (aC aa) (az.of (go5.kw.keep _ _ WL S)) (λi σ O=>i<=d.length/\∃e7 n s o,σ=[some (.ref sa),some (.ref sys),some (.int ((h+1:Nat):Int)),some (.ref C),some (.ref p),some (.int n),some (.ref u),e7]/\Go K P w M' G H2 (L+10+i * yh G.m h) s O/\O u=some (.lst (o.map V.int))/\o.length=i/\ Is s h n (wL x k h (d.drop (d.length - i)))/\∀j r,o[j]?=some r->Is s h r (wL x k h (d.drop (d.length - 1 - j)))) (λO s6=>⟨zAd _,none,n,G4,[],by rfl,(go5.st s6).le (by simp),s6 _ _ ZZ,rfl,ZY.iff λl=>by rw[Nat.sub_zero,List.drop_length]; rfl,by simp⟩) (λi σ O z=>by obtain⟨_,e7,n,s,o,_,f,_⟩:=z; exact az.of (f.kw.keep _ _ WL S)) (λi v σ O I hv hP=>?_) fun σ O hP=>?_
 ·refine hold λZT Uz=>?_;obtain⟨hi',e7,n',s,o,rfl,f,U,q,N,D⟩:=hP;refine Uz ?_;rw[yB] at I hv;rw[vT] at hv;obtain⟨y,L0,rfl⟩:=u3.mp hv;obtain⟨hy1,vf⟩:=hys y (by grind);have hc:=hone (i+1) ‹_›;rw[zBi] at hc;have Si:=S2.go f;obtain⟨Im,qS⟩:=Si.wo.ob;refine aP (bL aa qS rfl λH7 s7=>(ay aa λ_ _=>aC aa) _ λH8 s8=>?_);have WM:=s7.trans s8;refine⟨p,sa,n',y,A,W,M',s,_,h,x,k,rfl,hy1,vf,Au,Si.same WM,N.1,by rw[f.ex.m]; lia,λr G' H9 Pj TY=>?_⟩;rw[f.ex.m] at Pj;have g:=Pj.pre WM;have UE:=g.kw.keep _ _ U mF;refine jf ((aa (v:=.ref u) (by rfl)) _ λHa R=>⟨.inl ⟨rfl,_,az.of (R _ _ UE)⟩,(aC aa) _ λHb sb=>⟨u,_,_,rfl,rfl,(R.trans sb) _ _ UE,by rw[yB,kA]; lia,?_⟩⟩);have WN:=R.trans sb;have LJ:eB (Hb u):=by rw[WN _ _ UE]; exact True.intro
  have X:d.drop (d.length - (i+1))=y::d.drop (d.length - i):=by
   have e1:d.length - 1 - i=d.length - (i+1):=by lia
   rw[e1] at L0;obtain⟨hlt,e2⟩:=xI.mp L0;rw[zCu hlt,e2,show d.length - (i+1)+1=d.length - i by grind]
  have Cq:Is G' h r (wL x k h (d.drop (d.length - (i+1)))):=by rw[X];exact TY.iff (Az N.2)
  refine⟨by symm,_,r,G',o++[r],rfl,?_,by rw[ao,v3]; rfl,by simp [q],Cq,λj r' hj=>?_⟩;·exact (((f.trans g).st WN).own tE mF LJ).le (by rw[zBi]; lia)
  ·by_cases hji:j < o.length
   ·rw[zAo hji] at hj;exact (D j r' hj).ext g.ex
   ·rw[zAy (by ext)] at hj;have h0:=by have:=(xI.mp hj).1;simp at this;omega
    rw[h0] at hj;simp at hj;subst hj;rw[show d.length - 1 - j=d.length - (i+1) by grind];exact Cq
 ·obtain⟨_,e7,n',s,o,rfl,f,U,q,N,D⟩:=hP;rw[yB] at f q;refine eV (UD (K:=K) aa (az.of U) _ λZ H7 hZ s7 wB=>?_);refine kk Z o.reverse M' s H7 J ((⟨f.wd,f.ex,B.trans f.kw⟩:Go K P w M' G H _ s O).st s7 |>.le (by unfold FF; lia)) (by rw[wB,List.map_reverse]) (f.wd.off hZ) (by simp [q]) λi r I=>?_;have hil:=(xI.mp I).1;rw[List.length_reverse] at hil;rw[List.getElem?_reverse hil] at I;have:=D _ r I;rw[show d.length - 1 - (o.length - 1 - i)=i by grind] at this;exact this
end
noncomputable def qd (x:Str)(ts:zzB)(h:Nat)(a:List Int)(y:Str)(r:List Str)(c:List Int):Prop:=rM (λl=>l=a) x ts (jy y) h c/\wL x (ts.map qV) h (y::r) c
inductive Rl (x:Str)(ts:zzB)(h:Nat):List Int->List Str->Option (zzB)->Prop| nil {prev:List Int}:Rl x ts h prev [] (some [])| none {prev:List Int} {y:Str} {r:List Str}:(∀c,¬ qd x ts h prev y r c)->Rl x ts h prev (y::r) Option.none| cons {prev:List Int} {y:Str} {r:List Str} {c:List Int} {o:Option (zzB)}:qd x ts h prev y r c->(∀c',qd x ts h prev y r c'->HT.lexLt c' c=false)->Rl x ts h c r o->Rl x ts h prev (y::r) (o.map λl=>c::l)
section
variable {P:zAA}{w:zAD}{K:zzA}{mg:Str->Option Value}{base:Heap}{t:Ad}
noncomputable def PB (m h k:Nat):Nat:=FF m h k+k * (h+1+yh m h+cB m h)
inductive wN (K:zzA)(vs:List V)(H:Hp)(Q:VK)(E_:XK):Prop| mk (sys T C:M1) (x:Str) (ps:zzD) (h:Nat) (ys:List Str):vs=[.ref sys,.ref C]->tD K H sys T x ps->(∀q∈ps,uz x.length q.2)->x.length<=5->ps.length<=1000->H C=some (.lst (ys.map V.str))->ys≠[]->(∀y∈ys,y.cps.size=h+1/\bK y=true)->ys.length<=12->h+1<=8->PB x.length h ys.length<=13000000->(∀H',ah H H'->Rl x (ps.map (·.2)) h (replicate (h+1) (-1)) ys none->Q .aT H')->(∀(Z:M1) (qs:zzD) (H':Hp),H Z=none->ah H H'->H' Z=some (.lst (qs.map rv))->(∀q∈qs,aG K H' q.1 (q.2.map V.int))->Rl x (ps.map (·.2)) h (replicate (h+1) (-1)) ys (some (qs.map (·.2)))->Q (.ref Z) H')->wN K vs H Q E_
theorem Rz {start:List Int}(q:∀o,Rl x ts h a (ys.drop i) o->Rl x ts h start ys (o.map λl=>cs++l)) (f:ys.drop i=y::r) (j:qd x ts h a y r c) (k:∀d,qd x ts h a y r d->HT.lexLt d c=false) : ∀o,Rl x ts h c (ys.drop (i+1)) o->Rl x ts h start ys (o.map λl=>(cs++[c])++l):=λo b=>by
 have g:=by have:=zA7 (List.drop 1) f;simpa using this
 rw[g] at b;have:=q _ (by rw[f]; exact Rl.cons j k b);rw[Option.map_map] at this;have e:((λl=>cs++l) ∘ λl=>c::l)=λl=>(cs++[c])++l:=by grind
 rw[e] at this;symm
theorem UG {b:TA}{c:TE}{σ:L2.St}{H:Hp}{R:VK}{v:V}{n:Nat}(h:Ga b σ H [v])(g:∀H',ah H H'->Gv c σ H' (.int (n:Int)))(o:1<=n)(i:n<=1000)(k:∀p H',ah H H'->aG K H' p (replicate n v)->R (.ref p) H'):dz (JP K) (AQ b) c σ H R:= h _ λs e=>⟨(by show 1<=PK; decide),λl a=>g _ (e.trans (ah.new a _)) _ λr d=>⟨l,v,n,rfl,rfl,d.tup (aG.of ao),o,i,λp j m f=>k p j (e.trans ((ah.new a _).trans (d.trans m))) f⟩⟩
theorem RA {g:TA}{f us:TS}{D:Ends}{σ:L2.St}{H:Hp}{a b:M1}{xs ys:List V}{d j n:Nat}(h:Ga g σ H [.ref a,.ref b])(r:az K H a xs)(u:az K H b ys)(q:n<=xs.length/\n<=ys.length/\(xs.length<=n\/ys.length<=n))(c:Nat->L2.St->Hp->Prop)(l:∀H',ah H H'->c 0 σ H')(p:∀i σ H,c i σ H->az K H a xs/\az K H b ys)(o:∀i x y σ H e,i < n->xs[i]?=some x->ys[i]?=some y->c i σ H->H e=none->f { D with nx:=c (i+1),ct:=c (i+1),bk:=us D } ((σ.set d (some x)).set j (some y)) (upd H e (.tup [x,y]))) (m:∀σ H,c n σ H->us D σ H) : fj (mQ (Ng K g) (vq K 2 (jz (cz d) (jz (cz j) yv))) f) us D σ H:= h _ λH' s=>⟨a,b,rfl,(by grind),(by grind),Ic (D:={ D with nx:=us D }) q c (l H' s) p o m⟩
theorem bC:aJ ["system","columns","high","sets","ending","walk","marks","found","column","ends","fitting"] ["system","columns"] (aE gB):=cH
theorem zb (T:Txt K mg t):aL P w K mg base bI 34 t.lQ t.gE ["system","columns"] (wN K):=by
 have B:=u7 (P:=P) (w:=w) (base:=base) T;have I:=C3 (P:=P) (w:=w) (base:=base) T;have F:=qU (P:=P) (w:=w) (base:=base) T;have u:=l9 (P:=P) (w:=w) (base:=base) T;have g:=s_ (P:=P) (w:=w) (base:=base) T 10;have D:=u6 (P:=P) (w:=w) (base:=base) T;refine T.uS.fn.ok bC (λvs H Q E h=>?_) (λcdv Ar outer sh H vs Q E hr h=>?_)
 ·obtain⟨sys,TT,C,x,ps,h,ys,rfl,_⟩:=h;rfl
 obtain⟨sys,TT,C,x,ps,h,ys,rfl,hS,tu,hx,hlen,hC,hne,hys,hyl,Au,VP,kN,kS⟩:=h;have d:=rJ (P:=P) (w:=w) (base:=base) T x.length;refine⟨_,(aj (bF 2 bC.nd (aI (g5 K) (by rfl) T.ff zB3 (af (aO (c_ K) (pv 1) av (λ_ _=>rfl)) ai))) (aj (bF 3 bC.nd (Lo T.ET T.mH d (hr.mono (by simp)) T.GH aN)) (aj (bF 4 bC.nd (cD T.pR B hr aN (af (pv 3) (af (pv 0) (af (pv 2) (af (pv 1) ai)))))) (aj (bF 5 bC.nd (cD T.Aa I hr aN (af (pv 3) (af (pv 0) (af (pv 2) ai))))) (aj (bF 6 bC.nd (aF (VL K) (b7 (af (bQ rfl T.fZ T.f6) ai)) (pv 2))) (aj (bF 7 bC.nd (bH ai)) (aj (cQ zA3 rfl (O1 K T.Pb (af (pv 1) (af (pv 4) ai))) (kG K (n:=2) (bg (bE 8 bC.nd) (bg (bE 9 bC.nd) gn))) (aj (bF 10 bC.nd (cM T.gH T.aV g hr aN (pv 3) (af (aF dD (pv 2) av) (af (cM T.pT T.d8 F hr aN (pv 5) (af (cM T.jX T.aV u hr aN (pv 3) (af (pv 6) ai)) (af (pv 8) ai))) (af (pv 9) ai))))) (aj (bT (bw d_ (pv 10) av (ja _)) (au (aH Dz)) bf) (aj (bF 6 bC.nd (cM T.pS T.aV D hr aN (pv 3) (af (aF dD (pv 2) av) (af (pv 10) ai)))) (au (dR (ou K zA0 zA5 zA6 eF (pv 7) (af (pv 6) ai)))))))) (au (aH (pv 7)))))))))),?_⟩;obtain⟨y0,yr,Z0⟩:∃y0 yr,ys=y0::yr:=by cases ys with| nil=>ext| cons a b=>simp
 have acA:=(hys y0 (by ext)).1;refine gZ (v:=.int ((h+1:Nat):Int)) (aU (mW (K:=K) (aC (iM (K:=K) aa (λ_ _=>aB) (az.of hC) (cN (j:=0) (by rw[Z0]; rfl)))) (small (by show y0.cps.size<=1000; lia))) (by show V.int (y0.cps.size:Int)=_; ext)) λH1 s1=>?_;refine aP (LX (C:=t.aD) λJ dx Pq hdx nd=>?_);have X6:upd H1 dx (.own J) J=none:=by rw[aA (Ne.symm nd)]; symm
 have s12:ah H1 (upd (upd H1 dx (.own J)) J (.ins t.aD dx [])):=(ah.new hdx _).trans (ah.new X6 _);refine⟨J,dx,rfl,ao,by lia,λA M3 H3 F3 W3 Z1 X7=>⟨rfl,?_⟩⟩;have s02:=s1.trans s12;have X8:H J=none:=s1.free Pq;have s03:ah H H3:=λb o e=>Z1.keep b o (s02 _ _ e) (aQ e X8);have new0:∀a,H a≠none->M3 a=none:=λa ha=>X7 a (cL s02 a ha);generalize upd (upd H1 dx (.own J)) J (.ins t.aD dx [])=H2 at *;have Z3:FF x.length h ys.length+ys.length * (h+1+yh x.length h+cB x.length h)<=13000000:=VP;refine aP (jD (ay aa λ_ _=>ay aa λ_ _=>ay aa λ_ _=>aC aa) λH4 s4=>⟨J,sys,TT,C,x,ps,A,M3,⟨x.length,[[]],[0]⟩,0,h,ys,rfl,(hS.same s03).same s4,F3.same s4,W3.same s4,tu,y8 _,hlen,s4 _ _ (s03 _ _ hC),new0 C (by lia),hys,hyl,Au,by grind,λE rs M5 G5 H5 WO go5 Z4 mE hrl hrs=>?_⟩);have WQ:G5.m=x.length:=go5.ex.m;have s04:=s03.trans s4;have O:∀a,H a≠none->M5 a=none:=λa ha=>WO.new a (cL s04 a ha) (new0 a ha);have sm5:ah H H5:=λb o e=>go5.kw.keep b o (s04 _ _ e) (O b (by ext));have F5:Fo K t.aD M5 H5 J A:=((F3.same s4).ex WO).kw go5.kw;refine aP (jD (ay aa λ_ _=>ay aa λ_ _=>aC aa) λH6 s6=>⟨J,sys,TT,x,ps,A,M5,G5,_,h,rfl,hS.same (sm5.trans s6),F5.same s6,go5.wd.same s6,tu,by ext,hlen,λp W M H7 WR S7 Z5=>?_⟩);have Z6:id (ps.map (·.2))=ps.map (·.2):=rfl;rw[Z6] at S7;generalize hts:ps.map (·.2)=ts at *;generalize hmm:x.length=m at *;rw[zero_add] at S7;change Al _ _ _ _ _ _ _ (FF m h ys.length) _ _ _ _ _ _ _ _ at S7;have kw57:Kw M5 H5 H7:=(Kw.same s6).trans Z5;have new7:∀a,H a≠none->M a=none:=λa ha=>WR.new a (cL (sm5.trans s6) a ha) (O a ha);have G:∀{Hx:Hp},Kw M H7 Hx->ah H Hx:=λ{Hx} k b o e=>k.keep b o (kw57.keep b o (sm5 _ _ e) (O b (by ext))) (new7 b (by ext));have mC:M C=none:=new7 C (by lia);have WS:=G .refl _ _ hC;have Z7:M E=none:=WR.new E (cL s6 E (by ext)) mE;have WT:=kw57.keep _ _ Z4 mE;refine aP (UG (K:=K) (n:=h+1) (aC (aB (v:=.int (-1)))) (λH8 s8=>aa) (by simp) (by lia) λmk Ha WU Z8=>?_);refine aP ⟨(by simp),λN UH=>?_⟩;have s7b:ah H7 (upd Ha N (.lst [])):=WU.trans (ah.new UH _);have Z9:upd Ha N (.lst []) N=some (.lst (([]:zzD).map rv)):=ao;have X_:aG K (upd Ha N (.lst [])) mk ((replicate (h+1) (-1:Int)).map V.int):=by rw[List.map_replicate];exact (ah.new UH _).tup Z8
 have L1:H7 N=none:=WU.free UH;have mF:M N=none:=S7.wd.off L1;generalize upd Ha N (.lst [])=Hb at *;generalize hc1:h+1+yh m h+cB m h=c1 at *;have hone:∀i,i<=ys.length->i * c1<=ys.length * c1:=λi hi=>zB4 _ hi;refine RA (K:=K) (xs:=ys.map V.str) (ys:=rs.map V.int) (n:=ys.length) (ay aa λ_ _=>aC aa) (az.of (s7b _ _ WS)) (az.of (s7b _ _ WT)) ⟨by simp,by ext,.inl (by simp)⟩ (λi σ X=>i<=ys.length/\∃e8 e9 IF mk s Gi Z,σ=[some (.ref sys),some (.ref C),some (.int ((h+1:Nat):Int)),some (.ref J),some (.ref E),some (.ref p),some (.ref mk),some (.ref N),e8,e9,IF]/\Go K P w M G5 H7 (FF m h ys.length+i * c1) Gi X/\ aG K X mk (s.map V.int)/\s.length=h+1/\(∀f∈s,-1<=f/\f < (m:Int))/\X N=some (.lst (Z.map rv))/\Z.length=i/\(∀q∈Z,aG K X q.1 (q.2.map V.int))/\∀o,Rl x ts h s (ys.drop i) o->Rl x ts h (replicate (h+1) (-1)) ys (o.map λl=>Z.map (·.2)++l)) (λHc sc=>⟨zAd _,none,none,none,mk,replicate (h+1) (-1),G5,[],by rfl,S7.wd.go (s7b.trans sc) (by simp),sc.tup X_,by simp,λf hf=>by (rw[(List.mem_replicate.mp hf).2]; lia),sc _ _ Z9,rfl,by simp,λo ho=>by
   have e:(λl:zzB=>([]:zzD).map (·.2)++l)=id:=by funext l; rfl
   rw[e,Option.map_id];exact ho⟩) (λi σ X z=>by obtain⟨_,e8,e9,IF,mk,s,Gi,Z,_,S,_⟩:=z;exact⟨az.of (S.kw.keep _ _ WS mC),az.of (S.kw.keep _ _ WT Z7)⟩) ?_ ?_
 ·rintro i vx vy σ X tp hi WV WW ⟨hi',e8,e9,IF,mk,s,Gi,Z,rfl,S,UI,hpl,hpf,UJ,Cy,hqs,PD⟩ htp;rw[vT] at WV WW;obtain⟨y,L0,rfl⟩:=u3.mp WV;obtain⟨r,Z_,rfl⟩:=u3.mp WW;obtain⟨hy1,vf⟩:=hys y (u4 L0);have hc:=hone (i+1) ‹_›;rw[zBi] at hc;have sd:ah X (upd X tp (.tup [.str y,.int r])):=ah.new htp _;generalize upd X tp (.tup [.str y,.int r])=He at *;have L:ys.drop i=y::ys.drop (i+1):=by obtain⟨hlt,e⟩:=xI.mp L0;rw[zCu hlt,e]
  have Se:=S7.go (S.st sd);have UK:Gi.m=m:=S.ex.m.trans WQ;obtain⟨dxe,WX⟩:=Se.fo.ob;obtain⟨dwe,owe⟩:=Se.wo.ob;refine aP (bL aa WX rfl λHf sf=>qP (v:=.int (h:Int)) (aU (aW aa λ_ _=>aB) (by congr 1; simp)) λHg sg=>wM (bL aa ((sf.trans sg) _ _ owe) rfl λHh WY=>wM (bL aa ((sf.trans (sg.trans WY)) _ _ WX) rfl λHi si=>(aC aa) _ λHj sj=>?_)));have UL:=sf.trans (sg.trans (WY.trans (si.trans sj)));have Yb:aG K Hj mk (s.map V.int):=(sd.trans UL).tup UI;have Sj:=Se.same UL;refine⟨J,mk,s,A,M,Gi,_,rfl,Sj.fo,Sj.wd,λH' k=>.inr (k.tk.tup Yb),λz=>by (rw[z] at hpl; simp at hpl),by lia,by rw[UK]; exact hpf,by lia,λn1 G1 Hk PJ UM=>?_⟩;rw[hpl] at PJ;rw[show s.length - 1=h by ext] at UM;have WZ:G1.m=m:=PJ.ex.m.trans UK;refine (aC aa) _ λHl sl=>?_;refine⟨p,J,n1,y,A,W,M,G1,_,h,x,ts,rfl,hy1,vf,Au,(Sj.go PJ).same sl,UM.1,by rw[WZ]; lia,λn2 G2 Hm go2 is2=>?_⟩;rw[WZ] at go2;refine (aC aa) _ λHn sn=>?_;have Cq:=hrs i r Z_;have Y:=PJ.trans (go2.pre sl);have UN:Ext G5 G2:=S.ex.trans Y.ex;have W0:G2.m=m:=UN.m.trans WQ;refine⟨J,h,n2,r,A,M,G2,_,rfl,by lia,(Sj.go Y).fo.same sn,go2.wd.same sn,is2.1,Cq.1.ext UN,by rw[W0]; lia,λn3 G3 Ho go3 is3=>?_⟩;rw[W0] at go3;have R:Go K P w M Gi X _ G3 Ho:=(Y.trans (go3.pre sn)).pre (sd.trans UL);have isC:Is G3 h n3 (qd x ts h s y (ys.drop (i+1))):=is3.iff λc=>by unfold jO qd;rw[is2.2 c,Az UM.2 c,bR UN _ _ _ Cq.1,Cq.2 c,L]
  have em3:G3.m=m:=R.ex.m.trans UK;refine fC (b:=decide (n3=0)) (cA (bA (dG aa (λ_ _=>aB) (by rfl))) (by rw[decide_eq_decide]; constructor <;> intro z <;> first | (injection z) | (rw[z]))) (λez Hp' PL=>?_) λez Hp' PL=>?_;· obtain rfl:n3=0:=zAr ez;refine b8 aB λHq sq=>kN Hq (G ((S.trans R).kw.st (PL.trans sq))) ?_;exact PD none (by rw[L];exact .none λc hc=>bX R.wd.wf ((isC.2 c).mpr hc))
  ·have ez':n3≠0:=of_decide_eq_false ez;have S3:=S7.go ((S.trans R).st PL);obtain⟨dxp,obp⟩:=S3.fo.ob;refine aP (bL aa obp rfl λHq sq=>(ay (v:=.int (h:Int)) (aU (aW aa λ_ _=>aB) (by congr 1; simp)) λ_ _=>aC aa) _ λHr sr=>?_);have spr:=sq.trans sr;refine⟨J,h,n3,A,M,G3,_,rfl,S3.fo.same spr,S3.wd.same spr,isC.1,ez',by rw[em3]; exact hx,by lia,λmk2 fl Hs ss UO hfl hmin=>?_⟩;have W_:=R.st (PL.trans (spr.trans ss));have UP:Hs N=some (.lst (Z.map rv)):=W_.kw.keep _ _ UJ mF;refine jf ((aa (v:=.ref N) (by rfl)) _ λHt st=>⟨.inl ⟨rfl,_,az.of (st _ _ UP)⟩,(aC aa) _ λHu su=>⟨N,_,_,rfl,rfl,(st.trans su) _ _ UP,by rw[yB,kA]; lia,?_⟩⟩);have stu:=st.trans su;have UQ:eB (Hu N):=by rw[stu _ _ UP]; exact True.intro
   have Xa:=W_.st stu;have U:=(isC.2 fl).mp hfl;have Yc:fl.length=h+1:=sQ _ _ _ hfl;have hff:∀f∈fl,-1<=f/\f < (m:Int):=λf hf=>by
    obtain⟨k,hk,rfl⟩:=zBb.mp hf;obtain⟨_,_,_,h3,_⟩:=U.1;obtain⟨h4,_⟩:=h3 k _ (xQ (by lia));have e2:fl.getD k 0=fl[k]:=by rw[y6,y2 hk]; rfl
    rw[e2] at h4;have h5:=h4.1;have h6:=h4.2.1;lia
   refine⟨by symm,_,_,_,mk2,fl,G3,Z++[(mk2,fl)],rfl,?_,(Tk.put UQ).tup (stu.tup UO),Yc,hff,by rw[ao,v3]; rfl,by simp [Cy],λq hq=>(Tk.put UQ).tup ?_,?_⟩;·exact ((S.trans Xa).own L1 mF UQ).le (by rw[zBi]; lia)
   ·rcases w8.mp hq with z | z;·exact Xa.kw.tk.tup (hqs q z)
    ·rw[zAc.mp z];exact stu.tup UO
   ·rw[v3];exact Rz PD L U λc' hc'=>hmin c' ((isC.2 c').mpr hc')
 ·rintro σ X ⟨_,e8,e9,IF,mk,s,Gi,Z,rfl,S,UI,hpl,hpf,UJ,Cy,hqs,PD⟩;refine b8 aa λHe se=>?_;refine kS N Z He ((G .refl).free L1) (G (S.kw.st se)) (se _ _ UJ) (λq hq=>se.tup (hqs q hq)) ?_;have:=PD (some []) (by rw[List.drop_length]; exact .nil);simpa using this
end
noncomputable def Bu (x y:Str)(h:Nat)(c:List Int):Prop:=∀i,i < h+1->oR x ⟨#[y.cps.getD i 0]⟩ (c.getD i 0)
noncomputable def l_ (ts:zzB)(h:Nat)(l c:List Int):Prop:=(∀i,i < h+1->[nS l i,nS c i,l.getD i 0,c.getD i 0]∈ts)/\[l.getD h 0,c.getD h 0,-1,-1]∈ts
noncomputable def ly (h:Nat):List Int:=replicate (h+1) (-1)
section
variable {x y:Str}{ts:zzB}{h:Nat}{S:List Int->Prop}{c prev:List Int}{r:List Str}
theorem L3 (b:y.cps.size=h+1)(q:Str->Nat->Prop):(∀i w,(jy y)[i]?=some w->q w i)↔∀i,i < h+1->q ⟨#[y.cps.getD i 0]⟩ i:=by
 constructor
 ·intro z i a;exact z i _ (xQ (by ext))
 ·intro z i w e;have a:=(xI.mp e).1;rw[uA,b] at a;rw[xQ (by ext)] at e;cases e;exact z i a
theorem FG (g:y.cps.size=h+1):rM S x ts (jy y) h c↔c.length=h+1/\Bu x y h c/\∃l,S l/\l_ ts h l c:=by
 constructor
 ·rintro⟨l,e,f,b,d⟩;have b:=(L3 g _).mp b;exact⟨f,λi a=>(b i a).1,l,e,λi a=>(b i a).2,d⟩
 ·rintro⟨f,b,l,e,d,j⟩;exact⟨l,e,f,(L3 g _).mpr λi a=>⟨b i a,d i a⟩,j⟩
theorem RB (b:∀a∈ts,eS m a):l_ (ts.map qV) h l c↔l_ ts h c l:=by unfold l_;simp only [Ry b]
noncomputable def Cont (x:Str)(ts:zzB)(h:Nat)(c:List Int)(r:List Str):Prop:=∃l,wL x (ts.map qV) h r l/\l_ ts h c l
theorem Bv (d:∀a∈ts,eS m a)(b:y.cps.size=h+1):wL x (ts.map qV) h (y::r) c↔c.length=h+1/\Bu x y h c/\Cont x ts h c r:=by show rM _ _ _ _ _ _↔_;rw[FG b];unfold Cont;simp only [RB d]
theorem ni (g:∀i∈ts,eS m i)(f:y.cps.size=h+1):qd x ts h prev y r c↔c.length=h+1/\Bu x y h c/\l_ ts h prev c/\Cont x ts h c r:=by
 unfold qd;rw[FG f,Bv g f];constructor
 ·rintro⟨⟨a,b,l,rfl,e⟩,_,_,d⟩;exact⟨a,b,e,d⟩
 ·rintro⟨a,b,e,d⟩;exact⟨⟨a,b,prev,rfl,e⟩,a,b,d⟩
theorem FH:Cont x ts h c []↔l_ ts h c (ly h):=by
 constructor
 ·rintro⟨l,a,b⟩;have:=a;rw[this] at b;symm
 ·exact λz=>⟨_,rfl,z⟩
theorem Cz (a:∀g∈ts,eS m g)(b:y.cps.size=h+1):Cont x ts h c (y::r)↔∃d,qd x ts h c y r d:=by
 constructor
 ·rintro⟨l,e,f⟩;obtain⟨i,j,k⟩:=(Bv a b).mp e;exact⟨l,(ni a b).mpr (by ext)⟩
 ·rintro⟨d,e⟩;obtain⟨i,j,f,k⟩:=(ni a b).mp e;exact⟨d,(Bv a b).mpr (by ext),f⟩
end
section
variable {x:Str}{ts:zzB}{h m:Nat}
theorem IG (b:∀k∈ts,eS m k):∀{ys:List Str} {a:List Int} {o:Option (zzB)},(∀y∈ys,y.cps.size=h+1)->Rl x ts h a ys o->o=none->∃y r,ys=y::r/\∀c,¬ qd x ts h a y r c| [],a,o,_,q,e=>by cases q;ext| y::r,a,o,f,q,e=>by cases q with| none z=>grind| @cons _ _ _ c n d t j=>
   have l:n=none:=by ext
   obtain⟨v,s,i,z⟩:=IG b (by ext) j l;subst i;obtain⟨_,_,_,g⟩:=(ni b (by ext)).mp d;obtain⟨u,p⟩:=(Cz b (by ext)).mp g;ext
theorem lex_asymm (d:HT.lexLt a b=true):HT.lexLt b a=false:=by cases q:HT.lexLt b a with| false=>rfl| true=> have:=lex_trans d q;rw[lex_irrefl] at this;ext
end
section
variable {P:zAA}{w:zAD}{K:zzA}{mg:Str->Option Value}{base:Heap}{t:Ad}
theorem AA:Passes (nL X.prog X.w) X (λ_ _ _=>False):=λ_ _ _ _ _ _ _ h=>by obtain⟨_,_,_,_,_,_,_,z⟩:=h;exact z.elim
noncomputable def uB (p:List Str)(k:Nat):Str:=join "" (p.map λr=>kT (r.cps.getD k 0))
inductive qe (K:zzA)(vs:List V)(H:Hp)(Q:VK)(E_:XK):Prop| mk (a:M1) (p:List Str) (k:Nat):vs=[.ref a,.int k]->az K H a (p.map V.str)->Sm p->(∀r∈p,k < r.length)->(∀H',ah H H'->Q (.str (uB p k)) H')->qe K vs H Q E_
theorem N_ {r:Str}(h:k < r.length):j4 r.cps.toList (k:Int)=some (r.cps.getD k 0):=by refine cN ?_;have a:k < r.cps.size:=h;ext
theorem Oa (p:List Str)(k:Nat):((p.map λr=>kT (r.cps.getD k 0)).map (·.length)).sum=p.length:=by rw[zAf];induction p with| nil=>rfl| cons r b a=>rw[zA2,List.sum_cons,a,zCp]; show 1+_=_; lia
theorem FI:aJ ["picture","place"] ["picture","place"] (aE j7):=cH
theorem FJ (T:Txt K mg t):aL P w K mg base bI 1 t.rj t.kg ["picture","place"] (qe K):=by
 refine T.Cd.fn.ok FI (λv H Q E h=>?_) (λu A c s H v Q E z h=>?_)
 ·obtain⟨a,p,k,rfl,_⟩:=h;rfl
 obtain⟨a,p,k,rfl,e,g,m,j⟩:=h;have y:=g.1;refine⟨_,(au (aH (ou K plainAttrs_str PySem.F.slot_str_join PySem.F.type_str_join (O0 K) dB (af (iD ["row","place"] [none,some 1] (cT K (pv 0)) (λ_ _ _ _ q=>⟨(bE 0 q),cE,(aO zA (pv 0) (pv 1) (λ_ _=>rfl))⟩)) ai)))),?_⟩;refine⟨rfl,_,rfl,a,rfl,⟨_,e⟩,?_⟩;refine uO (TN λr=>.str (kT (r.cps.getD k 0))) e (small (by grind)) (λi x n R l f B=>?_) λD n C f d=>?_
 ·obtain⟨r,rfl,b,_⟩:=Ia l;have o:=g.2 r b;exact qz (Ei aa (λ_ _=>aa) (small (by lia)) (N_ (m r b))) ‹_›
 ·refine⟨"",D,p.map (λr:Str=>kT (r.cps.getD k 0)),rfl,rfl,az.of (by rw[d,Ib,zAf]; rfl),?_,j _ f⟩;rw[Oa,yB];show p.length+p.length * 0<=16777216;lia
noncomputable def cols (p:List Str):List Str:=(range (bJ p)).map (uB p)
inductive uC (K:zzA)(C:M1)(vs:List V)(H:Hp)(Q:VK)(E:XK):Prop| mk (a:M1) (p:List Str):vs=[.ref a]->az K H a (p.map V.str)->Sm p->(cF p=true->∀(r:M1) (H':Hp),H r=none->ah H H'->H' r=some (.lst ((cols p).map V.str))->Q (.ref r) H')->((cF p=false->∀H',ah H H'->E (.ref C) none H'))->uC K C vs H Q E
theorem C4:aJ ["picture"] ["picture"] (aE jk):=cH
theorem C5 (T:Txt K mg t):aL P w K mg base (nL P w) 4 t.pM t.jr ["picture"] (uC K t.aR):=by
 have b:aL P w K mg base (nL P w) 3 t.jF t.fT ["picture"] (xN K t.aR):=qN T;have d:aL P w K mg base bI 1 t.rj t.kg ["picture","place"] (qe K):=FJ T;refine T.z9.fn.OX C4 (λO H Q E h=>?_) (λJ A g s H O Q E x h=>?_)
 ·obtain⟨a,p,rfl,_⟩:=h;rfl
 obtain⟨a,p,rfl,m,f,k,k2⟩:=h;have S:=f.1;refine⟨_,(aj (dR (cD T.pQ b x (HH zQ rfl rfl rfl (λ_ _ _ z=>z)) (af (pv 0) ai))) (au (aH (iD ["place","picture"] [none,some 0] (fP rfl T.gv (af (aI (g5 K) (by rfl) T.ff zB3 (af (aO (c_ K) (pv 0) av (λ_ _=>rfl)) ai)) ai)) (λ_ _ _ _ I=>⟨(bE 0 I),cE,(cD T.Cd d x aN (af (pv 1) (af (pv 0) ai)))⟩))))),?_⟩;refine⟨_,rfl,a,p,rfl,m,f,λc V q=>?_,‹_›⟩;have k:=k c;obtain⟨j,_,_,_,y,_⟩:=dh c;cases p with| nil=>exact absurd rfl j| cons n v=>
  have N:=f.2 n zAb;refine eV (Ek (aC (mW (K:=K) (aC (iM (K:=K) aa (λ_ _=>aB) (q.seq m) (Eh _ _))) (small (by lia)))) (by simp) (by lia) λZ B=>?_);have e:=q.trans B;refine mU (λi=>.str (uB (n::v) i)) (small (by lia)) (λi u R W l U=>?_) λD u F l o=>?_
  ·have C:=by symm
   refine qz (gr (ay aa λ_ _=>aC aa) λY X L G=>⟨a,n::v,i,by simp,((e.trans l).trans L).seq m,f,λr M=>?_,G⟩) ‹_›;grind
  ·refine k D u (e.free F) (e.trans l) ?_;rw[o];unfold cols;ext
theorem xR (c:cF p=true):cols p≠[]/\(cols p).length<=12/\∀y∈cols p,y.cps.size=p.length/\bK y=true:=by
 obtain⟨i,m,l,o,d,b⟩:=dh c;refine⟨λz=>?_,by unfold cols; ext,λy h=>?_⟩
 ·have:=zA7 length z;unfold cols at this;ext
 ·unfold cols at h;obtain⟨k,n,rfl⟩:=q0.mp h;have j:k < bJ p:=by ext
  have e:(uB p k).cps.toList=p.map λr=>r.cps.getD k 0:=by have:=yW (p.map λr=>r.cps.getD k 0);rw[zAf] at this;exact this
  refine⟨by rw[<-zAq,e,yB],?_⟩;unfold bK;rw[e,zDc,zAi];intro r g;have f:=b r g;unfold bK at f;rw[zAi] at f;refine f _ ?_;have a:=by have:=d r g; show k < r.length; ext
  show r.cps.getD k 0∈r.cps.toList;rw[zDf,zCm,zA1 a];exact Array.getElem_mem a
noncomputable def rowOf (cs:zzB)(i:Nat):List Int:=cs.map λc=>c.getD i 0
inductive zc (K:zzA)(vs:List V)(H:Hp)(Q:VK)(E_:XK):Prop| mk (F:M1) (qs:zzD) (i:Nat):vs=[.ref F,.int (i:Int)]->az K H F (qs.map rv)->(∀q∈qs,aG K H q.1 (q.2.map V.int))->(∀q∈qs,i < q.2.length)->qs.length<=1000->(∀Z H',H Z=none->ah H H'->H' Z=some (.lst ((rowOf (qs.map (·.2)) i).map V.int))->Q (.ref Z) H')->zc K vs H Q E_
theorem L4:aJ ["columns","row"] ["columns","row"] (aE pK):=cH
theorem L5 (T:Txt K mg t):aL P w K mg base bI 1 t.yR t.pP ["columns","row"] (zc K):=by
 refine T.Lq.fn.ok L4 (λx H Q E h=>?_) (λL A j s H x Q E M h=>?_)
 ·obtain⟨F,d,i,rfl,_⟩:=h;rfl
 obtain⟨F,d,i,rfl,I,f,z,r,u⟩:=h;refine⟨_,(au (aH (iD ["marks","row"] [none,some 1] (cT K (pv 0)) (λ_ _ _ _ J=>⟨(bE 0 J),cE,(aO (eG K) (pv 0) (pv 1) (λ_ _=>rfl))⟩)))),?_⟩;refine eV (rZ (K:=K) aa I λO m b=>?_);refine kM (λk=>.int (((d.map (·.2)).getD k []).getD i 0)) b (small (by ext)) (λk v o R p n C=>?_) λD o G n l=>?_
 ·rw[vT] at p;obtain⟨q,g,rfl⟩:=u3.mp p;have a:=u4 g;have c:=z q a;have e:(d.map (·.2)).getD k []=q.2:=by ext
  rw[e] at C;exact qz (fV (K:=K) aa (λ_ _=>aa) ((m.trans n).tup (f q a)) (yT c)) ‹_›
 ·refine u D o (m.free G) (m.trans n) ?_;rw[l];congr 2;unfold rowOf;rw[zAf,zAf,yB];refine zCq (by grind) λk y N=>?_;have B:=by simpa using y
  simp [y6,B]
theorem Bw {C:List (Option Nat)}{B:TE}{σ:L2.St}{b:Hp}{Q:M1->Hp->Prop}{lo:Int}{n A:Nat}(f:Nat->List Int)(hz:n<=PK)(F:∀(i:Nat) (H:Hp) (R:VK),i < n->ah b H->(∀Y k,H Y=none->ah H k->k Y=some (.lst ((f i).map V.int))->R (.ref Y) k)->B ((dw C σ).set A (some (.int (lo+i)))) H R)(G:∀(D:M1) (a:zzD) (H:Hp),b D=none->ah b H->H D=some (.lst (a.map rv))->a.map (·.2)=(range n).map f->(∀r∈a,b r.1=none/\r.1≠D/\H r.1=some (.lst (r.2.map V.int)))->Q D H):dF (uI lo n) C (cz A) lH B σ b Q:=by
 intro D l;refine⟨λi m u H=>m=n - i/\i<=n/\ah b H/\∃a:zzD,u=a.map rv/\a.length=i/\a.map (·.2)=(range i).map f/\∀r∈a,b r.1=none/\r.1≠D/\H r.1=some (.lst (r.2.map V.int)),⟨n,by simp,zAd _,ah.new l _,[],rfl,rfl,rfl,by simp⟩,?_⟩;rintro i m u H ⟨rfl,O,j,a,p,L,v,g⟩ d;by_cases c:i < n
 ·refine .inr ⟨c,λx S y=>?_⟩;obtain⟨e,y⟩:=y;subst e; subst y;refine F i _ _ c j λY k s q o=>?_;have h:Y≠D:=λz=>by rw[z,d] at s; cases s
  refine⟨q _ _ d,by rw[p,yB]; lia,n - (i+1),by grind,rfl,c,(j.trans q).put l _,a++[(Y,f i)],by rw[p,v3]; rfl,by simp [L],by rw[v3,v,zBk,v3]; rfl,λr I=>?_⟩;rcases w8.mp I with z | z
  ·obtain⟨J,E,M⟩:=g r z;exact⟨J,E,by rw[aA E]; exact q _ _ M⟩
  ·rw[zAc.mp z];exact⟨j.free s,h,by rw[aA h]; exact o⟩
 ·have e:i=n:=by lia
  subst e;exact .inl ⟨y8 _,G D a H l j (by rw[d,p]) v g⟩
structure VQ (H0 H:Hp)(F:M1)(rs:zzD):Prop where
 at_:H F=some (.lst (rs.map rv))
 newF:H0 F=none
 rows:∀p∈rs,H0 p.1=none/\p.1≠F/\H p.1=some (.lst (p.2.map V.int))
inductive Bx (K:zzA)(vs:List V)(H:Hp)(Q:VK)(E:XK):Prop| mk (sys T b:M1) (x:Str) (ps:zzD) (p:List Str):vs=[.ref sys,.ref b]->tD K H sys T x ps->JS x (ps.map (·.2))->oi x (ps.map (·.2))=true->x.length<=5->ps.length<=1000->az K H b (p.map V.str)->Sm p->cF p=true->PB x.length (p.length - 1) (cols p).length<=13000000->(∀H',ah H H'->Rl x (ps.map (·.2)) (p.length - 1) (replicate p.length (-1)) (cols p) none->Q .aT H')->(∀(F:M1) (rs:zzD) (cs:zzB) (H':Hp),ah H H'->VQ H H' F rs->Rl x (ps.map (·.2)) (p.length - 1) (replicate p.length (-1)) (cols p) (some cs)->rs.map (·.2)=(range p.length).map (rowOf cs)->Q (.ref F) H')->Bx K vs H Q E
theorem UR (q:Rl x ts h a ys o):∀cs,o=some cs->cs.length=ys.length/\∀c∈cs,c.length=h+1:=by induction q with| nil=> simp| none _=> simp| cons d n m f=>
  intro cs e;obtain⟨l,i,g⟩:=u3.mp e;obtain⟨j,k⟩:=f l i;subst g;refine⟨by ext,λc b=>?_⟩;rcases wS.mp b with rfl | b
  ·obtain⟨_,_,p,_⟩:=d.1;symm
  ext
theorem L6 (h:oi x ts=true):∀t∈ts,eS x.length t:=λt a=>by unfold oi at h;simp only [zAw,zBn,zAi] at h;have:=h.2.1 t a;unfold l0 at this;simp only [zAw,zBn,zAi] at this;symm
theorem tD.at_ (h:tD K H a T x ps):uv K H a x (ps.map (·.2)):=by refine⟨T,h.1,?_⟩;unfold Rep;exact⟨T,_,rfl,h.2.1,B7 ps h.2.2⟩
theorem By:aJ ["system","picture","columns","found"] ["system","picture"] (aE vU):=cH
theorem RC (T:Txt K mg t):aL P w K mg base bI 35 t.Lp t.z6 ["system","picture"] (Bx K):=by
 have c:aL P w K mg base (nL P w) 3 t.nZ t.iR ["system"] (yV K t.fQ):=sP T;have d:aL P w K mg base (nL P w) 4 t.pM t.jr ["picture"] (uC K t.aR):=C5 T;have a:aL P w K mg base bI 34 t.lQ t.gE ["system","columns"] (wN K):=zb T;have e:aL P w K mg base bI 1 t.yR t.pP ["columns","row"] (zc K):=L5 T;refine T.lets.fn.ok By (λvs H Q E h=>?_) (λcdv A outer s H vs Q E k h=>?_)
 ·obtain⟨m,TT,b,x,ps,p,rfl,_⟩:=h;rfl
 obtain⟨m,TT,b,x,ps,p,rfl,hS,hM,hB,hx,B,hb,X,hp,f,kN,kS⟩:=h;refine⟨_,(aj (dR (cD T.rB c k AA (af (pv 0) ai))) (aj (bF 2 By.nd (cD T.z9 d k AA (af (pv 1) ai))) (aj (bF 3 By.nd (cD T.uS a k aN (af (pv 0) (af (pv 2) ai)))) (aj (bT (lE (DC (pv 3))) (au (aH Dz)) bf) (au (aH (iD ["row","found"] [none,some 3] (fP rfl T.gv (af (aI (g5 K) (by rfl) T.ff zB3 (af (pv 1) ai)) ai)) (λ_ _ _ _ nd=>⟨(bE 0 nd),cE,(cD T.Lq e k aN (af (pv 1) (af (pv 0) ai)))⟩)))))))),?_⟩;refine hold λO8 N=>?_;obtain⟨hne,h4,h12,h1,rL,BA⟩:=dh hp;obtain⟨cn,cl,cy⟩:=xR hp;obtain⟨h,hh⟩:∃h,p.length=h+1:=⟨p.length - 1,by have:=zDn.mpr hne; lia⟩;refine N ?_;have W:p.length - 1=h:=by ext
 rw[W] at f kN kS;refine El (jD (aC aa) λH1 s1=>⟨m,x,_,rfl,(hS.same s1).at_,hM,λ_ H2 s2=>?_,λz=>by (rw[hB] at z; cases z)⟩);have F:=s1.trans s2;refine aP (jD (aC aa) λH3 s3=>⟨b,p,rfl,(F.trans s3).seq hb,X,λ_ C H4 hC s4 U=>?_,λz=>by (rw[hp] at z; cases z)⟩);have l:=F.trans (s3.trans s4);refine aP (jD (ay aa λ_ _=>aC aa) λH5 J=>⟨m,TT,C,x,ps,h,cols p,rfl,hS.same (l.trans J),λq o=>L6 hB q.2 (by grind),hx,B,J _ _ U,cn,λy hy=>by ext,cl,by lia,f,λH6 s6 n=>?_,λZ L H6 hZ s6 S O n=>?_⟩)
 ·refine fC (b:=true) (cA (iX (Eg aa)) (by rfl)) (λ_ H7 u=>?_) λz=>absurd z (by decide);exact b8 aB λH8 j=>kN H8 (l.trans (J.trans (s6.trans (u.trans j)))) (by rw[hh]; symm)
 ·refine fC (b:=false) (cA (iX (Eg aa)) (by rfl)) (λz=>absurd z (by decide)) λ_ H7 u=>?_;have g:=l.trans (J.trans (s6.trans u));obtain⟨ql,v⟩:=UR n _ rfl;rw[yB] at ql;have V:∀q∈L,q.2.length=h+1:=λq o=>v _ (by grind);refine eV (Ek (jj:=(p.length:Int)) (aC (aU (jC (K:=K) (aC aa) (g.seq hb)) (by rw[yB]))) (by simp) (by lia) λH8 j=>?_);rw[zA9];refine Bw (λi=>rowOf (L.map (·.2)) i) (by rw[kA]; lia) (λi H' R hi I kc=>?_) λD rs H' hD I v_ em G=>?_;·refine jD (ay aa λ_ _=>aC aa) λH9 M=>⟨Z,L,i,by simp,az.of ((u.trans (j.trans (I.trans M))) _ _ S),λq o=>(u.trans (j.trans (I.trans M))).tup (O q o),λq o=>by (rw[V q o]; ext),by rw[ql]; lia,λY Ha hY sa' hYl=>kc Y Ha (M.free hY) (M.trans sa') hYl⟩
  ·exact kS D rs (L.map (·.2)) H' (g.trans (j.trans I)) ⟨v_,(g.trans j).free hD,λr k=>⟨(g.trans j).free (G r k).1,(G r k).2⟩⟩ (by rw[hh]; exact n) em
end
noncomputable def qW (x:Str)(ts:zzB)(h:Nat):List Int->List Str->zzB->Prop| _,[],[]=>True| a,y::r,c::b=>c.length=h+1/\Bu x y h c/\l_ ts h a c/\(r=[]->l_ ts h c (ly h))/\qW x ts h c r b| _,_,_=>False
section
variable {x:Str}{ts:zzB}{h m:Nat}
theorem II (g:∀k∈ts,eS m k):∀{ys:List Str} {a:List Int} {cs:zzB},(∀y∈ys,y.cps.size=h+1)->Rl x ts h a ys (some cs)->qW x ts h a ys cs| [],a,cs,_,q=>by cases q;exact True.intro| y::r,a,cs,b,q=>by generalize f:some cs=o at q;cases q with| none z=>cases f| @cons _ _ _ c v p w n=> cases v with| none=>cases f| some l=> cases f;obtain⟨t,s,u,i⟩:=(ni g (b y zAb)).mp p;exact⟨t,s,u,λe=>by subst e; exact FH.mp i,II g (λj d=>b j (zBd _ d)) n⟩
noncomputable def rN (h:Nat)(cs:zzB)(k:Nat):List Int:=if k=0 then ly h else (cs++[ly h]).getD (k - 1) []
theorem IJ:∀{ys:List Str} {a:List Int} {cs:zzB},ys≠[]->qW x ts h a ys cs->cs.length=ys.length/\(∀j y,ys[j]?=some y->(cs.getD j []).length=h+1/\Bu x y h (cs.getD j []))/\∀k,k<=cs.length->l_ ts h (if k=0 then a else cs.getD (k - 1) []) ((cs++[ly h]).getD k [])| [],a,cs,d,_=>absurd rfl d| y::r,a,[],_,q=>q.elim| y::r,a,c::cs,_,q=>by obtain⟨l,f,g,n,i⟩:=q;cases r with
  | nil=> cases cs with| cons _ _=>exact i.elim| nil=>
    refine⟨rfl,λj t e=>?_,λk b=>?_⟩;·match j,e with| 0,e=>cases e; exact⟨l,f⟩
    ·match k,b with| 0,_=>exact g| 1,_=>exact n rfl
  | cons t u=>
   obtain⟨p,s,o⟩:=IJ (by simp) i;refine⟨by simp [p],λj z e=>?_,λk b=>?_⟩;·match j,e with| 0,e=>cases e; exact⟨l,f⟩| j+1,e=>exact s j z (by simpa using e)
   ·match k,b with| 0,_=>exact g| k+1,b=> have:=o k (by simpa using b);cases k with| zero=>exact this| succ k=>exact this
end
section
variable {x:Str}{ts:zzB}{h m:Nat}{cs:zzB}
noncomputable def zBH (h:Nat)(cs:zzB):zzB:=(range (h+1)).map (rowOf cs)
theorem oS:gm (zBH h cs)=cs.length:=by unfold gm zBH;rw[List.range_succ_eq_map];show (rowOf cs 0).length=_;unfold rowOf;rw[yB]
theorem mh:(zBH h cs).length=h+1:=by unfold zBH; simp
theorem zd (a:j < cs.length):(rowOf cs i).getD j 0=(cs.getD j []).getD i 0:=by unfold rowOf;ext
theorem L7 (a:i < h+1):(ly h).getD i 0=-1:=by unfold ly;ext
theorem oj (p:y < h+3)(o:k < cs.length+2):((aY (zBH h cs)).getD y []).getD k 0=if y=0\/y=h+2 then -1 else (rN h cs k).getD (y - 1) 0:=by
 have b:(jY (zBH h cs)).getD k 0=-1:=by unfold jY;rw[oS];ext
 by_cases n:y=0
 ·subst n;symm
 by_cases q:y=h+2
 ·have e:(aY (zBH h cs)).getD (h+2) []=jY (zBH h cs):=by unfold aY;simp [mh]
  ext
 rw[xL (by lia)];obtain⟨i,rfl⟩:∃i,y=i+1:=⟨y - 1,by lia⟩;have c:i < h+1:=by lia
 have e:(aY (zBH h cs)).getD (i+1) []=[-1]++rowOf cs i++[-1]:=by
  unfold aY;rw[y6,zAo (by simp [mh]; lia)];have:([jY (zBH h cs)]++(zBH h cs).map λr=>[-1]++r++[-1])[i+1]?=some ([-1]++rowOf cs i++[-1]):=by
   rw[zAy (by simp)];have f:i+1 - [jY (zBH h cs)].length=i:=by simp
   rw[f,vT];unfold zBH;rw[vT,List.getElem?_range c];rfl
  rw[this];rfl
 rw[e,zBj];have a:(rowOf cs i).length=cs.length:=by unfold rowOf; simp
 unfold rN;cases k with| zero=> rw[u1 rfl,L7 c];rfl| succ j=>
  rw[xL (by lia),zBj];show ((rowOf cs i++[-1]).getD j 0)=_;by_cases d:j < cs.length;·rw[y6,zAo (by lia),<-y6,zd d,y6 (l:=cs++[ly h]),zAo d,y6 (l:=cs)]
  ·have g:j=cs.length:=by lia
   subst g;rw[y6,zAy (by lia),a,y6 (l:=cs++[ly h]),zAy (y8 _),zDk];show (-1:Int)=(ly h).getD i 0;rw[L7 c]
theorem RD (q:∀k,k<=cs.length->l_ ts h (rN h cs k) (rN h cs (k+1))):∀t∈dN (zBH h cs),t∈ts:=λt e=>by
 obtain⟨y,j,g⟩:=zC6.mp e;obtain⟨k,i,rfl⟩:=q0.mp g;have l:=by have:=zAk.mp j;rw[mh] at this;omega
 have d:=by have:=zAk.mp i;rw[oS] at this;symm
 obtain⟨q1,b⟩:=q k (by lia);unfold gI;rw[oj (by omega) (by lia),oj (by omega) (by lia),oj (by omega) (by lia),oj (by omega) (by lia)];by_cases c:y < h+1
 ·have:=q1 y c;rw[xL (show ¬ (y+1=0\/y+1=h+2) by lia),xL (show ¬ (y+1=0\/y+1=h+2) by lia)];unfold nS at this;by_cases a:y=0
  ·subst a;exact this
  ·rw[xL (show ¬ (y=0\/y=h+2) by lia),xL (show ¬ (y=0\/y=h+2) by lia)];rw[xL a,xL a] at this;exact this
 ·have f:y=h+1:=by omega
  subst f;rw[xL (show ¬ (h+1=0\/h+1=h+2) by lia),xL (show ¬ (h+1=0\/h+1=h+2) by lia),u1 (.inr rfl),u1 (.inr rfl)];exact b
theorem IK (a:j < bJ p):(cols p)[j]?=some (uB p j):=by unfold cols;ext
theorem FN (a:i < p.length):(uB p j).cps.getD i 0=(p.getD i ⟨#[]⟩).cps.getD j 0:=by
 have e:(uB p j).cps.toList=p.map λr=>r.cps.getD j 0:=by have:=yW (p.map λr=>r.cps.getD j 0);rw[zAf] at this;symm
 rw[zCm,<-zAh,e,vT,y6,y2 a];rfl
end
end eK
namespace L2
open PySem PySem.Spec PyProof.Rows
structure qf (h:Heap)(d:M1)(es:Array DictEntry)(ep:Nat):Prop where
 lo:(d == zAR)=false
 ob:∃o,h.get? d=some o/\o.ExactDict/\o.data=.dict es ep
theorem qf.at (x:qf h d es ep)(k:∀o,h.get? d=some o->h'.get? d=some o):qf h' d es ep:=⟨x.lo,x.ob.imp λ_ z=>⟨k _ z.1,z.2⟩⟩
theorem qf.typeIs {s:SI}(x:qf s.heap d es ep):s.TypeIs (.ref d) "dict":=by obtain⟨o,a,b,_⟩:=x.ob;exact⟨o,a,b.1⟩
section
variable {P:zAA}{w:zAD}{A:zAI}{E:zzE}{s:SI}{d it:M1}{es:Array DictEntry}{ep i:Nat}
theorem Ob {Q:zzE}(x:qf s.heap d es ep)(q:Q (.ref s.heap.objs.size) { s with heap:=s.heap.push { cls:=.type "dict_keyiterator",data:=.fields #[.ref d,.int 0 0,.int es.size 0,.int ep 0] } }):zAB (zAC P w) A (zEE (.ref d)) Q E s:=by have b:=x.typeIs;obtain⟨o,c,e,a⟩:=x.ob;refine zDJ b F.slot_dict_iter (zBq F.slot_dict_iter b F.entry_dict_iter ?_ (F.args_dict_iter_1 _));unfold Builtin.«dict.__iter__»;refine yA ?_;unfold Builtin.Dict.dictSlotNone;refine yA (zCI b ?_);show zAB _ _ (pure (Value.ref d)) _ _ s;refine y3 ?_;show zAB _ _ (Builtin.Dict.showsAll d >>= _) _ _ s;unfold Builtin.Dict.showsAll;rw[xL (by rw[x.lo]; exact zAn)];refine yA (y3 (yA (zCH c a (yA (zDZ c a ?_)))));exact yA (zCk (y3 ⟨_,rfl,"dict_keyiterator",_,⟨_,wE _ rfl,rfl⟩,F.slot_dict_keyiterator_next.lookup,by simpa [zBQ] using q⟩))
theorem L8 {Q:Option Value->SI->Prop}(x:qf s.heap d es ep)(k:s.heap.IsKeyIter it d i es.size ep)(j:i < es.size)(q:∀h',h'.IsKeyIter it d (i+1) es.size ep->Heap.SameBut it s.heap h'->Q (some es[i].key) { s with heap:=h' }):zAB (zAC P w) A (zCB (.ref it)) Q E s:=by
 have c:=k.typeIs;obtain⟨l,b,f,a⟩:=id k;obtain⟨o,h,m,e⟩:=x.ob;unfold zCB;refine yA (zCQ (zBE (name:=Str.ofString "__next__") c zC7 (zBq zC7 c F.entry_dict_keyiterator_next ?_ (F.args_dict_keyiterator_next_1 _))));refine yA (y3 (yA (yA ?_)));first | refine yA (zC0 c (y3 (yA (zBO b a ?_)))) | refine yA (zBD c (y3 (yA (zBO b a ?_))))
 simp only [show Builtin.Dict_items.ownsTuple "dict_keyiterator"=false from by decide,zAx,zCf];show zAB _ _ (if (Value.ref d == Value.none)=true then _ else _) _ _ s;rw[xL (show ¬ (Value.ref d == Value.none)=true from λz=>zAn z)];refine yA (y3 (yA (zCH h e ?_)));rw[xL (by simp)];refine yA (y3 (yA (zDZ h e ?_)));rw[xL (by simp)];refine y3 ?_;simp only [show ¬ ((i:Int) < 0) from by lia,zCf,zA9,zA1 j];refine yA ?_;first | refine yA (zC0 c (y3 (yA (zCJ c ?_)))) | refine yA (zBD c (y3 (yA (zCJ c ?_))))
 show zAB _ _ (setField (.ref it) 1 (zBQ ((i:Int)+1)) >>= _) _ _ s;refine yA (zCD b a (by simp) ?_);have g:(s.heap.update it (Obj.mapFields (·.setIfInBounds 1 (zBQ ((i:Int)+1))))).IsKeyIter it d (i+1) es.size ep:=⟨_,zCc _ b (Obj.isFreed_of_fields (Obj.data_mapFields a _)),(Obj.cls_mapFields ..).trans f,by rw[Obj.data_mapFields a]; simp [zBQ]⟩;refine yA (zBw (yA (zCJ (s:={ s with heap:=s.heap.update it (Obj.mapFields (·.setIfInBounds 1 (zBQ ((i:Int)+1)))) }) g.typeIs ?_)));show zAB _ _ (pure es[i].key) _ _ _;exact y3 (y3 ⟨_,rfl,y3 (q _ g (zB8 ..))⟩)
theorem JU {β:Type}{R:β->SI->Prop}{Q:Option Value->SI->Prop}(c:A.handled=none)(q:∀h',(∀b o,s.heap.get? b=some o->h'.get? b=some o)->Q none { s with heap:=h' }) : zAB (zAC P w) A.in1 (newExc (.type "StopIteration") [] >>= λv=>raiseNew v) R (λe s'=>zAB (zAC P w) A (do let b <-isInstance e (.type "StopIteration"); if b=true then pure none else throw e) Q E s') s:=by refine yA ?_;simp only [newExc,newTuple];refine yA (zCk (yA (m:=zDs _ _) (zDr (a:=Value.none) (by first | rfl | (simp only [zDs]; rfl)) (zCk ?_ (by size_fits)))) (by size_fits));simp only [raiseNew];refine yA (wpAny_handled ?_);rw[show A.in1.handled=none from c];refine yA (y3 (wpAny_throw ?_));refine yA (zCK (b:=true) (T:="StopIteration") ⟨_,wE _ rfl,rfl⟩ isSubtype_stop (y3 ?_));exact q _ λb o e=>y4 _ (y4 _ e)
theorem Oc {Q:Option Value->SI->Prop}(l:A.handled=none)(x:qf s.heap d es ep)(k:s.heap.IsKeyIter it d i es.size ep)(n:es.size<=i)(q:∀h',Heap.ExtBut it s.heap h'->Q none { s with heap:=h' }):zAB (zAC P w) A (zCB (.ref it)) Q E s:=by
 have g:=k.typeIs;obtain⟨t,c,j,f⟩:=id k;obtain⟨o,h,r,a⟩:=x.ob;unfold zCB;refine yA (zCQ (zBE (name:=Str.ofString "__next__") g zC7 (zBq zC7 g F.entry_dict_keyiterator_next ?_ (F.args_dict_keyiterator_next_1 _))));refine yA (y3 (yA (yA ?_)));first | refine yA (zC0 g (y3 (yA (zBO c f ?_)))) | refine yA (zBD g (y3 (yA (zBO c f ?_))))
 simp only [show Builtin.Dict_items.ownsTuple "dict_keyiterator"=false from by decide,zAx,zCf];show zAB _ _ (if (Value.ref d == Value.none)=true then _ else _) _ _ s;rw[xL (show ¬ (Value.ref d == Value.none)=true from λz=>zAn z)];refine yA (y3 (yA (zCH h a ?_)));rw[xL (by simp)];refine yA (y3 (yA (zDZ h a ?_)));rw[xL (by simp)];refine y3 ?_;simp only [show ¬ ((i:Int) < 0) from by lia,zCf,zA9,zCn n];refine yA ?_;first | refine yA (zC0 g (y3 ?_)) | refine yA (zBD g (y3 ?_))
 show zAB _ _ (setField (.ref it) 0 .none >>= _) _ _ s;refine yA (zCD c f (by simp) ?_);show zAB _ _ (newExc (.type "StopIteration") [] >>= _) _ _ _;exact JU l λh' p=>q h' λb o m e=>p b o ((zB8 ..).extBut b o m e)
end
open TB
section
variable {X:Cx}{pins:zzC}{σ:St}{H:Hp}{s:SI}{pos:Pos}
theorem RE:PySem.W.KdlSrc P w "dict" d d es.size (λi v=>∃h:i < es.size,v=es[i].key) (λh=>qf h d es ep) where
 type:=λ_ x=>x.typeIs;there:=λh x=>by obtain⟨o,f,_⟩:=x.ob;exact⟨v4 f,v4 f⟩
 keep:=λ_ _ x k=>x.at λo e=>k d (.inl rfl) o e;notList:=by decide
 notTuple:=by decide
 hint:=λ_ _ _ _ x q=>PySem.W.kdl_hint_dict x.typeIs q;iter:=λA s r x=>by
  have m:d≠s.heap.objs.size:=by obtain⟨o,f,_⟩:=x.ob;exact zAe (v4 f)
  refine⟨_,λi h=>h.IsKeyIter s.heap.objs.size d i es.size ep/\qf h d es ep,λ_ _ q=>Ob x q,⟨λb c=>by simp at c; simp [c],λ_ _ _ st k=>⟨st.1.at λo e=>k _ (by simp) o e,st.2.at λo e=>k d (by simp) o e⟩,λi l Q E n st q=>?_,λl Q E st q=>?_,λ_ _ _ _ st q=>wpAny_pyIter_keyiter st.1 q⟩,⟨_,wE _ rfl,rfl,rfl⟩,x.at λo e=>y4 _ e⟩;·exact L8 st.2 st.1 n λj p g=>q _ j l.toks ⟨n,rfl⟩ ⟨p,st.2.at λo e=>g.extBut d o m e⟩ λb o c e=>g.extBut b o (by simpa using c) e
  ·exact Oc r st.2 st.1 (y8 _) λj g=>q j l.toks λb o c e=>g b o (by simpa using c) e
end
noncomputable def intsOf:Dt->List Int
 | .tup a=>a.map λd=>match d with | .int i=>i | _=>0
 | _=>[]
theorem kC (ks:List Int):intsOf (tupI ks)=ks:=by show (ks.map Dt.int).map _=ks;rw[zAf];exact List.map_id _
section
variable {X:Cx}
inductive FO (K:zzA)(P:zAA)(w:zAD)(xs:List V)(H:Hp)(Q:VK):Prop| mk (S:M1) (m:Dt->Option V) (n:Nat):xs=[.ref S]->bG K P w H S m n->n < 100000->(∀d v,m d=some v->∃ks,ks≠[]/\d=tupI ks)->(∀(l:M1) (qs:zzD),H l=none->qs.length<=n->(∀p∈qs,aG K H p.1 (p.2.map V.int))->(∀ks,ks∈qs.map (·.2)↔m (tupI ks)≠none)->qs.Pairwise (λp q=>HT.lexLt p.2 q.2=true)->Q (.ref l) (upd H l (.lst (qs.map rv))))->FO K P w xs H Q
theorem Od (K:zzA)(P:zAA)(w:zAD)(hK:X.K=K:=by rfl)(hP:X.prog=P:=by rfl)(hw:X.w=w:=by rfl)(hc:X.calm=true:=by rfl):bP X (.builtin "sorted") (FO K P w):=by
 subst hK; subst hP; subst hw;intro pins s σ H xs us Q I r h;obtain⟨S,m,n,rfl,hS,hn,hm,q⟩:=h;obtain⟨u,rfl,ru⟩:=vals1 r;cases ru;obtain⟨D,hH,hlen,hk,N⟩:=hS;obtain⟨⟨x0,o,es,ep,ho,e1,e2,e3,e4⟩,_⟩:=(show a_ X.prog X.w H s.heap S (Dh X.prog X.w S D) from I.hok S _ hH);have hl:es.size=D.length:=by rw[<-zAq,e3,yB]
 have rd:qf s.heap S es ep:=⟨x0,o,ho,e1,e2⟩;have Y:∀x∈D,∃E,E≠[]/\x.1=tupI E:=λx d=>by
  have f:=ua N x.1;have A:(zAY D x.1).isSome=true:=by unfold zAY;rw[isSome_map,List.find?_isSome];exact⟨x,d,by simp⟩
  rw[A] at f;obtain⟨v,e⟩:=zBz.mp f.symm;exact hm _ _ e
 have g:∀x∈D,x.1=tupI (intsOf x.1):=λx d=>by obtain⟨E,_,e⟩:=Y x d;rw[e,kC]
 have ht:∀x∈D,aG X.K H x.2.1 ((intsOf x.1).map V.int):=λx d=>by have f:=(hk x d).2.2.2;rw[g x d] at f;obtain⟨a,vs,e,A,U⟩:=f;cases e;exact kH U ▸ A
 generalize j:D.map (λx=>(x.2.1,intsOf x.1))=O at *;have T:O.length=D.length:=by rw[<-j,yB]
 have F:∀p∈O,∃x∈D,p=(x.2.1,intsOf x.1):=λp B=>by rw[<-j] at B;obtain⟨x,d,e⟩:=q0.mp B;exact⟨x,d,e.symm⟩
 have nd:(O.map (·.2)).Nodup:=by rw[<-j,zAf];unfold List.Nodup at e4 ⊢;rw[zAl] at e4 ⊢;exact e4.imp_of_mem λha hb hne h=>hne (by rw[g _ ha,g _ hb]; exact zA7 tupI h)
 refine TB.Cb (C:=λf qs=>qs=O/\∀b o,s.heap.get? b=some o->f.get? b=some o) (I.ok.hd hc) (λA' E' R ha k=>?_) ?_ λf qs A tk l t c ⟨e,J⟩ _ kp2 W hl' pm pw=>?_
 ·refine PySem.W.kdu_collect RE ha rd (by rw[hl,kA]; lia) λh' tk L J G=>?_;have ea:L.toList=O.map TB.rf:=by
   refine zCq (by rw[zAq,yB,T,G.1,hl]) λi f A=>?_;have hi:i < L.size:=by simpa using f
   obtain⟨U,h4⟩:=G.2 i L[i] (by simp [hi]);have:=entry_at e3 i;rw[zA1 U,y2 (by lia)] at this;have:=zA4 this;rw[this] at h4;simp only [Array.getElem_toList,h4,List.getElem_map,<-j];rfl
  rw[ea];exact k h' tk O J ⟨rfl,J⟩
 ·rintro f qs ⟨rfl,J⟩;exact⟨λp B=>by obtain⟨x,d,rfl⟩:=F p B;exact TB.lC (I.key (ht x d)) λo e=>J _ _ e,λp B=>by obtain⟨x,d,rfl⟩:=F p B;obtain⟨E,f,e⟩:=Y x d;show intsOf x.1≠[];rwa [e,kC],nd,by lia⟩
 ·subst e;have hz:(t.map rv).length<=PK:=by rw[yB,pm.length_eq,kA]; lia
  have kk:∀b o,s.heap.get? b=some o->A.get? b=some o:=λb o e=>kp2 _ _ (J _ _ e);have Z:s.heap.get? l=none:=by cases e:s.heap.get? l with| none=>rfl| some o=>rw[J _ _ e] at W; cases W
  have hn:H l=none:=I.nM Z;exact⟨.ref l,_,I.more (H':=upd H l (.lst (t.map rv))) (t':=tk) kk (ah.new hn _) (λb o n e=>by
   by_cases z:b=l
   ·subst z;rw[ao] at e;cases e;exact⟨Z,hz,t.map TB.rf,c,qB t,hl'⟩
   ·rw[aA z,n] at e;cases e),rfl,q _ t hn (by rw[pm.length_eq,T]; exact hlen) (λp B=>by obtain⟨x,d,rfl⟩:=F p (pm.mem_iff.mp B);exact ht x d) (λE=>by
    rw[(pm.map (·.2)).mem_iff];constructor
    ·intro z;obtain⟨p,B,rfl⟩:=q0.mp z;obtain⟨x,d,rfl⟩:=F p B;have f:=ua N x.1;have A:(zAY D x.1).isSome=true:=by unfold zAY;rw[isSome_map,List.find?_isSome];exact⟨x,d,by simp⟩
     show m (tupI (intsOf x.1))≠none;rw[<-g x d];intro z;rw[A,z] at f;cases f
    ·intro z;have f:=ua N (tupI E);cases e:m (tupI E) with| none=>exact absurd e z| some v=>
      rw[e] at f;obtain⟨y,hy⟩:=zBz.mp f;unfold zAY at hy;obtain⟨x,d,_⟩:=u3.mp hy;have A:=List.mem_of_find?_eq_some d;have U:=List.find?_some d;refine q0.mpr ⟨(x.2.1,intsOf x.1),j ▸ q0.mpr ⟨x,A,rfl⟩,?_⟩;have h4:x.1=tupI E:=by simpa using U
      show intsOf x.1=E;rw[h4,kC]) pw⟩
end
open PySem.Builtin.Str
section
variable {X:Cx}
noncomputable def RG:V->List V->Hp->VK->Prop:=λx a H Q=>∃y z i rest,x=.str y/\a=[.str z]/\occurrences y z 0 y.length 1=i::rest/\Q (.int (i:Nat)) H
theorem CA:rX X "str.index" RG:=by intro a s σ H x j v f Q I d b h;obtain⟨y,z,i,rest,rfl,rfl,c,q⟩:=h;obtain⟨t,rfl⟩:=d;obtain⟨u,rfl,g,rfl⟩:=b.one;exact SC.index c ⟨.int i,H,I.tok _,⟨_,rfl⟩,q⟩
end
end L2
namespace eK
open PySem PySem.Spec PyProof.Rows L2 ju TB WD
section
variable {P:zAA}{w:zAD}{K:zzA}{mg:Str->Option Value}{base:Heap}{t:Ad}
noncomputable def lm (c:Nat):Int:=(c:Int) - 97
noncomputable def di (y:Str):List Int:=y.cps.toList.map lm
theorem L_ (h:pX c=true):∃i rest,Builtin.Str.occurrences cj ⟨#[c]⟩ 0 cj.length 1=i::rest/\((i:Nat):Int)=lm c:=by
 have a:=zAr h;have:∀c∈cj.cps.toList,∃i rest,Builtin.Str.occurrences cj ⟨#[c]⟩ 0 cj.length 1=i::rest/\((i:Nat):Int)=lm c:=by
  intro c a;have:c=97\/c=98\/c=99\/c=100:=by
   have e:cj.cps.toList=[97,98,99,100]:=by decide +kernel
   rw[e] at a;simpa using a
  rcases this with rfl | rfl | rfl | rfl;·exact⟨0,[],by decide +kernel,rfl⟩
  ·exact⟨1,[],by decide +kernel,rfl⟩
  ·exact⟨2,[],by decide +kernel,rfl⟩
  ·exact⟨3,[],by decide +kernel,rfl⟩
 exact this c a
inductive ze (vs:List V)(H:Hp)(Q:VK)(E_:XK):Prop| mk (y:Str):vs=[.str y]->y.length<=60->bK y=true->(∀Z H',H Z=none->ah H H'->H' Z=some (.lst ((di y).map V.int))->Q (.ref Z) H')->ze vs H Q E_
theorem AB:aJ ["text"] ["text"] (aE g7):=cH
theorem AD (T:Txt K mg t):aL P w K mg base bI 1 t.m7 t.ig ["text"] ze:=by
 refine T.vY.fn.ok AB (λr H Q E h=>?_) (λq A b s H r Q E v h=>?_)
 ·obtain⟨y,rfl,_⟩:=h;rfl
 obtain⟨y,rfl,u,n,k⟩:=h;refine⟨_,(au (aH (iD ["letter"] [none] (D7 (pv 0)) (λ_ _ _ _ o=>⟨(bE 0 o),cE,(ou K plainAttrs_str PySem.F.slot_str_index PySem.F.type_str_index CA (bQ rfl T.vZ T.v5) (af (pv 0) ai))⟩)))),?_⟩;refine⟨_,rfl,y,rfl,?_⟩;refine pC (λi=>.int (lm (y.cps.getD i 0))) (small (by show y.length<=1000; lia)) (λi d R p c e=>?_) λD d m c a=>?_
 ·have g:pX (y.cps.getD i 0)=true:=by have:=zAi.mp n;rw[<-zDG y] at this;exact this _ (q0.mpr ⟨i,zAk.mpr p,rfl⟩)
  obtain⟨j,rest,l,f⟩:=L_ g;exact⟨rfl,_,rfl,cj,_,j,rest,rfl,rfl,l,f ▸ e _ (ah.refl _)⟩
 ·refine k D d m c ?_;rw[a];unfold di;rw[<-zDG y,zAf,zAf];rfl
theorem om {E:List (Option Nat)}{s:TE}{σ:L2.St}{c:Hp}{Q:M1->Hp->Prop}{a:M1}{xs:List V}{C:Nat}{α:Type}(g:α->List V)(f:Nat->α)(o:az K c a xs)(hz:xs.length<=PK)(M:∀(i:Nat) (x:V) (H:Hp) (R:VK),xs[i]?=some x->ah c H->(∀Y n,H Y=none->ah H n->n Y=some (.lst (g (f i)))->R (.ref Y) n)->s ((dw E σ).set C (some x)) H R)(N:∀(D:M1) (b:List (M1 × α)) (H:Hp),c D=none->ah c H->H D=some (.lst (b.map λr=>V.ref r.1))->b.map (·.2)=(range xs.length).map f->(∀r∈b,c r.1=none/\r.1≠D/\H r.1=some (.lst (g r.2)))->Q D H):dF (pe K a) E (cz C) lH s σ c Q:=by
 intro D p;refine⟨λi m F H=>m=xs.length - i/\i<=xs.length/\ah c H/\∃b:List (M1 × α),F=(b.map λr=>V.ref r.1)/\b.length=i/\b.map (·.2)=(range i).map f/\∀r∈b,c r.1=none/\r.1≠D/\H r.1=some (.lst (g r.2)),⟨xs.length,by simp,zAd _,ah.new p _,[],rfl,rfl,rfl,by simp⟩,?_⟩;rintro i m F H ⟨rfl,U,h,b,v,J,G,j⟩ d;by_cases k:i < xs.length
 ·have S:xs[i]?=some xs[i]:=y2 k;refine .inr ⟨⟨xs,xs[i],h.seq o,S⟩,λx W y=>?_⟩;obtain⟨e,y⟩:=y;subst e;have q:=y xs (h.seq o);show s ((dw E σ).set C (some x)) _ _;refine M i x _ _ q h λY n A u B=>?_;have l:Y≠D:=λz=>by rw[z,d] at A; cases A
  refine⟨u _ _ d,by rw[v,yB]; lia,xs.length - (i+1),by lia,rfl,k,(h.trans u).put p _,b++[(Y,f i)],by rw[v,v3]; rfl,by simp [J],by rw[v3,G,zBk,v3]; rfl,λr O=>?_⟩;rcases w8.mp O with z | z
  ·obtain⟨T,I,L⟩:=j r z;exact⟨T,I,by rw[aA I]; exact u _ _ L⟩
  ·rw[zAc.mp z];exact⟨h.free A,l,by rw[aA l]; exact B⟩
 ·have e:i=xs.length:=by lia
  subst e;exact .inl ⟨⟨xs,h.seq o,y8 _⟩,N D b H p h (by rw[d,v]) G j⟩
noncomputable def US (K:zzA)(H:Hp)(a:M1)(ps:List (M1 × List Str)):Prop:=az K H a (ps.map λp=>.ref p.1)/\∀q∈ps,az K H q.1 (q.2.map V.str)
noncomputable def bx (p:List Str):zzB:=p.map di
inductive Ma (K:zzA)(C:M1)(vs:List V)(H:Hp)(Q:VK)(E:XK):Prop| mk (a:M1) (ps:List (M1 × List Str)):vs=[.ref a]->US K H a ps->(∀q∈ps,Sm q.2)->ps.length<=10->((∀q∈ps,cF q.2=true)->∀(R T:M1) (qs:zzD) (H':Hp),ah H H'->H' R=some (.tup [.str cj,.ref T])->tD K H' R T cj qs->qs.length<=700->(∀ks,ks∈qs.map (·.2)↔∃q∈ps,ks∈dN (bx q.2))->qs.Pairwise (λp q=>HT.lexLt p.2 q.2=true)->Q (.ref R) H')->(∀q∈ps,cF q.2=false->∀H',ah H H'->E (.ref C) none H')->Ma K C vs H Q E
theorem CB:∀ks:List Int,gO (ks.map Dt.int)=true| []=>rfl| _::ks=>CB ks
theorem AE:∀ks:List Int,gA (ks.map Dt.int)=0| []=>rfl| _::ks=>by show max 0 (gA (ks.map Dt.int))=0;rw[AE ks];rfl
theorem UT (h:aG K H b (ks.map V.int)):NK K H (tupI ks) b:=NK.of h (qC ks) (CB ks) (by rw[AE]; decide)
theorem Oe (h:tupI a=tupI b):a=b:=by rw[<-kC a,h,kC]
theorem wO (h:ks∈dN a):ks≠[]:=by unfold dN at h;obtain⟨y,_,b⟩:=zC6.mp h;obtain⟨x,_,rfl⟩:=q0.mp b;exact λz=>nomatch z
theorem FP (a:zzB):(dN a).length=(a.length+1) * (gm a+1):=by unfold dN gJ;rw[List.length_flatMap];simp only [yB,zBt];rw[List.map_const',List.sum_replicate_nat,zBt]
theorem wQ (p:List Str):(range p.length).map (λj=>di (p.getD j ⟨#[]⟩))=bx p:=(wc di p ⟨#[]⟩).symm
theorem iw:aJ ["pictures","picture","found","tile"] ["pictures"] (aE iP):=cH
theorem BB (T:Txt K mg t):aL P w K mg base (nL P w) 4 t.uQ t.kJ ["pictures"] (Ma K t.aR):=by
 have g:aL P w K mg base (nL P w) 3 t.jF t.fT ["picture"] (xN K t.aR):=qN T;have f:aL P w K mg base bI 1 t.m7 t.ig ["text"] ze:=AD T;have C:aL P w K mg base bI 2 t.uf t.lO ["rows"] (kr K λrows=>(dN rows).map tupI):=GL T;refine T.rC.fn.OX iw (λvs H Q E h=>?_) (λcdv A outer s H vs Q E hr h=>?_)
 ·obtain⟨a,ps,rfl,_⟩:=h;rfl
 obtain⟨a,ps,rfl,G,hsm,hl,k,k2⟩:=h;refine⟨_,(aj (cQ PassesOwn.leaving rfl (cT K (pv 0)) (bE 1 iw.nd) (au (dR (cD T.pQ g hr (HH zQ rfl rfl rfl (λ_ _ _ z=>z)) (af (pv 1) ai))))) (aj (bF 2 iw.nd (qF K P w)) (aj (cQ PassesOwn.leaving rfl (cT K (pv 0)) (bE 1 iw.nd) (au (cQ PassesOwn.leaving rfl (cT K (cD T.EM C hr aN (af (iD ["text"] [none] (cT K (pv 1)) (λ_ _ _ _ nd=>⟨(bE 0 nd),cE,(cD T.vY f hr aN (af (pv 0) ai))⟩)) ai))) (bE 3 iw.nd) (au (uc K P w hr.j6 (pv 2) (pv 3) nu rfl))))) (au (aH (b7 (af (bQ rfl T.vZ T.v5) (af (aI (Od K P w) (by rfl) T.pU zDN (af (pv 2) ai)) ai)))))))),?_⟩;refine Bl aa G.1 (λi σ H1=>∃e1,σ=[some (.ref a),e1,none,none]/\ah H H1/\∀q∈ps.take i,cF q.2=true) (λH1 L=>⟨none,rfl,L,by simp⟩) (λi σ H1 z=>by obtain⟨_,_,L,_⟩:=z; exact L.seq G.1) (λi v σ H1 Y z=>?_) fun σ H1 z=>?_
 ·obtain⟨e1,rfl,L,I⟩:=z;rw[vT] at Y;obtain⟨q,hq,rfl⟩:=u3.mp Y;have u:=u4 hq;refine⟨_,rfl,q.1,q.2,rfl,L.seq (G.2 q u),hsm q u,λc H2 s2=>⟨_,rfl,L.trans s2,λq' hq'=>?_⟩,λc H2 s2=>k2 q u c H2 (L.trans s2)⟩;rw[List.take_add_one,hq] at hq';rcases w8.mp hq' with z | z;·exact I q' z
  ·rw[zAc.mp z];exact c
 ·obtain⟨e1,rfl,L,I⟩:=z;rw[yB,zAj] at I;refine aP λF o hF hN=>?_;have s2:ah H1 (upd H1 F o):=ah.new hF o;have hF0:H F=none:=L.free hF;generalize upd H1 F o=H2 at *;have s02:=L.trans s2;refine Bl aa (s02.seq G.1) (λi σ N=>∃e1 e3 m n,σ=[some (.ref a),e1,some (.ref F),e3]/\ah H N/\bG K P w N F m n/\n<=70 * i/\(∀d v,m d=some v->∃B,B≠[]/\d=tupI B)/\∀B,m (tupI B)≠none↔∃q∈ps.take i,B∈dN (bx q.2)) (λN O=>⟨e1,none,_,_,rfl,s02.trans O,hN.same O,y8 _,λd v z=>(nomatch z),λB=>by simp⟩) (λi σ N z=>by obtain⟨_,_,_,_,_,O,_⟩:=z; exact O.seq G.1) (λi v σ N Y z=>?_) fun σ N z=>?_
  ·obtain⟨e1,e3,m,n,rfl,O,U,hn,hk,hm⟩:=z;rw[vT] at Y;obtain⟨q,hq,rfl⟩:=u3.mp Y;have u:=u4 hq;have hpo:=I q u;have hi:i < ps.length:=(xI.mp hq).1;obtain⟨hne,h4,h12,h1,rL,BA⟩:=dh hpo;have hqs:=O.seq (G.2 q u);have i8:=hsm q u;refine⟨_,rfl,q.1,rfl,⟨_,hqs⟩,om (List.map V.int) (λj=>di (q.2.getD j ⟨#[]⟩)) hqs (by rw[yB]; exact small (by have:=i8.1; lia)) (λj x H4 R hx s4 kk=>?_) λD rs H4 hD s4 v_ em hrs=>?_⟩
   ·rw[vT] at hx;obtain⟨y,hy,rfl⟩:=u3.mp hx;have Mb:=u4 hy;have ey:q.2.getD j ⟨#[]⟩=y:=by rw[y6,hy]; rfl
    refine⟨_,rfl,y,rfl,by have:=i8.2 y Mb; lia,?_,λZ H5 hZ s5 wB=>kk Z H5 hZ s5 (by rw[ey]; exact wB)⟩;exact BA y Mb
   ·rw[yB,wQ] at em;have hlen:(bx q.2).length=q.2.length:=yB _;have hml:∀y∈q.2,(di y).length=bJ q.2:=λy hy=>by unfold di;rw[yB,zAq];exact rL y hy
    have X:gm (bx q.2)=bJ q.2:=by cases e:q.2 with| nil=>exact absurd e hne| cons r0 rr=> show (di r0).length=_;rw[hml r0 (by rw[e]; exact zAb),e]
    refine⟨D,bx q.2,rfl,⟨rs,az.of v_,λr hr=>(hrs r hr).2.2,em⟩,λz=>hne (List.map_eq_nil_iff.mp z),λr hr=>?_,by lia,by lia,λF2 H5 ws tE s5 hw hrep=>?_⟩
    ·obtain⟨y,hy,rfl⟩:=q0.mp hr;rw[X];exact hml y hy
    obtain⟨M,rfl,eq,hqt⟩:=vO hrep;have s35:=s4.trans s5;have s05:=O.trans s35;have Iw:=FP (bx q.2);have hg:(dN (bx q.2)).length<=65:=by rw[Iw,hlen,X];exact zAu (Nat.mul_le_mul (zCh h4) (zCh h12)) (by decide)
    have Cy:M.length=(dN (bx q.2)).length:=by rw[<-eq,yB]
    have Yd:∀p∈M,aG K H5 p.1 (p.2.map V.int):=λp hp=>(show ah (Hm F2 H5) H5 from λb o e=>by
     by_cases z:b=F2;·rw[z,C_] at e; cases e
     ·rwa [lI z] at e).tup (hqt p hp);have hFF:F2≠F:=λz=>by obtain⟨ds,e,_⟩:=U.same s4;rw[z,e] at tE;cases tE
    refine⟨F2,rfl,⟨_,az.of hw⟩,yz (λj σ H6=>∃e3 m' n',σ=[some (.ref a),some (.ref q.1),some (.ref F),e3]/\ah H H6/\H6 F2=some (.lst (M.map rv))/\(∀p∈M,aG K H6 p.1 (p.2.map V.int))/\bG K P w H6 F m' n'/\n'<=70 * i+j/\(∀d v,m' d=some v->∃B,B≠[]/\d=tupI B)/\∀B,m' (tupI B)≠none↔(∃q∈ps.take i,B∈dN (bx q.2))\/B∈(dN (bx q.2)).take j) ⟨e3,m,n,rfl,s05,hw,Yd,U.same s35,by lia,hk,λB=>by rw[hm]; simp⟩ (λj σ H6 _ z=>by obtain⟨_,_,_,_,_,z,_⟩:=z; exact az.of z) (λj v σ H6 Y z=>?_) fun σ H6 z=>?_⟩
    ·obtain⟨e3',m',n',rfl,s6,Xb,J,S,Xc,UU,W⟩:=z;rw[vT] at Y;obtain⟨p,hp,rfl⟩:=u3.mp Y;have hpm:=u4 hp;have hj:j < M.length:=(xI.mp hp).1;have hpg:p.2∈dN (bx q.2):=by rw[<-eq]; exact zAg hpm
     have hgj:(dN (bx q.2))[j]?=some p.2:=by rw[<-eq,vT,hp]; rfl
     refine⟨_,rfl,_,rfl,F,rfl,m',n',tupI p.2,p.1,S,by rw[kA]; lia,rfl,UT (J p hpm),λo hN7=>⟨_,_,_,rfl,s6.put hF0 _,by rw[aA hFF]; exact Xb,λp' Mc=>k_ S.mut (J p' Mc),hN7,by lia,λd v e=>?_,λB=>?_⟩⟩
     ·by_cases z:d=tupI p.2;·exact⟨p.2,wO hpg,z⟩
      ·rw[xL z] at e;exact UU d v e
     ·rw[List.take_add_one,hgj];by_cases z:tupI B=tupI p.2
      ·rw[u1 z];have:=Oe z;simp [this]
      ·rw[xL z,W];have:B≠p.2:=λe=>z (by rw[e]);simp [this]
    ·obtain⟨e3',m',n',rfl,s6,Xb,J,S,Xc,UU,W⟩:=z;rw[yB,Cy] at Xc W;refine⟨_,_,m',n',rfl,s6,S,by lia,UU,λB=>?_⟩;rw[W,zAj,List.take_add_one,hq];simp
  ·obtain⟨e1,e3,m,n,rfl,O,U,hn,hk,hm⟩:=z;rw[yB] at hn hm;rw[zAj] at hm;refine⟨_,rfl,F,m,n,rfl,U,by lia,hk,λl M hl' Cy hqt u UW=>⟨(by show 2<=PK; decide),λR hR=>?_⟩⟩;have s4:ah N (upd N l (.lst (M.map rv))):=ah.new hl' _;have s5:ah (upd N l (.lst (M.map rv))) (upd (upd N l (.lst (M.map rv))) R (.tup [.str cj,.ref l])):=ah.new hR _;exact k I R l M _ (O.trans (s4.trans s5)) ao ⟨aG.of ao,az.of (s5 _ _ ao),λq hq=>(s4.trans s5).tup (hqt q hq)⟩ (by lia) (λB=>by rw[u,hm]) UW
end
section
variable {x:Str}{ts:zzB}{h m:Nat}{cs:zzB}
theorem FQ (b:y < a.length+1)(c:k < gm a+1):gI (aY a) y k∈dN a:= zC6.mpr ⟨y,zAk.mpr b,q0.mpr ⟨k,zAk.mpr c,rfl⟩⟩
theorem UX (q:∀t∈dN (zBH h cs),t∈ts)(b:k<=cs.length):l_ ts h (rN h cs k) (rN h cs (k+1)):=by
 refine⟨λi c=>?_,?_⟩
 ·have:=q _ (FQ (y:=i) (k:=k) (by rw[mh]; lia) (by rw[oS]; lia));unfold gI at this;rw[oj (by lia) (by lia),oj (by lia) (by lia),oj (by lia) (by lia),oj (by lia) (by lia),xL (show ¬ (i+1=0\/i+1=h+2) by lia),xL (show ¬ (i+1=0\/i+1=h+2) by lia)] at this;unfold nS;by_cases a:i=0
  ·subst a;exact this
  ·rw[xL (show ¬ (i=0\/i=h+2) by lia),xL (show ¬ (i=0\/i=h+2) by lia)] at this;rw[xL a,xL a];exact this
 ·have:=q _ (FQ (y:=h+1) (k:=k) (by rw[mh]; lia) (by rw[oS]; lia));unfold gI at this;rw[oj (by lia) (by lia),oj (by lia) (by lia),oj (by lia) (by lia),oj (by lia) (by lia),xL (show ¬ (h+1=0\/h+1=h+2) by lia),xL (show ¬ (h+1=0\/h+1=h+2) by lia),u1 (.inr rfl),u1 (.inr rfl)] at this;exact this
theorem IL:∀{ys:List Str} {a:List Int} {cs:zzB},cs.length=ys.length->(∀j y,ys[j]?=some y->(cs.getD j []).length=h+1/\Bu x y h (cs.getD j []))->(∀k,k<=cs.length->l_ ts h (if k=0 then a else cs.getD (k - 1) []) ((cs++[ly h]).getD k []))->qW x ts h a ys cs
 | [],a,[],_,_,_=>True.intro| y::r,a,c::cs,g,d,b=>by
  have f:=d 0 y rfl;have f0:=b 0 (zAd _);refine⟨f.1,f.2,f0,λe=>?_,IL (by simpa using g) (λj n l=>d (j+1) n l) λk i=>?_⟩
  ·subst e;have:cs=[]:=List.length_eq_zero_iff.mp (by simpa using g);subst this;exact b 1 (y8 _)
  ·have:=b (k+1) (zCh i);cases k with| zero=>exact this| succ k=>exact this
theorem CC (a:∀g∈ts,eS m g):∀{r:List Str} {c:List Int} {cs:zzB},(∀y∈r,y.cps.size=h+1)->qW x ts h c r cs->(r=[]->l_ ts h c (ly h))->Cont x ts h c r| [],c,cs,_,_,e=>FH.mpr (e rfl)| y::r,c,[],_,q,_=>q.elim| y::r,c,f::cs,b,q,_=>by obtain⟨n,j,l,d,k⟩:=q;exact (Cz a (b y zAb)).mpr ⟨f,(ni a (b y zAb)).mpr ⟨n,j,l,CC a (λz i=>b z (zBd _ i)) k d⟩⟩
theorem Me (b:∀g∈ts,eS m g)(d:∀y∈ys,y.cps.size=h+1)(q:qW x ts h a ys cs)(r:Rl x ts h a ys none):False:=by obtain⟨y,o,rfl,f⟩:=IG b d r rfl;cases cs with| nil=>exact q| cons c cs=> obtain⟨n,k,l,e,j⟩:=q;exact f c ((ni b (d y zAb)).mpr ⟨n,k,l,CC b (λz i=>d z (zBd _ i)) j e⟩)
noncomputable def jQ (p:List Str):zzB:=(range (bJ p)).map λj=>p.map λr=>lm (r.cps.getD j 0)
theorem FU (a:j < bJ p):(jQ p).getD j []=p.map λr=>lm (r.cps.getD j 0):=by unfold jQ;rw[y6,vT,List.getElem?_range a];rfl
theorem wR (f:Str->Int){p:List Str}(a:i < p.length):(p.map f).getD i 0=f (p.getD i ⟨#[]⟩):=by rw[y6,vT,y6,y2 a];rfl
theorem wU (d:p.length=h+1)(b:∀r∈p,r.length=bJ p):zBH h (jQ p)=bx p:=by
 rw[<-wQ];unfold zBH;rw[d];refine zC3 λi e=>?_;have a:i < p.length:=by have:=zAk.mp e; lia
 have c:(p.getD i ⟨#[]⟩).cps.size=bJ p:=b _ (getD_mem a);unfold rowOf jQ di;rw[<-zDG,zAf,zAf,c];refine zC3 λj _=>?_;exact wR (λr=>lm (r.cps.getD j 0)) a
theorem Mf (f:pX c=true):oR cj ⟨#[c]⟩ k↔k=lm c:=by
 have e:cj.cps=#[97,98,99,100]:=by decide +kernel
 have a:c=97\/c=98\/c=99\/c=100:=by have:=zAr f;rw[e] at this;simpa using this
 unfold oR lm;have b:(cj.length:Int)=4:=by decide +kernel
 rw[b,e];constructor
 ·rintro⟨g,i,d⟩;have:k=0\/k=1\/k=2\/k=3:=by lia
  rcases this with rfl | rfl | rfl | rfl <;> simp at d <;> lia
 ·rintro rfl;rcases a with rfl | rfl | rfl | rfl <;> simp
theorem IM (b:∀r∈p,bK r=true)(a:∀r∈p,r.length=bJ p)(f:i < p.length)(e:j < bJ p):pX ((p.getD i ⟨#[]⟩).cps.getD j 0)=true:=by have c:=getD_mem (d:=(⟨#[]⟩:Str)) f;have:=zAi.mp (b _ c);rw[<-zDG] at this;exact this _ (q0.mpr ⟨j,zAk.mpr (by rw[show (p.getD i ⟨#[]⟩).cps.size=bJ p from a _ c]; exact e),rfl⟩)
theorem FW (a:k<=cs.length):rN h cs k=if k=0 then ly h else cs.getD (k - 1) []:=by
 unfold rN;by_cases z:k=0;·rw[u1 z,u1 z]
 ·rw[xL z,xL z,y6,zAo (by lia),y6]
theorem CD:rN h cs (k+1)=(cs++[ly h]).getD k []:=by unfold rN;rw[xL (by lia),zBj]
theorem Of (o:cF p=true)(l:p.length=h+1)(t:∀s∈dN (bx p),s∈ts):qW cj ts h (ly h) (cols p) (jQ p):=by
 obtain⟨r,v,q,w,a,c⟩:=dh o;have d:(cols p).length=bJ p:=by unfold cols; simp
 have g:(jQ p).length=bJ p:=by unfold jQ; simp
 refine IL (by rw[d,g]) (λj y e=>?_) λk n=>?_
 ·have f:j < bJ p:=by rw[<-d]; exact (xI.mp e).1
  rw[IK f] at e;cases e;rw[FU f];refine⟨by rw[yB,l],λi u=>?_⟩;have b:i < p.length:=by lia
  rw[FN b,wR _ b];exact (Mf (IM c a b f)).mpr rfl
 ·have:=UX (ts:=ts) (cs:=jQ p) (h:=h) (by rw[wU l a]; exact t) n;rw[FW n,CD] at this;exact this
theorem RH (o:cF p=true)(D:p.length=h+1)(q:qW cj ts h (ly h) (cols p) cs):∀z∈dN (bx p),z∈ts:=by
 obtain⟨F,M,B,K,a,d⟩:=dh o;obtain⟨v,L,J⟩:=xR o;obtain⟨E,w,G⟩:=IJ v q;have f:(cols p).length=bJ p:=by unfold cols; simp
 have e:zBH h cs=bx p:=by
  rw[<-wU D a];unfold zBH;refine zC3 λi C=>?_;have n:i < h+1:=zAk.mp C;have b:i < p.length:=by lia
  have l:(jQ p).length=bJ p:=by unfold jQ; simp
  refine zCq (by unfold rowOf; rw[yB,yB,E,f,l]) λj g y=>?_;have A:j < cs.length:=by unfold rowOf at g; simpa using g
  have c:j < bJ p:=by lia
  have u:=zd (i:=i) A;have s:=zd (cs:=jQ p) (i:=i) (show j < (jQ p).length by lia);rw[y6,y2 g] at u;rw[y6,y2 y,FU c,wR _ b] at s;obtain⟨_,I⟩:=w j _ (IK c);have t:=I i n;rw[FN b] at t;have H:=(Mf (IM d a b c)).mp t;exact (show (rowOf cs i)[j]=_ from u).trans (H.trans (show _=(rowOf (jQ p) i)[j] from s.symm))
 rw[<-e];refine RD λk r=>?_;have:=G k r;rw[FW r,CD];exact this
theorem Mg (a:cF p=true)(f:∀c∈ts,eS 4 c)(i:∀c∈dN (bx p),c∈ts)(r:Rl cj ts (p.length - 1) (replicate p.length (-1)) (cols p) none):False:=by
 obtain⟨d,_⟩:=dh a;have b:p.length=p.length - 1+1:=by have:=zDn.mpr d; lia
 have e:replicate p.length (-1:Int)=ly (p.length - 1):=by unfold ly; rw[<-b]
 rw[e] at r;exact Me f (λy g=>((xR a).2.2 y g).1.trans b) (Of a b i) r
theorem Mh (a:cF p=true)(f:∀d∈ts,eS 4 d)(r:Rl cj ts (p.length - 1) (replicate p.length (-1)) (cols p) (some cs)):∀d∈dN (bx p),d∈ts:=by
 obtain⟨c,_⟩:=dh a;have b:p.length=p.length - 1+1:=by have:=zDn.mpr c; lia
 have e:replicate p.length (-1:Int)=ly (p.length - 1):=by unfold ly; rw[<-b]
 rw[e] at r;exact RH a b (II f (λy g=>((xR a).2.2 y g).1.trans b) r)
end
section
theorem FY (a:pX c=true):c=97\/c=98\/c=99\/c=100:=by
 have e:cj.cps=#[97,98,99,100]:=by decide +kernel
 have:=zAr a;rw[e] at this;simpa using this
theorem Og (k:cF p=true):∀q∈dN (bx p),eS 4 q:=by
 obtain⟨d,l,j,n,g,b⟩:=dh k;have e:∀y∈p,(di y).length=bJ p:=λy h=>by unfold di;rw[yB,zAq];exact g y h
 have a:gm (bx p)=bJ p:=by cases p with| nil=>exact absurd rfl d| cons s t=>exact e s zAb
 refine Q8 ⟨λz=>d (List.map_eq_nil_iff.mp z),by unfold bx; rw[yB]; exact l,by rw[a]; exact⟨n,j⟩,λr i=>?_,λr i f o=>?_⟩
 ·obtain⟨y,h,rfl⟩:=q0.mp i;rw[a];exact e y h
 ·obtain⟨y,h,rfl⟩:=q0.mp i;obtain⟨c,m,rfl⟩:=q0.mp o;have:=FY (zAi.mp (b y h) c m);unfold lm;lia
theorem IP:∀{ts:zzB},ts.Pairwise (λa b=>HT.lexLt a b=true)->oN ts=true| [],_=>rfl| [_],_=>rfl| a::b::r,h=>by cases h with| cons e d=> show (HT.lexLt a b&&oN (b::r))=true;rw[e b zAb,IP d];rfl
theorem IQ (h:∀g∈ts,eS 4 g)(i:ts.Pairwise (λa b=>HT.lexLt a b=true)):oi cj ts=true:=by
 unfold oi;rw[IP i,Bool.and_true,zAw];refine⟨by decide +kernel,zAi.mpr λg e=>?_⟩;obtain⟨a,b⟩:=h g e;unfold l0;rw[zAw];refine⟨zAa a,zAi.mpr λf j=>?_⟩;obtain⟨c,d⟩:=b f j;rw[zAw];have o:cj.length=4:=by decide +kernel
 exact⟨zAa c,zAa (by rw[o]; exact d)⟩
theorem FZ (d:∀a∈ts,eS 4 a)(b:ts.length<=900):JS cj ts:=⟨by decide +kernel,b,λa c=>by rw[(d a c).1]; decide⟩
end
mutual theorem Oh:∀d:Dt,eqv d.py d.py=true| .int i=>by show (i == i)=true; simp| .str x=>by show (x == x)=true; simp| .tup ds=>JV ds| .aT=>rfl| .bl b=>by cases b <;> rfl| .lst ds=>JV ds theorem JV:∀ds:List Dt,eqvAll (Dt.iY ds) (Dt.iY ds)=true| []=>rfl| d::ds=>zBp.mpr ⟨Oh d,JV ds⟩ end
noncomputable def Flat (k:Nat)(d:Dt):Prop:=d.py.canLay0=true/\d.py.depth<=k
theorem qg:∀{a:List Dt},(∀d∈a,Flat k d)->PyData.canLayAll0 (Dt.iY a)=true/\depthAll (Dt.iY a)<=k| [],_=>⟨rfl,zAd _⟩| d::a,h=>by have b:=h d zAb;have c:=qg λe f=>h e (zBd _ f);exact⟨zBp.mpr ⟨b.1,c.1⟩,Nat.max_le.mpr ⟨b.2,c.2⟩⟩
theorem zf (h:∀d∈a,Flat k d):Flat (k+1) (.lst a):=⟨(qg h).1,zCh (qg h).2⟩
theorem F0 (h:∀d∈a,Flat k d):Flat (k+1) (.tup a):=⟨(qg h).1,zCh (qg h).2⟩
theorem Mi (ks:List Int):Flat 1 (tupI ks):=F0 λd a=>by obtain⟨i,_,rfl⟩:=q0.mp a;exact⟨rfl,y8 _⟩
theorem F1 (h:∀c∈x.cps.toList,c < 1114112):Flat k (.str x):=⟨by show (x.cps.all λc=>decide (c < 1114112))=true;rw[<-Array.all_toList,zAi];exact λc a=>zAa (h c a),zAd _⟩
theorem Flat.UY (h:Flat 9 d):A3 d d:=⟨h.1,h.1,zAu (Nat.min_le_left _ _) (zAu h.2 (by decide))⟩
theorem Flat.up (h:Flat j d)(a:j<=k):Flat k d:=⟨h.1,zAu h.2 a⟩
theorem F6 {α:Type}{R:α->α->Prop}(d:∀a b,R a b->¬ R b a):∀{l m:List α},l.Pairwise R->m.Pairwise R->(∀x,x∈l↔x∈m)->l=m
 | [],[],_,_,_=>rfl| [],b::m,_,_,h=>nomatch (h b).mpr zAb| a::l,[],_,_,h=>nomatch (h a).mp zAb| a::l,b::m,f,c,h=>by
  rw[zCr] at f c;have e:a=b:=by
   rcases wS.mp ((h a).mp zAb) with z | z;·exact z
   rcases wS.mp ((h b).mpr zAb) with y | y;·exact y.symm
   exact absurd (c.1 a z) (d _ _ (f.1 b y))
  subst e;rw[F6 d f.2 c.2 λx=>⟨λz=>?_,λz=>?_⟩]
  ·rcases wS.mp ((h x).mp (zBd _ z)) with rfl | y;·exact absurd (f.1 x z) (λq=>d _ _ q q)
   ·exact y
  ·rcases wS.mp ((h x).mpr (zBd _ z)) with rfl | y;·exact absurd (c.1 x z) (λq=>d _ _ q q)
   ·exact y
theorem uD {K:zzA}{H:Hp}{α:Type}{g:α->V}{f:α->Dt}(e:∀a H,Rep K H (f a) (g a)):∀c:List (M1 × List α),(∀p∈c,H p.1=some (.lst (p.2.map g)))->aK K H ((c.map (·.2)).map λr=>.lst (r.map f)) (c.map λr=>V.ref r.1)| [],_=>by show aK K H [] []; unfold aK; rfl| p::d,h=>by show aK K H (Dt.lst (p.2.map f)::(d.map (·.2)).map λr=>Dt.lst (r.map f)) (V.ref p.1::d.map λr=>V.ref r.1);unfold aK;refine⟨_,_,rfl,?_,uD e d λq j=>h q (zBd _ j)⟩;unfold Rep;refine⟨p.1,_,rfl,az.of (h p zAb),?_⟩;induction p.2 with| nil=>show aK K H [] []; unfold aK; rfl| cons a l i=> show aK K H (f a::l.map f) (g a::l.map g);unfold aK;exact⟨_,_,rfl,e a H,i⟩
theorem Oi {K:zzA}{H:Hp}{F:M1}{b:zzD}(h:H F=some (.lst (b.map rv)))(d:∀p∈b,H p.1=some (.lst (p.2.map V.int))):Rep K H (.lst ((b.map (·.2)).map dH)) (.ref F):=by unfold Rep;exact⟨F,_,rfl,az.of h,uD (f:=Dt.int) (λa H=>by unfold Rep; rfl) b d⟩
theorem F7 {K:zzA}{H:Hp}{F:M1}{b:List (M1 × List Str)}(h:H F=some (.lst (b.map λr=>V.ref r.1)))(d:∀p∈b,H p.1=some (.lst (p.2.map V.str))):Rep K H (.lst ((b.map (·.2)).map λp=>.lst (p.map Dt.str))) (.ref F):=by unfold Rep;exact⟨F,_,rfl,az.of h,uD (f:=Dt.str) (λa H=>by unfold Rep; rfl) b d⟩
theorem IS {K:zzA}(h:uv K H a x ts):Rep K H (.tup [.str x,.lst (ts.map tupI)]) (.ref a):=by obtain⟨T,d,c⟩:=h;unfold Rep;refine⟨a,_,rfl,d,?_⟩;unfold aK;refine⟨_,_,rfl,by unfold Rep; rfl,?_⟩;unfold aK;exact⟨_,_,rfl,c,by unfold aK; rfl⟩
theorem Oj (h:∀c∈x.cps.toList,c < 1114112)(ts:zzB):A3 (.tup [.str x,.lst (ts.map tupI)]) (.tup [.str x,.lst (ts.map tupI)]):=Flat.UY (F0 λd a=>by
 rcases wS.mp a with rfl | a;·exact F1 h
 ·rw[zAc.mp a];refine Flat.up (zf (k:=1) λe f=>?_) (by decide);obtain⟨b,_,rfl⟩:=q0.mp f;exact Mi b)
theorem Mj {ps:List (List Str)}(h:∀p∈ps,∀y∈p,bK y=true):A3 (.lst (ps.map λp=>.lst (p.map Dt.str))) (.lst (ps.map λp=>.lst (p.map Dt.str))):=Flat.UY (zf λd i=>by obtain⟨p,a,rfl⟩:=q0.mp i;refine zf (k:=7) λe f=>?_;obtain⟨y,b,rfl⟩:=q0.mp f;refine F1 λc g=>?_;have:=FY (zAi.mp (h p a y b) c g);lia)
theorem UZ {K:zzA}(k:Gv f σ H u)(h:∀H',ah H H'->Gv g σ H' v)(F:A3 d d)(j:∀H',ah H H'->Rep K H' d u)(l:∀H',ah H H'->Rep K H' d v):Gv (dz (Ep K true) f g) σ H (.bl false):= λR r=>k _ λi a=>h i a _ λb c=>⟨d,d,F,j b (a.trans c),l b (a.trans c),by rw[Oh]; exact r b (a.trans c)⟩
theorem IT (xs:List V)(k:Nat):nW xs none (some (k:Int))++nW xs (some ((k+1:Nat):Int)) none=xs.eraseIdx k:=by
 rw[Cg,List.eraseIdx_eq_take_drop_succ];unfold nW;rw[HT.DR,HT.Hz,List.drop_zero,Nat.sub_zero];by_cases h:k<=xs.length;·rw[Nat.min_eq_left h]
 ·rw[Nat.min_eq_right (by lia),zB6 (y8 _),zB6 (by lia)]
theorem RI {l:zzB}(h:l.Pairwise (λa b=>HT.lexLt a b=true))(n:l[k]?=some x)(z:x∈l.eraseIdx k):False:=by
 obtain⟨i,e,p⟩:=List.mem_eraseIdx_iff_getElem?.mp z;obtain⟨j,g⟩:=xI.mp n;obtain⟨d,m⟩:=xI.mp p;have f:=zBs.mp h;rcases Nat.lt_or_gt_of_ne e with c | c
 ·have:=f i k d j c;rw[m,g,TB.lex_irrefl] at this;cases this
 ·have:=f k i j d c;rw[m,g,TB.lex_irrefl] at this;cases this
theorem IU {α β:Type}(f:α->β)(l:List α)(k:Nat):(l.map f).eraseIdx k=(l.eraseIdx k).map f:=by rw[List.eraseIdx_eq_take_drop_succ,List.eraseIdx_eq_take_drop_succ,v3,List.map_take,List.map_drop]
section
variable {P:zAA}{w:zAD}{K:zzA}{mg:Str->Option Value}{base:Heap}{t:Ad}
inductive CG (K:zzA)(vs:List V)(H:Hp)(Q:VK)(E_:XK):Prop| mk (a:M1) (ns:List Int) (k:Int) (hg wd:Nat) (ls:Str):vs=[.ref a,.int k,.int (hg:Int),.int (wd:Int),.str ls]->az K H a (ns.map V.int)->ns.length<=63->1<=ls.cps.size->ls.cps.size<=100->hg<=20->wd<=20->(∀(Z:M1) (p:List Str) (H':Hp),H Z=none->ah H H'->H' Z=some (.lst (p.map V.str))->p.length=hg->(∀r∈p,r.cps.size=wd/\∀c∈r.cps.toList,c∈ls.cps.toList)->Q (.ref Z) H')->CG K vs H Q E_
theorem mj:aJ ["_law_script","_law_k","_law_high","_law_wide","_law_letters","_law_found","_law_y"] ["_law_script","_law_k","_law_high","_law_wide","_law_letters"] (aE g8):=cH
theorem AF (T:Txt K mg t):aL P w K mg base bI 3 t.r_ t.jG ["_law_script","_law_k","_law_high","_law_wide","_law_letters"] (CG K):=by
 have b:aL P w K mg base bI 2 t.uh t.lR ["_law_script","_law_k"] (Ab K):=yd T;refine T._law_picture.fn.ok mj (λvs H Q E h=>?_) (λcdv A N s H vs Q E U h=>?_)
 ·obtain⟨a,C,k,L,g,d,rfl,_⟩:=h;rfl
 obtain⟨a,C,k,L,g,d,rfl,hS,hl,acB,acC,Xd,Xe,kk⟩:=h;refine⟨_,(aj (bF 5 mj.nd (bH ai)) (aj (cQ zA3 rfl (fP rfl T.gv (af (pv 2) ai)) (bE 6 mj.nd) (au (dR (ou K zA0 zA5 zA6 eF (pv 5) (af (ou K plainAttrs_str PySem.F.slot_str_join PySem.F.type_str_join (O0 K) dB (af (iD ["_law_x","_law_letters","_law_script","_law_k","_law_y"] [none,some 4,some 0,some 1,some 6] (fP rfl T.gv (af (pv 3) ai)) (λ_ _ _ _ nd=>⟨(bE 0 nd),cE,(aO zA (pv 1) (aF jZ (aF G9 (cD T._law_mix b U aN (af (pv 2) (af (aF cS (aF cS (pv 3) (aF vv av (pv 4))) (pv 0)) ai))) av) (aI (g5 K) (by rfl) T.ff zB3 (af (pv 1) ai))) (λ_ _=>rfl))⟩)) ai)) ai))))) (au (aH (pv 5))))),?_⟩;refine aP ⟨(by show 0<=PK; decide),λF O=>?_⟩;refine sM (n:=L) (aC aa) (by lia) (λi σ G=>∃(X:Option V) (p:List Str),σ=[some (.ref a),some (.int k),some (.int (L:Int)),some (.int (g:Int)),some (.str d),some (.ref F),X]/\ah H G/\G F=some (.lst (p.map V.str))/\p.length=i/\∀r∈p,r.cps.size=g/\∀c∈r.cps.toList,c∈d.cps.toList) (λG q=>⟨none,[],rfl,(ah.new O _).trans q,q _ _ ao,rfl,by simp⟩) (λi σ G hi M=>?_) fun σ G M=>?_
 ·obtain⟨X,p,rfl,q,l,o,m⟩:=M;let f:Nat->Nat:=λj=>d.cps.getD (mix C (k+6 * (i:Int)+(0+(j:Int))) / 8 % (d.cps.size:Int)).toNat 0;have I:∀j,0<=mix C (k+6 * (i:Int)+(0+(j:Int))) / 8 % (d.cps.size:Int)/\mix C (k+6 * (i:Int)+(0+(j:Int))) / 8 % (d.cps.size:Int) < d.cps.size:=λj=>⟨Int.emod_nonneg _ (by lia),Int.emod_lt_of_pos _ (by lia)⟩;refine jf ((aa (v:=.ref F) (by rfl)) _ λH2 u=>⟨.inl ⟨rfl,_,az.of (u _ _ l)⟩,wM ⟨rfl,Ek (aC aa) (by simp) (by lia) λH3 s3=>?_⟩⟩);rw[zA9];have x:=q.trans (u.trans s3);refine mU (λj=>.str (kT (f j))) (small (by lia)) (λj H4 R hj J k4=>?_) λD H4 hD J W=>?_
  ·have Z:=(I j).1;have h1:=(I j).2;refine qz (Ei aa (λH5 S=>dY (dY (we hS hl (x.trans (J.trans S)) (ay aa λ_ _=>aC (aW (aW aa λ_ _=>dY aB (λ_ _=>aa) (.inl ⟨by decide,by decide⟩)) λ_ _=>aa))) (λ_ _=>aB) ⟨by decide,by decide⟩) (λ_ _=>mW (K:=K) (aC aa) (small (by show d.cps.size<=1000; lia))) (by show (0:Int) < (d.cps.size:Int); lia)) (small (by show d.cps.size<=1000; lia)) (LA Z h1)) λH5 S=>k4 H5 S
  ·refine⟨"",D,(range g).map (λj=>kT (f j)),rfl,rfl,az.of (by rw[W,zAf]; rfl),?_,?_⟩
   ·have e:(range g).map (λj=>kT (f j))=((range g).map f).map kT:=by rw[zAf]; rfl
    rw[e,E6];simp;show g+g * 0<=16777216;lia
   ·have Y:=(u.trans (s3.trans J)) _ _ l;refine⟨F,_,_,rfl,rfl,Y,by rw[yB,kA]; lia,?_⟩;have y:(join "" ((range g).map λj=>kT (f j))).cps.toList=(range g).map f:=by have:=yW ((range g).map f);rw[zAf] at this;exact this
    refine⟨_,p++[join "" ((range g).map λj=>kT (f j))],rfl,(x.trans J).put O _,by rw[ao,v3]; rfl,by simp [o],λr U=>?_⟩;rcases w8.mp U with z | z;·exact m r z
    ·rw[zAc.mp z];refine⟨by rw[<-zAq,y]; simp,λc hc=>?_⟩;rw[y] at hc;obtain⟨j,hj,rfl⟩:=q0.mp hc;have h1:=(I j).2;have Z:=(I j).1;show d.cps.getD _ 0∈d.cps.toList;have B:(mix C (k+6 * (i:Int)+(0+(j:Int))) / 8 % (d.cps.size:Int)).toNat < d.cps.size:=by ext
     rw[zDf,zCm,zA1 B];exact Array.getElem_mem B
 ·obtain⟨X,p,rfl,q,l,o,m⟩:=M;exact b8 aa λH2 u=>kk F p H2 O (q.trans u) (u _ _ l) o m
inductive AG (K:zzA)(t:Ad)(vs:List V)(H:Hp)(Q:VK)(E_:XK):Prop| mk (a C:M1) (wd:Str):vs=[.ref a]->H a=some (yH a (.ref C))->(C=t.aR/\wd="picture")->(∀H',ah H H'->Q (.str wd) H')->AG K t vs H Q E_
structure Ye (K:zzA)(t:Ad)(C:M1)(b1 b2 b3 b4 b5:Bool):Prop where
 is:jB K C
 k1:PySem.W.kitOne K (.ref C) (.ref t.aR)=some b1
 k2:PySem.W.kitOne K (.ref C) (.ref t.qH)=some b2
 k3:PySem.W.kitOne K (.ref C) (.ref t.fQ)=some b3
 k4:PySem.W.kitOne K (.ref C) (.ref t.qI)=some b4
 k5:PySem.W.kitOne K (.ref C) (.ref t.uq)=some b5
 k6:PySem.W.kitOne K (.ref C) (.type "ValueError")=some true
theorem mw:aJ ["_law_kept","_law_kinds"] ["_law_kept"] (aE g9):=cH
theorem AH (T:Txt K mg t):aL P w K mg base bI 1 t.sC t.jH ["_law_kept"] (AG K t):=by
 refine T._law_refusal.fn.ok mw (λvs H Q E h=>?_) (λcdv A W s H vs Q E hr h=>?_)
 ·obtain⟨a,C,wd,rfl,_⟩:=h;rfl
 obtain⟨a,C,wd,rfl,he,L,kk⟩:=h;have hF:∃(i l g k o:Bool) (j:Nat),Ye K t C i l g k o/\([V.bl i,.bl l,.bl g,.bl k,.bl o].countP λy=>nI y (.bl true))=1/\(∃hj:j < 5,nI ([V.bl i,.bl l,.bl g,.bl k,.bl o][j]) (.bl true)=true)/\(∀(m:Nat) (hm:m < 5),m < j->nI ([V.bl i,.bl l,.bl g,.bl k,.bl o][m]) (.bl true)=false)/\j4 [V.str "picture",.str "size",.str "system",.str "text",.str "unlike"] (j:Int)=some (.str wd):=by obtain⟨rfl,rfl⟩:=L;exact⟨true,false,false,false,false,0,⟨T.EV,T.qj,T.ur,T.rD,T.uu,T.u5,T.qk⟩,rfl,⟨by decide,rfl⟩,λm hm h=>absurd h (by lia),rfl⟩
 obtain⟨i,l,g,k,o,j,F,e,⟨hj,O⟩,R,N⟩:=hF;refine⟨_,(aj (bT (lE (DC (pv 0))) (au (aH dB)) bf) (aj (bF 1 mw.nd (bH (af (aI (gM K) (by rfl) T.f7 zDe (af (pv 0) (af (bQ (v:=.ref t.aR) rfl T.ES rfl) ai))) (af (aI (gM K) (by rfl) T.f7 zDe (af (pv 0) (af (bQ (v:=.ref t.qH) rfl T.Lr rfl) ai))) (af (aI (gM K) (by rfl) T.f7 zDe (af (pv 0) (af (bQ (v:=.ref t.fQ) rfl T.GG rfl) ai))) ai))))) (aj (bF 1 mw.nd (aF gU (pv 1) (bH (af (aI (gM K) (by rfl) T.f7 zDe (af (pv 0) (af (bQ (v:=.ref t.qI) rfl T.Ls rfl) ai))) (af (aI (gM K) (by rfl) T.f7 zDe (af (pv 0) (af (bQ (v:=.ref t.uq) rfl T.NP rfl) ai))) ai))))) (aj (bT (PW.pt (qv (bw C8 (ou K zA0 PySem.F.slot_list_count PySem.F.type_list_count (S0 K) (pv 1) (af nu ai)) av (ja _)) (vo (o_ (o9 (aI (gM K) (by rfl) T.f7 zDe (af (pv 0) (af (G0 (v:=.ty "ValueError") rfl T.EW PyProof.Rows.Boot.ValueError rfl) ai)))))))) (au (aH dB)) bf) (au (aH (aO (c_ K) (bH (af dB (af dB (af dB (af dB (af dB ai)))))) (ou K zA0 PySem.F.slot_list_index PySem.F.type_list_index (S1 K) (pv 1) (af nu ai)) (λ_ _=>rfl)))))))),?_⟩;refine fC (b:=false) (cA (iX (Eg (aa (by rfl)))) (by simp)) (λc H1 u=>absurd c (by decide)) λc H1 u=>?_;have d:∀{σ:L2.St} {X:Hp} {Y:TA} {c:V} {b:Bool},ah H X->Ga Y σ X [.ref a,c]->((∃x,c=.ref x)\/∃n,c=.ty n)->PySem.W.kitOne K (.ref C) (yI c)=some b->Gv (pA (λxs H Q=>∃x c t b,xs=[x,c]/\((∃a,c=.ref a)\/∃n,c=.ty n)/\HK K H x t/\PySem.W.kitOne K t (yI c)=some b/\Q (.bl b) H) Y) σ X (.bl b):= λs hg hc hk=>QO hg hc (s _ _ he) F.is hk;refine aP (xD (jg (xs:=[.bl i,.bl l,.bl g]) (ay (d u (ay (aa (by rfl)) λ_ _=>aC aB) (.inl ⟨_,rfl⟩) F.k1) λH2 J=>ay (d (u.trans J) (ay (aa (by rfl)) λ_ _=>aC aB) (.inl ⟨_,rfl⟩) F.k2) λS r=>aC (d ((u.trans J).trans r) (ay (aa (by rfl)) λ_ _=>aC aB) (.inl ⟨_,rfl⟩) F.k3)) (by show 3<=PK; decide)) λl1 H2 hl1 J B=>?_);have p:=u.trans J;refine aP (xD (S4 (ys:=[.bl k,.bl o]) (aa (by rfl)) B (λS r=>jg (ay (d (p.trans r) (ay (aa (by rfl)) λ_ _=>aC aB) (.inl ⟨_,rfl⟩) F.k4) λM f=>aC (d ((p.trans r).trans f) (ay (aa (by rfl)) λ_ _=>aC aB) (.inl ⟨_,rfl⟩) F.k5)) (by show 2<=PK; decide)) (by show 5<=PK; decide)) λl2 S hl2 r D=>?_);have I:=p.trans r;have G:az K S l2 [V.bl i,.bl l,.bl g,.bl k,.bl o]:=az.of D;refine fC (b:=false) (cA (xC (q:=false) (bA (zS (Nq (aa (by rfl)) G (λ_ _=>aC aB) (by rfl) (by rfl)) (λ_ _=>aB) (by rfl))) λ_ M f=>cA (pD (iX (d (I.trans f) (ay (aa (by rfl)) λ_ _=>aC aB) (.inr ⟨_,rfl⟩) F.k6))) rfl) ?_) (λc M f=>absurd c (by decide)) λc M f=>?_;·rw[e]; rfl
 refine b8 (S9 (K:=K) (xs:=[.str "picture",.str "size",.str "system",.str "text",.str "unlike"]) (jg (ay aB λ_ _=>ay aB λ_ _=>ay aB λ_ _=>ay aB λ_ _=>aC aB) (by show 5<=PK; decide)) (λZ U=>Nr (j:=j) (aa (by rfl)) ((f.trans U).seq G) (λ_ _=>aC aB) (by rfl) (by rfl) hj O R) N) λZ U=>kk Z (I.trans (f.trans U))
section
variable {tt:TT}{ts us:TS}{D:Ends}{σ:L2.St}{H:Hp}{ta tb:TE}{R:VK}
theorem U0 (h:Gt tt σ H false)(k:∀H',ah H H'->us D σ H'):vp tt ts us D σ H:=je h (λz=>absurd z (by decide)) λ_=>k
theorem Ml (h:Gt tt σ H false)(k:∀H',ah H H'->us D σ H'):fj (vp tt ts tV) us D σ H:=fC h (λz=>absurd z (by decide)) λ_=>k
theorem U1 {b:Value}{n i:Nat}{tb:XK->TS}{c:TS}{Px:XK}{Rx:L2.St->Hp->Prop}(f:∀a d H',Px a d H'->Nj K b n i c { D with nx:=us D } a d H')(e:∀σ H',Rx σ H'->us D σ H')(h:∀(E:XK) (nx:L2.St->Hp->Prop),(∀a d H',Px a d H'->E a d H')->(∀σ H',Rx σ H'->nx σ H')->tb E { D with nx:=nx } σ H):fj (SV K b n i tb c) us D σ H:=h _ _ f e
end
end
end eK
namespace L2
open PySem PySem.Spec PyProof.Rows
section
variable {X:Cx}
theorem Ol:bP X (.builtin "any") (λxs H Q=>X.calm=true/\∃(a:M1) (bs:List Bool),xs=[.ref a]/\az X.K H a (bs.map V.bl)/\Q (.bl (bs.any λb=>b)) H):=by
 intro m s σ H xs P Q I r h;obtain⟨K,a,bs,rfl,A,q⟩:=h;obtain⟨u,rfl,J⟩:=vals1 r;cases J;obtain⟨d,rv,p,O⟩:=I.list A;have c:=rv.length;rw[yB] at c;refine call_any_walk (zBK p.isList ?_);have C:a≠s.heap.objs.size:=by obtain⟨o,n,e,_⟩:=p; exact zAe (v4 e)
 refine⟨s.heap.objs.size,_,_,_,_,_,λi=>(bs[i]?).getD false,rfl,Walks.list (by rw[Around.in1_handled]; exact I.ok.hd K) s.heap.objs.size a C d.toArray,?_,?_,λh' E k=>?_⟩;·exact⟨⟨_,wE _ rfl,rfl,rfl⟩,p.isList.push _⟩
 ·intro i v G B N F y;have t:d.toArray[i]?=some v:=F;have f:d[i]?=some v:=by simpa using t
  have j:i < bs.length:=by rw[c]; exact (xI.mp f).1
  obtain⟨L,g,w⟩:=rv.get (i:=i) (x:=.bl bs[i]) (by rw[vT,y2 j]; rfl);rw[f] at g;cases g;cases w;have l:B ((bs[i]?).getD false) G:=y;rw[y2 j] at l;exact zBu l
 ·have e:(range d.toArray.size).any (λi=>(bs[i]?).getD false)=bs.any λb=>b:=by
   rw[zB7,<-c];rw[Bool.eq_iff_iff];simp only [List.any_eq_true,zAk];constructor
   ·rintro⟨i,f,z⟩;rw[y2 f] at z;exact⟨_,zB2 f,z⟩
   ·rintro⟨b,D,z⟩;obtain⟨i,f,e⟩:=zBb.mp D;refine⟨i,f,?_⟩;rw[y2 f];show bs[i]=true;rw[e]; exact z
  rw[e];have M:Inv X m σ H { s with heap:=s.heap.push { cls:=.type "list_iterator",data:=.fields #[.ref a,.int 0 0] } }:=I.kept (t':=s.toks) λb o e=>y4 _ e;exact⟨.bl _,H,I.kept (t':=E) (h':=h') λb o e=>k b o (by simp; exact zAe (v4 e)) (y4 _ e),rfl,q⟩
end
section
variable {X:Cx}(K:zzA)
theorem Yg (h:X.K=K:=by rfl)(d:X.calm=true:=by rfl):bP X (.builtin "any") (λxs H Q=>∃(a:M1) (bs:List Bool),xs=[.ref a]/\az K H a (bs.map V.bl)/\Q (.bl (bs.any λb=>b)) H):=by subst h;intro c s σ H xs e Q I r q;exact Ol c s σ H xs e Q I r ⟨d,q⟩
end
end L2
namespace eK
open PySem PySem.Spec PyProof.Rows L2 ju TB WD
section
variable {P:zAA}{w:zAD}{K:zzA}{mg:Str->Option Value}{base:Heap}{t:Ad}
theorem U3 {d:List (Option Nat)}{g:TG}{c:TT}{b e:TE}{us:TS}{D:Ends}{σ:L2.St}{H:Hp}{n:Nat}{a:M1}{xs:List V}(h:Gv e σ H (.ref a))(i:az K H a xs)(k:∀H',ah H H'->az K H' a xs->dF (pe K a) d g c b σ H' λf j=>us D (σ.set n (some (.ref f))) j):fj (t8 n (tW K e) d g c b) us D σ H:=SY (D:={ D with nx:=us D }) h i k
theorem Om (g:Gn d σ H [u,v])(j:∀H',ah H H'->Gv b σ H' (.int i))(l:0<=i)(m:i < 2)(e:z=if i=0 then u else v):Gv (dz (q4 K) d b) σ H z:= λR r=>g _ λp n o f a=>j _ f _ λh c=>by
  refine⟨p,[u,v],i,z,rfl,rfl,az.of (c _ _ a),?_,r h (f.trans c)⟩;rw[e];by_cases q:i=0;·subst q; rfl
  ·have:i=1:=by lia
   subst this; rfl
theorem RJ {ls:Str}(d:p.length=g)(a:∀r∈p,r.cps.size=e/\∀c∈r.cps.toList,c∈ls.cps.toList)(f:∀c∈ls.cps.toList,pX c=true)(n:1<=g)(m:g<=3)(k:1<=e)(l:e<=4):cF p=true:=by
 have i:bJ p=e:=by cases p with| nil=>simp at d; lia| cons q r=>exact (a q zAb).1
 have b:p.all (qM (bJ p))=true:=zAi.mpr λq h=>by unfold qM;have:q.length=e:=(a q h).1;rw[i,this,zAa rfl,Bool.true_and];unfold bK;rw[zAi];exact λc j=>f c ((a q h).2 c j)
 unfold cF;rw[b,i,d,zAa (by lia),zAa (by lia),zAa (by lia),zAa (by lia)];rfl
theorem U4 (a:p.length=d)(e:1<=d)(b:∀r∈p,r.cps.size=c):bJ p=c:=by cases p with| nil=>simp at a; lia| cons q r=>exact b q zAb
theorem Oo:∀h,h < 3->∀k,k < 5->PB 4 h k<=13000000:=by decide +kernel
theorem U5 (K:zzA):PySem.W.kitOne K (.type "tuple") (.type "tuple")=some true:=by kernel_rfl
structure zg (p:List Str):Prop where
 ok:cF p=true
 high:p.length<=3
 wide:bJ p<=4
noncomputable def JW:List Str:=["ab","a"]
noncomputable def zh (p:List Str)(ts:zzB):Bool:=(dN (bx p)).all λa=>decide (a∈ts)
theorem zg.sm (z:zg p):Sm p:=by obtain⟨_,d,c,_,a,_⟩:=dh z.ok;exact⟨by lia,λr b=>by rw[a r b]; lia⟩
theorem Mm (u:Ga n σ H [.ref c,.ref b])(r:tD K H c m cj us)(i:∀g∈us.map (·.2),eS 4 g)(q:(us.map (·.2)).Pairwise (λa b=>HT.lexLt a b=true))(z:us.length<=700)(o:az K H b (p.map V.str))(f:zg p)(k:∀v H',ah H H'->decide (v=.aT)=!zh p (us.map (·.2))->R v H'):qy (Bx K) [] E n σ H R:=by
 have s:PB 4 (p.length - 1) (cols p).length<=13000000:=Oo _ (by have:=f.high; lia) _ (by have:=f.wide; unfold cols; simp; lia);refine jD u λD h=>⟨c,m,b,cj,us,p,rfl,r.same h,FZ i (by rw[yB]; lia),IQ i q,by decide +kernel,by lia,h.seq o,f.sm,f.ok,s,λx l j=>k _ _ (h.trans l) ?_,λF G y x l C j _=>k _ _ (h.trans l) ?_⟩;·cases e:zh p (us.map (·.2)) with| false=>rfl| true=>exact (Mg f.ok i (λg d=>zAr (zAi.mp e g d)) j).elim
 ·have:zh p (us.map (·.2))=true:=zAi.mpr λg d=>zAa (Mh f.ok i j g d);rw[this];rfl
inductive wV (K:zzA)(vs:List V)(H:Hp)(Q:VK)(E_:XK):Prop| mk (a:M1) (ns:List Int):vs=[.ref a]->az K H a (ns.map V.int)->ns.length<=63->(∀H',Q (.bl true) H')->wV K vs H Q E_
theorem f_:aJ ["_law_script","_law_pictures","_law_k","_law_high","_law_wide","_law_handed","_law_found","_law_due","_law_picture_here","_law_less","_law_kept","e"] ["_law_script"] (aE oM):=cH
theorem U6 (T:Txt K mg t):aL P w K mg base bI 36 t.z7 t.um ["_law_script"] (wV K):=by
 have g:=yd (P:=P) (w:=w) (base:=base) T;have G:=AF (P:=P) (w:=w) (base:=base) T;have N:=CY (P:=P) (w:=w) (base:=base) T;have C:=AH (P:=P) (w:=w) (base:=base) T;have m:=BB (P:=P) (w:=w) (base:=base) T;have J:=sP (P:=P) (w:=w) (base:=base) T;have Mn:=RC (P:=P) (w:=w) (base:=base) T;refine T.law.fn.ok f_ (λvs H Q E h=>?_) (λcdv A outer s H vs Q E B h=>?_)
 ·obtain⟨a,ns,rfl,_⟩:=h;rfl
 obtain⟨a,ns,rfl,hS,hl,kk⟩:=h;refine⟨_,(aj (bF 1 f_.nd (bH ai)) (aj (cQ zA3 rfl (fP rfl T.gv (af (aF jZ (cD T._law_mix g B aN (af (pv 0) (af av ai))) av) ai)) (bE 2 f_.nd) (aj (bF 3 f_.nd (aF cS av (aF jZ (cD T._law_mix g B aN (af (pv 0) (af (aF cS av (pv 2)) ai))) av))) (aj (bF 4 f_.nd (aF cS av (aF jZ (cD T._law_mix g B aN (af (pv 0) (af (aF cS av (pv 2)) ai))) av))) (au (dR (ou K zA0 zA5 zA6 eF (pv 1) (af (cD T._law_picture G B aN (af (pv 0) (af (aF cS av (aF vv av (pv 2))) (af (pv 3) (af (pv 4) (af (aO (c_ K) (bH (af dB (af dB ai))) (aF jZ (cD T._law_mix g B aN (af (pv 0) (af av ai))) av) (λ_ _=>rfl)) ai)))))) ai))))))) (aj (Y8 5 f_.nd ["_law_picture_here"] [none] (cT K (pv 1)) (λ_ _ _ _ nd=>⟨(bE 0 nd),cE,(jb (OZ K) (by rfl) T.Lv boot_list (af (pv 0) ai))⟩)) (aj (bF 6 f_.nd (cD T.rC m B AA (af (pv 5) ai))) (aj (bF 7 f_.nd (bH ai)) (aj (cQ zA3 rfl (cT K (pv 1)) (bE 8 f_.nd) (au (bF 7 f_.nd (aF gU (pv 7) (cD T._law_tiles N B aN (af (iD ["_law_row"] [none] (cT K (pv 8)) (λ_ _ _ _ nd=>⟨(bE 0 nd),cE,(iD ["_law_one"] [none] (D7 (pv 0)) (λ_ _ _ _ nd=>⟨(bE 0 nd),cE,(ou K plainAttrs_str PySem.F.slot_str_index PySem.F.type_str_index CA dB (af (pv 0) ai))⟩))⟩)) ai)))))) (aj (bT (PW.pt (qv (o_ (o9 (aI (gM K) (by rfl) T.f7 zDe (af (pv 6) (af (G0 (v:=.ty "tuple") rfl T.Ba boot_tuple rfl) ai))))) (qv (bw (Tf K B.units) (pv 6) (b7 (af dB (af (aI (QS K P w) (by rfl) T.pU zDN (af (jb (XM K P w B.units) (by rfl) T.VN boot_set (af (pv 7) ai)) ai)) ai))) (ja _)) (vo (bw (Tf K B.units) (pv 5) (pv 1) (ja _)))))) (au (aH nu)) bf) (aj (dR (cD T.rB J B AA (af (pv 6) ai))) (aj (bT (o9 (aI (Yg K) (by rfl) T.VM boot_any (af (iD ["_law_picture_here","_law_found"] [none,some 6] (cT K (pv 1)) (λ_ _ _ _ nd=>⟨(bE 0 nd),cE,(Ko (DC (cD T.lets Mn B aN (af (pv 1) (af (pv 0) ai)))))⟩)) ai))) (au (aH nu)) bf) (aj (cQ zA3 rfl (fP rfl T.gv (af (aI (g5 K) (by rfl) T.ff zB3 (af (aO (eG K) (pv 6) av (λ_ _=>rfl)) ai)) ai)) (bE 2 f_.nd) (aj (bF 9 f_.nd (b7 (af dB (af (aF gU (yE (Np K) (aO (eG K) (pv 6) av (λ_ _=>rfl)) AW (AX (pv 2))) (yE (Np K) (aO (eG K) (pv 6) av (λ_ _=>rfl)) (AX (aF cS (pv 2) av)) AW)) ai)))) (au (bT (PW.pt (Kp (bw d_ (aF jZ (pv 2) av) av (ja _)) (G6 (o9 (aI (A2 K) (by rfl) T.xM zDy (af (iD ["_law_picture_here","_law_less"] [none,some 9] (cT K (pv 1)) (λ_ _ _ _ nd=>⟨(bE 0 nd),cE,(Ko (Qo (cD T.lets Mn B aN (af (pv 1) (af (pv 0) ai)))))⟩)) ai)))))) (au (aH nu)) bf)))) (aj (bF 10 f_.nd Dz) (aj (SW (i:=11) rfl rfl rfl T.ER f_.nd rfl rfl (λps xe E hP=>(au (dR (cD T.rC m B hP (af (aF gU (pv 5) (bH (af (bH (af dB (af dB ai))) ai))) ai))))) (λ_=>(au (bF 10 f_.nd (pv 11))))) (au (aH (rW d_ (cD T._law_refusal C B aN (af (pv 10) ai)) dB (ja _)))))))))))))))),?_⟩;refine aP ⟨(by show 0<=PK; decide),λF hF=>?_⟩;have s01:ah H (upd H F (.lst [])):=ah.new hF _;have hF1:upd H F (.lst []) F=some (.lst []):=ao;generalize upd H F (.lst [])=H1 at *;obtain⟨n,hn,hn5⟩:∃n:Nat,mix ns 0 % 5=(n:Int)/\n < 5:=⟨(mix ns 0 % 5).toNat,by lia,by lia⟩;refine sM (n:=n) (aC (aU (dY (we hS hl s01 (ay aa λ_ _=>aC aB)) (λ_ _=>aB) (by decide)) (y:=.int (n:Int)) (zA7 V.int hn))) (by lia) (λk σ H2=>∃(e2 e3 e4:Option V) (ps:List (M1 × List Str)),σ=[some (.ref a),some (.ref F),e2,e3,e4,none,none,none,none,none,none,none]/\ah H H2/\H2 F=some (.lst (ps.map λp=>.ref p.1))/\ps.length=k/\∀q∈ps,H2 q.1=some (.lst (q.2.map V.str))/\q.1≠F/\zg q.2) (λH2 s2=>⟨none,none,none,[],rfl,s01.trans s2,s2 _ _ hF1,rfl,by simp⟩) (λk σ H2 hk hP=>?_) fun σ H2 hP=>?_
 ·obtain⟨e2,e3,e4,ps,rfl,s2,tE,hpl,hps⟩:=hP;obtain⟨h,Xd,h1,h3⟩:∃h:Nat,1+mix ns (1+(k:Int)) % 3=(h:Int)/\1<=h/\h<=3:=⟨(1+mix ns (1+(k:Int)) % 3).toNat,by lia,by lia,by lia⟩;obtain⟨wd,Xe,w1,w4⟩:∃c:Nat,1+mix ns (6+(k:Int)) % 4=(c:Int)/\1<=c/\c<=4:=⟨(1+mix ns (6+(k:Int)) % 4).toNat,by lia,by lia,by lia⟩;refine gZ (aU (aW aB λH3 s3=>dY (we hS hl (s2.trans s3) (ay aa λ_ _=>aC (aW aB λ_ _=>aa))) (λ_ _=>aB) (by decide)) (y:=.int (h:Int)) (zA7 V.int Xd)) λH3 s3=>?_;refine gZ (aU (aW aB λH4 s4=>dY (we hS hl (s2.trans (s3.trans s4)) (ay aa λ_ _=>aC (aW aB λ_ _=>aa))) (λ_ _=>aB) (by decide)) (y:=.int (wd:Int)) (zA7 V.int Xe)) λH4 s4=>?_;have s24:=s3.trans s4;obtain⟨ls,els,hl1,hl2,Yh⟩:∃ls:Str,V.str ls=(if mix ns 11 % 2=0 then V.str "abcd" else V.str "ab")/\1<=ls.cps.size/\ls.cps.size<=100/\∀c∈ls.cps.toList,pX c=true:=by
   by_cases e:mix ns 11 % 2=0;·exact⟨"abcd",by rw[u1 e],by decide +kernel,by decide +kernel,by decide +kernel⟩
   ·exact⟨"ab",by rw[xL e],by decide +kernel,by decide +kernel,by decide +kernel⟩
  refine jf ((aa (v:=.ref F) (by rfl)) _ λH5 s5=>⟨.inl ⟨rfl,_,az.of ((s24.trans s5) _ _ tE)⟩,wM (jD (ay aa λHa sa=>ay (aW aB λ_ _=>dY aB (λ_ _=>aa) (.inl ⟨by decide,by decide⟩)) λHb sb=>ay aa λHc sc=>ay aa λHd sd=>aC (Om (K:=K) (z:=.str ls) (jg (ay aB λ_ _=>aC aB) (by show 2<=PK; decide)) (λH' s'=>dY (we hS hl (s2.trans ((s24.trans s5).trans (sa.trans (sb.trans (sc.trans (sd.trans s')))))) (ay aa λ_ _=>aC aB)) (λ_ _=>aB) (by decide)) (by lia) (by lia) els)) λH6 s6=>?_)⟩);have U7:=(s24.trans s5).trans s6;refine⟨a,ns,20+30 * (k:Int),h,wd,ls,rfl,(s2.trans U7).seq hS,hl,hl1,hl2,by lia,by lia,λZ p H7 hZ X wB hp1 hp2=>?_⟩;have U8:=U7.trans X;have L1:=U8 _ _ tE;have Xf:Z≠F:=λz=>by rw[z,U7 _ _ tE] at hZ; cases hZ
  refine⟨F,_,_,rfl,rfl,L1,by rw[yB,kA]; lia,_,_,_,ps++[(Z,p)],rfl,(s2.trans U8).put hF _,by rw[ao,v3]; rfl,by simp [hpl],λq f=>?_⟩;rcases w8.mp f with z | z
  ·obtain⟨z1,z2⟩:=hps q z;exact⟨by rw[aA z2.1]; exact U8 _ _ z1,z2⟩
  ·rw[zAc.mp z];exact⟨by rw[aA Xf]; exact wB,Xf,RJ hp1 hp2 Yh h1 h3 w1 w4,by lia,by rw[U4 hp1 h1 λr B=>(hp2 r B).1]; exact w4⟩
 ·obtain⟨e2,e3,e4,ps,rfl,s2,tE,hpl,hps⟩:=hP;have hpq:az K H2 F (ps.map λp=>.ref p.1):=az.of tE;refine U3 aa hpq λH3 s3 Xg=>om (λq:List Str=>q.map V.str) (λj=>(ps.getD j (0,[])).2) Xg (by rw[yB]; exact small (by lia)) (λj x H4 R hx s4 kc=>?_) λD rs H4 hD s4 v_ em hrs=>?_
  ·rw[vT] at hx;obtain⟨q,f,rfl⟩:=u3.mp hx;obtain⟨z1,z2,z3⟩:=hps q (u4 f);have eq:ps.getD j (0,[])=q:=by rw[y6,f]; rfl
   refine⟨_,rfl,q.1,_,rfl,.inl (az.of ((s3.trans s4) _ _ z1)),λl hl'=>kc l _ hl' (ah.new hl' _) (by rw[eq]; exact ao)⟩
  ·rw[yB,<-wc (λq:M1 × List Str=>q.2) ps (0,[])] at em;have hrp:∀q∈rs,zg q.2:=λq f=>by have:q.2∈rs.map (·.2):=zAg f;rw[em] at this;obtain⟨q',hq',e⟩:=q0.mp this;rw[<-e];exact (hps q' hq').2.2
   have hrl:rs.length=n:=by have:=zA7 length em; simpa [hpl] using this
   have hsm:∀{p:List Str},zg p->Sm p:=λ{p} z=>by obtain⟨_,h4,h12,_,rL,_⟩:=dh z.ok;exact⟨by lia,λr B=>by rw[rL r B]; lia⟩
   refine aP (jD (aC aa) λH5 s5=>⟨D,rs,rfl,⟨az.of (s5 _ _ v_),λq f=>az.of (s5 _ _ (hrs q f).2.2)⟩,λq f=>hsm (hrp q f),by lia,λ_ R T0 qs H6 s6 hRt Y Cy hmem UW=>?_,λq f z=>absurd z (by rw[(hrp q f).ok]; decide)⟩);have Oq:=s3.trans (s4.trans (s5.trans s6));have Mq:=Oq _ _ tE;have hp6:∀q∈ps,H6 q.1=some (.lst (q.2.map V.str)):=λq f=>Oq _ _ (hps q f).1;have Xh:=(s5.trans s6) _ _ v_;have hr6:∀q∈rs,H6 q.1=some (.lst (q.2.map V.str)):=λq f=>(s5.trans s6) _ _ (hrs q f).2.2;have O:∀q∈ps,zg q.2:=λq f=>(hps q f).2.2;clear Oq s6 s5 v_ s4 s3 Xg hpq s2 s01 hS tE hps hrs;refine aP ⟨(by show 0<=PK; decide),λL hL=>?_⟩;have sL:ah H6 (upd H6 L (.lst [])):=ah.new hL _;have Xi:upd H6 L (.lst []) L=some (.lst []):=ao;generalize upd H6 L (.lst [])=HL at sL Xi;refine Bl aa (az.of (sL _ _ Mq)) (λi σ H7=>∃(e8:Option V) (L:M1) (us:zzD),σ=[some (.ref a),some (.ref F),e2,e3,e4,some (.ref D),some (.ref R),some (.ref L),e8,none,none,none]/\ah H6 H7/\H7 L=some (.lst (us.map rv))/\(∀p∈us,aG K H7 p.1 (p.2.map V.int))/\us.length<=20 * i/\us.map (·.2)=(ps.take i).flatMap λq=>dN (bx q.2)) (λH7 X=>⟨none,L,[],rfl,sL.trans X,X _ _ Xi,by simp,zAd _,rfl⟩) (λi σ H7 z=>by obtain⟨_,_,_,_,X,_⟩:=z; exact az.of (X _ _ Mq)) (λi v σ H7 hv z=>?_) fun σ H7 z=>?_
   ·obtain⟨e8,L,us,rfl,X,PM,hu7,Xj,F9⟩:=z;rw[vT] at hv;obtain⟨q,f,rfl⟩:=u3.mp hv;have U:=u4 f;have U9:=O q U;have hi:i < ps.length:=(xI.mp f).1;obtain⟨hne,h4,h12,h1,rL,BA⟩:=dh U9.ok;refine HP ((aa (v:=.ref L) (by rfl)) _ λH8 s8=>?_);have hqs:az K H8 q.1 (q.2.map V.str):=az.of ((X.trans s8) _ _ (hp6 q U));refine⟨_,rfl,q.1,rfl,⟨_,hqs⟩,om (List.map V.int) (λj=>di (q.2.getD j ⟨#[]⟩)) hqs (by rw[yB]; exact small (by lia)) (λj x H9 R' hx s9 k9=>?_) λD' ds H9 Xk s9 F_ Xl hds=>?_⟩
    ·rw[vT] at hx;obtain⟨y,hy,rfl⟩:=u3.mp hx;have Mb:=u4 hy;have ey:q.2.getD j ⟨#[]⟩=y:=by rw[y6,hy]; rfl
     have hyl:=BA y Mb;have hyw:=rL y Mb;refine⟨_,rfl,y,rfl,?_⟩;refine pC (λi=>.int (lm (y.cps.getD i 0))) (small (by show y.length<=1000; lia)) (λi IV R10 hi M kk=>?_) λZ IV hZ M wB=>?_
     ·have hc:pX (y.cps.getD i 0)=true:=by have:=zAi.mp hyl;rw[<-zDG y] at this;exact this _ (q0.mpr ⟨i,zAk.mpr hi,rfl⟩)
      obtain⟨j,rest,e1,e2⟩:=L_ hc;exact⟨rfl,_,rfl,cj,_,j,rest,rfl,rfl,e1,e2 ▸ kk _ (ah.refl _)⟩
     ·refine k9 Z IV hZ M ?_;rw[ey,wB];unfold di;rw[<-zDG y,zAf,zAf];rfl
    ·rw[yB,wQ] at Xl;have hml:∀y∈q.2,(di y).length=bJ q.2:=λy hy=>by unfold di;rw[yB,zAq];exact rL y hy
     have Be:gm (bx q.2)=bJ q.2:=by cases e:q.2 with| nil=>exact absurd e hne| cons r0 rr=> show (di r0).length=_;rw[hml r0 (by rw[e]; exact zAb),e]
     have hlen:(bx q.2).length=q.2.length:=yB _;have hhi:=U9.high;have hwi:=U9.wide;have Iw:(dN (bx q.2)).length<=20:=by rw[FP,hlen,Be];exact Nat.mul_le_mul (zCh hhi) (zCh hwi)
     refine⟨D',bx q.2,rfl,?_,λz=>hne (List.map_eq_nil_iff.mp z),λr B=>?_,by lia,by lia,λF2 IV ws tE M hw hrep=>?_⟩
     ·rw[<-Xl];exact Oi F_ λr B=>(hds r B).2.2
     ·obtain⟨y,hy,rfl⟩:=q0.mp B;rw[Be];exact hml y hy
     ·obtain⟨vs,rfl,eq,hqt⟩:=vO hrep;have hvl:vs.length<=20:=by rw[<-yB (·.2),eq]; exact Iw
      have o:=s8.trans (s9.trans M);refine⟨L,F2,_,_,rfl,rfl,o _ _ PM,hw,by rw[yB,yB,kA]; lia,λp Mc=>?_⟩;have sp:=ah.new Mc (.lst (us.map rv++vs.map rv));refine⟨_,p,us++vs,rfl,X.trans (o.trans sp),by rw[ao,v3],λr B=>?_,by rw[zAm]; lia,?_⟩
      ·rcases w8.mp B with z | z;·exact (o.trans sp).tup (hu7 r z)
       ·exact (vN.trans sp).tup (hqt r z)
      ·rw[v3,F9,eq,List.take_add_one,f,List.flatMap_append];simp
   ·obtain⟨e8,L,us,rfl,X,PM,hu7,Xj,F9⟩:=z;rw[yB] at Xj F9;rw[zAj] at F9;have PN:∀tl∈qs.map (·.2),eS 4 tl:=λtl tu=>by obtain⟨q,f,z⟩:=(hmem tl).mp tu;exact Og (hrp q f).ok tl z
    have Gb:(qs.map (·.2)).Pairwise (λa b=>HT.lexLt a b=true):=zAl.mpr UW;refine Ml (cA (xC (p:=false) (q:=false) (cA (pD (iX (λR r=>(ay aa λ_ _=>aC aB) _ λH8 s8=>⟨_,_,_,true,rfl,.inr ⟨_,rfl⟩,.of (.tup ((X.trans s8) _ _ hRt)),U5 K,r H8 s8⟩))) rfl) λ_ H8 s8=>cA (xC (p:=false) (q:=false) (iX (λR' r'=>?_)) λ_ H9 s9=>iX ?_) rfl) rfl) λH8 s8=>?_
    ·refine (aa (v:=.ref R) (by rfl)) _ λH9 s9=>nR aB λIV M=>?_;have o:=s8.trans (s9.trans M);refine⟨_,rfl,L,us,rfl,az.of (o _ _ PM),λp O=>o.tup (hu7 p O),λl hn hl=>?_,λS ss hS h1 h2 h3=>?_⟩
     ·refine zAu (TB.iA (l2:=us.map (·.2)) hn λy hy=>?_) (by rw[yB]; lia);obtain⟨p,O,rfl⟩:=hl y hy;exact zAg O
     ·have sS:=ah.new hS (En P w S ss);have hsl:ss.length<=100:=by
       have:=TB.iA (l2:=us.map (·.2)) h3 λy hy=>by obtain⟨p,O,rfl⟩:=q0.mp hy;exact zAg (h1 p O)
       rw[yB,yB] at this;lia
      refine⟨S,ss,rfl,ao,λp O=>sS.tup (o.tup (hu7 p (h1 p O))),λp O=>?_,by lia,λl zs hl' hpm hpz=>⟨(by show 2<=PK; decide),λp O=>?_⟩⟩
      ·have:p.2∈us.map (·.2):=zAg (h1 p O);rw[F9] at this;obtain⟨q,_,f⟩:=zC6.mp this;exact wO f
      ·have ez:zs.map (·.2)=qs.map (·.2):=F6 (R:=λa b=>HT.lexLt a b=true) (λa b z=>by rw[lex_asymm z]; decide) (zAl.mpr hpz) Gb λx=>by
        rw[hmem];constructor
        ·intro z;obtain⟨p,O,rfl⟩:=q0.mp z;have:p.2∈us.map (·.2):=zAg (h1 p (hpm.mem_iff.mp O));rw[F9] at this;obtain⟨q,f,z⟩:=zC6.mp this;have:q.2∈rs.map (·.2):=by rw[em]; exact zAg f
         obtain⟨q',hq',e⟩:=q0.mp this;exact⟨q',hq',e ▸ z⟩
        ·rintro⟨q,f,z⟩;have:q.2∈ps.map (·.2):=by rw[<-em]; exact zAg f
         obtain⟨q',hq',e⟩:=q0.mp this;have:x∈us.map (·.2):=by rw[F9]; exact zC6.mpr ⟨q',hq',e ▸ z⟩
         obtain⟨p,O,rfl⟩:=q0.mp this;obtain⟨r,B,e⟩:=h2 p O;exact e ▸ zAg (hpm.mem_iff.mpr B)
       have sl:=ah.new hl' (.lst (zs.map rv));have sp:=ah.new O (.tup [.str cj,.ref l]);have sz:=o.trans (sS.trans (sl.trans sp));have hZ:tD K (upd _ p (.tup [.str cj,.ref l])) p l cj zs:=⟨aG.of ao,az.of (sp _ _ ao),λq f=>(sS.trans (sl.trans sp)).tup (o.tup (hu7 q (h1 q (hpm.mem_iff.mp f))))⟩;refine⟨_,_,Oj (x:=cj) (by decide +kernel) (qs.map (·.2)),IS (Y.same (X.trans sz)).at_,IS (ez ▸ hZ.at_),?_⟩;rw[Oh];exact r' _ (s9.trans (M.trans (sS.trans (sl.trans sp))))
    ·refine UZ (K:=K) (u:=.ref D) (v:=.ref F) aa (λ_ _=>aa) (Mj (ps:=ps.map (·.2)) λp Mc y hy=>?_) (λH' s'=>?_) λH' s'=>F7 ((X.trans (s8.trans (s9.trans s'))) _ _ Mq) λq f=>(X.trans (s8.trans (s9.trans s'))) _ _ (hp6 q f)
     ·obtain⟨q,f,rfl⟩:=q0.mp Mc;obtain⟨_,_,_,_,_,BA⟩:=dh (O q f).ok;exact BA y hy
     ·rw[<-em];exact F7 ((X.trans (s8.trans (s9.trans s'))) _ _ Xh) λq f=>(X.trans (s8.trans (s9.trans s'))) _ _ (hr6 q f)
    have hM:=FZ PN (by rw[yB]; lia);have hB:=IQ PN Gb;refine El (jD (aC aa) λH9 s9=>⟨R,cj,qs.map (·.2),rfl,(Y.same (X.trans (s8.trans s9))).at_,hM,λ_ IV M=>?_,λz=>absurd hB (by rw[z]; decide)⟩);have s610:=X.trans (s8.trans (s9.trans M));clear M s9 s8 X hu7 PM;have hFq:∀{H'},ah IV H'->az K H' F (ps.map λp=>.ref p.1):=λs'=>az.of ((s610.trans s') _ _ Mq);have hpp:(ps.map λp=>V.ref p.1).length<=PK:=by rw[yB]; exact small (by lia)
    refine Ml (iX λR' r'=>⟨_,rfl,F,rfl,⟨_,hFq (ah.refl _)⟩,kM (λ_=>.bl false) (hFq (ah.refl _)) hpp (λi x Xm R11 hx D5 k11=>?_) λD' Xm Xk D5 F_=>⟨D',(range (ps.map λp=>V.ref p.1).length).map λ_=>false,rfl,az.of (by rw[F_,zAf]; rfl),?_⟩⟩) λXm D5=>?_
    ·rw[vT] at hx;obtain⟨q,f,rfl⟩:=u3.mp hx;have U:=u4 f;refine Mm (p:=q.2) (ay (aa (v:=.ref R) (by rfl)) λ_ _=>aC aa) (Y.same (s610.trans D5)) PN Gb Cy (az.of ((s610.trans D5) _ _ (hp6 q U))) (O q U) λv CH I e=>?_;have:zh q.2 (qs.map (·.2))=true:=zAi.mpr λtl tu=>zAa ((hmem tl).mpr (by
      have:q.2∈rs.map (·.2):=by rw[em]; exact zAg U
      obtain⟨q',hq',e⟩:=q0.mp this;exact⟨q',hq',e ▸ tu⟩));rw[this] at e;show R11 (.bl (decide (v=.aT))) CH;rw[e];exact k11 CH I
    ·have:(((range (ps.map λp=>V.ref p.1).length).map λ_=>false).any λb=>b)=false:=by simp
     rw[this];exact r' _ D5
    have Ot:=s610.trans D5;refine sM (n:=qs.length) (aC (aU (jC (K:=K) (aC (fV (K:=K) aa (λ_ _=>aB) (Y.same Ot).1 (cN (j:=1) rfl))) (Y.same Ot).2.1) (by rw[yB]))) (by lia) (λ_ σ CH=>∃(e2 e9:Option V),σ=[some (.ref a),some (.ref F),e2,e3,e4,some (.ref D),some (.ref R),some (.ref L),e8,e9,none,none]/\ah H6 CH) (λCH I=>⟨e2,none,rfl,Ot.trans I⟩) (λk σ CH hk z=>?_) fun σ CH z=>?_
    ·obtain⟨e2,e9,rfl,I⟩:=z;have ix:∀{σ:L2.St} {H':Hp},σ[6]?=some (some (V.ref R))->ah CH H'->Gv (dz (yF K) (b_ 6) (tC (.int 1))) σ H' (.ref T0):=λe s'=>fV (K:=K) (aa e) (λ_ _=>aB) (Y.same (I.trans s')).1 (cN (j:=1) rfl);refine aP (nR aB λH13 s13=>xD (xE (QN (i:=(k:Int)) (ix rfl s13) (Y.same (I.trans s13)).2.1 λ_ _=>aa) (λMr s14=>QM (i:=((k+1:Nat):Int)) (ix rfl (s13.trans s14)) (Y.same (I.trans (s13.trans s14))).2.1 λ_ _=>aU (aW aa λ_ _=>aB) rfl) ?_) λl Mr hl s14 LP=>⟨(by show 2<=PK; decide),λW hW=>?_⟩)
     ·rw[<-zAm,IT];exact small (zAu (List.length_eraseIdx_le _ _) (by rw[yB]; lia))
     rw[IT,IU] at LP;have sW:=ah.new hW (.tup [.str cj,.ref l]);have hZ:tD K (upd Mr W (.tup [.str cj,.ref l])) W l cj (qs.eraseIdx k):=⟨aG.of ao,az.of (sW _ _ LP),λq f=>(Y.same (I.trans (s13.trans (s14.trans sW)))).2.2 q (List.mem_of_mem_eraseIdx f)⟩;have s615:=I.trans (s13.trans (s14.trans sW));generalize upd Mr W (.tup [.str cj,.ref l])=PU at hZ s615;have ev:(qs.eraseIdx k).map (·.2)=(qs.map (·.2)).eraseIdx k:=(IU _ _ _).symm;have U_:∀{H'},ah PU H'->az K H' F (ps.map λp=>.ref p.1):=λs'=>az.of ((s615.trans s') _ _ Mq);refine U0 (cA (K2 (q:=false) (bA (dG (dY aa (λ_ _=>aB) (by decide)) (λ_ _=>aB) (by rfl))) λ_ H16 s16=>iX λR' r'=>⟨_,rfl,F,rfl,⟨_,U_ s16⟩,kM (λj=>.bl (zh (ps.getD j (0,[])).2 ((qs.eraseIdx k).map (·.2)))) (U_ s16) hpp (λi x H17 R17 hx PV Xn=>?_) λD' H17 Xk PV F_=>⟨D',(range (ps.map λp=>V.ref p.1).length).map λj=>zh (ps.getD j (0,[])).2 ((qs.eraseIdx k).map (·.2)),rfl,az.of (by rw[F_,zAf]; rfl),?_⟩⟩) (Bool.and_false _)) λH16 s16=>⟨_,_,rfl,s615.trans s16⟩
     ·rw[vT] at hx;obtain⟨q,f,rfl⟩:=u3.mp hx;have U:=u4 f;have eq:ps.getD i (0,[])=q:=by rw[y6,f]; rfl
      rw[eq] at Xn;refine Mm (p:=q.2) (ay (aa (v:=.ref W) (by rfl)) λ_ _=>aC aa) (hZ.same (s16.trans PV)) (λtl tu=>PN tl ?_) ?_ (zAu (List.length_eraseIdx_le _ _) Cy) (az.of ((s615.trans (s16.trans PV)) _ _ (hp6 q U))) (O q U) λv Xo s18 e=>?_
      ·rw[ev] at tu;exact List.mem_of_mem_eraseIdx tu
      ·rw[ev];exact Gb.sublist (List.eraseIdx_sublist _ _)
      ·show R17 (.bl (!decide (v=.aT))) Xo;rw[e,Bool.not_not];exact Xn Xo s18
     ·have hx:(qs.map (·.2))[k]?=some (qs[k].2):=by rw[vT,y2 hk]; rfl
      obtain⟨q,f,z⟩:=(hmem _).mp (u4 hx);have:q.2∈ps.map (·.2):=by rw[<-em]; exact zAg f
      obtain⟨q',hq',e⟩:=q0.mp this;obtain⟨j,hj,ej⟩:=List.getElem_of_mem hq';have:(((range (ps.map λp=>V.ref p.1).length).map λj=>zh (ps.getD j (0,[])).2 ((qs.eraseIdx k).map (·.2))).all λb=>b)=false:=by rw[List.all_eq_false];refine⟨_,q0.mpr ⟨j,zAk.mpr (by rw[yB]; exact hj),rfl⟩,λy=>?_⟩;rw[y6,y2 hj,Option.getD_some,ej,e,ev] at y;exact RI Gb hx (zAr (zAi.mp y _ z))
      rw[this];exact r' _ PV
    ·obtain⟨e2,e9,rfl,I⟩:=z;refine gZ aB λH13 s13=>?_;have s613:=I.trans s13;refine U1 (Px:=λcls _ H'=>ah H6 H'/\cls=.ref t.aR) (Rx:=λ_ _=>False) ?_ (λ_ _ z=>z.elim) λE nx hE _=>?_
     ·rintro cls d H' ⟨s',rfl⟩;refine⟨T.qm,λe he=>?_⟩;refine Ej (aa (by rfl)) λMr s14=>?_;have he4:Mr e=some (yH e (.ref t.aR)):=s14 _ _ ao;exact b8 (dG (gr (v:=.str "picture") (aC (aa (by rfl))) λPU R' Xp k15=>⟨e,_,_,rfl,Xp _ _ he4,⟨rfl,rfl⟩,k15⟩) (λ_ _=>aB) (by rfl)) λPU Xp=>kk PU
     ·refine jf ⟨_,rfl,(by show 2<=PK; decide),λb hb=>⟨(by show 1<=PK; decide),λc hc=>⟨D,c,rs.map λr=>V.ref r.1,_,rfl,rfl,?_,ao,?_,λA hA=>?_⟩⟩⟩;·exact (ah.new hc _) _ _ ((ah.new hb _) _ _ (s613 _ _ Xh))
      ·rw[yB,kA];show rs.length+1<=_;lia
      ·have s6A:=s613.trans ((ah.new hb _).trans ((ah.new hc _).trans (ah.new hA (.lst ((rs.map λr=>V.ref r.1)++[.ref b])))));refine⟨A,rs++[(b,JW)],rfl,⟨az.of (by rw[ao,v3]; rfl),λq f=>?_⟩,λq f=>?_,by rw[zAm]; show rs.length+1<=_; lia,λz=>absurd (z (b,JW) (zA8 _ zAb)) (show ¬cF JW=true by decide +kernel),λq f z H' s'=>hE _ _ _ ⟨s6A.trans s',rfl⟩⟩
       ·rcases w8.mp f with z | z;·exact az.of (s6A _ _ (hr6 q z))
        ·rw[zAc.mp z];exact az.of ((ah.new hA _) _ _ ((ah.new hc _) _ _ ao))
       ·rcases w8.mp f with z | z;·exact (hrp q z).sm
        ·rw[zAc.mp z];exact (show Sm JW from ⟨by decide,by decide +kernel⟩)
end
end eK
namespace L2
open PySem PySem.Spec PyProof.Rows PySem.W
def zj (K:zBV)(f:M1):Option zAE:=match K.lookup f with| some ⟨_,_,.func a,_⟩=>some a| _=>none
def Va (K:zBV)(q:Str)(f:M1):Bool:=(match zj K f with| some a=>codeIn K a.code q| none=>false)&&keepIn K (.ref f)
def core (d:zAE):=(d.name,d.qualname,d.params,d.body,d.scope,d.globals,d.closure,d.defaults,d.builtins)
noncomputable def Ou:Option (Option Value)->M1| some (some (.ref f))=>f| _=>0
noncomputable def aq (K:zBV)(n:Str):M1:=Ou (nsIn K VV n)
noncomputable def cK (K:zBV)(C:M1)(n:Str):M1:=Ou (zDP K (.ref C) n)
abbrev Vb (K:zBV) (n q:Str) (st:zAM) (f:M1):Prop:=((zj K f).map core,Va K q f)=(some (n,q,gp st,FuncBody.stmts (eU st),aE st,VV,[],.none,zDV),true)
abbrev CN (K:zBV) (n:Str):Prop:=nsIn K VV n=some (some (.ref (aq K n)))
abbrev NF (K:zBV) (n:Str) (st:zAM):Prop:=CN K n/\Vb K n n st (aq K n)
abbrev MF (K:zBV) (C:M1) (n q:Str) (st:zAM):Prop:=(zDP K (.ref C) n,isFn K (.ref (cK K C n)))=(some (some (.ref (cK K C n))),true)/\Vb K n q st (cK K C n)
section
variable {K:zBV}{n q:Str}{st:zAM}{f C:M1}
theorem IW (h:Vb K n q st f):∃d,nJ K n q st f d:=by
 obtain⟨e,b⟩:=y1 h;unfold Va at b;obtain⟨g,p⟩:=zBp.mp b;cases z:K.lookup f with| none=>rw[zj,z] at e; cases e| some o=> obtain⟨A,G,c,x⟩:=o;cases c with| func d=>
   have r:zj K f=some d:=by unfold zj; rw[z]
   rw[r] at e g;obtain⟨w,v,u,y,s,D,t,E,B,j,i,F,m,k,l⟩:=d;have a:=zA4 e;unfold core at a;simp only [Prod.mk.injEq] at a;obtain⟨rfl,rfl,rfl,rfl,rfl,rfl,rfl,rfl,rfl⟩:=a;exact⟨_,Su z g p⟩| _=>rw[zj,z] at e; cases e
theorem bM (h:NF K n st):∃d,nJ K n n st (aq K n) d:=IW h.2
theorem dP (h:MF K C n q st):∃d,nJ K n q st (cK K C n) d/\Meth K C n (cK K C n):=by obtain⟨d,F⟩:=IW h.2;obtain⟨e,b⟩:=y1 h.1;exact⟨d,F,e,b,F.kp⟩
end
abbrev CV (K:zBV) (n:Str) (v:V):Prop:=((nsIn K VV n).bind λu=>u.bind DG)=some v
theorem tF {K:zBV}(h:CV K n v):∃u,nsIn K VV n=some (some u)/\RelV v u:=by cases e:nsIn K VV n with| none=>rw[CV,e] at h; cases h| some o=> cases o with| none=>rw[CV,e] at h; cases h| some u=> rw[CV,e] at h;refine⟨u,rfl,?_⟩;have a:DG u=some v:=h;cases u <;> simp only [DG] at a <;> first | (cases a; first | rfl | exact⟨_,rfl⟩) | cases a
abbrev Ms (K:zBV) (C:M1):Prop:=(plainGet K C Str.empty,hasDictIn K C,plainOver K C,zDP K (.ref C) "__setattr__",makesIn K C,keepIn K (.ref C))=(true,true,true,some (some (.builtin "object.__setattr__")),true,true)
theorem o5 {K:zBV}(h:Ms K C):gk K C/\makesIn K C=true/\keepIn K (.ref C)=true:=by simp at h;exact⟨⟨h.1,h.2.1,h.2.2.1,h.2.2.2.1⟩,h.2.2.2.2⟩
abbrev Mt (K:zBV) (C:M1):Prop:=(excIn K C [.type "ValueError",.type "Exception",.type "BaseException",.type "object"] "ValueError.__new__",zDP K (.ref C) "__getattribute__",zDP K (.ref C) "__getattr__",zDP K (.ref C) "__class__",mroIn K C (.type "BaseException"),mroIn K C (.type "object"))=(true,some (some (.builtin "BaseException.__getattribute__")),some none,some (some (.builtin "object.__class__")),some true,some true)
theorem xS {K:zBV}{a:Str->Option Value}{x:Str}{C:M1}(h:Mt K C)(e:a x=some (.ref C)):C9 K a x C/\jB K C:=by ext;exact⟨⟨e,h.1⟩,h.2.1,h.2.2.1,h.2.2.2.1,h.2.2.2.2.1,h.2.2.2.2.2⟩
noncomputable def Vc:Option (Option Value)->Bool| some (some (.ref _))=>true| _=>false
theorem Mu (h:Vc o=true):o=some (some (.ref (Ou o))):=by match o,h with| some (some (.ref a)),_=>rfl
abbrev bY (K:zBV) (q:Str) (f:M1):=((zj K f).map core,Va K q f)
abbrev bZ (n q:Str) (st:zAM):=(some (n,q,gp st,FuncBody.stmts (eU st),aE st,VV,([]:List (Str × M1)),Value.none,zDV),true)
noncomputable def dQ (K:zBV)(n:Str):Bool:=Vc (nsIn K VV n)
theorem oU {K:zBV}(h:dQ K n=true):CN K n:=Mu h
theorem b9 {K:zBV}{st:zAM}(h:(dQ K n,bY K n (aq K n))=(true,bZ n n st)):NF K n st:=⟨oU (by ext),(by ext)⟩
noncomputable def lz (K:zBV)(C:M1)(n:Str):Bool × Bool:=(Vc (zDP K (.ref C) n),isFn K (.ref (cK K C n)))
theorem fN {K:zBV}{st:zAM}(h:(lz K C n,bY K q (cK K C n))=((true,true),bZ n q st)):MF K C n q st:=by obtain⟨a,b⟩:=y1 h;obtain⟨c,d⟩:=y1 a;exact⟨by rw[Mu c,d]; rfl,b⟩
abbrev IX (K:zBV) (n:Str):=(nsIn K VV n).bind λu=>u.bind DG
abbrev Xq (K:zBV) (C:M1):=(plainGet K C Str.empty,hasDictIn K C,plainOver K C,zDP K (.ref C) "__setattr__",makesIn K C,keepIn K (.ref C))
abbrev Xr:=(true,true,true,some (some (builtin "object.__setattr__")),true,true)
abbrev Xs (K:zBV) (C:M1):=(excIn K C [.type "ValueError",.type "Exception",.type "BaseException",.type "object"] "ValueError.__new__",zDP K (.ref C) "__getattribute__",zDP K (.ref C) "__getattr__",zDP K (.ref C) "__class__",mroIn K C (.type "BaseException"),mroIn K C (.type "object"))
abbrev Xu:=(true,some (some (builtin "BaseException.__getattribute__")),some (none:Option Value),some (some (builtin "object.__class__")),some true,some true)
abbrev TK {α:Type} (_:zBV->α):=α
theorem iK {us:List Value}(h:us.length=n+1):∃a r,us=a::r/\r.length=n:=by cases us with| nil=>cases h| cons a r=>exact⟨a,r,rfl,Nat.succ.inj h⟩
section
variable {K:zzA}{x qual:Str}{st:zAM}{f:M1}{fd:zAE}{p1 p2 p3 p4 p5 p6:Str}
theorem lA (F:nJ K x qual st f fd)(h:∀(k d p:Value) (n:Option M1) (c e:Value) (a:Value),zDT (PySem.W.fnOf x qual (gp st) (eU st) (aE st) .none k d p n c e) ⟨[a],[]⟩=pure (([p1]:List Str).zip [a])):Binds K fd [p1] []:=F.binds λk d p n c e i b=>by obtain⟨a,g,rfl,j⟩:=iK b;ext
theorem CI (F:nJ K x qual st f fd)(h:∀(k d p:Value) (n:Option M1) (c e:Value) (b a:Value),zDT (PySem.W.fnOf x qual (gp st) (eU st) (aE st) .none k d p n c e) ⟨[b,a],[]⟩=pure (([p1,p2]:List Str).zip [b,a])):Binds K fd [p1,p2] []:=F.binds λk d p n c e m g=>by obtain⟨b,l,rfl,i⟩:=iK g;obtain⟨a,o,rfl,j⟩:=iK i;ext
theorem AI (F:nJ K x qual st f fd)(h:∀(k d p:Value) (n:Option M1) (c e:Value) (b a g:Value),zDT (PySem.W.fnOf x qual (gp st) (eU st) (aE st) .none k d p n c e) ⟨[b,a,g],[]⟩=pure (([p1,p2,p3]:List Str).zip [b,a,g])):Binds K fd [p1,p2,p3] []:=F.binds λk d p n c e q j=>by obtain⟨b,o,rfl,l⟩:=iK j;obtain⟨a,s,rfl,i⟩:=iK l;obtain⟨g,m,rfl,r⟩:=iK i;ext
theorem Ge (F:nJ K x qual st f fd)(h:∀(k d p:Value) (n:Option M1) (c e:Value) (b a i g:Value),zDT (PySem.W.fnOf x qual (gp st) (eU st) (aE st) .none k d p n c e) ⟨[b,a,i,g],[]⟩=pure (([p1,p2,p3,p4]:List Str).zip [b,a,i,g])):Binds K fd [p1,p2,p3,p4] []:=F.binds λk d p n c e s l=>by obtain⟨b,r,rfl,m⟩:=iK l;obtain⟨a,u,rfl,j⟩:=iK m;obtain⟨i,q,rfl,o⟩:=iK j;obtain⟨g,t,rfl,v⟩:=iK o;ext
theorem PX (F:nJ K x qual st f fd)(h:∀(k d p:Value) (n:Option M1) (c e:Value) (g i a j b:Value),zDT (PySem.W.fnOf x qual (gp st) (eU st) (aE st) .none k d p n c e) ⟨[g,i,a,j,b],[]⟩=pure (([p1,p2,p3,p4,p5]:List Str).zip [g,i,a,j,b])):Binds K fd [p1,p2,p3,p4,p5] []:=F.binds λk d p n c e y m=>by obtain⟨g,w,rfl,r⟩:=iK m;obtain⟨i,z,rfl,q⟩:=iK r;obtain⟨a,s,rfl,l⟩:=iK q;obtain⟨j,v,rfl,o⟩:=iK l;obtain⟨b,u,rfl,t⟩:=iK o;ext
end
noncomputable def JX (S:zBT->zDH->Option (zBT × zDH))(m:Nat)(z:Option Value):Nat->zBT->zDH->Option zBT| 0,_,_=>none| k+1,x,y=>match through y with| true=>some x| false=>match stepOk m z y with| false=>none| true=>match S x y with| some r=>JX S m z k r.1 r.2| none=>none
theorem IY (f:S=stepT (denote e) p w) : ∀{k:Nat} {x d:zBT} {y:zDH},JX S m z k x y=some d->topRun e p w m z k x.abs y=some d.abs| 0,_,_,_,h=>nomatch h| k+1,x,d,y,h=>by unfold JX at h;unfold topRun;cases a:through y with| true=>ext| false=> rw[a] at h;cases b:stepOk m z y with| false=>ext| true=> rw[b] at h;cases c:S x y with| none=>ext| some r=>rw[c] at h; rw[f] at c; rw[stepT_spec c]; exact IY f h
noncomputable def Mv:List Obj->BT->Nat->Option (BT × Nat)| [],T,n=>some (T,n)| o::l,T,n=>match ((T.ins n o).get n).isSome with| true=>Mv l (T.ins n o) (n+1)| false=>none
theorem IZ:∀{l:List Obj} {T:BT} {n:Nat} {r:BT × Nat},Mv l T n=some r->absHeap r.1 r.2 life=⟨((absHeap T n life).objs.toList++l).toArray,life⟩| [],T,n,r,h=>by cases h;rw[zCw];rfl| o::l,T,n,r,h=>by unfold Mv at h;cases g:((T.ins n o).get n).isSome with| false=>ext| true=> rw[g] at h;rw[IZ h,absHeap_ins g];have:((absHeap T n life).push o).objs.toList=(absHeap T n life).objs.toList++[o]:=zCy;ext
noncomputable def JY (S:zBT->zDH->Option (zBT × zDH))(p:zAA)(N:Nat)(s:SI):Option SI:= match s.heap.isNs VV&&s.gens.size == 0 with
 | true=>match Mv s.heap.objs.toList .nil 0 with| none=>none| some r=>match JX S s.heap.objs.size (s.heap.nsMap VV "__annotations__") N ⟨r.1,r.2,s.heap.life,s.gens,s.drawn,s.toks,s.os⟩ (topStub p) with| none=>none| some a=>match staticsOk (zBU p.main.body) s.heap a.abs.heap&&namesBound p a.abs.heap&&gensDone a.abs&&laidKept s.heap a.abs.heap with| true=>some a.abs| false=>none
 | false=>none
theorem Ov (c:S=stepT (denote zDC) p w)(h:JY S p N a=some s):topFrom zDC p w N a=some s:=by obtain⟨⟨⟨l⟩,life⟩,f,d,k,os⟩:=a;unfold JY at h;unfold topFrom;cases e:(Shared.heap _).isNs VV&&(Shared.gens _).size == 0 with| false=>ext| true=> rw[e] at h;cases b:Mv l .nil 0 with| none=>ext| some r=>
   rw[b] at h;dsimp only at h;have A:=IZ (life:=life) b;have z:(absHeap BT.nil 0 life).objs.toList=[]:=rfl;rw[z,List.nil_append] at A;split at h;·cases h
   ·rename_i g q;have R:=IY c q;unfold SharedT.abs at R;rw[A] at R;rw[R];exact h
noncomputable def qX (S:zBT->zDH->Option (zBT × zDH))(p:zAA)(w:zAD)(N:Nat):Option SI:=(fencedOpening zDC p w N).bind (JY S p N)
theorem Vd {S:zAD->zBT->zDH->Option (zBT × zDH)}(g:∀w,S w=stepT (denote zDC) p w)(h:∀w,(qX (S w) p w N).map (λs=>(openSeen q loose (zBU p.main.body) Xt true s,d s))=some (openGood q loose,c w)):LeftO p q loose Xt d c N:=λw=>by obtain⟨s,e,f⟩:=u3.mp (h w);obtain⟨i,a,b⟩:=Option.bind_eq_some_iff.mp e;unfold openEnds;rw[a];show (topFrom zDC p w N i).map _=_;rw[Ov (g w) b,<-f];rfl
noncomputable def num:Nat->List Obj->zBV| _,[]=>[]| i,o::l=>match o.alive with| true=>(i,o)::num (i+1) l| false=>num (i+1) l
noncomputable def fragOf (h:Heap):zBV:=num 0 h.objs.toList
theorem I0:∀{l:List Obj} {i:Nat},(num i l).lookup a=some o->i<=a/\l[a - i]?=some o/\o.alive=true
 | [],_,h=>by cases h| x::l,i,h=>by
  have b (h:(num (i+1) l).lookup a=some o):i<=a/\(x::l)[a - i]?=some o/\o.alive=true:=by
   obtain⟨p,q,r⟩:=I0 h;have e:a - i=(a - (i+1))+1:=by lia
   exact⟨by exact zCd p,by rw[e]; exact q,r⟩
  unfold num at h;cases z:x.alive with| false=>rw[z] at h; exact b h| true=> rw[z] at h;have c:List.lookup a ((i,x)::num (i+1) l)=some o:=h;rw[zDl] at c;cases e:a == i with
   | true=>
    rw[e] at c;cases c;have:a=i:=by simpa using e
    subst this;exact⟨y8 _,by rw[zDk]; rfl,z⟩| false=> rw[e] at c;exact b c
theorem RK (h:Heap):(fragOf h).In h:=λa o e=>by obtain⟨_,x,y⟩:=I0 e;rw[zAh] at x;exact (Heap.get?_eq_some h a o).mpr ⟨x,y⟩
noncomputable def Ve (s:zAM):Pos:=match s with| .FunctionDef _ _ _ _ _ _ _ _ _ x=>x| _=>default
theorem Mw {r:OpenRow}{P q:zAA}{loose:List Str}{d:DefRec}{N:Nat}{α:Type}{f:zBV->α}{v:α}{S:zAD->zBT->zDH->Option (zBT × zDH)}(g:r.wellSaid=true)(x:r.prog=P)(A:∀w,S w=stepT (denote zDC) P w)(c:∀w,(qX (S w) P w N).map (λs=>openSeen q loose (zBU P.main.body) (λs=>xlAt q [] s&&recOk r.toRowW.records s) true s)=some (openGood q loose))(j:∀w,(qX (S w) P w N).map (λs=>f (fragOf s.heap))=some v)(i:defOf q r.name=some (d,[])) (n:P.theDef r.name=some (d.params,d.body,d.scope)) (z:kwWritten? d.params.kwonlyargs d.params.kw_defaults=some [])(l:(!r.writes||List.isEmpty r.records)=true) (y:(chainsOk q&&opensWell P&&(frees r.toRowW&&r.within.isEmpty))=true) (o:r.prog.bare) (C:r.toRowW.promised)(call:∀K:zBV,f K=v->WalkO q loose (XL q []) (λ_ h=>K.In h) r.toRowW d [] λf vs=>PySem.call f vs):r.Holds:=by
 subst x;refine holds_open (loose:=loose) (Xt:=λs=>xlAt q [] s&&recOk r.toRowW.records s) (XP:=XL q []) (YP:=λ_ h=>∃K:zBV,K.In h/\f K=v) (N:=N) (Vd A λw=>?_) (λw s e=>⟨_,RK _,e⟩) (λw h D ⟨K,a,b⟩ k=>⟨K,a.keeps k,b⟩) (λs e=>xl_of s (by ext)) XL.keeps i n z (λs e=>recFacts_of (by ext)) l g y o C ?_
 ·obtain⟨s,e,a⟩:=u3.mp (c w);grind
 ·intro w B u p t G Y;obtain⟨K,a,b⟩:=Y;exact call K b w B u p t G a
theorem Ow {α β γ:Type}{o:Option α}{f:α->β}{g:α->γ}{a:β}{b:γ}(c:o.map f=some a)(d:o.map g=some b):o.map (λs=>(f s,g s))=some (a,b):=by cases o with| none=>ext| some s=>ext
end L2
namespace eK
open PySem PySem.Spec PyProof.Rows L2
theorem Vf {K:zzA}{h:Heap}{mg:Str->Option Value}{fa:M1}(X:K.In h)(G:h.Ns VV mg)(hfa:mg "law"=some (.ref fa))(a__wall:NF K "_wall" xK)(a_are_letters:NF K "are_letters" iN)(a_is_picture:NF K "is_picture" ji)(a_look_picture:NF K "look_picture" g6)(a_column_at:NF K "column_at" j7)(a_columns_of:NF K "columns_of" jk)(a_are_fields:NF K "are_fields" jl)(a_rises:NF K "rises" r8)(a_is_system:NF K "is_system" j8)(a_look_system:NF K "look_system" iO)(a_bordered:NF K "bordered" lJ)(a_tiles_of:NF K "tiles_of" lK)(a_mirrored_tiles:NF K "mirrored_tiles" fX)(a_letter_marks:NF K "letter_marks" g7)(a_of_pictures:NF K "of_pictures" iP)(a_bit_of:NF K "bit_of" pJ)(a_least_field:NF K "least_field" iQ)(a_walk_right:NF K "walk_right" jn)(a_walk_left:NF K "walk_left" j9)(a_columns_that_end:NF K "columns_that_end" eL)(a_least_columns:NF K "least_columns" gB)(a_row_at:NF K "row_at" pK)(a_lets:NF K "lets" vU)(a__law_cell:NF K "_law_cell" j_)(a__law_mix:NF K "_law_mix" lM)(a__law_picture:NF K "_law_picture" g8)(a__law_tiles:NF K "_law_tiles" jo)(a__law_refusal:NF K "_law_refusal" g9)(a_law:NF K "law" oM)(a_LETTERS:CV K "LETTERS" (.str "abcd"))(a_MOST_ROWS:CV K "MOST_ROWS" (.int 4))(a_MOST_COLUMNS:CV K "MOST_COLUMNS" (.int 12))(a_BORDER:CV K "BORDER" (.int (-1)))(a_MOST_MARKS:CV K "MOST_MARKS" (.int 16))(a_TILE_FIELDS:CV K "TILE_FIELDS" (.int 4))(a_QuiltError:CN K "QuiltError")(a_BadPicture:CN K "BadPicture")(a_BadSystem:CN K "BadSystem")(a_BadSize:CN K "BadSize")(a_Unlike:CN K "Unlike")(a_BadText:CN K "BadText")(a_FieldSets:CN K "FieldSets")(a_Walk:CN K "Walk")(o_FieldSets:Ms K (aq K "FieldSets"))(eZ:PySem.W.findIn K (.ref (aq K "FieldSets")) "branches"=some none)(gG:PySem.W.findIn K (.ref (aq K "FieldSets")) "known"=some none)(dm:PySem.W.findIn K (.ref (aq K "FieldSets")) "either_known"=some none)(dX:PySem.W.findIn K (.ref (aq K "FieldSets")) "both_known"=some none)(dM:PySem.W.findIn K (.ref (aq K "FieldSets")) "first_known"=some none)(a_FieldSets____init__:MF K (aq K "FieldSets") "__init__" "FieldSets.__init__" dg)(a_FieldSets__number_for:MF K (aq K "FieldSets") "number_for" "FieldSets.number_for" cI)(a_FieldSets__of_one:MF K (aq K "FieldSets") "of_one" "FieldSets.of_one" dZ)(a_FieldSets__of_all:MF K (aq K "FieldSets") "of_all" "FieldSets.of_all" gi)(a_FieldSets__tuples_in:MF K (aq K "FieldSets") "tuples_in" "FieldSets.tuples_in" ef)(a_FieldSets__in_either:MF K (aq K "FieldSets") "in_either" "FieldSets.in_either" cV)(a_FieldSets__in_both:MF K (aq K "FieldSets") "in_both" "FieldSets.in_both" dI)(a_FieldSets__with_first:MF K (aq K "FieldSets") "with_first" "FieldSets.with_first" cJ)(a_FieldSets__least:MF K (aq K "FieldSets") "least" "FieldSets.least" eN)(o_Walk:Ms K (aq K "Walk"))(lW:PySem.W.findIn K (.ref (aq K "Walk")) "sets"=some none)(i7:PySem.W.findIn K (.ref (aq K "Walk")) "letters"=some none)(lY:PySem.W.findIn K (.ref (aq K "Walk")) "high"=some none)(eO:PySem.W.findIn K (.ref (aq K "Walk")) "lower_left"=some none)(e_:PySem.W.findIn K (.ref (aq K "Walk")) "closing"=some none)(fc:PySem.W.findIn K (.ref (aq K "Walk")) "choices_known"=some none)(fH:PySem.W.findIn K (.ref (aq K "Walk")) "placed_known"=some none)(fJ:PySem.W.findIn K (.ref (aq K "Walk")) "closed_known"=some none)(a_Walk____init__:MF K (aq K "Walk") "__init__" "Walk.__init__" fY)(a_Walk__take_tile:MF K (aq K "Walk") "take_tile" "Walk.take_tile" fq)(a_Walk__beginning:MF K (aq K "Walk") "beginning" "Walk.beginning" fu)(a_Walk__choices:MF K (aq K "Walk") "choices" "Walk.choices" gC)(a_Walk__placed:MF K (aq K "Walk") "placed" "Walk.placed" g_)(a_Walk__placed_beneath:MF K (aq K "Walk") "placed_beneath" "Walk.placed_beneath" cX)(a_Walk__placed_right:MF K (aq K "Walk") "placed_right" "Walk.placed_right" dJ)(a_Walk__closed:MF K (aq K "Walk") "closed" "Walk.closed" h_)(a_Walk__onward:MF K (aq K "Walk") "onward" "Walk.onward" ic)(a_Walk__behind:MF K (aq K "Walk") "behind" "Walk.behind" ie)(e_BadPicture:Mt K (aq K "BadPicture"))(e_BadSystem:Mt K (aq K "BadSystem"))(kk_BadPicture_BadPicture:PySem.W.kitOne K (.ref (aq K "BadPicture")) (.ref (aq K "BadPicture"))=some true)(kk_BadPicture_BadSize:PySem.W.kitOne K (.ref (aq K "BadPicture")) (.ref (aq K "BadSize"))=some false)(kk_BadPicture_BadSystem:PySem.W.kitOne K (.ref (aq K "BadPicture")) (.ref (aq K "BadSystem"))=some false)(kk_BadPicture_BadText:PySem.W.kitOne K (.ref (aq K "BadPicture")) (.ref (aq K "BadText"))=some false)(kk_BadPicture_Unlike:PySem.W.kitOne K (.ref (aq K "BadPicture")) (.ref (aq K "Unlike"))=some false)(kk_BadPicture_ValueError:PySem.W.kitOne K (.ref (aq K "BadPicture")) (.type "ValueError")=some true)(hh_BadPicture_QuiltError:PySem.W.exmOne K (.ref (aq K "BadPicture")) (.ref (aq K "QuiltError"))=some true)(z_len:PySem.W.nsIn K VV "len"=some none)(z_all:PySem.W.nsIn K VV "all"=some none)(z_any:PySem.W.nsIn K VV "any"=some none)(z_range:PySem.W.nsIn K VV "range"=some none)(z_zip:PySem.W.nsIn K VV "zip"=some none)(z_max:PySem.W.nsIn K VV "max"=some none)(z_min:PySem.W.nsIn K VV "min"=some none)(z_list:PySem.W.nsIn K VV "list"=some none)(z_tuple:PySem.W.nsIn K VV "tuple"=some none)(z_set:PySem.W.nsIn K VV "set"=some none)(z_sorted:PySem.W.nsIn K VV "sorted"=some none)(z_dict:PySem.W.nsIn K VV "dict"=some none)(z_sum:PySem.W.nsIn K VV "sum"=some none)(z_enumerate:PySem.W.nsIn K VV "enumerate"=some none)(z_reversed:PySem.W.nsIn K VV "reversed"=some none)(z_isinstance:PySem.W.nsIn K VV "isinstance"=some none)(z_ValueError:PySem.W.nsIn K VV "ValueError"=some none) : ∃t:Ad,Txt K mg t/\fa=t.z7/\∀(s:SI) (u:Value),zDL s t.um ⟨[u],[]⟩ [("_law_script",u)]:=by obtain⟨A7,I_⟩:=bM a__wall;obtain⟨gu,uV⟩:=bM a_are_letters;obtain⟨jq,wW⟩:=bM a_is_picture;obtain⟨fT,tG⟩:=bM a_look_picture;obtain⟨kg,yi⟩:=bM a_column_at;obtain⟨jr,wX⟩:=bM a_columns_of;obtain⟨jt,wY⟩:=bM a_are_fields;obtain⟨r9,Ja⟩:=bM a_rises;obtain⟨kh,yj⟩:=bM a_is_system;obtain⟨iR,uW⟩:=bM a_look_system;obtain⟨lN,AJ⟩:=bM a_bordered;obtain⟨lO,AK⟩:=bM a_tiles_of;obtain⟨iG,qh⟩:=bM a_mirrored_tiles;obtain⟨ig,tH⟩:=bM a_letter_marks;obtain⟨kJ,uX⟩:=bM a_of_pictures;obtain⟨ug,Gf⟩:=bM a_bit_of;obtain⟨kK,uY⟩:=bM a_least_field;obtain⟨lP,wZ⟩:=bM a_walk_right;obtain⟨nv,yk⟩:=bM a_walk_left;obtain⟨gD,nU⟩:=bM a_columns_that_end;obtain⟨gE,qY⟩:=bM a_least_columns;obtain⟨pP,Gg⟩:=bM a_row_at;obtain⟨z6,Mx⟩:=bM a_lets;obtain⟨ki,ym⟩:=bM a__law_cell;obtain⟨lR,AL⟩:=bM a__law_mix;obtain⟨jG,tK⟩:=bM a__law_picture;obtain⟨lS,w6⟩:=bM a__law_tiles;obtain⟨jH,tL⟩:=bM a__law_refusal;obtain⟨um,JZ⟩:=bM a_law;obtain⟨_,_,_,_,_,_,_,_,_,VR,_⟩:=id JZ.ex;obtain⟨qG,My,r_LETTERS⟩:=tF a_LETTERS;obtain⟨nC,GO,r_MOST_ROWS⟩:=tF a_MOST_ROWS;obtain⟨jI,BC,r_MOST_COLUMNS⟩:=tF a_MOST_COLUMNS;obtain⟨uo,Ox,r_BORDER⟩:=tF a_BORDER;obtain⟨lT,Gh,r_MOST_MARKS⟩:=tF a_MOST_MARKS;obtain⟨kL,C6,r_TILE_FIELDS⟩:=tF a_TILE_FIELDS;obtain⟨eY,lB,iy⟩:=dP a_FieldSets____init__;obtain⟨dU,jT,qq⟩:=dP a_FieldSets__number_for;obtain⟨gj,mK,u_⟩:=dP a_FieldSets__of_one;obtain⟨iW,mL,vc⟩:=dP a_FieldSets__of_all;obtain⟨gP,kD,rO⟩:=dP a_FieldSets__tuples_in;obtain⟨er,kE,rP⟩:=dP a_FieldSets__in_either;obtain⟨fE,mz,uE⟩:=dP a_FieldSets__in_both;obtain⟨dW,jU,qt⟩:=dP a_FieldSets__with_first;obtain⟨gF,nV,w_⟩:=dP a_FieldSets__least;obtain⟨iH,qi,kY⟩:=dP a_Walk____init__;obtain⟨gS,oF,xV⟩:=dP a_Walk__take_tile;obtain⟨gT,oG,xW⟩:=dP a_Walk__beginning;obtain⟨i6,qZ,AM⟩:=dP a_Walk__choices;obtain⟨jJ,tM,BD⟩:=dP a_Walk__placed;obtain⟨eu,kF,rQ⟩:=dP a_Walk__placed_beneath;obtain⟨fF,mD,uF⟩:=dP a_Walk__placed_right;obtain⟨jK,tO,BE⟩:=dP a_Walk__closed;obtain⟨jL,tP,BF⟩:=dP a_Walk__onward;obtain⟨jM,tQ,BG⟩:=dP a_Walk__behind;have e:=hfa.symm.trans (wP X G a_law.1);injection e with e;injection e with e;exact⟨⟨(aq K "_wall"),A7,(aq K "are_letters"),gu,(aq K "is_picture"),jq,(aq K "look_picture"),fT,(aq K "column_at"),kg,(aq K "columns_of"),jr,(aq K "are_fields"),jt,(aq K "rises"),r9,(aq K "is_system"),kh,(aq K "look_system"),iR,(aq K "bordered"),lN,(aq K "tiles_of"),lO,(aq K "mirrored_tiles"),iG,(aq K "letter_marks"),ig,(aq K "of_pictures"),kJ,(aq K "bit_of"),ug,(aq K "least_field"),kK,(aq K "walk_right"),lP,(aq K "walk_left"),nv,(aq K "columns_that_end"),gD,(aq K "least_columns"),gE,(aq K "row_at"),pP,(aq K "lets"),z6,(aq K "_law_cell"),ki,(aq K "_law_mix"),lR,(aq K "_law_picture"),jG,(aq K "_law_tiles"),lS,(aq K "_law_refusal"),jH,(aq K "law"),um,qG,nC,jI,uo,lT,kL,(aq K "QuiltError"),(aq K "BadPicture"),(aq K "BadSystem"),(aq K "BadSize"),(aq K "Unlike"),(aq K "BadText"),(aq K "FieldSets"),(aq K "Walk"),(cK K (aq K "FieldSets") "__init__"),eY,(cK K (aq K "FieldSets") "number_for"),dU,(cK K (aq K "FieldSets") "of_one"),gj,(cK K (aq K "FieldSets") "of_all"),iW,(cK K (aq K "FieldSets") "tuples_in"),gP,(cK K (aq K "FieldSets") "in_either"),er,(cK K (aq K "FieldSets") "in_both"),fE,(cK K (aq K "FieldSets") "with_first"),dW,(cK K (aq K "FieldSets") "least"),gF,(cK K (aq K "Walk") "__init__"),iH,(cK K (aq K "Walk") "take_tile"),gS,(cK K (aq K "Walk") "beginning"),gT,(cK K (aq K "Walk") "choices"),i6,(cK K (aq K "Walk") "placed"),jJ,(cK K (aq K "Walk") "placed_beneath"),eu,(cK K (aq K "Walk") "placed_right"),fF,(cK K (aq K "Walk") "closed"),jK,(cK K (aq K "Walk") "onward"),jL,(cK K (aq K "Walk") "behind"),jM⟩,⟨⟨I_,lA I_ (λ_ _ _ _ _ _ _=>rfl),wP X G a__wall.1⟩,⟨uV,lA uV (λ_ _ _ _ _ _ _=>rfl),wP X G a_are_letters.1⟩,⟨wW,lA wW (λ_ _ _ _ _ _ _=>rfl),wP X G a_is_picture.1⟩,⟨tG,lA tG (λ_ _ _ _ _ _ _=>rfl),wP X G a_look_picture.1⟩,⟨yi,CI yi (λ_ _ _ _ _ _ _ _=>rfl),wP X G a_column_at.1⟩,⟨wX,lA wX (λ_ _ _ _ _ _ _=>rfl),wP X G a_columns_of.1⟩,⟨wY,AI wY (λ_ _ _ _ _ _ _ _ _=>rfl),wP X G a_are_fields.1⟩,⟨Ja,lA Ja (λ_ _ _ _ _ _ _=>rfl),wP X G a_rises.1⟩,⟨yj,lA yj (λ_ _ _ _ _ _ _=>rfl),wP X G a_is_system.1⟩,⟨uW,lA uW (λ_ _ _ _ _ _ _=>rfl),wP X G a_look_system.1⟩,⟨AJ,lA AJ (λ_ _ _ _ _ _ _=>rfl),wP X G a_bordered.1⟩,⟨AK,lA AK (λ_ _ _ _ _ _ _=>rfl),wP X G a_tiles_of.1⟩,⟨qh,lA qh (λ_ _ _ _ _ _ _=>rfl),wP X G a_mirrored_tiles.1⟩,⟨tH,lA tH (λ_ _ _ _ _ _ _=>rfl),wP X G a_letter_marks.1⟩,⟨uX,lA uX (λ_ _ _ _ _ _ _=>rfl),wP X G a_of_pictures.1⟩,⟨Gf,lA Gf (λ_ _ _ _ _ _ _=>rfl),wP X G a_bit_of.1⟩,⟨uY,lA uY (λ_ _ _ _ _ _ _=>rfl),wP X G a_least_field.1⟩,⟨wZ,AI wZ (λ_ _ _ _ _ _ _ _ _=>rfl),wP X G a_walk_right.1⟩,⟨yk,AI yk (λ_ _ _ _ _ _ _ _ _=>rfl),wP X G a_walk_left.1⟩,⟨nU,Ge nU (λ_ _ _ _ _ _ _ _ _ _=>rfl),wP X G a_columns_that_end.1⟩,⟨qY,CI qY (λ_ _ _ _ _ _ _ _=>rfl),wP X G a_least_columns.1⟩,⟨Gg,CI Gg (λ_ _ _ _ _ _ _ _=>rfl),wP X G a_row_at.1⟩,⟨Mx,CI Mx (λ_ _ _ _ _ _ _ _=>rfl),wP X G a_lets.1⟩,⟨ym,CI ym (λ_ _ _ _ _ _ _ _=>rfl),wP X G a__law_cell.1⟩,⟨AL,CI AL (λ_ _ _ _ _ _ _ _=>rfl),wP X G a__law_mix.1⟩,⟨tK,PX tK (λ_ _ _ _ _ _ _ _ _ _ _=>rfl),wP X G a__law_picture.1⟩,⟨w6,lA w6 (λ_ _ _ _ _ _ _=>rfl),wP X G a__law_tiles.1⟩,⟨tL,lA tL (λ_ _ _ _ _ _ _=>rfl),wP X G a__law_refusal.1⟩,⟨JZ,lA JZ (λ_ _ _ _ _ _ _=>rfl),wP X G a_law.1⟩, wP X G My, r_LETTERS, wP X G GO, r_MOST_ROWS, wP X G BC, r_MOST_COLUMNS, wP X G Ox, r_BORDER, wP X G Gh, r_MOST_MARKS, wP X G C6, r_TILE_FIELDS, wP X G a_QuiltError, wP X G a_BadPicture, wP X G a_BadSystem, wP X G a_BadSize, wP X G a_Unlike, wP X G a_BadText, wP X G a_FieldSets, wP X G a_Walk,(o5 o_FieldSets).1, eZ, gG, dm, dX, dM,⟨lB,lA lB (λ_ _ _ _ _ _ _=>rfl),iy⟩,⟨jT,AI jT (λ_ _ _ _ _ _ _ _ _=>rfl),qq⟩,⟨mK,CI mK (λ_ _ _ _ _ _ _ _=>rfl),u_⟩,⟨mL,AI mL (λ_ _ _ _ _ _ _ _ _=>rfl),vc⟩,⟨kD,AI kD (λ_ _ _ _ _ _ _ _ _=>rfl),rO⟩,⟨kE,Ge kE (λ_ _ _ _ _ _ _ _ _ _=>rfl),rP⟩,⟨mz,Ge mz (λ_ _ _ _ _ _ _ _ _ _=>rfl),uE⟩,⟨jU,Ge jU (λ_ _ _ _ _ _ _ _ _ _=>rfl),qt⟩,⟨nV,AI nV (λ_ _ _ _ _ _ _ _ _=>rfl),w_⟩,⟨(o5 o_FieldSets).2.1,iy.at_,iy.fn,(o5 o_FieldSets).2.2⟩,(o5 o_Walk).1, lW, i7, lY, eO, e_, fc, fH, fJ,⟨qi,PX qi (λ_ _ _ _ _ _ _ _ _ _ _=>rfl),kY⟩,⟨oF,CI oF (λ_ _ _ _ _ _ _ _=>rfl),xV⟩,⟨oG,lA oG (λ_ _ _ _ _ _ _=>rfl),xW⟩,⟨qZ,Ge qZ (λ_ _ _ _ _ _ _ _ _ _=>rfl),AM⟩,⟨tM,Ge tM (λ_ _ _ _ _ _ _ _ _ _=>rfl),BD⟩,⟨kF,PX kF (λ_ _ _ _ _ _ _ _ _ _ _=>rfl),rQ⟩,⟨mD,PX mD (λ_ _ _ _ _ _ _ _ _ _ _=>rfl),uF⟩,⟨tO,AI tO (λ_ _ _ _ _ _ _ _ _=>rfl),BE⟩,⟨tP,Ge tP (λ_ _ _ _ _ _ _ _ _ _=>rfl),BF⟩,⟨tQ,AI tQ (λ_ _ _ _ _ _ _ _ _=>rfl),BG⟩,⟨(o5 o_Walk).2.1,kY.at_,kY.fn,(o5 o_Walk).2.2⟩,(xS e_BadPicture (wP X G a_BadPicture)).1,(xS e_BadPicture (wP X G a_BadPicture)).2,(xS e_BadSystem (wP X G a_BadSystem)).1,(xS e_BadSystem (wP X G a_BadSystem)).2, kk_BadPicture_BadPicture, kk_BadPicture_BadSize, kk_BadPicture_BadSystem, kk_BadPicture_BadText, kk_BadPicture_Unlike, kk_BadPicture_ValueError, hh_BadPicture_QuiltError, zAs X G z_len, zAs X G z_all, zAs X G z_any, zAs X G z_range, zAs X G z_zip, zAs X G z_max, zAs X G z_min, zAs X G z_list, zAs X G z_tuple, zAs X G z_set, zAs X G z_sorted, zAs X G z_dict, zAs X G z_sum, zAs X G z_enumerate, zAs X G z_reversed, zAs X G z_isinstance, zAs X G z_ValueError⟩,e,λs u=>VR ▸ .of_eq rfl⟩
noncomputable def PY (K:zzA):=((dQ K "_wall",bY K "_wall" (aq K "_wall")),(dQ K "are_letters",bY K "are_letters" (aq K "are_letters")),(dQ K "is_picture",bY K "is_picture" (aq K "is_picture")),(dQ K "look_picture",bY K "look_picture" (aq K "look_picture")),(dQ K "column_at",bY K "column_at" (aq K "column_at")),(dQ K "columns_of",bY K "columns_of" (aq K "columns_of")),(dQ K "are_fields",bY K "are_fields" (aq K "are_fields")),true)
noncomputable def Vg:TK PY:=((true,bZ "_wall" "_wall" xK),(true,bZ "are_letters" "are_letters" iN),(true,bZ "is_picture" "is_picture" ji),(true,bZ "look_picture" "look_picture" g6),(true,bZ "column_at" "column_at" j7),(true,bZ "columns_of" "columns_of" jk),(true,bZ "are_fields" "are_fields" jl),true)
noncomputable def PZ (K:zzA):=((dQ K "rises",bY K "rises" (aq K "rises")),(dQ K "is_system",bY K "is_system" (aq K "is_system")),(dQ K "look_system",bY K "look_system" (aq K "look_system")),(dQ K "bordered",bY K "bordered" (aq K "bordered")),(dQ K "tiles_of",bY K "tiles_of" (aq K "tiles_of")),(dQ K "mirrored_tiles",bY K "mirrored_tiles" (aq K "mirrored_tiles")),(dQ K "letter_marks",bY K "letter_marks" (aq K "letter_marks")),true)
noncomputable def Vh:TK PZ:=((true,bZ "rises" "rises" r8),(true,bZ "is_system" "is_system" j8),(true,bZ "look_system" "look_system" iO),(true,bZ "bordered" "bordered" lJ),(true,bZ "tiles_of" "tiles_of" lK),(true,bZ "mirrored_tiles" "mirrored_tiles" fX),(true,bZ "letter_marks" "letter_marks" g7),true)
noncomputable def P0 (K:zzA):=((dQ K "of_pictures",bY K "of_pictures" (aq K "of_pictures")),(dQ K "bit_of",bY K "bit_of" (aq K "bit_of")),(dQ K "least_field",bY K "least_field" (aq K "least_field")),(dQ K "walk_right",bY K "walk_right" (aq K "walk_right")),(dQ K "walk_left",bY K "walk_left" (aq K "walk_left")),(dQ K "columns_that_end",bY K "columns_that_end" (aq K "columns_that_end")),(dQ K "least_columns",bY K "least_columns" (aq K "least_columns")),true)
noncomputable def Vi:TK P0:=((true,bZ "of_pictures" "of_pictures" iP),(true,bZ "bit_of" "bit_of" pJ),(true,bZ "least_field" "least_field" iQ),(true,bZ "walk_right" "walk_right" jn),(true,bZ "walk_left" "walk_left" j9),(true,bZ "columns_that_end" "columns_that_end" eL),(true,bZ "least_columns" "least_columns" gB),true)
noncomputable def P4 (K:zzA):=((dQ K "row_at",bY K "row_at" (aq K "row_at")),(dQ K "lets",bY K "lets" (aq K "lets")),(dQ K "_law_cell",bY K "_law_cell" (aq K "_law_cell")),(dQ K "_law_mix",bY K "_law_mix" (aq K "_law_mix")),(dQ K "_law_picture",bY K "_law_picture" (aq K "_law_picture")),(dQ K "_law_tiles",bY K "_law_tiles" (aq K "_law_tiles")),(dQ K "_law_refusal",bY K "_law_refusal" (aq K "_law_refusal")),true)
noncomputable def Vj:TK P4:=((true,bZ "row_at" "row_at" pK),(true,bZ "lets" "lets" vU),(true,bZ "_law_cell" "_law_cell" j_),(true,bZ "_law_mix" "_law_mix" lM),(true,bZ "_law_picture" "_law_picture" g8),(true,bZ "_law_tiles" "_law_tiles" jo),(true,bZ "_law_refusal" "_law_refusal" g9),true)
noncomputable def P5 (K:zzA):=((dQ K "law",bY K "law" (aq K "law")), IX K "LETTERS", IX K "MOST_ROWS", IX K "MOST_COLUMNS", IX K "BORDER", IX K "MOST_MARKS", IX K "TILE_FIELDS",true)
noncomputable def Vk:TK P5:=((true,bZ "law" "law" oM), some (.str "abcd"), some (.int 4), some (.int 12), some (.int (-1)), some (.int 16), some (.int 4),true)
noncomputable def P6 (K:zzA):=(dQ K "QuiltError", dQ K "BadPicture", dQ K "BadSystem", dQ K "BadSize", dQ K "Unlike", dQ K "BadText", dQ K "FieldSets",true)
noncomputable def Vl:TK P6:=(true, true, true, true, true, true, true,true)
noncomputable def P7 (K:zzA):=(dQ K "Walk", Xq K (aq K "FieldSets"), PySem.W.findIn K (.ref (aq K "FieldSets")) "branches", PySem.W.findIn K (.ref (aq K "FieldSets")) "known", PySem.W.findIn K (.ref (aq K "FieldSets")) "either_known", PySem.W.findIn K (.ref (aq K "FieldSets")) "both_known", PySem.W.findIn K (.ref (aq K "FieldSets")) "first_known",true)
noncomputable def Vm:TK P7:=(true, Xr, some none, some none, some none, some none, some none,true)
noncomputable def P8 (K:zzA):=((lz K (aq K "FieldSets") "__init__",bY K "FieldSets.__init__" (cK K (aq K "FieldSets") "__init__")),(lz K (aq K "FieldSets") "number_for",bY K "FieldSets.number_for" (cK K (aq K "FieldSets") "number_for")),(lz K (aq K "FieldSets") "of_one",bY K "FieldSets.of_one" (cK K (aq K "FieldSets") "of_one")),(lz K (aq K "FieldSets") "of_all",bY K "FieldSets.of_all" (cK K (aq K "FieldSets") "of_all")),(lz K (aq K "FieldSets") "tuples_in",bY K "FieldSets.tuples_in" (cK K (aq K "FieldSets") "tuples_in")),(lz K (aq K "FieldSets") "in_either",bY K "FieldSets.in_either" (cK K (aq K "FieldSets") "in_either")),(lz K (aq K "FieldSets") "in_both",bY K "FieldSets.in_both" (cK K (aq K "FieldSets") "in_both")),true)
noncomputable def Vn:TK P8:=(((true,true),bZ "__init__" "FieldSets.__init__" dg),((true,true),bZ "number_for" "FieldSets.number_for" cI),((true,true),bZ "of_one" "FieldSets.of_one" dZ),((true,true),bZ "of_all" "FieldSets.of_all" gi),((true,true),bZ "tuples_in" "FieldSets.tuples_in" ef),((true,true),bZ "in_either" "FieldSets.in_either" cV),((true,true),bZ "in_both" "FieldSets.in_both" dI),true)
noncomputable def P9 (K:zzA):=((lz K (aq K "FieldSets") "with_first",bY K "FieldSets.with_first" (cK K (aq K "FieldSets") "with_first")),(lz K (aq K "FieldSets") "least",bY K "FieldSets.least" (cK K (aq K "FieldSets") "least")), Xq K (aq K "Walk"), PySem.W.findIn K (.ref (aq K "Walk")) "sets", PySem.W.findIn K (.ref (aq K "Walk")) "letters", PySem.W.findIn K (.ref (aq K "Walk")) "high", PySem.W.findIn K (.ref (aq K "Walk")) "lower_left",true)
noncomputable def Vo:TK P9:=(((true,true),bZ "with_first" "FieldSets.with_first" cJ),((true,true),bZ "least" "FieldSets.least" eN), Xr, some none, some none, some none, some none,true)
noncomputable def P_ (K:zzA):=(PySem.W.findIn K (.ref (aq K "Walk")) "closing", PySem.W.findIn K (.ref (aq K "Walk")) "choices_known", PySem.W.findIn K (.ref (aq K "Walk")) "placed_known", PySem.W.findIn K (.ref (aq K "Walk")) "closed_known",(lz K (aq K "Walk") "__init__",bY K "Walk.__init__" (cK K (aq K "Walk") "__init__")),(lz K (aq K "Walk") "take_tile",bY K "Walk.take_tile" (cK K (aq K "Walk") "take_tile")),(lz K (aq K "Walk") "beginning",bY K "Walk.beginning" (cK K (aq K "Walk") "beginning")),true)
noncomputable def Vp:TK P_:=(some none, some none, some none, some none,((true,true),bZ "__init__" "Walk.__init__" fY),((true,true),bZ "take_tile" "Walk.take_tile" fq),((true,true),bZ "beginning" "Walk.beginning" fu),true)
noncomputable def J0 (K:zzA):=((lz K (aq K "Walk") "choices",bY K "Walk.choices" (cK K (aq K "Walk") "choices")),(lz K (aq K "Walk") "placed",bY K "Walk.placed" (cK K (aq K "Walk") "placed")),(lz K (aq K "Walk") "placed_beneath",bY K "Walk.placed_beneath" (cK K (aq K "Walk") "placed_beneath")),(lz K (aq K "Walk") "placed_right",bY K "Walk.placed_right" (cK K (aq K "Walk") "placed_right")),(lz K (aq K "Walk") "closed",bY K "Walk.closed" (cK K (aq K "Walk") "closed")),(lz K (aq K "Walk") "onward",bY K "Walk.onward" (cK K (aq K "Walk") "onward")),(lz K (aq K "Walk") "behind",bY K "Walk.behind" (cK K (aq K "Walk") "behind")),true)
noncomputable def Oz:TK J0:=(((true,true),bZ "choices" "Walk.choices" gC),((true,true),bZ "placed" "Walk.placed" g_),((true,true),bZ "placed_beneath" "Walk.placed_beneath" cX),((true,true),bZ "placed_right" "Walk.placed_right" dJ),((true,true),bZ "closed" "Walk.closed" h_),((true,true),bZ "onward" "Walk.onward" ic),((true,true),bZ "behind" "Walk.behind" ie),true)
noncomputable def J2 (K:zzA):=(Xs K (aq K "BadPicture"), Xs K (aq K "BadSystem"), PySem.W.kitOne K (.ref (aq K "BadPicture")) (.ref (aq K "BadPicture")), PySem.W.kitOne K (.ref (aq K "BadPicture")) (.ref (aq K "BadSize")), PySem.W.kitOne K (.ref (aq K "BadPicture")) (.ref (aq K "BadSystem")), PySem.W.kitOne K (.ref (aq K "BadPicture")) (.ref (aq K "BadText")), PySem.W.kitOne K (.ref (aq K "BadPicture")) (.ref (aq K "Unlike")),true)
noncomputable def OA:TK J2:=(Xu, Xu, some true, some false, some false, some false, some false,true)
noncomputable def J3 (K:zzA):=(PySem.W.kitOne K (.ref (aq K "BadPicture")) (.type "ValueError"), PySem.W.exmOne K (.ref (aq K "BadPicture")) (.ref (aq K "QuiltError")), PySem.W.nsIn K VV "len", PySem.W.nsIn K VV "all", PySem.W.nsIn K VV "any", PySem.W.nsIn K VV "range", PySem.W.nsIn K VV "zip",true)
noncomputable def OB:TK J3:=(some true, some true, some none, some none, some none, some none, some none,true)
noncomputable def J6 (K:zzA):=(PySem.W.nsIn K VV "max", PySem.W.nsIn K VV "min", PySem.W.nsIn K VV "list", PySem.W.nsIn K VV "tuple", PySem.W.nsIn K VV "set", PySem.W.nsIn K VV "sorted", PySem.W.nsIn K VV "dict",true)
noncomputable def OC:TK J6:=(some none, some none, some none, some none, some none, some none, some none,true)
noncomputable def J8 (K:zzA):=(PySem.W.nsIn K VV "sum", PySem.W.nsIn K VV "enumerate", PySem.W.nsIn K VV "reversed", PySem.W.nsIn K VV "isinstance", PySem.W.nsIn K VV "ValueError",true)
noncomputable def OD:TK J8:=(some none, some none, some none, some none, some none,true)
noncomputable def Qa (K:zzA):=(PY K,PZ K,P0 K,P4 K,P5 K,P6 K,P7 K,P8 K,true)
noncomputable def Vq:TK Qa:=(Vg,Vh,Vi,Vj,Vk,Vl,Vm,Vn,true)
noncomputable def Qc (K:zzA):=(P9 K,P_ K,J0 K,J2 K,J3 K,J6 K,J8 K,true)
noncomputable def Vr:TK Qc:=(Vo,Vp,Oz,OA,OB,OC,OD,true)
noncomputable def fK (K:zzA):=(Qa K,Qc K)
noncomputable def vK:TK fK:=(Vq,Vr)
theorem oK0 {K:zzA}(e:PY K=Vg) :(NF K "_wall" xK)/\(NF K "are_letters" iN)/\(NF K "is_picture" ji)/\(NF K "look_picture" g6)/\(NF K "column_at" j7)/\(NF K "columns_of" jk)/\(NF K "are_fields" jl):=by unfold PY Vg at e;obtain⟨e0,e⟩:=y1 e;obtain⟨e1,e⟩:=y1 e;obtain⟨e2,e⟩:=y1 e;obtain⟨e3,e⟩:=y1 e;obtain⟨e4,e⟩:=y1 e;obtain⟨e5,e⟩:=y1 e;obtain⟨e6,e⟩:=y1 e;exact⟨(b9 e0),(b9 e1),(b9 e2),(b9 e3),(b9 e4),(b9 e5),(b9 e6)⟩
theorem oK1 {K:zzA}(e:PZ K=Vh) :(NF K "rises" r8)/\(NF K "is_system" j8)/\(NF K "look_system" iO)/\(NF K "bordered" lJ)/\(NF K "tiles_of" lK)/\(NF K "mirrored_tiles" fX)/\(NF K "letter_marks" g7):=by unfold PZ Vh at e;obtain⟨e0,e⟩:=y1 e;obtain⟨e1,e⟩:=y1 e;obtain⟨e2,e⟩:=y1 e;obtain⟨e3,e⟩:=y1 e;obtain⟨e4,e⟩:=y1 e;obtain⟨e5,e⟩:=y1 e;obtain⟨e6,e⟩:=y1 e;exact⟨(b9 e0),(b9 e1),(b9 e2),(b9 e3),(b9 e4),(b9 e5),(b9 e6)⟩
theorem oK2 {K:zzA}(e:P0 K=Vi) :(NF K "of_pictures" iP)/\(NF K "bit_of" pJ)/\(NF K "least_field" iQ)/\(NF K "walk_right" jn)/\(NF K "walk_left" j9)/\(NF K "columns_that_end" eL)/\(NF K "least_columns" gB):=by unfold P0 Vi at e;obtain⟨e0,e⟩:=y1 e;obtain⟨e1,e⟩:=y1 e;obtain⟨e2,e⟩:=y1 e;obtain⟨e3,e⟩:=y1 e;obtain⟨e4,e⟩:=y1 e;obtain⟨e5,e⟩:=y1 e;obtain⟨e6,e⟩:=y1 e;exact⟨(b9 e0),(b9 e1),(b9 e2),(b9 e3),(b9 e4),(b9 e5),(b9 e6)⟩
theorem oK3 {K:zzA}(e:P4 K=Vj) :(NF K "row_at" pK)/\(NF K "lets" vU)/\(NF K "_law_cell" j_)/\(NF K "_law_mix" lM)/\(NF K "_law_picture" g8)/\(NF K "_law_tiles" jo)/\(NF K "_law_refusal" g9):=by unfold P4 Vj at e;obtain⟨e0,e⟩:=y1 e;obtain⟨e1,e⟩:=y1 e;obtain⟨e2,e⟩:=y1 e;obtain⟨e3,e⟩:=y1 e;obtain⟨e4,e⟩:=y1 e;obtain⟨e5,e⟩:=y1 e;obtain⟨e6,e⟩:=y1 e;exact⟨(b9 e0),(b9 e1),(b9 e2),(b9 e3),(b9 e4),(b9 e5),(b9 e6)⟩
theorem oK4 {K:zzA}(e:P5 K=Vk) :(NF K "law" oM)/\(CV K "LETTERS" (.str "abcd"))/\(CV K "MOST_ROWS" (.int 4))/\(CV K "MOST_COLUMNS" (.int 12))/\(CV K "BORDER" (.int (-1)))/\(CV K "MOST_MARKS" (.int 16))/\(CV K "TILE_FIELDS" (.int 4)):=by unfold P5 Vk at e;obtain⟨e0,e⟩:=y1 e;obtain⟨e1,e⟩:=y1 e;obtain⟨e2,e⟩:=y1 e;obtain⟨e3,e⟩:=y1 e;obtain⟨e4,e⟩:=y1 e;obtain⟨e5,e⟩:=y1 e;obtain⟨e6,e⟩:=y1 e;exact⟨(b9 e0),e1,e2,e3,e4,e5,e6⟩
theorem oK5 {K:zzA}(e:P6 K=Vl) :(CN K "QuiltError")/\(CN K "BadPicture")/\(CN K "BadSystem")/\(CN K "BadSize")/\(CN K "Unlike")/\(CN K "BadText")/\(CN K "FieldSets"):=by unfold P6 Vl at e;obtain⟨e0,e⟩:=y1 e;obtain⟨e1,e⟩:=y1 e;obtain⟨e2,e⟩:=y1 e;obtain⟨e3,e⟩:=y1 e;obtain⟨e4,e⟩:=y1 e;obtain⟨e5,e⟩:=y1 e;obtain⟨e6,e⟩:=y1 e;exact⟨(oU e0),(oU e1),(oU e2),(oU e3),(oU e4),(oU e5),(oU e6)⟩
theorem oK6 {K:zzA}(e:P7 K=Vm) :(CN K "Walk")/\(Ms K (aq K "FieldSets"))/\(PySem.W.findIn K (.ref (aq K "FieldSets")) "branches"=some none)/\(PySem.W.findIn K (.ref (aq K "FieldSets")) "known"=some none)/\(PySem.W.findIn K (.ref (aq K "FieldSets")) "either_known"=some none)/\(PySem.W.findIn K (.ref (aq K "FieldSets")) "both_known"=some none)/\(PySem.W.findIn K (.ref (aq K "FieldSets")) "first_known"=some none):=by unfold P7 Vm at e;obtain⟨e0,e⟩:=y1 e;obtain⟨e1,e⟩:=y1 e;obtain⟨e2,e⟩:=y1 e;obtain⟨e3,e⟩:=y1 e;obtain⟨e4,e⟩:=y1 e;obtain⟨e5,e⟩:=y1 e;obtain⟨e6,e⟩:=y1 e;exact⟨(oU e0),e1,e2,e3,e4,e5,e6⟩
theorem oK7 {K:zzA}(e:P8 K=Vn) :(MF K (aq K "FieldSets") "__init__" "FieldSets.__init__" dg)/\(MF K (aq K "FieldSets") "number_for" "FieldSets.number_for" cI)/\(MF K (aq K "FieldSets") "of_one" "FieldSets.of_one" dZ)/\(MF K (aq K "FieldSets") "of_all" "FieldSets.of_all" gi)/\(MF K (aq K "FieldSets") "tuples_in" "FieldSets.tuples_in" ef)/\(MF K (aq K "FieldSets") "in_either" "FieldSets.in_either" cV)/\(MF K (aq K "FieldSets") "in_both" "FieldSets.in_both" dI):=by unfold P8 Vn at e;obtain⟨e0,e⟩:=y1 e;obtain⟨e1,e⟩:=y1 e;obtain⟨e2,e⟩:=y1 e;obtain⟨e3,e⟩:=y1 e;obtain⟨e4,e⟩:=y1 e;obtain⟨e5,e⟩:=y1 e;obtain⟨e6,e⟩:=y1 e;exact⟨(fN e0),(fN e1),(fN e2),(fN e3),(fN e4),(fN e5),(fN e6)⟩
theorem oK8 {K:zzA}(e:P9 K=Vo) :(MF K (aq K "FieldSets") "with_first" "FieldSets.with_first" cJ)/\(MF K (aq K "FieldSets") "least" "FieldSets.least" eN)/\(Ms K (aq K "Walk"))/\(PySem.W.findIn K (.ref (aq K "Walk")) "sets"=some none)/\(PySem.W.findIn K (.ref (aq K "Walk")) "letters"=some none)/\(PySem.W.findIn K (.ref (aq K "Walk")) "high"=some none)/\(PySem.W.findIn K (.ref (aq K "Walk")) "lower_left"=some none):=by unfold P9 Vo at e;obtain⟨e0,e⟩:=y1 e;obtain⟨e1,e⟩:=y1 e;obtain⟨e2,e⟩:=y1 e;obtain⟨e3,e⟩:=y1 e;obtain⟨e4,e⟩:=y1 e;obtain⟨e5,e⟩:=y1 e;obtain⟨e6,e⟩:=y1 e;exact⟨(fN e0),(fN e1),e2,e3,e4,e5,e6⟩
theorem oK9 {K:zzA}(e:P_ K=Vp) :(PySem.W.findIn K (.ref (aq K "Walk")) "closing"=some none)/\(PySem.W.findIn K (.ref (aq K "Walk")) "choices_known"=some none)/\(PySem.W.findIn K (.ref (aq K "Walk")) "placed_known"=some none)/\(PySem.W.findIn K (.ref (aq K "Walk")) "closed_known"=some none)/\(MF K (aq K "Walk") "__init__" "Walk.__init__" fY)/\(MF K (aq K "Walk") "take_tile" "Walk.take_tile" fq)/\(MF K (aq K "Walk") "beginning" "Walk.beginning" fu):=by unfold P_ Vp at e;obtain⟨e0,e⟩:=y1 e;obtain⟨e1,e⟩:=y1 e;obtain⟨e2,e⟩:=y1 e;obtain⟨e3,e⟩:=y1 e;obtain⟨e4,e⟩:=y1 e;obtain⟨e5,e⟩:=y1 e;obtain⟨e6,e⟩:=y1 e;exact⟨e0,e1,e2,e3,(fN e4),(fN e5),(fN e6)⟩
theorem Yi {K:zzA}(e:J0 K=Oz) :(MF K (aq K "Walk") "choices" "Walk.choices" gC)/\(MF K (aq K "Walk") "placed" "Walk.placed" g_)/\(MF K (aq K "Walk") "placed_beneath" "Walk.placed_beneath" cX)/\(MF K (aq K "Walk") "placed_right" "Walk.placed_right" dJ)/\(MF K (aq K "Walk") "closed" "Walk.closed" h_)/\(MF K (aq K "Walk") "onward" "Walk.onward" ic)/\(MF K (aq K "Walk") "behind" "Walk.behind" ie):=by unfold J0 Oz at e;obtain⟨e0,e⟩:=y1 e;obtain⟨e1,e⟩:=y1 e;obtain⟨e2,e⟩:=y1 e;obtain⟨e3,e⟩:=y1 e;obtain⟨e4,e⟩:=y1 e;obtain⟨e5,e⟩:=y1 e;obtain⟨e6,e⟩:=y1 e;exact⟨(fN e0),(fN e1),(fN e2),(fN e3),(fN e4),(fN e5),(fN e6)⟩
theorem Yj {K:zzA}(e:J2 K=OA) :(Mt K (aq K "BadPicture"))/\(Mt K (aq K "BadSystem"))/\(PySem.W.kitOne K (.ref (aq K "BadPicture")) (.ref (aq K "BadPicture"))=some true)/\(PySem.W.kitOne K (.ref (aq K "BadPicture")) (.ref (aq K "BadSize"))=some false)/\(PySem.W.kitOne K (.ref (aq K "BadPicture")) (.ref (aq K "BadSystem"))=some false)/\(PySem.W.kitOne K (.ref (aq K "BadPicture")) (.ref (aq K "BadText"))=some false)/\(PySem.W.kitOne K (.ref (aq K "BadPicture")) (.ref (aq K "Unlike"))=some false):=by unfold J2 OA at e;obtain⟨e0,e⟩:=y1 e;obtain⟨e1,e⟩:=y1 e;obtain⟨e2,e⟩:=y1 e;obtain⟨e3,e⟩:=y1 e;obtain⟨e4,e⟩:=y1 e;obtain⟨e5,e⟩:=y1 e;obtain⟨e6,e⟩:=y1 e;exact⟨e0,e1,e2,e3,e4,e5,e6⟩
theorem Yk {K:zzA}(e:J3 K=OB) :(PySem.W.kitOne K (.ref (aq K "BadPicture")) (.type "ValueError")=some true)/\(PySem.W.exmOne K (.ref (aq K "BadPicture")) (.ref (aq K "QuiltError"))=some true)/\(PySem.W.nsIn K VV "len"=some none)/\(PySem.W.nsIn K VV "all"=some none)/\(PySem.W.nsIn K VV "any"=some none)/\(PySem.W.nsIn K VV "range"=some none)/\(PySem.W.nsIn K VV "zip"=some none):=by unfold J3 OB at e;obtain⟨e0,e⟩:=y1 e;obtain⟨e1,e⟩:=y1 e;obtain⟨e2,e⟩:=y1 e;obtain⟨e3,e⟩:=y1 e;obtain⟨e4,e⟩:=y1 e;obtain⟨e5,e⟩:=y1 e;obtain⟨e6,e⟩:=y1 e;exact⟨e0,e1,e2,e3,e4,e5,e6⟩
theorem Yl {K:zzA}(e:J6 K=OC) :(PySem.W.nsIn K VV "max"=some none)/\(PySem.W.nsIn K VV "min"=some none)/\(PySem.W.nsIn K VV "list"=some none)/\(PySem.W.nsIn K VV "tuple"=some none)/\(PySem.W.nsIn K VV "set"=some none)/\(PySem.W.nsIn K VV "sorted"=some none)/\(PySem.W.nsIn K VV "dict"=some none):=by unfold J6 OC at e;obtain⟨e0,e⟩:=y1 e;obtain⟨e1,e⟩:=y1 e;obtain⟨e2,e⟩:=y1 e;obtain⟨e3,e⟩:=y1 e;obtain⟨e4,e⟩:=y1 e;obtain⟨e5,e⟩:=y1 e;obtain⟨e6,e⟩:=y1 e;exact⟨e0,e1,e2,e3,e4,e5,e6⟩
theorem Ym {K:zzA}(e:J8 K=OD) :(PySem.W.nsIn K VV "sum"=some none)/\(PySem.W.nsIn K VV "enumerate"=some none)/\(PySem.W.nsIn K VV "reversed"=some none)/\(PySem.W.nsIn K VV "isinstance"=some none)/\(PySem.W.nsIn K VV "ValueError"=some none):=by unfold J8 OD at e;obtain⟨e0,e⟩:=y1 e;obtain⟨e1,e⟩:=y1 e;obtain⟨e2,e⟩:=y1 e;obtain⟨e3,e⟩:=y1 e;obtain⟨e4,e⟩:=y1 e;exact⟨e0,e1,e2,e3,e4⟩
theorem Vs {K:zzA}{h:Heap}{mg:Str->Option Value}{fa:M1}(e:fK K=vK)(X:K.In h)(G:h.Ns VV mg)(hfa:mg "law"=some (.ref fa)) : ∃t:Ad,Txt K mg t/\fa=t.z7/\∀(s:SI) (u:Value),zDL s t.um ⟨[u],[]⟩ [("_law_script",u)]:=by obtain⟨ea,eb⟩:=y1 e;unfold Qa Vq at ea;unfold Qc Vr at eb;obtain⟨c0,ea⟩:=y1 ea;obtain⟨c1,ea⟩:=y1 ea;obtain⟨c2,ea⟩:=y1 ea;obtain⟨c3,ea⟩:=y1 ea;obtain⟨c4,ea⟩:=y1 ea;obtain⟨c5,ea⟩:=y1 ea;obtain⟨c6,ea⟩:=y1 ea;obtain⟨c7,ea⟩:=y1 ea;obtain⟨c8,eb⟩:=y1 eb;obtain⟨c9,eb⟩:=y1 eb;obtain⟨c10,eb⟩:=y1 eb;obtain⟨c11,eb⟩:=y1 eb;obtain⟨c12,eb⟩:=y1 eb;obtain⟨c13,eb⟩:=y1 eb;obtain⟨c14,eb⟩:=y1 eb;obtain⟨e0,e1,e2,e3,e4,e5,e6⟩:=oK0 c0;obtain⟨e7,e8,e9,IF,SK,e12,e13⟩:=oK1 c1;obtain⟨e14,e15,e16,e17,e18,e19,e20⟩:=oK2 c2;obtain⟨e21,e22,e23,e24,e25,e26,e27⟩:=oK3 c3;obtain⟨e28,e29,e30,e31,e32,e33,e34⟩:=oK4 c4;obtain⟨e35,e36,e37,e38,e39,e40,e41⟩:=oK5 c5;obtain⟨e42,e43,e44,e45,e46,e47,e48⟩:=oK6 c6;obtain⟨e49,e50,e51,e52,e53,e54,e55⟩:=oK7 c7;obtain⟨e56,e57,Uj,e59,e60,e61,e62⟩:=oK8 c8;obtain⟨e63,e64,e65,e66,e67,e68,e69⟩:=oK9 c9;obtain⟨e70,e71,e72,e73,e74,e75,e76⟩:=Yi c10;obtain⟨e77,e78,e79,e80,e81,e82,e83⟩:=Yj c11;obtain⟨e84,e85,e86,e87,e88,e89,e90⟩:=Yk c12;obtain⟨e91,e92,e93,e94,e95,e96,e97⟩:=Yl c13;obtain⟨e98,e99,Yn,Yo,Yp⟩:=Ym c14;exact Vf X G hfa e0 e1 e2 e3 e4 e5 e6 e7 e8 e9 IF SK e12 e13 e14 e15 e16 e17 e18 e19 e20 e21 e22 e23 e24 e25 e26 e27 e28 e29 e30 e31 e32 e33 e34 e35 e36 e37 e38 e39 e40 e41 e42 e43 e44 e45 e46 e47 e48 e49 e50 e51 e52 e53 e54 e55 e56 e57 Uj e59 e60 e61 e62 e63 e64 e65 e66 e67 e68 e69 e70 e71 e72 e73 e74 e75 e76 e77 e78 e79 e80 e81 e82 e83 e84 e85 e86 e87 e88 e89 e90 e91 e92 e93 e94 e95 e96 e97 e98 e99 Yn Yo Yp
theorem Vt {P:zAA}{w:zAD}{K:zzA}{mg:Str->Option Value}{fa:M1}(h:∃t:Ad,Txt K mg t/\fa=t.z7/\∀(s:SI) (u:Value),zDL s t.um ⟨[u],[]⟩ [("_law_script",u)]) : ∃fd:zAE,(∀(s:SI) (u:Value),zDL s fd ⟨[u],[]⟩ [("_law_script",u)])/\∀base:Heap,K.In base->base.Ns VV mg->aL P w K mg base bI 36 fa fd ["_law_script"] (wV K):=by obtain⟨t,T,rfl,hb⟩:=h;exact⟨_,hb,λbase _ _=>U6 T⟩
theorem walk {l:PySem.W.OpenLaw}{q:zAA}{loose:List Str}{XP:(Str->Option Value)->Heap->Prop}{YP:zAD->Heap->Prop}{d:DefRec}{K:Params->zzA}(hn:l.most=some 63)(hdf:d.params.defaults=[])(hY:∀(w:zAD) (h:Heap),YP w h->(K w.params).In h)(F:∀(w:zAD) (mg:Str->Option Value) (fa:M1) (h:Heap),(K w.params).In h->h.Ns VV mg->mg d.name=some (.ref fa)-> ∃fd:zAE,(∀(s:SI) (u:Value),zDL s fd ⟨[u],[]⟩ [("_law_script",u)])/\∀base:Heap,(K w.params).In base->base.Ns VV mg->aL l.prog w (K w.params) mg base bI 36 fa fd ["_law_script"] (wV (K w.params))) : PySem.W.WalkO q loose XP YP l.row.toRowW d [] (λf vs=>PySem.call f vs):= L2.QB (n:=63) (k:=36) (x:="_law_script") (CX:=λ_=>bI) (sp:=λw=>wV (K w.params)) hn (by decide) hdf ⟨rfl,by decide,by decide⟩ hY F (λ_ _ a ns hl _ hS=>⟨a,ns,rfl,hS,hl,λ_=>rfl⟩) λ_ _ _ _ _ z=>z
end eK
open PySem PySem.W PyProof.Rows
namespace eK
noncomputable def Yq:DefRec:=⟨"law",L2.gp oM,L2.eU oM,L2.aE oM,L2.Ve oM⟩
noncomputable abbrev P:zAA:=PySem.Challenge.pw_quiltyard_k11_whole_of_pictures
noncomputable abbrev S (w:zAD):=PySem.W.Fast.tw10156331382660048174 (PySem.W.Fast.tw11892475500146522536 PySem.W.Fast.tw14364793385576792824) P w
theorem same (w:zAD):S w=stepT (denote zDC) P w:=by unfold S;rw[<-PySem.W.Fast.te10156331382660048174,<-PySem.W.Fast.te11892475500146522536,<-PySem.W.Fast.te14364793385576792824]
noncomputable def lo:List Str:=(["_wall","__name__","QuiltError","BadPicture","BadSystem","BadSize","Unlike","BadText","LETTERS","MOST_ROWS","MOST_COLUMNS","are_letters","is_picture","look_picture","column_at","columns_of","BORDER","MOST_MARKS","TILE_FIELDS","are_fields","rises","is_system","look_system","bordered","tiles_of","mirrored_tiles","letter_marks","of_pictures","bit_of","least_field","FieldSets","Walk","walk_right","walk_left","columns_that_end","least_columns","row_at","lets","_law_cell","_law_mix","_law_picture","_law_tiles","_law_refusal"]:List String).map Str.ofString
theorem Vu:∀w,(L2.qX (S w) P w 40000).map (λs=>Qa (L2.fragOf s.heap))=some Vq:=λw=>by kernel_rfl
theorem Vv:∀w,(L2.qX (S w) P w 40000).map (λs=>Qc (L2.fragOf s.heap))=some Vr:=λw=>by kernel_rfl
theorem facts:∀w,(L2.qX (S w) P w 40000).map (λs=>fK (L2.fragOf s.heap))=some vK:=λw=>L2.Ow (Vu w) (Vv w)
theorem VS:∀w,(L2.qX (S w) P w 40000).map (λs=>PySem.W.Fast.tw4187177175401517315 (view P [48]) lo (zBU P.main.body) (λs=>xlAt (view P [48]) [] s&&recOk (OpenLaw.row PySem.Challenge.rw_quiltyard_k11_whole_of_pictures).toRowW.records s) true s)=some (openGood (view P [48]) lo):=λw=>by kernel_rfl
theorem left:∀w,(L2.qX (S w) P w 40000).map (λs=>openSeen (view P [48]) lo (zBU P.main.body) (λs=>xlAt (view P [48]) [] s&&recOk (OpenLaw.row PySem.Challenge.rw_quiltyard_k11_whole_of_pictures).toRowW.records s) true s)=some (openGood (view P [48]) lo):=by rw[PySem.W.Fast.te4187177175401517315];exact VS
theorem said:OpenLaw.wellSaid PySem.Challenge.rw_quiltyard_k11_whole_of_pictures=true:=by rw[PySem.W.Fast.te9446332074065402090];kernel_rfl
end eK
set_option maxRecDepth 100000 in
set_option maxHeartbeats 0 in
theorem PySem.Challenge.cw_quiltyard_k11_whole_of_pictures_holds : PySem.Challenge.rw_quiltyard_k11_whole_of_pictures.Holds := by
  w_on
  refine holds_law eK.said fun said => ?_
  refine L2.Mw (P := eK.P) (q := view eK.P [48]) (loose := eK.lo) (d := eK.Yq) (N := 40000) (f := eK.fK) (v := eK.vK) (S := eK.S) said rfl eK.same eK.left eK.facts
    (by kernel_rfl) (by kernel_rfl) (by kernel_rfl) (by kernel_rfl) (by kernel_rfl) ⟨rfl, rfl, rfl, rfl, rfl, by decide +kernel⟩ ?hw ?hc
  case hw => w_witness2
  case hc =>
    intro K e
    exact eK.walk (l := PySem.Challenge.rw_quiltyard_k11_whole_of_pictures) (K := fun _ => K) rfl (by kernel_rfl) (fun w h Y => Y) fun w mg fa h KX G hmg => eK.Vt (eK.Vs e KX G hmg)
